"""The rules of a pinball table: their text, its faults and their code."""
