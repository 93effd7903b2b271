"""The promises over the whole program: what one call answers fits what the others do."""

import random
import unittest

from tablerules.rules import code, find, judge, right, sizes, text
from tests.made import Made
from tests.samples import DECLARED, data
from tests.test_changed_texts import RULES, changed
from tests.test_code_size import rules_of_size
from tests.test_judge import long_rules
from tests.worlds import BARE, DEMO, FULL, SMALL

SORTS = ("var", "mine", "timer", "signal", "mode")


def told_by_text(rules):
    """What a right text says of its sorts: their names in order, and how many handlers there are."""
    names = {sort: [] for sort in SORTS}
    handlers = 0
    for line in bytes(rules).decode("ascii").splitlines():
        words = line.split(" ")
        if words[0] in names:
            names[words[0]].append(words[1])
        handlers += words[0] == "on"
    return names, handlers


class Whole(unittest.TestCase):
    def check(self, world, rules, finds=False):
        """Ask all calls for one text of rules, and whether it's right."""
        judged = judge(world.table, world.book, rules)
        answer = code(world.table, world.book, rules)
        self.assertEqual(answer[0], judged[0])
        if judged[0] != 0:
            self.assertIn(judged[0], (-6, -9))
            self.assertEqual(len(judged), 3 if judged[0] == -6 else 1)
            self.assertEqual(answer, judged[:1])
            return False
        made = answer[1:]
        self.assertEqual(right(world.table, world.book, made), [0])
        self.assertEqual(text(world.table, world.book, made), [0] + rules)
        names, handlers = told_by_text(rules)
        counts = [len(names[sort]) for sort in SORTS]
        self.assertEqual(sizes(world.table, world.book, made), [0] + counts + [handlers])
        if finds:
            self.check_finds(world, made, names)
        return True

    def check_finds(self, world, made, names):
        for number, sort in enumerate(SORTS):
            for place, name in enumerate(names[sort]):
                self.assertEqual(find(number, world.table, world.book, made, data(name)), [0, place])
            for other in SORTS:
                for name in names[other]:
                    if name not in names[sort]:
                        self.assertEqual(find(number, world.table, world.book, made, data(name)), [-4])

    def test_made_up_at_random(self):
        for world in (BARE, SMALL, DEMO, FULL):
            for seed in range(100, 110):
                made = Made(world, seed, {sort: 4 for sort in SORTS}, handlers=seed % 9)
                self.assertTrue(self.check(world, made.text, finds=True))
            for seed in range(100, 130):
                self.assertTrue(self.check(world, Made(world, seed, handlers=seed % 9).text))

    def test_changed_texts(self):
        found = {True: 0, False: 0}
        for rules in changed(RULES):
            found[self.check(DEMO, data(rules))] += 1
        self.assertGreater(found[True], 100)
        self.assertGreater(found[False], 1000)

    def test_texts_with_words_changed(self):
        chance = random.Random(5)
        found = {True: 0, False: 0}
        for seed in range(60):
            made = Made(DEMO, seed, {sort: 3 for sort in SORTS}, handlers=4)
            lines = [line.split(" ") for line in made.lines]
            words = [word for line in lines for word in line]
            for k in range(40):
                line = chance.randrange(len(lines))
                place = chance.randrange(len(lines[line]))
                others = [list(row) for row in lines]
                others[line][place] = chance.choice(words)
                found[self.check(DEMO, data("\n".join(" ".join(row) for row in others) + "\n"))] += 1
        self.assertGreater(found[True], 100)
        self.assertGreater(found[False], 100)

    def test_texts_with_lines_changed(self):
        chance = random.Random(6)
        found = {True: 0, False: 0}
        for seed in range(40):
            lines = Made(SMALL, seed, {sort: 2 for sort in SORTS}, handlers=3).lines
            for k in range(30):
                others = list(lines)
                others.insert(chance.randrange(len(lines) + 1), chance.choice(lines))
                if chance.random() < 0.5:
                    others.pop(chance.randrange(len(others)))
                found[self.check(SMALL, data("\n".join(others) + "\n"))] += 1
        self.assertGreater(found[True], 100)
        self.assertGreater(found[False], 100)

    def test_another_table_and_book(self):
        for seed in range(20):
            for made_for in (SMALL, DEMO, FULL):
                rules = Made(made_for, seed, {sort: 2 for sort in SORTS}, handlers=2, actions=2).text
                for world in (BARE, SMALL, DEMO, FULL):
                    self.assertTrue(self.check(world, rules) or world is not made_for)

    def test_lengths(self):
        self.assertTrue(self.check(DEMO, data(long_rules(65536))))
        self.assertTrue(self.check(DEMO, data(rules_of_size(65536))))
        self.assertFalse(self.check(DEMO, data(rules_of_size(65537))))
        self.assertFalse(self.check(DEMO, []))
        self.assertTrue(self.check(DEMO, data(DECLARED), finds=True))


class Refusals(unittest.TestCase):
    """-2 and -8 come first in every call."""

    def answers(self, table, book, third):
        return [call(table, book, third) for call in (judge, code, right, text, sizes)] + [
            find(sort, table, book, third, name) for sort in (0, 4, 5) for name in ([], data("v"))]

    def test_too_long_comes_first(self):
        for table in (DEMO.table, [], [0] * 16385):
            for book in (DEMO.book, [], [0], [0] * 65537):
                for third in ([], [0] * 65537):
                    answers = self.answers(table, book, third)
                    if len(table) > 16384 or len(book) > 65536 or len(third) > 65536:
                        self.assertEqual(answers, [[-2]] * len(answers))
                    elif not table or book == [0]:
                        self.assertEqual(answers, [[-8]] * len(answers))
                    else:
                        self.assertEqual(answers, [[-6, 1, 0], [-6]] + [[-5]] * (len(answers) - 2))


if __name__ == "__main__":
    unittest.main()
