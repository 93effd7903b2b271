"""What README.md shows is so."""

import pathlib
import re
import unittest

README = pathlib.Path(__file__).resolve().parent.parent / "README.md"


class Readme(unittest.TestCase):
    def test_the_example(self):
        source = re.search(r"```python\n(.*?)```", README.read_text(), re.DOTALL).group(1)
        known = {}
        head, calls = source.split('"""\n\ntable, book')
        exec(head + '"""\n', known)
        shown = 0
        for line in ("table, book" + calls).splitlines():
            call, *answer = line.split("  #")
            name, given, value = call.rpartition(" = ")
            exec(call, known)
            if answer:
                said = repr(eval(value if name.isidentifier() else call, known))
                self.assertTrue(said.startswith(answer[0].strip().replace("...]", "")), line)
                shown += 1
        self.assertEqual(shown, 6)


if __name__ == "__main__":
    unittest.main()
