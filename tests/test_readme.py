"""What README.md shows is what the program answers."""

import pathlib
import re
import unittest

README = pathlib.Path(__file__).resolve().parent.parent / "README.md"


class Shown(unittest.TestCase):
    def test_every_call_that_is_shown_gives_what_stands_behind_it(self):
        shown = re.search(r"```python\n(.*?)```", README.read_text(), re.DOTALL).group(1)
        opening, calls = shown.split("\n\nanswers(", 1)
        names = {}
        exec(opening, names)
        lines = ("answers(" + calls).strip().split("\n")
        for line in lines:
            call, told = line.split(" # ")
            told = re.sub(r": [^\"\]\)]*$", "", told)
            self.assertEqual(eval(call, names), eval(told), line)
        self.assertEqual(len(lines), 10)


if __name__ == "__main__":
    unittest.main()
