"""That the calls answer as README.md shows."""

import pathlib
import re
import unittest

README = pathlib.Path(__file__).resolve().parent.parent / "README.md"


class Readme(unittest.TestCase):
    def test_shown_answers(self):
        use = README.read_text("utf-8").split("## Use\n")[1].split("\n- ")[0]
        rows = re.findall("^    (.*)$", use, re.MULTILINE)
        names = {}
        exec("\n".join(row for row in rows if "#" not in row), names)
        shown = [row.split("    # ") for row in rows if "#" in row]
        self.assertGreater(len(shown), 1)
        for call, answer in shown:
            self.assertEqual(str(eval(call, names)), answer, call)


if __name__ == "__main__":
    unittest.main()
