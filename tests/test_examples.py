"""The examples of the document that stand on the modules there are, and those of README.md."""

from pathlib import Path
import re
import unittest

from lostland.errors import InvalidReading
from lostland.exact import ONE, ZERO, fraction, fraction_text, plus, read_fraction
from lostland.sheets import Sheet
from tests.support import Case


class TestExamples(Case):
    def test_fractions(self):
        found = [fraction(6, -4), plus((1, 2), (1, 3)), fraction_text((-3, 2)), read_fraction("2/4")]
        self.same(found, [(-3, 2), (5, 6), "-3/2", None])

    def test_a_sheet_with_a_mark_that_stands_ahead(self):
        self.fails(InvalidReading, {"at": 1},
                   Sheet, "s", "turned", [("a", (ZERO, ONE)), ("a", (ZERO, ZERO))])

    def test_readme(self):
        text = (Path(__file__).resolve().parent.parent / "README.md").read_text()
        blocks = re.findall(r"```python\n(.*?)```", text, re.DOTALL)
        self.assertTrue(blocks)
        for block in blocks:
            names = {}
            for line in block.splitlines():
                code, _, told = line.partition("  #")
                if told:
                    value = repr(eval(code, names))
                    self.assertTrue(told.strip().startswith(value), (line, value))
                else:
                    exec(code, names)


if __name__ == "__main__":
    unittest.main()
