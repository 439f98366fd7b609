"""The examples of the document, word for word, and those of README.md."""

import doctest
import os
import unittest

from tests.plain import Case

DAYS = """
>>> from ladderdays.days import both, but, counts, every, first_apart, gaps, has, meeting, moved, next_day, nth_days, others, set_of
>>> three, two = every(3, 0), every(2, 0)
>>> [three, has(three, 9), every(3, 7), both(three, two), but(two, three), others(three), moved(three, -1), first_apart(three, two), meeting(every(3, 1), every(2, 0)), next_day(three, 4)]
[([], 0, 3, [0]), True, ([], 5, 3, [2]), ([], 0, 6, [0]), ([], 0, 6, [2, 4]), ([], 0, 3, [1, 2]), ([], 0, 3, [2]), 2, 4, 6]
>>> [set_of([5, 2, 5]), counts(three), nth_days(three), gaps(three), nth_days(every(3, 1))]
[([2, 5], 6, 1, []), ([], [0, 1, 1], 1), ([], [0], 3), (3, 3), ([], [1], 3)]
"""

LADDERS = """
>>> from ladderdays.ladders import after, apart, earlier, first_from, first_less, joined, later, plus, power, settles, speed, still, until, value
>>> on, twice, to = ([], [2], 1), ([], [0], 2), ([], [0, 3, 3], 3)
>>> [value(to, 4), joined(on, to), first_from(to), until(to), earlier(on, twice), later(on, twice), plus(on, twice)]
[6, ([], [3, 3, 6], 3), ([0], [1, 1, 1], 3), ([], [1, 1, 1], 3), ([0, 2], [4], 1), ([2, 3], [4], 2), ([], [2], 3)]
>>> [first_less(on, twice), apart(to, on), apart(twice, on), speed(to), power(on, 3), after(on, 1, 10 ** 30), still(to), settles(on, 5), settles(twice, 0), settles(twice, 1)]
[3, (-2, 0), (-2, None), (1, 1), ([], [6], 1), 2000000000000000000000000000001, ([], 0, 3, [0]), (0, 1, 2), (0, 1, 0), None]
"""


README = os.path.join(os.path.dirname(os.path.dirname(os.path.abspath(__file__))), "README.md")


class Examples(Case):
    def run_all(self, text, name, many):
        test = doctest.DocTestParser().get_doctest(text, {}, name, name, 0)
        self.assertEqual(len(test.examples), many)
        said = []
        result = doctest.DocTestRunner(verbose=False).run(test, out=said.append)
        self.assertEqual(result.failed, 0, "".join(said))

    def test_days(self):
        self.run_all(DAYS, "days.py", 4)

    def test_ladders(self):
        self.run_all(LADDERS, "ladders.py", 4)

    def test_readme(self):
        with open(README, encoding="utf-8") as file:
            blocks = [block for block in file.read().split("```")[1::2] if ">>>" in block]
        self.run_all("".join(blocks), "README.md", 6)


if __name__ == "__main__":
    unittest.main()
