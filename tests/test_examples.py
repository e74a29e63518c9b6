"""The examples of the document, as they stand there, in their order."""

import unittest
from pathlib import Path

from screwsums import (check_cut, check_ladders, check_leads, check_moved, check_rests, check_returning, check_undone,
                       checks, cut, determinants, errors, faults, firstsums, frames, heights, ladders, leads, levels,
                       lots, motions, moved, named, papers, rests, returning, screws, shaped, signwords, squares, sums,
                       tables, undone, undonerests, wholes)

MODULES = (errors, checks, papers, faults, frames, motions, named, squares, wholes, returning, check_returning, sums,
           tables, determinants, undone, check_undone, cut, check_cut, heights, levels, ladders, check_ladders,
           signwords, lots, moved, firstsums, check_moved, leads, check_leads, screws, shaped, rests, undonerests,
           check_rests)
EXAMPLES = Path(__file__).with_name("examples.txt")


def examples():
    """Pairs of what is called and what comes, None where nothing is told."""
    told = []
    for line in EXAMPLES.read_text(encoding="utf-8").splitlines():
        if line.startswith(">>> "):
            told.append([line[4:], None])
        elif line and not line.startswith("## "):
            told[-1][1] = line
    return told


class ExamplesTest(unittest.TestCase):
    def test_examples(self):
        names = {}
        for module in MODULES:
            names.update({name: worth for name, worth in vars(module).items() if not name.startswith("_")})
        told = examples()
        self.assertEqual(len(told), 170)
        for call, expected in told:
            with self.subTest(call=call):
                self.check(call, expected, names)

    def check(self, call, expected, names):
        if expected is None:
            exec(call, names)
        elif expected.startswith("raises "):
            error = eval(expected[len("raises "):], names)
            with self.assertRaises(type(error)) as caught:
                eval(call, names)
            self.assertIs(type(caught.exception), type(error))
            self.assertEqual(vars(caught.exception), vars(error))
        else:
            self.assertEqual(repr(eval(call, names)), expected)


if __name__ == "__main__":
    unittest.main()
