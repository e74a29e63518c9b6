import unittest

from screwsums.faults import Fault
from screwsums.papers import Denial, Paper, fixed


class Always:
    """Says that it is equal to everything."""

    def __eq__(self, other):
        return True


class PaperTest(unittest.TestCase):
    def test_attributes(self):
        for made in (Paper, Denial):
            self.assertEqual((made("told").word, made("told").parts), ("told", ()))
            paper = made("told", 1, None, "x", True)
            self.assertEqual((paper.word, paper.parts), ("told", (1, None, "x", True)))
            self.assertIs(paper.parts[3], True)
            self.assertEqual(made(word="told").word, "told")
            self.assertEqual(made("told", *[[1], [2]]).parts, ((1,), (2,)))

    def test_truth(self):
        for parts in ((), (0,), ([],), (1, 2)):
            self.assertIs(bool(Paper("a", *parts)), True)
            self.assertIs(bool(Denial("a", *parts)), False)

    def test_classes(self):
        self.assertTrue(issubclass(Denial, Paper))
        self.assertNotIsInstance(Paper("a"), Denial)
        self.assertIsInstance(Fault("gap", (1,)), Denial)

    def test_lists_are_fixed_all_the_way_in(self):
        self.assertEqual(repr(Paper("a", [1, ([2, [3, []]],)], ()).parts), "((1, ((2, (3, ())),)), ())")

    def test_a_list_changed_later_changes_no_paper(self):
        inner = [1]
        outer = [inner, 2]
        for paper in (Paper("a", outer), Denial("a", outer), Fault("a", outer)):
            before = repr(paper.parts)
            inner.append(5)
            outer.append(6)
            self.assertEqual(repr(paper.parts), before)
        self.assertEqual(outer[1:], [2, 6, 6, 6])

    def test_equal(self):
        self.assertTrue(Paper("a", [1, [2]], 3) == Paper("a", (1, (2,)), 3))
        self.assertFalse(Paper("a", [1, [2]], 3) != Paper("a", (1, (2,)), 3))
        self.assertTrue(Denial("a", 1) == Denial("a", 1))
        self.assertTrue(Paper("a", True) == Paper("a", 1))
        self.assertTrue(Paper("a", Paper("b", [1])) == Paper("a", Paper("b", (1,))))

    def test_unequal(self):
        for one, other in ((Paper("a", 1), Paper("b", 1)), (Paper("a", 1), Paper("a", 2)),
                           (Paper("a", 1), Paper("a", 1, 1)), (Paper("a", 1, 2), Paper("a", 2, 1)),
                           (Paper("a"), Paper("a", ())), (Paper("a", 1), Denial("a", 1)),
                           (Denial("fault", "gap", (1,)), Fault("gap", (1,))), (Paper("a", "(1,)"), Paper("a", (1,))),
                           (Denial("a"), Denial("b")), (Denial("a", 1), Denial("a", 2))):
            self.assertIs(one == other, False)
            self.assertIs(other == one, False)
            self.assertIs(one != other, True)

    def test_unequal_to_values_of_other_classes(self):
        for paper in (Paper("a", 1), Denial("a", 1), Fault("a", 1)):
            for value in (None, True, False, "a", ("a", 1), ["a", (1,)], 1, {"word": "a"}, object(), Always(), Paper):
                self.assertIs(paper == value, False)
                self.assertIs(paper != value, True)


class FaultPaperTest(unittest.TestCase):
    def test_by_place_and_by_name(self):
        for fault in (Fault("gaps", [1, [1]]), Fault("gaps", at=(1, (1,))), Fault(at=[1, (1,)], why="gaps")):
            self.assertEqual((fault.word, fault.parts), ("fault", ("gaps", (1, (1,)))))
            self.assertEqual((fault.why, fault.at), ("gaps", (1, (1,))))
            self.assertEqual(fault, Fault("gaps", (1, (1,))))
            self.assertIs(bool(fault), False)

    def test_any_values(self):
        mark = object()
        fault = Fault([mark], None)
        self.assertEqual((fault.why, fault.at, fault.parts), ((mark,), None, ((mark,), None)))


class FixedTest(unittest.TestCase):
    def test_lists_and_tuples(self):
        for value, told in (([], "()"), ((), "()"), ([[], [()]], "((), ((),))"), ([1, [True, (None, ["a"])]],
                            "(1, (True, (None, ('a',))))"), ((1, [2]), "(1, (2,))")):
            self.assertEqual(repr(fixed(value)), told)
        self.assertEqual(fixed(value=[1]), (1,))

    def test_other_values_stay(self):
        for value in (None, True, 0, 10 ** 50, "[1]", "", b"[1]", {"a": [1]}, {1, 2}, object(), Paper("a", [1]), 1.5):
            self.assertIs(fixed(value), value)
            self.assertIs(fixed([value])[0], value)
        self.assertEqual(fixed([{"a": [1]}]), ({"a": [1]},))

    def test_thirty_lists_deep(self):
        value = told = 7
        for _ in range(30):
            value, told = [value], (told,)
        self.assertEqual(fixed(value), told)

    def test_what_is_passed_stays(self):
        value = [1, [2, (3, [4])]]
        fixed(value)
        self.assertEqual(repr(value), "[1, [2, (3, [4])]]")


if __name__ == "__main__":
    unittest.main()
