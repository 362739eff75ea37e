import unittest

from leastmarks.programs import Program
from tests.helpers import Angry, ODD, fault

MODULES = [("first", [("main", [], None, [])])]
ITEM = [("x", "item")]


def kinds_fault(kinds):
    """The number of the first invalid element, or None if the kinds are accepted."""
    found = fault(kinds, MODULES)
    if found is None:
        return None
    where, at, why = found
    assert where is None and why == "kinds", found
    return at


class RowTest(unittest.TestCase):
    def test_no_row(self):
        for kinds in [*ODD, "abc", {"a": 1}, Angry()]:
            self.assertEqual(kinds_fault(kinds), -1)

    def test_eight_and_nine(self):
        nine = [("k" + letter, "record", ITEM) for letter in "abcdefghi"]
        self.assertIsNone(kinds_fault(nine[:8]))
        self.assertEqual(kinds_fault(nine), -1)
        self.assertEqual(kinds_fault([5] * 9), -1)
        self.assertEqual(kinds_fault([5] * 8), 0)
        self.assertIsNone(kinds_fault([]))
        self.assertIsNone(kinds_fault(()))

    def test_first_invalid(self):
        good = [("a", "record", ITEM), ("b", "choice", [("y", None)])]
        for bad in [*ODD, (), ("c",), ("c", "record"), ["c", "record", ITEM], ("c", "record", ITEM, ITEM),
                    ("c", "recorder", ITEM), ("c", "item", ITEM), ("c", None, ITEM), ("c", ["record"], ITEM), Angry(),
                    ("c", Angry(), ITEM), (Angry(), "record", ITEM), ("c", "record", Angry())]:
            self.assertEqual(kinds_fault([*good, bad]), 2)
            self.assertEqual(kinds_fault([bad, *good, bad]), 0)
            self.assertEqual(kinds_fault([good[0], bad, good[1], 4]), 1)

    def test_same_name(self):
        for first in ("record", "choice"):
            for second in ("record", "choice"):
                self.assertEqual(kinds_fault([("a", first, ITEM), ("b", first, ITEM), ("a", second, ITEM)]), 2)


class PartsTest(unittest.TestCase):
    def test_sizes(self):
        for sort in ("record", "choice"):
            five = [(letter, "item") for letter in "abcde"]
            self.assertEqual(kinds_fault([("k", sort, [])]), 0)
            self.assertEqual(kinds_fault([("k", sort, five)]), 0)
            for size in range(1, 5):
                self.assertIsNone(kinds_fault([("k", sort, five[:size])]))
                self.assertIsNone(kinds_fault([("k", sort, tuple(five[:size]))]))

    def test_twice(self):
        for sort in ("record", "choice"):
            self.assertEqual(kinds_fault([("k", sort, [("a", "item"), ("b", "item"), ("a", "item")])]), 0)
        self.assertEqual(kinds_fault([("k", "choice", [("a", None), ("a", "item")])]), 0)

    def test_no_tuple_of_two(self):
        for sort in ("record", "choice"):
            for part in [*ODD, (), ("a",), ("a", "item", "item"), ["a", "item"], "ab", Angry(), (Angry(), "item")]:
                self.assertEqual(kinds_fault([("k", sort, [part])]), 0)
                self.assertEqual(kinds_fault([("k", sort, [("b", "item"), part])]), 0)
            for parts in [*ODD, "ab", {"a": "item"}]:
                self.assertEqual(kinds_fault([("k", sort, parts)]), 0)


class KindsOfPartsTest(unittest.TestCase):
    CHOICE = ("ch", "choice", [("x", None)])
    RECORD = ("re", "record", ITEM)

    def test_record(self):
        def of(kind):
            return ("k", "record", [("a", kind)])

        self.assertIsNone(kinds_fault([of("item")]))
        self.assertIsNone(kinds_fault([self.RECORD, of("re")]))
        self.assertIsNone(kinds_fault([self.CHOICE, of("ch")]))
        self.assertIsNone(kinds_fault([of("ch"), self.CHOICE]))
        self.assertEqual(kinds_fault([of("re"), self.RECORD]), 0)
        self.assertEqual(kinds_fault([self.RECORD, of("k")]), 1)
        self.assertEqual(kinds_fault([self.RECORD, of("none"), 5]), 1)
        for kind in [*ODD, ["item"], ("item",), "record", Angry()]:
            self.assertEqual(kinds_fault([self.RECORD, of(kind), self.CHOICE]), 1)

    def test_choice(self):
        def of(kind):
            return ("k", "choice", [("a", kind)])

        for kind in [None, "item", "k"]:
            self.assertIsNone(kinds_fault([of(kind)]))
        for other, name in [(self.RECORD, "re"), (self.CHOICE, "ch")]:
            self.assertIsNone(kinds_fault([other, of(name)]))
            self.assertIsNone(kinds_fault([of(name), other]))
        self.assertEqual(kinds_fault([of("none")]), 0)
        for kind in [*ODD[1:], ["item"], ("item",), "choice", Angry()]:
            self.assertEqual(kinds_fault([self.CHOICE, of(kind)]), 1)

    def test_named_before_it_is_found_invalid(self):
        for parts in ([], 5, [("x", "none")], Angry(), [("x", None), ("x", None)]):
            for sort in ("record", "choice"):
                bad = ("bad", sort, parts)
                self.assertEqual(kinds_fault([("k", "choice", [("a", "bad")]), bad]), 1)
                self.assertEqual(kinds_fault([("k", "record", [("a", "bad")]), bad]), 1 if sort == "choice" else 0)
        for bad in [("bad", "choice"), ["bad", "choice", ITEM], ("bad", "other", ITEM), ("bad", "choice", ITEM, 1)]:
            self.assertEqual(kinds_fault([("k", "choice", [("a", "bad")]), bad]), 0)
            self.assertEqual(kinds_fault([("k", "record", [("a", "bad")]), bad]), 0)

    def test_named_by_a_later_twin(self):
        twin = ("re", "choice", [("x", None)])
        self.assertEqual(kinds_fault([("k", "record", [("a", "re")]), self.RECORD, twin]), 2)
        self.assertEqual(kinds_fault([self.RECORD, ("k", "record", [("a", "re")]), twin]), 2)


class LeavesTest(unittest.TestCase):
    FOUR = ("four", "record", [(letter, "item") for letter in "abcd"])

    def test_eight_and_nine(self):
        eight = ("eight", "record", [("x", "four"), ("y", "four")])
        nine = ("nine", "record", [("x", "four"), ("y", "four"), ("z", "item")])
        self.assertIsNone(kinds_fault([self.FOUR, eight]))
        self.assertEqual(kinds_fault([self.FOUR, nine]), 1)
        self.assertEqual(kinds_fault([self.FOUR, eight, ("more", "record", [("x", "eight"), ("y", "item")])]), 2)
        self.assertIsNone(kinds_fault([self.FOUR, eight, ("same", "record", [("x", "eight")])]))
        self.assertIsNone(kinds_fault([self.FOUR, eight, ("ch", "choice", [("x", "eight"), ("y", "eight")])]))

    def test_a_choice_counts_once(self):
        wide = ("wide", "choice", [("x", "four"), ("y", "four")])
        seven = ("seven", "record", [("x", "four"), ("y", "wide"), ("z", "wide"), ("u", "wide")])
        self.assertIsNone(kinds_fault([self.FOUR, seven, wide]))
        self.assertIsNone(kinds_fault([self.FOUR, seven, wide, ("eight", "record", [("x", "seven"), ("y", "wide")])]))
        more = ("nine", "record", [("x", "seven"), ("y", "wide"), ("z", "item")])
        self.assertEqual(kinds_fault([self.FOUR, seven, wide, more]), 3)

    def test_all_leaves(self):
        kinds = [self.FOUR, ("eight", "record", [("x", "four"), ("y", "four")])]
        program = Program(kinds, [("first", [("main", [], None, [("let", "v", "eight")])])])
        self.assertEqual(program.leaves(("first", "main")),
                         [("v", outer, inner) for outer in "xy" for inner in "abcd"])
