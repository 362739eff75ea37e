"""Section 13: rows for writes, held against all contents of the marks and against a search for fewer rows."""

import itertools
import random
import unittest

from leastmarks.errors import NoSpare, NoWrites
from leastmarks.sequences import sequence
from tests.helpers import Angry

BIG = 10 ** 30 - 1
NO_MARKS = [-1, -BIG, True, False, None, "", "0", "on", b"on", 0.0, 1.5, (), (0,), [], [0], {}, set(), object(), int,
            Angry()]
NO_WRITES = [
    None, True, 0, "", "on", "0n", b"on", 2.5, (), (0,), (0, 1, 2), (0, "on", None), [0, "on"], [0, 1], {0: 1}, {0, 1},
    range(2), object(), Angry(), *[(bad, what) for bad in NO_MARKS for what in ("on", "off", 3)],
    *[(0, bad) for bad in NO_MARKS if not isinstance(bad, str) or bad != "on"], (0, "ON"), (0, "copy"), (0, "of"),
    (0, "off "), ("on", 0), ("copy", 0, 1)]


def at_once(writes, contents):
    """The contents of the marks behind all writes."""
    after = dict(contents)
    for mark, what in writes:
        after[mark] = {"on": True, "off": False}[what] if isinstance(what, str) else contents[what]
    return after


def one_by_one(rows, contents):
    """The contents of the marks behind rows."""
    after = dict(contents)
    for row in rows:
        if row[0] == "copy":
            _, mark, other = row
            after[mark] = after[other]
        else:
            word, mark = row
            after[mark] = {"on": True, "off": False}[word]
    return after


def marks_in(writes):
    return sorted({part for write in writes for part in write if not isinstance(part, str)})


def pure_cycles(writes):
    """How many cycles of two or more copies there are of which no mark is copied to a mark outside."""
    source = {mark: what for mark, what in writes if not isinstance(what, str) and mark != what}
    found = set()
    for begin in source:
        way = [begin]
        while way[-1] in source and source[way[-1]] not in way:
            way.append(source[way[-1]])
        if source.get(way[-1]) == begin:
            found.add(frozenset(way))
    return sum(all(mark in cycle for mark, what in source.items() if what in cycle) for cycle in found)


def wanted_size(writes):
    return sum(mark != what for mark, what in writes) + pure_cycles(writes)


class SequencesTest(unittest.TestCase):
    def check(self, writes, spare=None, others=(), tried=None):
        """Holds the rows of writes against all contents of their marks, others and the spare one; returns the rows."""
        if spare is None:
            spare = max(marks_in(writes), default=-1) + 1
        rows = sequence(writes, spare)
        self.assertIs(type(rows), list)
        for row in rows:
            self.assertIs(type(row), tuple)
            self.assertIn((row[0], len(row)), [("on", 2), ("off", 2), ("copy", 3)])
            self.assertTrue(all(type(mark) is int for mark in row[1:]), row)
        self.assertEqual(len(rows), wanted_size(writes))
        marks = [*marks_in(writes), *others, spare]
        worlds = itertools.product([False, True], repeat=len(marks)) if tried is None else tried(len(marks))
        for world in worlds:
            contents = dict(zip(marks, world))
            after = one_by_one(rows, contents)
            self.assertEqual(sorted(after), sorted(marks))
            after[spare] = contents[spare]
            self.assertEqual(after, at_once(writes, contents), (writes, rows))
        return rows


class ExampleTest(unittest.TestCase):
    def test_examples(self):
        self.assertEqual(sequence([(0, 1), (1, 0), (2, 0)], 5), [('copy', 2, 0), ('copy', 0, 1), ('copy', 1, 2)])
        self.assertEqual(len(sequence([(0, 1), (1, 0)], 5)), 3)


class EffectTest(SequencesTest):
    def every_order(self, writes, size, spare=None, others=()):
        """All orders of writes, and all turns of their marks."""
        for row in itertools.permutations(writes):
            self.assertEqual(len(self.check(list(row), spare, others)), size)
            self.assertEqual(len(self.check(row, spare, others)), size)
        marks = marks_in(writes)
        for turned in itertools.permutations(marks):
            names = {**dict(zip(marks, turned)), "on": "on", "off": "off"}
            row = [(names[mark], names[what]) for mark, what in writes]
            self.assertEqual(len(self.check(row, spare, others)), size)

    def test_nothing(self):
        self.assertEqual(sequence([], 0), [])
        self.assertEqual(sequence((), BIG), [])

    def test_constants(self):
        self.assertEqual(sequence([(3, "on")], 0), [("on", 3)])
        self.assertEqual(sequence(((3, "off"),), 0), [("off", 3)])
        self.every_order([(0, "on"), (1, "off"), (2, "on")], 3)

    def test_one_copy(self):
        self.assertEqual(sequence([(3, 1)], 0), [("copy", 3, 1)])

    def test_a_chain(self):
        self.every_order([(1, 0), (2, 1), (3, 2)], 3)
        self.assertEqual(self.check([(1, 0), (2, 1)]), [("copy", 2, 1), ("copy", 1, 0)])

    def test_a_tree(self):
        self.every_order([(1, 0), (2, 0), (3, 0)], 3)
        self.every_order([(1, 0), (2, 0), (3, 1), (4, 1)], 4)

    def test_a_cycle(self):
        self.every_order([(0, 1), (1, 0)], 3, None, (8, 9))
        self.every_order([(0, 1), (1, 2), (2, 0)], 4)
        self.every_order([(0, 1), (1, 2), (2, 3), (3, 0)], 5)

    def test_several_cycles(self):
        self.every_order([(0, 1), (1, 0), (2, 3), (3, 2)], 6)
        self.check([(0, 1), (1, 2), (2, 0), (3, 4), (4, 3), (5, 6), (6, 7), (7, 5)])

    def test_a_cycle_that_is_copied_out_of(self):
        self.every_order([(0, 1), (1, 0), (2, 0)], 3)
        self.every_order([(0, 1), (1, 0), (2, 0), (3, 1)], 4)
        self.every_order([(0, 1), (1, 0), (2, 0), (3, 2)], 4)
        self.every_order([(0, 1), (1, 2), (2, 0), (3, 1)], 4)
        self.check([(0, 1), (1, 0), (2, 0), (3, 4), (4, 3)])

    def test_a_mark_that_is_copied_to_itself(self):
        self.assertEqual(sequence([(0, 0)], 1), [])
        self.assertEqual(sequence([(0, 0), (4, 4), (2, 2)], 1), [])
        self.assertEqual(sequence([(0, 0), (1, 0)], 5), [("copy", 1, 0)])
        self.assertEqual(sequence([(1, 0), (0, 0)], 5), [("copy", 1, 0)])
        self.every_order([(0, 0), (1, 0), (2, 1)], 2)
        self.every_order([(0, 0), (1, 2), (2, 1)], 3)
        self.every_order([(0, 0), (1, 2), (2, 1), (3, 0)], 4)

    def test_constants_on_marks_that_others_copy(self):
        self.every_order([(0, "on"), (1, 0)], 2)
        self.every_order([(0, "off"), (1, 0), (2, 1), (3, 0)], 4)
        self.every_order([(0, 1), (1, 0), (2, "on"), (3, 2)], 5)

    def test_other_marks_keep_their_values(self):
        self.every_order([(1, 4), (4, 1)], 3, 2, (0, 3, 5))
        self.every_order([(1, 4), (3, "on")], 2, 0, (2, 5))

    def test_any_spare_mark(self):
        writes = [(2, 5), (5, 2), (3, "off")]
        for spare in (0, 1, 4, 6, 1000, BIG):
            rows = self.check(writes, spare)
            self.assertEqual(sum(row[:2] == ("copy", spare) for row in rows), 1)

    def test_large_marks(self):
        one, two, three = BIG, BIG - 1, 10 ** 29
        self.check([(one, two), (two, one)], three, (0,))
        self.check([(one, two), (two, three), (three, one)], 0)
        self.check([(one, "on"), (two, one), (three, three)], BIG - 2)

    def test_many_writes(self):
        chance = random.Random(7)
        for _ in range(300):
            marks = chance.sample(range(60), chance.randrange(1, 14))
            writes = [(mark, chance.choice(["on", "off", mark, *marks, *marks, 70, 71]))
                      for mark in chance.sample(marks, chance.randrange(len(marks) + 1))]
            self.check(writes, 90, (80,), lambda many: [[chance.random() < .5 for _ in range(many)] for _ in range(40)])

    def test_very_many_writes(self):
        turn = [(mark, (mark + 1) % 99) for mark in range(99)]
        self.assertEqual(len(sequence(turn, 99)), 100)
        self.assertEqual(len(sequence(turn[:-1], 99)), 98)
        self.assertEqual(len(sequence([*turn, (100, 50)], 99)), 100)
        pairs = [(mark, mark ^ 1) for mark in range(98)]
        self.assertEqual(len(sequence(pairs, 99)), 98 + 49)
        chance = random.Random(1)
        for writes in (turn, turn[::-1], pairs):
            self.check(writes, 99, (), lambda many: [[chance.random() < .5 for _ in range(many)] for _ in range(20)])

    def test_the_same_rows_again_and_a_new_list(self):
        writes = [(0, 1), (1, 0), (2, 2), (3, "on")]
        first = sequence(writes, 9)
        kept = list(first)
        first.clear()
        self.assertEqual(sequence(tuple(writes), 9), kept)
        self.assertEqual(writes, [(0, 1), (1, 0), (2, 2), (3, "on")])


class FewestTest(SequencesTest):
    def distances(self, size):
        """How many rows each contents of so many marks and a spare one takes; a sign stands for what a mark was."""
        start = tuple(range(size + 1))
        found = {start: 0}
        todo = [start]
        for here in todo:
            for mark in range(size + 1):
                for what in ("on", "off", *here):
                    there = here[:mark] + (what,) + here[mark + 1:]
                    if there not in found:
                        found[there] = found[here] + 1
                        todo.append(there)
        best = {}
        for contents, many in found.items():
            best[contents[:size]] = min(many, best.get(contents[:size], many))
        return best

    def test_a_search_finds_no_fewer(self):
        for size in (0, 1, 2, 3, 4):
            best = self.distances(size)
            for told in itertools.product([None, "on", "off", *range(size)], repeat=size):
                writes = [(mark, what) for mark, what in enumerate(told) if what is not None]
                wanted = tuple(mark if what is None else what for mark, what in enumerate(told))
                self.assertEqual(len(self.check(writes, size)), best[wanted], writes)

    def test_in_every_order(self):
        best = self.distances(3)
        for told in itertools.product([None, "on", "off", 0, 1, 2], repeat=3):
            wanted = tuple(mark if what is None else what for mark, what in enumerate(told))
            for order in itertools.permutations(range(3)):
                writes = tuple((mark, told[mark]) for mark in order if told[mark] is not None)
                self.assertEqual(len(self.check(writes, 3)), best[wanted], writes)


class NoWritesTest(unittest.TestCase):
    def bad(self, writes, spare=99):
        with self.assertRaises(NoWrites) as caught:
            sequence(writes, spare)
        return caught.exception.at

    def test_no_row(self):
        for writes in [None, True, False, 0, -1, "", "on", b"", {}, {0: "on"}, set(), frozenset(), range(0), iter([]),
                       object(), list, 2.5, Angry()]:
            self.assertEqual(self.bad(writes), -1)

    def test_no_write(self):
        for bad in NO_WRITES:
            self.assertEqual(self.bad([bad]), 0)
            self.assertEqual(self.bad((bad,)), 0)
            self.assertEqual(self.bad([(5, "on"), (6, 5), bad, (5, "on")]), 2)
            self.assertEqual(self.bad([(5, "on"), bad, bad, None]), 1)

    def test_a_mark_that_occurred_before(self):
        for second in [(5, "on"), (5, "off"), (5, 5), (5, 6)]:
            for first in [(5, "on"), (5, 5), (5, 7)]:
                self.assertEqual(self.bad([first, second]), 1)
                self.assertEqual(self.bad([first, (6, 5), second, second, None]), 2)
        # As a copied mark it may occur before.
        self.assertEqual(sequence([(6, 5), (5, "on")], 0), [("copy", 6, 5), ("on", 5)])

    def test_ahead_of_the_spare_mark(self):
        for spare in [*NO_MARKS, 5, 6]:
            self.assertEqual(self.bad(None, spare), -1)
            self.assertEqual(self.bad([(5, 6), None], spare), 1)
            self.assertEqual(self.bad([(5, 6), (5, 6)], spare), 1)


class NoSpareTest(unittest.TestCase):
    def bad(self, writes, spare):
        with self.assertRaises(NoSpare) as caught:
            sequence(writes, spare)
        return caught.exception.spare

    def test_no_mark(self):
        for spare in NO_MARKS:
            self.assertIs(self.bad([], spare), spare)
            self.assertIs(self.bad([(5, 6), (6, 5)], spare), spare)

    def test_a_mark_that_occurs(self):
        for writes in ([(5, "on")], [(5, 5)], [(5, 6)], [(6, 5)], [(1, "off"), (2, "on"), (5, "on")],
                       [(1, 2), (2, 1), (3, 5)], ((5, 1), (1, 1))):
            self.assertEqual(self.bad(writes, 5), 5)
        self.assertEqual(self.bad([(BIG, "on")], BIG), BIG)
        self.assertEqual(self.bad([(0, 0)], 0), 0)

    def test_a_mark_that_does_not_occur(self):
        for spare in (0, 1, 4, 7, BIG):
            self.assertEqual(sequence([(5, 6)], spare), [("copy", 5, 6)])
