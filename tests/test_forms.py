"""NoText: which token is the first that cannot continue any text."""

import unittest

from tests.grammar import first_bad, tokens_of
from tests.helpers import WORDS, text_fault
from tests.test_texts import SHOWN

# A text with each form of the section in few tokens; its meaning does not count here.
BASE = tokens_of(
    "kind k record { a item, b k } kind c choice { a, b item, d } module m { function f() { } "
    "function g(x item, y k) item { let x item new x.a move x y.b call m.f(x, y.a) z call m.f() ask f() ask g(x) z.b "
    "drop x match x.c { a { fail } b y { } } if { break } else { next } try { } else { return x.y } "
    "loop { block { return } } return } } module n { }")

SIGNS = ["{", "}", "(", ")", ",", "."]
ODD_SIGNS = ["A", "1", "_", "-", ";", "\t", "\r", "#", "'", "!", "~", "[", "\\", "\x00", "/"]
VOCABULARY = [*WORDS, *SIGNS, "x", "abcdefgh", "abcdefghi", "case", "a" * 100, "A", "7", "\t"]


class FormTest(unittest.TestCase):
    def check(self, tokens):
        """The package and the grammar find the same."""
        text = " ".join(tokens)
        found = text_fault(text)
        # A tuple is the fault of a program, so the form of the text is right.
        self.assertEqual(None if isinstance(found, tuple) else found, first_bad(tokens), text)

    def test_base(self):
        self.assertIsNone(first_bad(BASE))
        self.assertIsInstance(text_fault(" ".join(BASE)), tuple)
        self.assertIsNone(first_bad(tokens_of(SHOWN)))
        self.assertEqual(first_bad(tokens_of("module first { function main() { drop } }")), 9)

    def test_cut_short(self):
        for size in range(len(BASE) + 1):
            self.check(BASE[:size])

    def test_left_out(self):
        for at in range(len(BASE)):
            self.check(BASE[:at] + BASE[at + 1:])

    def test_replaced_and_put_in(self):
        for at in range(len(BASE) + 1):
            for token in VOCABULARY:
                self.check(BASE[:at] + [token] + BASE[at:at + 12])
                self.check(BASE[:at] + [token] + BASE[at + 1:at + 12])

    def test_exchanged(self):
        for at in range(len(BASE)):
            for other in range(at + 1, min(at + 9, len(BASE))):
                tokens = list(BASE)
                tokens[at], tokens[other] = tokens[other], tokens[at]
                self.check(tokens[:other + 4])

    def test_behind(self):
        for token in VOCABULARY:
            self.check([*BASE, token])
            self.check([token])
            self.check([token, *BASE[:4]])


class ByHandTest(unittest.TestCase):
    """The same numbers, counted in the text."""

    def test_ends_too_early(self):
        for text, size in [("kind", 1), ("kind k", 2), ("module m {", 3), ("module m { function f(", 6),
                           ("kind k record { a item", 6), ("kind k choice { a", 5), ("module", 1),
                           ("module m { function f() { if { }", 11), ("module m { function f() { return", 9),
                           ("module m { function f() { match x { a { }", 14), ("module m { }}"[:-2], 3)]:
            self.assertEqual(text_fault(text), size, text)

    def test_kinds_have_parts_and_matches_have_arms(self):
        self.assertEqual(text_fault("kind k record { }"), 4)
        self.assertEqual(text_fault("kind k choice { }"), 4)
        self.assertEqual(text_fault("kind k record { a item, }"), 7)
        self.assertEqual(text_fault("module m { function f() { match x { } } }"), 11)
        self.assertEqual(text_fault("module m { function f(x item,) { } }"), 9)
        self.assertEqual(text_fault("module m { function f() { ask f(x,) } }"), 13)

    def test_names(self):
        head = "module m { function f() { "
        texts = [("kind @ record { a item }", 1), ("kind k record { @ item }", 4), ("kind k choice { @ }", 4),
                 ("module @ { }", 1), ("module m { function @() { } }", 4),
                 ("module m { function f(@ item) { } }", 6), (head + "let @ item } }", 9), (head + "new @ } }", 9),
                 (head + "new x.@ } }", 11), (head + "move x @ } }", 10), (head + "call @.f() } }", 9),
                 (head + "call m.@() } }", 11), (head + "call m.f(@) } }", 13), (head + "ask @() } }", 9),
                 (head + "ask f(@) } }", 11), (head + "ask f(x.@) } }", 13), (head + "drop @ } }", 9),
                 (head + "match @ { a { } } } }", 9), (head + "match x { @ { } } } }", 11),
                 (head + "match x { a { } @ { } } } }", 14)]
        for text, at in texts:
            self.assertIsInstance(text_fault(text.replace("@", "name")), (tuple, type(None)), text)
            for word in [*WORDS, "ninelette", "verylongwords", "A", "9", "_"]:
                self.assertEqual(text_fault(text.replace("@", word)), at, (text, word))

    def test_kinds(self):
        texts = [("kind k record { a @ }", 5), ("module m { function f(x @) { } }", 7),
                 ("module m { function f() { let x @ } }", 10)]
        for text, at in texts:
            for word in ["item", "name"]:
                self.assertIsInstance(text_fault(text.replace("@", word)), (tuple, type(None)))
            for word in [*WORDS[:-1], "ninelette", "A", "9"]:
                self.assertEqual(text_fault(text.replace("@", word)), at, (text, word))

    def test_item_where_a_target_stands(self):
        head = "module m { function f() { "
        for text, at in [("ask f() item } }", 12), ("return item } }", 9), ("call m.f() item } }", 14)]:
            self.assertEqual(text_fault(head + text), at)

    def test_other_signs(self):
        tokens = tokens_of("module m { function f() { drop x.y } }")
        for sign in ODD_SIGNS:
            for at in range(len(tokens) + 1):
                for blank in (" ", ""):
                    text = " ".join(tokens[:at]) + blank + sign + blank + " ".join(tokens[at:])
                    self.assertEqual(text_fault(text), at, text)

    def test_words_without_blanks(self):
        self.assertEqual(text_fault("modulem { }"), 0)
        self.assertEqual(text_fault("module m { functionf() { } }"), 3)
        self.assertEqual(text_fault("module m { function f() { newx } }"), 8)
        self.assertEqual(text_fault("module m { function f() { breaknext } }"), 8)

    def test_order_of_the_parts(self):
        self.assertEqual(text_fault("module m { } kind k choice { a }"), 4)
        self.assertEqual(text_fault("function f() { }"), 0)
        self.assertEqual(text_fault("module m { let x item }"), 3)
        self.assertEqual(text_fault("module m { } }"), 4)
        self.assertEqual(text_fault("module m { function f() { if { } } }"), 11)
        self.assertEqual(text_fault("module m { function f() { loop { } else { } } }"), 11)

    def test_a_wrong_form_comes_ahead_of_a_wrong_program(self):
        self.assertEqual(text_fault("kind k record { a none } module m { function f() { drop } }"), 16)
        self.assertEqual(text_fault("kind k record { a none } kind k record { a"), 12)
