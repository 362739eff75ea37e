import unittest

from leastmarks.errors import NoProgram, NoText
from leastmarks.programs import Program
from leastmarks.texts import read, show
from tests.grammar import tokens_of
from tests.helpers import KINDS, ODD, Angry, text_fault

BODY = [
    ("let", "x", "box"), ("new", ("x", "in", "a")), ("new", ("x", "in")), ("let", "y", "item"), ("new", ("y",)),
    ("let", "w", "pair"), ("move", ("w",), ("x", "in")), ("move", ("x", "in", "a"), ("y",)),
    ("call", ("lib", "pick"), [("w",), ("x", "in", "a")], ("x", "in")), ("call", ("lib", "shut"), [], None),
    ("call", ("lib", "get"), [], ("y",)), ("call", ("lib", "eat"), [("y",)], None),
    ("ask", "f", [], None), ("ask", "g", [("y",)], None), ("ask", "h", [("w", "a"), ("w", "b")], ("x", "sh")),
    ("ask", "i", [], ("y",)), ("drop", ("x", "in")),
    ("match", ("x", "sh"), [(None, []), ("u", [("drop", ("u",))]), ("v", [("loop", [("next",)])])]),
    ("if", [("fail",)], []), ("block", [("block", [])]), ("loop", [("if", [("break",)], [("next",)])]),
    ("try", [("return", None)], [("try", [], [("new", ("y",))])]), ("return", None),
]

LIB = [
    ("pick", [("l", "pair"), ("r", "item")], "pair", [("return", ("l",))]),
    ("eat", [("l", "item")], None, []),
    ("get", [], "item", [("let", "z", "pair"), ("return", ("z", "a"))]),
    ("shut", [], None, [("fail",)]),
]

SHOWN = """\
kind pair record { a item, b item }
kind shade choice { red, blue item, both pair }
kind box record { in pair, sh shade }
module first {
  function main() {
    let x box
    new x.in.a
    new x.in
    let y item
    new y
    let w pair
    move w x.in
    move x.in.a y
    call lib.pick(w, x.in.a) x.in
    call lib.shut()
    call lib.get() y
    call lib.eat(y)
    ask f()
    ask g(y)
    ask h(w.a, w.b) x.sh
    ask i() y
    drop x.in
    match x.sh {
      red {
      }
      blue u {
        drop u
      }
      both v {
        loop {
          next
        }
      }
    }
    if {
      fail
    } else {
    }
    block {
      block {
      }
    }
    loop {
      if {
        break
      } else {
        next
      }
    }
    try {
      return
    } else {
      try {
      } else {
        new y
      }
    }
    return
  }
}
module empty {
}
module lib {
  function pick(l pair, r item) pair {
    return l
  }
  function eat(l item) {
  }
  function get() item {
    let z pair
    return z.a
  }
  function shut() {
    fail
  }
}
"""

PROGRAM = Program(KINDS, [("first", [("main", [], None, BODY)]), ("empty", []), ("lib", LIB)])
SMALL = [("first", [
    ("main", [], None, [("let", "x", "item"), ("new", ("x",)), ("call", ("first", "f"), [("x",)], None)]),
    ("f", [("p", "item")], None, [("if", [("ask", "g", [("p",)], None)], [])])])]


def with_blanks(tokens, blank):
    """The text with one and the same blank between all tokens."""
    return blank.join(tokens)


def tight(tokens):
    """The text without blanks beside signs."""
    text = ""
    for token in tokens:
        if text and text[-1].isalpha() and token.isalpha():
            text += " "
        text += token
    return text


class ExampleTest(unittest.TestCase):
    def test_show(self):
        text = ('module first {\n  function main() {\n    let x item\n    new x\n    call first.f(x)\n  }\n'
                '  function f(p item) {\n    if {\n      ask g(p)\n    } else {\n    }\n  }\n}\n')
        self.assertEqual(show(Program([], SMALL)), text)
        self.assertEqual(read(text), Program([], SMALL))

    def test_read(self):
        program = read("kind shade choice { red, blue item } module first { function main() { } }")
        self.assertEqual(program.kinds, (("shade", "choice", (("red", None), ("blue", "item"))),))
        self.assertEqual(program.modules, (("first", (("main", (), None, ()),)),))

    def test_no_text(self):
        with self.assertRaises(NoText) as caught:
            read("module first { function main() { drop } }")
        self.assertEqual(caught.exception.at, 9)


class ShowTest(unittest.TestCase):
    def test_all_forms(self):
        self.assertEqual(show(PROGRAM), SHOWN)

    def test_small(self):
        self.assertEqual(show(Program([], [("m", [("main", [], None, [])])])),
                         "module m {\n  function main() {\n  }\n}\n")

    def test_kinds(self):
        kinds = [("a", "choice", [("x", None)]), ("b", "record", [("y", "a")]),
                 ("c", "choice", [("x", "b"), ("y", None), ("z", "item"), ("w", "c")])]
        text = show(Program(kinds, [("m", [("main", [], None, [])])]))
        self.assertEqual(text.splitlines()[:4], [
            "kind a choice { x }", "kind b record { y a }", "kind c choice { x b, y, z item, w c }", "module m {"])

    def test_heads(self):
        functions = [
            ("f", [("x", "pair"), ("y", "item")], "item", [("fail",)]), ("g", [("x", "pair")], None, []),
            ("h", [], "box", [("loop", [])]), ("i", [(letter, "item") for letter in "abcd"], None, [])]
        text = show(Program(KINDS, [("m", [("main", [], None, []), *functions])]))
        heads = [line for line in text.splitlines() if "function" in line]
        self.assertEqual(heads, [
            "  function main() {", "  function f(x pair, y item) item {", "  function g(x pair) {",
            "  function h() box {", "  function i(a item, b item, c item, d item) {"])

    def test_six_bodies(self):
        body = []
        for _ in range(5):
            body = [("block", body)]
        text = show(Program([], [("m", [("main", [], None, body)])]))
        self.assertEqual([len(line) - len(line.lstrip()) for line in text.splitlines()],
                         [0, 2, 4, 6, 8, 10, 12, 12, 10, 8, 6, 4, 2, 0])

    def test_cases_of_an_inner_match(self):
        kinds = [("one", "choice", [("p", "two"), ("q", None)]), ("two", "choice", [("case", "one"), ("r", "item")])]
        inner = ("match", ("v",), [("w", [("match", ("w",), [("t", []), (None, [])])]), ("z", [])])
        body = [("let", "u", "one"), ("match", ("u",), [("v", [inner]), (None, [])])]
        program = Program(kinds, [("m", [("main", [], None, body)])])
        shown = [line.strip() for line in show(program).splitlines()[4:-2]]
        self.assertEqual(" ".join(shown), "let u one match u { p v { match v { case w { match w { p t { } q { } } } "
                                          "r z { } } } q { } }")
        self.assertEqual(read(show(program)), program)


class ReadTest(unittest.TestCase):
    def test_back(self):
        for program in [PROGRAM, Program([], SMALL), Program([], [("m", [("main", [], None, [])])])]:
            again = read(show(program))
            self.assertEqual(again, program)
            self.assertEqual(again.kinds, program.kinds)
            self.assertEqual(again.modules, program.modules)
            self.assertEqual(show(again), show(program))

    def test_blanks(self):
        tokens = tokens_of(SHOWN)
        for text in [with_blanks(tokens, " "), with_blanks(tokens, "\n"), with_blanks(tokens, "  \n\n "),
                     tight(tokens), "\n  " + SHOWN, SHOWN + "  \n", SHOWN.rstrip(), SHOWN.replace("  ", "\n")]:
            self.assertEqual(read(text), PROGRAM)

    def test_no_blank_beside_a_sign(self):
        self.assertEqual(read("module m{function main(){let x item new x drop x}}").modules, (
            ("m", (("main", (), None, (("let", "x", "item"), ("new", ("x",)), ("drop", ("x",)))),)),))
        self.assertEqual(read("kind k record{a item,b item}module m{function main(){let x k drop x . a}}"), Program(
            [("k", "record", [("a", "item"), ("b", "item")])],
            [("m", [("main", [], None, [("let", "x", "k"), ("drop", ("x", "a"))])])]))

    def test_returns(self):
        text = ("module m { function f(x item) item { if { return x } else { fail } loop { } } "
                "function main() { return } }")
        body = (("if", (("return", ("x",)),), (("fail",),)), ("loop", ()))
        self.assertEqual(read(text).modules[0][1][0][3], body)
        self.assertEqual(read(text).modules[0][1][1][3], (("return", None),))


class FaultsOfTextsTest(unittest.TestCase):
    """Texts of right form that are no programs."""

    def head(self, body):
        return "kind sh choice { red, blue item } module m { function main() { let x sh " + body + " } }"

    def test_no_modules(self):
        for text in ["", " ", "\n\n", "kind k record { a item }"]:
            self.assertEqual(text_fault(text), (None, -1, "modules"))

    def test_kinds(self):
        self.assertEqual(text_fault("kind k record { a none }"), (None, 0, "kinds"))
        self.assertEqual(text_fault("kind k record { a item } kind k choice { a }"), (None, 1, "kinds"))
        self.assertEqual(text_fault("kind k record { a item, a item } module m { }"), (None, 0, "kinds"))
        self.assertEqual(text_fault("kind k choice { a, b, c, d, e }"), (None, 0, "kinds"))
        nine = "".join(["kind k" + letter + " choice { a } " for letter in "abcdefghi"])
        self.assertEqual(text_fault(nine), (None, -1, "kinds"))

    def test_modules(self):
        self.assertEqual(text_fault("module m { }"), (None, -1, "main"))
        self.assertEqual(text_fault("module m { } module m { }"), (None, 1, "modules"))
        self.assertEqual(text_fault("".join(["module m" + letter + " { }" for letter in "abcdefg"])),
                         (None, -1, "modules"))
        self.assertEqual(text_fault("module m { function main() none { } }"), (None, 0, "modules"))
        self.assertEqual(text_fault("module m { function main() { } function main() { } }"), (None, 0, "modules"))
        many = ", ".join([letter + " item" for letter in "abcde"])
        self.assertEqual(text_fault("module m { function main(" + many + ") { } }"), (None, 0, "modules"))
        self.assertEqual(text_fault("module m { function main(a item) { } }"), (None, -1, "main"))

    def test_statements(self):
        where = ("m", "main")
        for body, at, why in [
                ("let x item", 1, "name"), ("let y none", 1, "kind"), ("drop y", 1, "place"),
                ("drop x.red", 1, "place"),
                ("call m.f()", 1, "name"), ("call m.main(x)", 1, "place"), ("call m.main() x", 1, "place"),
                ("break", 1, "last"), ("fail fail", 1, "last"), ("return x", 1, "place"),
                ("ask f(x, x)", 1, "place"), ("ask f() x.y", 1, "place"), ("move x x", 1, "place"),
                ("loop { if { } else { break drop x } }", 3, "last"), ("new x " * 40, 40, "row")]:
            self.assertEqual(text_fault(self.head(body)), (where, at, why), body)
        self.assertEqual(text_fault("module m { function main() { } function f() item { } }"), (("m", "f"), 0, "end"))

    def test_deep(self):
        for depth in (6, 7, 50, 100, 1000):
            text = "module m { function main() { " + "block { " * (depth - 1) + "fail" + " }" * (depth - 1) + " } }"
            self.assertEqual(text_fault(text), None if depth == 6 else (("m", "main"), 6, "deep"))
            self.assertEqual(text_fault(text[:-1]), len(tokens_of(text)) - 1)

    def test_cases(self):
        where = ("m", "main")
        self.assertIsNone(text_fault(self.head("match x { red { } blue y { } }")))
        for arms in ["blue { } red y { }", "red { } red y { }", "red { } green y { }", "a { } b y { }", "red { }",
                     "red { } blue { }", "red z { } blue y { }", "red { } blue y { } red { }", "blue y { } red { }"]:
            self.assertEqual(text_fault(self.head("new x match x { " + arms + " }")), (where, 2, "arms"), arms)

    def test_cases_behind_name_and_place(self):
        where = ("m", "main")
        self.assertEqual(text_fault(self.head("match x { green { } blue x { } }")), (where, 1, "name"))
        self.assertEqual(text_fault(self.head("match y { green { } blue z { } }")), (where, 1, "place"))
        self.assertEqual(text_fault(self.head("match x { green { break } blue z { } }")), (where, 1, "arms"))
        self.assertEqual(text_fault(self.head("drop y match x { green { } blue z { } }")), (where, 1, "place"))
        self.assertEqual(text_fault(self.head("match x { green { } blue z { } } drop y")), (where, 1, "arms"))

    def test_cases_of_each_match(self):
        right = "match x { red { } blue y { match x { red { } blue z { } } } }"
        where = ("m", "main")
        self.assertIsNone(text_fault(self.head("loop { " + right + " }")))
        parts = right.split("red")
        self.assertEqual(text_fault(self.head("red".join(parts[:2]) + "pink" + parts[2])), (where, 2, "arms"))
        self.assertEqual(text_fault(self.head(parts[0] + "pink" + "red".join(parts[1:]))), (where, 1, "arms"))
        text = ("kind sh choice { red, blue item } module m { function f(x sh) { match x { red { } blue y { } } } "
                "function main() { } } module n { function f(x sh) { match x { red { } blue y { } } } }")
        self.assertIsNone(text_fault(text))
        self.assertEqual(text_fault("pink {".join(text.rsplit("red {", 1))), (("n", "f"), 0, "arms"))
        self.assertEqual(text_fault(text.replace("x { red", "x { pink")), (("m", "f"), 0, "arms"))

    def test_nothing_is_too_long_for_the_form(self):
        places = ", ".join(["x"] * 9000)
        parts = ", ".join(["a item"] * 9000)
        for text in [self.head("ask f(" + places + ")"), self.head("call m.main(" + places + ")"),
                     self.head("drop " + ".".join(["x"] * 9000)), "kind k record { " + parts + " }",
                     "kind k choice { " + parts + " }", "module m { function main(" + parts + ") { } }",
                     self.head("match x { " + "red { } " * 9000 + "}"),
                     self.head("new x " * 9000), "module m { " + "function f() { } " * 4000 + "}",
                     "module m { } " * 9000, "kind k choice { a } " * 4000,
                     self.head("if { new x } else { " * 9 + "} " * 9)]:
            with self.assertRaises(NoProgram):
                read(text)

    def test_many_arms_with_variables(self):
        letters = "abcdefghjk"
        names = [a + b + c + d for a in letters for b in letters for c in letters for d in letters][:8000]
        arms = " ".join([name + " " + name + " { }" for name in names])
        self.assertEqual(text_fault(self.head("match x { " + arms + " }")), (("m", "main"), 1, "arms"))


class NoStringTest(unittest.TestCase):
    def test_no_string(self):
        for text in [*[value for value in ODD if not isinstance(value, str)], ["module"], ("module", "m"),
                     b"module m { }", PROGRAM, Angry()]:
            self.assertEqual(text_fault(text), -1)
