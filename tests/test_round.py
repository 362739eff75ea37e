"""3.8: what is shown is read again, for programs that grow by chance (always the same chance)."""

import random
import unittest

from leastmarks.errors import NoProgram
from leastmarks.programs import Program
from leastmarks.texts import read, show
from tests.grammar import first_bad, tokens_of
from tests.growing import all_bodies
from tests.helpers import KINDS, modules_of

PARAMETERS = [("x", "pair"), ("s", "shade"), ("b", "box")]
PLACES = [("x",), ("x", "a"), ("x", "b"), ("s",), ("b",), ("b", "in"), ("b", "in", "a"), ("b", "sh"), ("y",), ("z",),
          ("z", "b"), ("u",), ("v",), ("v", "a")]
WORDS = ["let", "new", "move", "call", "ask", "drop", "match", "if", "block", "loop", "try", "break", "next", "return",
         "fail"]


def some_statement(chance):
    word = chance.choice(WORDS)
    if word == "let":
        return (word, chance.choice("yzuvw"), chance.choice(["item", "pair", "shade", "box"]))
    if word == "call":
        name, size = chance.choice([("pick", 2), ("eat", 1), ("get", 0), ("shut", 0), ("turn", 2)])
        return (word, ("lib", name), chance.sample(PLACES, size), chance.choice([None, *PLACES]))
    if word == "ask":
        return (word, chance.choice("fgh"), chance.sample(PLACES, chance.randrange(4)), chance.choice([None, *PLACES]))
    if word == "match":
        return (word, chance.choice(PLACES), [(None, []), (chance.choice("uvw"), []), (chance.choice("uvw"), [])])
    if word in ("if", "try"):
        return (word, [], [])
    if word in ("block", "loop"):
        return (word, [])
    if word in ("break", "next", "fail"):
        return (word,)
    if word == "return":
        return (word, None)
    return (word, *[chance.choice(PLACES) for _ in range(2 if word == "move" else 1)])


def grown(seed):
    """A program whose function t has statements put in at places where they fit."""
    chance = random.Random(seed)
    body = []
    program = Program(KINDS, modules_of(body, PARAMETERS))
    for _ in range(400):
        here = chance.choice(list(all_bodies(body)))
        at = chance.randrange(len(here) + 1)
        here.insert(at, some_statement(chance))
        try:
            program = Program(KINDS, modules_of(body, PARAMETERS))
        except NoProgram:
            del here[at]
    return program


class RoundTest(unittest.TestCase):
    def test_read_what_is_shown(self):
        words = set()
        for seed in range(40):
            program = grown(seed)
            text = show(program)
            again = read(text)
            self.assertEqual(again, program)
            self.assertEqual((again.kinds, again.modules), (program.kinds, program.modules))
            self.assertEqual(show(again), text)
            self.assertEqual(read(" \n".join(tokens_of(text))), program)
            self.assertIsNone(first_bad(tokens_of(text)))
            words |= {line.split()[0] for line in text.splitlines()}
            self.assertEqual(again.leaves(("first", "t")), program.leaves(("first", "t")))
        self.assertLessEqual(set(WORDS), words)

    def test_a_program_keeps_what_is_put_together(self):
        for seed in range(40):
            program = grown(seed)
            self.assertEqual(Program(program.kinds, program.modules), program)
            self.assertEqual(grown(seed), program)
