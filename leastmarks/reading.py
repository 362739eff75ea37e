"""Reads the tokens of a text. What they say is looked at later; here only their form counts."""

from leastmarks.errors import NoText
from leastmarks.tokens import Reader, tokens_of


def read_parts(text):
    """The kinds and the modules of a text, and a dict of the cases that stand at its matches.

    The dict has, for the name of each function, a dict from the numbers of its matches to the lists of their cases.
    """
    reader = Reader(tokens_of(text))
    kinds = []
    while reader.token() == "kind":
        kinds.append(read_kind(reader))
    modules = []
    cases = {}
    while reader.token() == "module":
        modules.append(read_module(reader, cases))
    if reader.at < len(reader.tokens):
        raise NoText(reader.at)
    return kinds, modules, cases


def read_kind(reader):
    """A tuple (name, sort, parts)."""
    reader.take("kind")
    name = reader.take_name()
    sort = "record"
    if not reader.skip("record"):
        reader.take("choice")
        sort = "choice"
    reader.take("{")
    parts = [read_part(reader, sort)]
    while reader.skip(","):
        parts.append(read_part(reader, sort))
    reader.take("}")
    return (name, sort, parts)


def read_part(reader, sort):
    """A field with its kind, or a case with its kind or None."""
    name = reader.take_name()
    if sort == "choice" and reader.token() in (",", "}"):
        return (name, None)
    return (name, reader.take_kind())


def read_module(reader, cases):
    """A tuple (name, functions)."""
    reader.take("module")
    module = reader.take_name()
    reader.take("{")
    functions = []
    while not reader.skip("}"):
        reader.take("function")
        name = reader.take_name()
        parameters = read_parameters(reader)
        result = None
        if reader.token() != "{":
            result = reader.take_kind()
        reader.take("{")
        body = BodyReader(reader)
        functions.append((name, parameters, result, body.read_all()))
        cases[(module, name)] = body.cases
    return (module, functions)


def read_parameters(reader):
    """The list of the variables and kinds in parentheses."""
    reader.take("(")
    if reader.skip(")"):
        return []
    parameters = [read_part(reader, "record")]
    while reader.skip(","):
        parameters.append(read_part(reader, "record"))
    reader.take(")")
    return parameters


class Unfinished:
    """A function, or a statement with bodies, whose last brace has not been read."""

    def __init__(self, word, place, at):
        self.word = word
        self.place = place
        self.at = at
        self.cases = []
        self.variables = []
        self.bodies = []
        self.body = []

    def close_body(self):
        """Ends the body that is read at the time."""
        self.bodies.append(self.body)
        self.body = []

    def statement(self):
        """The statement, when all of its bodies have been read."""
        if self.word == "match":
            return ("match", self.place, list(zip(self.variables, self.bodies)))
        return (self.word, *self.bodies)


class BodyReader:
    """Reads the body of one function, behind its first brace.

    Bodies may be nested deeper than calls should be, so the statements that are not finished stand in a list.
    """

    def __init__(self, reader):
        self.reader = reader
        self.cases = {}
        self.passed = 0

    def read_all(self):
        """The list of the statements up to the last brace of the function, which is passed."""
        top = Unfinished("function", None, -1)
        around = [top]
        while len(around) > 0:
            last = around[-1]
            if not self.reader.skip("}"):
                self.read_statement(last.body, around)
                continue
            last.close_body()
            if self.goes_on(last):
                continue
            around.pop()
            if len(around) > 0:
                around[-1].body.append(last.statement())
        return top.bodies[0]

    def goes_on(self, last):
        """Whether another body of a statement begins behind the one just closed; its beginning is passed."""
        if last.word in ("if", "try") and len(last.bodies) == 1:
            self.reader.take("else")
            self.reader.take("{")
            return True
        if last.word != "match":
            return False
        if self.reader.skip("}"):
            self.cases[last.at] = last.cases
            return False
        self.read_arm(last)
        return True

    def read_arm(self, last):
        """Passes the case and the variable of an arm."""
        last.cases.append(self.reader.take_name())
        variable = None
        if self.reader.token() != "{":
            variable = self.reader.take_name()
        self.reader.take("{")
        last.variables.append(variable)

    def read_statement(self, body, around):
        """Reads a statement into a body, or begins one that has bodies of its own."""
        at = self.passed
        word = self.reader.token()
        if word in ("if", "try", "loop", "block"):
            self.reader.take(word)
            self.reader.take("{")
            around.append(Unfinished(word, None, at))
        elif word == "match":
            self.reader.take(word)
            last = Unfinished(word, self.reader.take_place(), at)
            self.reader.take("{")
            self.read_arm(last)
            around.append(last)
        else:
            body.append(self.read_simple())
        self.passed += 1

    def read_simple(self):
        """A statement without bodies."""
        reader = self.reader
        word = reader.token()
        if word in ("break", "next", "fail"):
            reader.take(word)
            return (word,)
        if word in ("new", "drop"):
            reader.take(word)
            return (word, reader.take_place())
        if reader.skip("let"):
            return ("let", reader.take_name(), reader.take_kind())
        if reader.skip("move"):
            return ("move", reader.take_place(), reader.take_place())
        if reader.skip("return"):
            return ("return", reader.take_target())
        if reader.skip("ask"):
            return ("ask", reader.take_name(), reader.take_places(), reader.take_target())
        reader.take("call")
        module = reader.take_name()
        reader.take(".")
        name = (module, reader.take_name())
        return ("call", name, reader.take_places(), reader.take_target())
