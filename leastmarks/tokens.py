"""The tokens of a text, and a reader that goes over them one by one."""

from leastmarks.errors import NoText
from leastmarks.values import LETTERS, is_name

BLANKS = " \n"
END = ""


def tokens_of(text):
    """The list of the tokens of a text: words, and each other character that is no blank."""
    tokens = []
    start = 0
    for at, sign in enumerate(text):
        if sign in LETTERS:
            continue
        if start < at:
            tokens.append(text[start:at])
        if sign not in BLANKS:
            tokens.append(sign)
        start = at + 1
    if start < len(text):
        tokens.append(text[start:])
    return tokens


class Reader:
    """Goes over tokens; raises NoText where the next one is not what must come."""

    def __init__(self, tokens):
        self.tokens = tokens
        self.at = 0

    def token(self):
        """The next token, or END behind the last one."""
        return self.tokens[self.at] if self.at < len(self.tokens) else END

    def skip(self, word):
        """Passes the next token if it is this one, and tells whether it is."""
        if self.token() != word:
            return False
        self.at += 1
        return True

    def take(self, word):
        """Passes the next token, which must be this one."""
        if not self.skip(word):
            raise NoText(self.at)

    def take_name(self):
        """Passes a name and returns it."""
        word = self.token()
        if not is_name(word):
            raise NoText(self.at)
        self.at += 1
        return word

    def take_kind(self):
        """Passes the kind of a place and returns it."""
        if self.skip("item"):
            return "item"
        return self.take_name()

    def take_place(self):
        """Passes a place and returns it."""
        names = [self.take_name()]
        while self.skip("."):
            names.append(self.take_name())
        return tuple(names)

    def take_target(self):
        """Passes a place and returns it, or returns None where none comes next."""
        return self.take_place() if is_name(self.token()) else None

    def take_places(self):
        """Passes places in parentheses, perhaps none, and returns the list of them."""
        self.take("(")
        if self.skip(")"):
            return []
        places = [self.take_place()]
        while self.skip(","):
            places.append(self.take_place())
        self.take(")")
        return places
