"""The form of texts as a grammar, and a recognizer that follows it without knowing the package.

`first_bad(tokens)` is the index of the first token that can continue no text, the number of tokens if a text would
have to go on, or None for a text.
"""

import re

from tests.helpers import WORDS

SOURCE = """
text: kinds modules
kinds:
kinds: kinds kind
modules:
modules: modules module
kind: "kind" NAME "record" "{" fields "}"
kind: "kind" NAME "choice" "{" cases "}"
fields: field
fields: fields "," field
field: NAME sort
sort: NAME
sort: "item"
cases: case
cases: cases "," case
case: NAME
case: NAME sort
module: "module" NAME "{" functions "}"
functions:
functions: functions function
function: "function" NAME "(" ")" result "{" body "}"
function: "function" NAME "(" fields ")" result "{" body "}"
result:
result: sort
body:
body: body statement
place: NAME
place: place "." NAME
target:
target: place
row: "(" ")"
row: "(" places ")"
places: place
places: places "," place
statement: "let" NAME sort
statement: "new" place
statement: "move" place place
statement: "call" NAME "." NAME row target
statement: "ask" NAME row target
statement: "drop" place
statement: "match" place "{" arms "}"
arms: arm
arms: arms arm
arm: NAME "{" body "}"
arm: NAME NAME "{" body "}"
statement: "if" "{" body "}" "else" "{" body "}"
statement: "try" "{" body "}" "else" "{" body "}"
statement: "loop" "{" body "}"
statement: "block" "{" body "}"
statement: "break"
statement: "next"
statement: "return" target
statement: "fail"
"""

RULES = {}
for line in SOURCE.strip().splitlines():
    head, _, tail = line.partition(":")
    RULES.setdefault(head, []).append(tuple(tail.split()))


def tokens_of(text):
    return re.findall(r"[a-z]+|[^a-z \n]", text)


def fits(symbol, token):
    if symbol == "NAME":
        return re.fullmatch("[a-z]{1,8}", token) is not None and token not in WORDS
    return symbol == '"' + token + '"'


def closed(items, columns):
    """The items with all that follow from them, as Earley has it; the last column is the one that is closed."""
    here = len(columns)
    columns = [*columns, items]
    todo = list(items)
    while todo:
        head, tail, dot, start = todo.pop()
        if dot < len(tail):
            symbol = tail[dot]
            more = [(symbol, rule, 0, here) for rule in RULES.get(symbol, [])]
            # An empty rule may have been ended before this item came.
            more += [(head, tail, dot + 1, start) for other in list(items)
                     if other[0] == symbol and other[3] == here and other[2] == len(other[1])]
        else:
            more = [(h, t, d + 1, s) for h, t, d, s in list(columns[start]) if d < len(t) and t[d] == head]
        for item in more:
            if item not in items:
                items.add(item)
                todo.append(item)
    return items


def first_bad(tokens):
    columns = [closed({("text", RULES["text"][0], 0, 0)}, [])]
    for at, token in enumerate(tokens):
        items = {(head, tail, dot + 1, start) for head, tail, dot, start in columns[-1]
                 if dot < len(tail) and fits(tail[dot], token)}
        if not items:
            return at
        columns.append(closed(items, columns))
    whole = ("text", RULES["text"][0], 2, 0)
    return None if whole in columns[-1] else len(tokens)
