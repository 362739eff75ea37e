"""Rows that are done one after the other, for writes that are done at once."""

from leastmarks.errors import NoSpare, NoWrites
from leastmarks.values import is_row
from leastmarks.writes import is_mark, is_write, marks_of


def sequence(writes, spare):
    """The list of the fewest rows that have together the effect of all writes; the spare mark may change."""
    check_writes(writes)
    check_spare(writes, spare)
    rows = Rows({mark: what for mark, what in writes if what != mark})
    rows.write_all(spare)
    return rows.written


def check_writes(writes):
    """Raises NoWrites for the first element that is no write or writes a mark once more."""
    if not is_row(writes):
        raise NoWrites(-1)
    known = {}
    for at, write in enumerate(writes):
        if not is_write(write) or write[0] in known:
            raise NoWrites(at)
        known[write[0]] = True


def check_spare(writes, spare):
    """Raises NoSpare for what is no mark or occurs in the writes."""
    if not is_mark(spare) or any([spare in marks_of(write) for write in writes]):
        raise NoSpare(spare)


class Rows:
    """Writes the rows for a dict from each mark that changes to what it gets.

    A mark may be written as soon as no other one has to get its value any more, or as soon as another one has got it:
    from then on the value is taken from there, since no mark is written twice.
    """

    def __init__(self, sources):
        self.sources = sources
        self.written = []
        self.copies = {}

    def write_all(self, spare):
        """Writes all rows."""
        wanted = {what: True for what in self.sources.values()}
        free = [mark for mark in self.sources if mark not in wanted]
        for mark in free:
            self.write_from(mark)
        # What is left are cycles, and no mark outside of them has a value of theirs.
        for mark in list(self.sources):
            if mark in self.sources:
                self.written.append(("copy", spare, mark))
                self.copies[mark] = spare
                self.write_from(mark)

    def write_from(self, mark):
        """Writes a mark that may be written, and those that may be written because of it."""
        while mark in self.sources:
            what = self.sources.pop(mark)
            if isinstance(what, str):
                self.written.append((what, mark))
            elif what in self.copies:
                self.written.append(("copy", mark, self.copies[what]))
            else:
                self.written.append(("copy", mark, what))
                self.copies[what] = mark
                mark = what
