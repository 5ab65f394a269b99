"""The checks of the flow: which locals may have no value where they are loaded.

A set of names is an integer with a bit for each of them. The rows are gone through from the begin to the end, again and
again, as long as there are some at which fewer names are bound than they were the last time.
"""

from codewalk.slots import parameters_of
from codewalk.ways import places_of
from codewalk.words import LEADING, LEAVING, QUIET

# The words behind which a local is bound that was not, or the other way round.
CHANGING = {"DELETE_FAST": True, "LOAD_FAST": True, "LOAD_FAST_CHECK": True, "STORE_FAST": True}


def with_checks(rows, head):
    """The rows with LOAD_FAST_CHECK for each LOAD_FAST of a name that is not surely bound there."""
    bits = bits_of(rows, head)
    if not bits:
        return rows
    bound = Bound(rows, bits)
    bound.tell(0, sum([bits[name] for name in parameters_of(head) if name in bits]))
    while bound.sweep():
        pass
    found = []
    for at, row in enumerate(rows):
        if row[0] == "LOAD_FAST" and bound.lacks(at, row[1]):
            row = ("LOAD_FAST_CHECK", row[1], row[2], row[3])
        found.append(row)
    return found


def bits_of(rows, head):
    """A bit for each name that is loaded, but for cells and free names, and parameters that are never deleted."""
    passed = {name: True for name in [*head[5], *head[6]]}
    deleted = {row[1]: True for row in rows if row[0] == "DELETE_FAST"}
    for name in parameters_of(head):
        if name not in deleted:
            passed[name] = True
    bits = {}
    for row in rows:
        if row[0] == "LOAD_FAST" and row[1] not in passed and row[1] not in bits:
            bits[row[1]] = 1 << len(bits)
    return bits


class Bound:
    """The names that are bound at each row, as far as the ways are known: None where no way has led yet."""

    def __init__(self, rows, bits):
        self.rows = rows
        self.bits = bits
        self.places = places_of(rows)
        self.names = [None] * len(rows)
        # The rows that are to be gone through again.
        self.waiting = [False] * len(rows)

    def tell(self, at, names):
        """Tell that a way leads to a row with just these names bound; whether that is news."""
        before = self.names[at]
        if before is not None:
            names &= before
            if names == before:
                return False
        self.names[at] = names
        self.waiting[at] = True
        return True

    def sweep(self):
        """Go once through the rows; whether there is news for rows that have been passed by then."""
        again = False
        for at, row in enumerate(self.rows):
            if not self.waiting[at]:
                continue
            self.waiting[at] = False
            names = self.names[at]
            word, argument, _, handler = row
            if handler is not None and (word not in QUIET or (word == "LOAD_FAST" and self.lacks(at, argument))):
                again = self.lead_to(handler[0], names, at) or again
            if word in CHANGING and argument in self.bits:
                bit = self.bits[argument]
                names = names & ~bit if word == "DELETE_FAST" else names | bit
            if word in LEADING:
                again = self.lead_to(argument, names, at) or again
            if word not in LEAVING:
                self.tell(at + 1, names)
        return again

    def lead_to(self, label, names, source):
        """Tell the row at a label what is bound; whether that is news, and the row has been passed."""
        at = self.places[label]
        return self.tell(at, names) and at <= source

    def lacks(self, at, name):
        """Whether a name is not surely bound at a row."""
        if name not in self.bits or self.names[at] is None:
            return False
        return self.names[at] & self.bits[name] == 0
