"""The checks of the flow: which locals may have no value where they are loaded.

A set of names is an integer with a bit for each of them. The rows are gone through from the begin to the end, again and
again, as long as there are labels at which fewer names are bound than they were when they were passed.
"""

from codewalk.slots import parameters_of
from codewalk.words import LEADING, LEAVING, QUIET, TURNING

# The words behind which a local is bound that was not, or the other way round.
CHANGING = {"DELETE_FAST": True, "LOAD_FAST": True, "LOAD_FAST_CHECK": True, "STORE_FAST": True}


def with_checks(rows, head, words):
    """The rows, which have these words, with LOAD_FAST_CHECK for each LOAD_FAST of a name not surely bound there."""
    if "LOAD_FAST" not in words:
        return rows
    lacking = lacking_on_ways(rows, head, words) if "LABEL" in words else lacking_in_order(rows, head)
    if not lacking:
        return rows
    found = list(rows)
    for at in lacking:
        _, name, line, handler = rows[at]
        found[at] = ("LOAD_FAST_CHECK", name, line, handler)
    return found


def lacking_in_order(rows, head):
    """The indexes of the rows that load what is not surely bound, where no row leads elsewhere than to the next one."""
    shared = [*head[5], *head[6]]
    bound = {name: True for name in parameters_of(head)}
    lacking = []
    for at, row in enumerate(rows):
        word = row[0]
        if word in CHANGING:
            name = row[1]
            if word == "DELETE_FAST":
                bound[name] = False
            elif not bound.get(name):
                bound[name] = True
                if word == "LOAD_FAST" and name not in shared:
                    lacking.append(at)
    return lacking


def lacking_on_ways(rows, head, words):
    """The same where rows lead to labels."""
    bits = bits_of(rows, head, words)
    if not bits:
        return []
    bound = Bound(bits)
    first = sum([bits[name] for name in parameters_of(head) if name in bits])
    bound.sweep(rows, first)
    while bound.is_stale():
        bound.sweep(rows, first)
    return bound.lacking


def bits_of(rows, head, words):
    """A bit for each name that is loaded, but for cells and free names, and parameters that are never deleted."""
    passed = {name: True for name in [*head[5], *head[6]]}
    deleted = {row[1]: True for row in rows if row[0] == "DELETE_FAST"} if "DELETE_FAST" in words else {}
    for name in parameters_of(head):
        if name not in deleted:
            passed[name] = True
    bits = {}
    for row in rows:
        if row[0] == "LOAD_FAST" and row[1] not in passed and row[1] not in bits:
            bits[row[1]] = 1 << len(bits)
    return bits


class Bound:
    """The names that are bound at each label, as far as the ways are known."""

    def __init__(self, bits):
        self.bits = bits
        # Those that are bound on all ways that are known to lead to a label.
        self.names = {}
        # Those that were, when the label was passed last.
        self.passed = {}
        # The indexes of the rows that load what is not surely bound.
        self.lacking = []

    def is_stale(self):
        """Whether there is news for labels that have been passed by now."""
        return any([names != self.passed[label] for label, names in self.names.items()])

    def sweep(self, rows, names):
        """Go once through the rows, with these names bound at the begin; they are None where no way has led yet."""
        self.lacking = []
        for at, row in enumerate(rows):
            word, argument, _, handler = row
            if word == "LABEL":
                names = self.pass_label(argument, names)
            if names is None or word == "LABEL":
                continue
            ahead = names
            if word in CHANGING and argument in self.bits:
                bit = self.bits[argument]
                if word == "LOAD_FAST" and not names & bit:
                    self.lacking.append(at)
                    # It may raise an exception.
                    word = "LOAD_FAST_CHECK"
                names = names & ~bit if word == "DELETE_FAST" else names | bit
            if handler is not None and word not in QUIET:
                self.lead_to(handler[0], ahead)
            if word in TURNING:
                if word in LEADING:
                    self.lead_to(argument, names)
                if word in LEAVING:
                    names = None

    def pass_label(self, label, names):
        """What is bound behind a label, with these names bound ahead of it."""
        if names is not None:
            self.lead_to(label, names)
        self.passed[label] = self.names.get(label)
        return self.passed[label]

    def lead_to(self, label, names):
        """Tell that a way leads to a label with just these names bound."""
        self.names[label] = self.names[label] & names if label in self.names else names
