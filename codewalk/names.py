"""The names that a program may use."""

LONGEST = 20

KEYWORDS = {
    "False": True, "None": True, "True": True, "and": True, "as": True, "assert": True, "async": True, "await": True,
    "break": True, "class": True, "continue": True, "def": True, "del": True, "elif": True, "else": True,
    "except": True, "finally": True, "for": True, "from": True, "global": True, "if": True, "import": True,
    "in": True, "is": True, "lambda": True, "nonlocal": True, "not": True, "or": True, "pass": True, "raise": True,
    "return": True, "try": True, "while": True, "with": True, "yield": True,
}


def is_name(name):
    """Whether an object, of whatever kind, is a name."""
    if not isinstance(name, str) or not name.isidentifier() or len(name) > LONGEST:
        return False
    return name.isascii() and name not in KEYWORDS and (name[0] != "_" or not is_private(name))


def is_private(name):
    """Whether a name begins with two underscores and does not end with two."""
    return name[:2].count("_") == 2 and name[-2:].count("_") < 2


def special(word):
    """The name between double underscores."""
    edge = "_" * 2
    return f"{edge}{word}{edge}"
