"""The names that a program may use."""

LONGEST = 20

KEYWORDS = (
    "False", "None", "True", "and", "as", "assert", "async", "await", "break", "class", "continue", "def",
    "del", "elif", "else", "except", "finally", "for", "from", "global", "if", "import", "in", "is",
    "lambda", "nonlocal", "not", "or", "pass", "raise", "return", "try", "while", "with", "yield",
)


def is_name(name):
    """Whether an object, of whatever kind, is a name."""
    if not isinstance(name, str) or len(name) > LONGEST:
        return False
    if not name.isascii() or not name.isidentifier() or name in KEYWORDS:
        return False
    return not is_private(name)


def is_private(name):
    """Whether a name begins with two underscores and does not end with two."""
    return name[:2].count("_") == 2 and name[-2:].count("_") < 2
