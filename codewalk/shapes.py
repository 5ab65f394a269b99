"""What expressions that have been made ready are."""


def is_constant(node):
    return node[0] == "Constant"


def are_constants(row):
    return all([node[0] == "Constant" for node in row])


def constants_of(row):
    """The tuple of the constants in a row of them."""
    return tuple([node[1] for node in row])


def has_stars(row):
    return any([node[0] == "Starred" for node in row])


def has_slice(subscript):
    return subscript[2][0] == "Slice"
