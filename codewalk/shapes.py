"""What expressions that have been made ready are."""


def is_constant(node):
    return node[0] == "Constant"


def are_constants(row):
    for node in row:
        if node[0] != "Constant":
            return False
    return True


def constants_of(row):
    """The tuple of the constants in a row of them."""
    return tuple([node[1] for node in row])


def has_stars(row):
    for node in row:
        if node[0] == "Starred":
            return True
    return False


def are_names(row):
    for node in row:
        if node[0] != "Name":
            return False
    return True


def has_slice(subscript):
    return subscript[2][0] == "Slice"
