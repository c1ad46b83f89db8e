"""Versions, which are tuples of three numbers, and the needs that hold them."""

MEND = 1
NEW = 2
BREAK = 3

ONLY_THAT = 0
SAME_SECOND = 1
COMPATIBLE = 2
ANY_LATER = 3


class Need:
    """A need on a package, of a kind, from a version."""

    def __init__(self, package, kind, version):
        self.package = package
        self.kind = kind
        self.version = version


def raised(version, level):
    """The version, raised by a level of 1 to 3."""
    first = version[0]
    second = version[1]
    third = version[2]
    if first == 0:
        if level == BREAK:
            return (0, second + 1, 0)
        return (0, second, third + 1)
    if level == MEND:
        return (first, second, third + 1)
    if level == NEW:
        return (first, second + 1, 0)
    return (first + 1, 0, 0)


def numbers_to_first_not_zero(version):
    """How many numbers the version has up to its first that isn't 0, that one among them."""
    if version[0] != 0:
        return 1
    if version[1] != 0:
        return 2
    return 3


def numbers_to_share(need):
    """How many of its version's numbers, from the first on, a version must have to be held."""
    if need.kind == ONLY_THAT:
        return 3
    if need.kind == SAME_SECOND:
        return 2
    if need.kind == COMPATIBLE:
        return numbers_to_first_not_zero(need.version)
    return 0


def holds(need, version):
    """Whether the need holds the version."""
    if version < need.version:
        return False
    shared = numbers_to_share(need)
    return version[:shared] == need.version[:shared]
