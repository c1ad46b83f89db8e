"""What a house keeps: the tree, what is out, the notes and the plan."""


class Release:
    """A version that is out, with its needs and the notes that it tells."""

    def __init__(self, version, needs, notes):
        self.version = version
        self.needs = needs
        self.notes = notes
        self.withdrawn = False


class Package:
    """A package as the tree has it, and what is out of it, in the order in which it came out."""

    def __init__(self, version, group, needs):
        self.version = version
        self.group = group
        self.needs = needs
        self.waiting = []
        self.releases = [Release(version, needs, [])]


class Step:
    """What is to come out of one package, as it was when the step was made."""

    def __init__(self, package, level, version, needs, notes):
        self.package = package
        self.level = level
        self.version = version
        self.needs = needs
        self.notes = notes


class House:
    """All that a line's calls are about, as at the line's beginning."""

    def __init__(self):
        self.packages = []
        self.note_levels = []
        # No steps are no plan: the two are never told apart.
        self.plan = []
