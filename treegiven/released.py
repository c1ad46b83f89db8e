"""What's out: what it finds for a need, and the calls on it: yank, resolve, log."""

from treegiven.refusals import ACCEPTED, IN_THE_TREE, NEEDED, UNKNOWN
from treegiven.versions import holds


def releases_left(house, number):
    """What's out of the package and isn't withdrawn: nothing, if there's no such package."""
    if number >= len(house.packages):
        return []
    return [release for release in house.packages[number].releases if not release.withdrawn]


def release_of(house, number, version):
    """That version, if it's out and isn't withdrawn, else None."""
    for release in releases_left(house, number):
        if release.version == version:
            return release
    return None


def found_for(house, need):
    """All versions that what's out finds for the need."""
    return [release.version for release in releases_left(house, need.package) if holds(need, release.version)]


def needs_left(house):
    """The needs of all that's out and isn't withdrawn."""
    needs = []
    for number in range(len(house.packages)):
        for release in releases_left(house, number):
            needs.extend(release.needs)
    return needs


def finds_only(house, need, number, version):
    """Whether nothing else than that version is found for the need."""
    return need.package == number and found_for(house, need) == [version]


def yank_refusal(house, number, version):
    if release_of(house, number, version) is None:
        return UNKNOWN
    if house.packages[number].version == version:
        return IN_THE_TREE
    if any([finds_only(house, need, number, version) for need in needs_left(house)]):
        return NEEDED
    return ACCEPTED


def answer_yank(house, number, version):
    refusal = yank_refusal(house, number, version)
    if refusal != ACCEPTED:
        return [refusal]
    release = release_of(house, number, version)
    release.withdrawn = True
    return [0]


def answer_resolve(house, number, version):
    release = release_of(house, number, version)
    if release is None:
        return [UNKNOWN]
    told = [len(release.needs)]
    for need in release.needs:
        told.append(need.package)
        # Something is always found: the tree's versions can't be withdrawn, nor those that a need hangs on.
        told.extend(max(found_for(house, need)))
    return told


def release_told(release):
    told = list(release.version)
    told.extend([1 if release.withdrawn else 0, len(release.notes)])
    told.extend(release.notes)
    return told


def answer_log(house, number):
    if number >= len(house.packages):
        return [UNKNOWN]
    releases = house.packages[number].releases
    told = [len(releases)]
    for release in releases:
        told.extend(release_told(release))
    return told
