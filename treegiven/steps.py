"""The least levels that do, the steps that follow from them, and which of these are ready."""

from treegiven.state import Step
from treegiven.versions import Need, holds, raised

NO_GROUP = 0


def mates(house, number):
    """The package itself and, if it has a group, all others of that group."""
    group = house.packages[number].group
    if group == NO_GROUP:
        return [number]
    return [other for other in range(len(house.packages)) if house.packages[other].group == group]


def mates_differ(house, number):
    """Whether the package's mates aren't all of one version."""
    version = house.packages[number].version
    return any([house.packages[mate].version != version for mate in mates(house, number)])


def version_ahead(house, levels, number):
    """The version which the package will have under these levels."""
    if levels[number] == 0:
        return house.packages[number].version
    highest = max([house.packages[mate].version for mate in mates(house, number)])
    return raised(highest, levels[number])


def need_lasts(house, levels, need):
    """Whether the need holds the version which its package will have."""
    return holds(need, version_ahead(house, levels, need.package))


def level_asked(house, levels, number):
    """The least level that does for one package, if all the others' levels are these."""
    package = house.packages[number]
    asked = [levels[mate] for mate in mates(house, number)]
    asked.extend([house.note_levels[note] for note in package.waiting])
    if not all([need_lasts(house, levels, need) for need in package.needs]):
        asked.append(1)
    if mates_differ(house, number):
        asked.append(1)
    return max(asked)


def all_asked(house, levels):
    return [level_asked(house, levels, number) for number in range(len(house.packages))]


def least_levels(house):
    """The levels: the least that do."""
    # A level that rises never lets another fall, since a need that has lost its package's
    # version holds no later one. So what is asked, from nothing on, ends at the least.
    levels = [0 for package in house.packages]
    asked = all_asked(house, levels)
    while asked != levels:
        levels = asked
        asked = all_asked(house, levels)
    return levels


def need_ahead(house, levels, need):
    """The need as it will be: moved to the version which its package will have, if it must."""
    if need_lasts(house, levels, need):
        return need
    return Need(need.package, need.kind, version_ahead(house, levels, need.package))


def step_of(house, levels, number):
    package = house.packages[number]
    needs = [need_ahead(house, levels, need) for need in package.needs]
    # The notes are copied, for those that come later must not get into the step.
    notes = list(package.waiting)
    return Step(number, levels[number], version_ahead(house, levels, number), needs, notes)


def steps_now(house):
    """The steps of a plan made now, their packages rising."""
    levels = least_levels(house)
    return [step_of(house, levels, number) for number in range(len(levels)) if levels[number] != 0]


def is_ready(plan, step):
    """Whether none of the step's needs is on a package that is still in the plan."""
    planned = [other.package for other in plan]
    return not any([need.package in planned for need in step.needs])


def ready_packages(plan):
    """The packages of the steps that are ready, rising."""
    return [step.package for step in plan if is_ready(plan, step)]
