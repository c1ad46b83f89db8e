"""The calls on the plan: look, plan, ready, out, drop."""

from treegiven.refusals import NOT_PLANNED, NOT_READY, WRONG_TIME
from treegiven.state import Release
from treegiven.steps import is_ready, ready_packages, steps_now


def steps_told(steps):
    told = [len(steps)]
    for step in steps:
        told.extend([step.package, step.level])
        told.extend(step.version)
    return told


def answer_look(house):
    if len(house.plan) > 0:
        return [WRONG_TIME]
    return steps_told(steps_now(house))


def answer_plan(house):
    if len(house.plan) > 0:
        return [WRONG_TIME]
    house.plan = steps_now(house)
    return steps_told(house.plan)


def answer_ready(house):
    packages = ready_packages(house.plan)
    return [len(packages)] + packages


def give_out(package, step):
    package.releases.append(Release(step.version, step.needs, step.notes))
    package.version = step.version
    package.needs = step.needs
    # A note that came after the plan was made isn't told by its step, so it waits on.
    package.waiting = [note for note in package.waiting if note not in step.notes]


def answer_out(house, number):
    planned = [step for step in house.plan if step.package == number]
    if len(planned) == 0:
        return [NOT_PLANNED]
    if not is_ready(house.plan, planned[0]):
        return [NOT_READY]
    give_out(house.packages[number], planned[0])
    house.plan = [step for step in house.plan if step.package != number]
    return [len(house.plan)]


def answer_drop(house):
    if len(house.plan) == 0:
        return [WRONG_TIME]
    packages = [step.package for step in house.plan]
    house.plan = []
    return [len(packages)] + packages
