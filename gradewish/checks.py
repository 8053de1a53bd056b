"""The check of a course against the bounds of its numbers."""

from gradewish.errors import BadCap, BadExtra, BadMark, BadMost, BadTop, BadWeight, BadWorst, TooMany

MOST_PARTS = 6
MOST_TASKS = 8
MOST_TRIES = 12
MOST_EXTRAS = 12
MOST_WEIGHT = 1000
MOST_WORST = 3
MOST_TOP = 1000
MOST_EXTRA = 1000
MOST_POINTS = 1000000


def checked(course):
    """True where all of the course is within its bounds; else the first refusal that is due is raised."""
    if len(course) > MOST_PARTS:
        raise TooMany(f"a course has at most {MOST_PARTS} parts")
    for part in course:
        _check_part(part)
    return True


def _check_part(part):
    weight, worst, top, tasks, extras = part
    _check_weight(weight)
    if not is_within(worst, 0, MOST_WORST):
        raise BadWorst(f"the tasks left out are from 0 to {MOST_WORST}")
    if not is_within(top, 0, MOST_TOP):
        raise BadTop(f"the most that extras can bring is from 0 to {MOST_TOP}")
    if len(tasks) > MOST_TASKS:
        raise TooMany(f"a part has at most {MOST_TASKS} tasks")
    for task in tasks:
        _check_task(task)
    _check_extras(extras)


def _check_task(task):
    weight, most, cap, tries = task
    _check_weight(weight)
    if not is_within(most, 1, MOST_POINTS):
        raise BadMost(f"the most points of a task are from 1 to {MOST_POINTS}")
    if not is_within(cap, 0, most):
        raise BadCap(f"the cap of this task is from 0 to {most}")
    if len(tries) > MOST_TRIES:
        raise TooMany(f"a task has at most {MOST_TRIES} tries")
    for points in tries:
        if not is_within(points, 0, most):
            raise BadMark(f"the points of a try at this task are from 0 to {most}")


def _check_extras(extras):
    if len(extras) > MOST_EXTRAS:
        raise TooMany(f"a part has at most {MOST_EXTRAS} extras")
    for extra in extras:
        if not is_within(extra, 0, MOST_EXTRA):
            raise BadExtra(f"an extra is from 0 to {MOST_EXTRA}")


def _check_weight(weight):
    if not is_within(weight, 1, MOST_WEIGHT):
        raise BadWeight(f"a weight is from 1 to {MOST_WEIGHT}")


def is_within(number, least, most):
    """Whether this is a whole number from the least one to the most."""
    return is_from(number, least) and number <= most


def is_from(number, least):
    """Whether this is a whole number from the least one on."""
    # True and False count as ints for Python, but not for the document.
    if isinstance(number, bool) or not isinstance(number, int):
        return False
    return number >= least
