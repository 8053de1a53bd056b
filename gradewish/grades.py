"""Grades: the share of a whole course, and the tale of what counts in it."""

from gradewish.parts import left_out, part_share
from gradewish.shares import weighted
from gradewish.tasks import chosen, mark


def grade(course):
    """The mean of the shares of the parts, None where no part has one."""
    rows = [(part[0], part_share(part)) for part in course]
    told = [(weight, one) for weight, one in rows if one is not None]
    return weighted(told) if told else None


def tale(course):
    """A list of (share, numbers left out, rows) for each part, a row for each task."""
    return [_part_tale(part) for part in course]


def _part_tale(part):
    left = left_out(part)
    rows = [_row(task, number in left) for number, task in enumerate(part[3])]
    return (part_share(part), left, rows)


def _row(task, is_left):
    points = mark(task)
    if points is None:
        return ("open", None, None)
    return ("left out" if is_left else "kept", points, chosen(task))
