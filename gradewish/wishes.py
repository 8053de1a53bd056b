"""Wishes: what is still needed for a grade."""

from math import gcd

from gradewish.checks import MOST_TRIES, is_from, is_within
from gradewish.errors import BadPlace, BadWish, TooMany
from gradewish.grades import grade
from gradewish.shares import less


def tried(course, part, task, points):
    """The course as a new list of parts, with one try more at the end of a task's tries."""
    return _with_tries(course, {(part, task): (points,)})


def reached(course, wish):
    """Whether the course has a grade that is not less than the wish."""
    one = grade(course)
    return one is not None and not less(one, wish)


def least_points(course, part, task, wish):
    """The least points of one try more with which the course reaches the wish, None where none does."""
    _check_place(course, part, task)
    _check_wish(wish)
    most = course[part][3][task][1]
    return _least(most, lambda points: reached(tried(course, part, task, points), wish))


def least_share(course, wish):
    """The least thousandths of their most with which all open tasks reach the wish, None where none do."""
    _check_wish(wish)
    return _least(1000, lambda thousandths: reached(_all_tried(course, thousandths), wish))


def _check_place(course, part, task):
    if not is_within(part, 0, len(course) - 1):
        raise BadPlace("the course has no part of this number")
    tasks = course[part][3]
    if not is_within(task, 0, len(tasks) - 1):
        raise BadPlace("the part has no task of this number")
    if len(tasks[task][3]) >= MOST_TRIES:
        raise TooMany(f"a task has at most {MOST_TRIES} tries")


def _check_wish(wish):
    top, bottom = wish
    if not is_from(bottom, 1) or not is_from(top, 0) or gcd(top, bottom) > 1:
        raise BadWish("a wish is a lowered share from 0 on")


def _least(most, reaches):
    if not reaches(most):
        return None
    # More points never make a grade less, so the numbers that reach stand above those that do not.
    low = 0
    high = most
    while low < high:
        middle = (low + high) // 2
        if reaches(middle):
            high = middle
        else:
            low = middle + 1
    return low


def _all_tried(course, thousandths):
    more = {}
    for part, row in enumerate(course):
        for number, task in enumerate(row[3]):
            if not task[3]:
                # 999 more, because the division alone would round down.
                more[part, number] = ((thousandths * task[1] + 999) // 1000,)
    return _with_tries(course, more)


def _with_tries(course, more):
    # All in tuples of its own, so that nothing done later to the given course changes the new one.
    return [
        (weight, worst, top, _tasks_with_tries(tasks, part, more), tuple(extras))
        for part, (weight, worst, top, tasks, extras) in enumerate(course)
    ]


def _tasks_with_tries(tasks, part, more):
    return tuple([
        (weight, most, cap, tuple(tries) + more.get((part, number), ()))
        for number, (weight, most, cap, tries) in enumerate(tasks)
    ])
