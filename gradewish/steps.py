"""Steps: names for shares, the greatest share first."""

from gradewish.errors import BadStep
from gradewish.shares import less
from gradewish.wishes import least_points


def step_of(steps, one):
    """The name of the first step whose share is not above this one, None where there is none."""
    for name, least in steps:
        if not less(one, least):
            return name
    return None


def points_for(course, part, task, steps, name):
    """The least points for the wish that is the share of the first step of this name."""
    for told, wish in steps:
        if told == name:
            return least_points(course, part, task, wish)
    raise BadStep("no step has this name")
