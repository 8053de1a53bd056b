"""What the document says, worked out anew: with Fractions and by going through all ways, one by one.

The tests hold the program against this, so nothing here is imported from it.
"""

import itertools
import random
from fractions import Fraction


def pair(value):
    """The share that a Fraction is, None for None."""
    return None if value is None else (value.numerator, value.denominator)


def best_try(task):
    """The mark and the number of its try, None for both where the task is open."""
    _, _, cap, tries = task
    best = (None, None)
    for number, points in enumerate(tries):
        given = points if number == 0 or points < cap else cap
        if best[0] is None or given > best[0]:
            best = (given, number)
    return best


def mean_of(part, numbers):
    tasks = [part[3][number] for number in numbers]
    return sum(Fraction(best_try(task)[0] * task[0], task[1]) for task in tasks) / sum(task[0] for task in tasks)


def ways(part):
    """For each way to leave out as many tasks as shall be, the mean of the others; none without marks."""
    marked = [number for number, task in enumerate(part[3]) if task[3]]
    many = min(part[1], len(marked) - 1)
    found = {}
    for kept in itertools.product((True, False), repeat=len(marked)):
        if marked and kept.count(False) == many:
            left = tuple(number for number, stays in zip(marked, kept) if not stays)
            found[left] = mean_of(part, [number for number, stays in zip(marked, kept) if stays])
    return found


def left_out_of(part):
    found = ways(part)
    return min((left for left in found if found[left] == max(found.values())), default=())


def share_of(part):
    found = ways(part)
    if not found:
        return None
    return min(Fraction(1), max(found.values()) + Fraction(min(part[2], sum(part[4])), 1000))


def grade_of(course):
    rows = [(part[0], share_of(part)) for part in course]
    rows = [(weight, value) for weight, value in rows if value is not None]
    if not rows:
        return None
    return sum(weight * value for weight, value in rows) / sum(weight for weight, _ in rows)


def tale_of(course):
    told = []
    for part in course:
        left = left_out_of(part)
        rows = []
        for number, task in enumerate(part[3]):
            if task[3]:
                rows.append(("left out" if number in left else "kept", *best_try(task)))
            else:
                rows.append(("open", None, None))
        told.append((pair(share_of(part)), left, rows))
    return told


def with_try(course, part, task, points):
    """The course with one try more, as tuples in a list."""
    course = [as_lists(one) for one in course]
    course[part][3][task][3].append(points)
    return [as_tuples(one) for one in course]


def reaches(course, wish):
    value = grade_of(course)
    return value is not None and value >= Fraction(*wish)


def least_points_of(course, part, task, wish):
    for points in range(course[part][3][task][1] + 1):
        if reaches(with_try(course, part, task, points), wish):
            return points
    return None


def all_tried(course, thousandths):
    """The course with a first try at each open task, as many thousandths of its most, rounded up."""
    for part, row in enumerate(course):
        for number, task in enumerate(row[3]):
            if not task[3]:
                points, rest = divmod(thousandths * task[1], 1000)
                course = with_try(course, part, number, points + (1 if rest else 0))
    return course


def least_share_of(course, wish):
    for thousandths in range(1001):
        if reaches(all_tried(course, thousandths), wish):
            return thousandths
    return None


def as_tuples(value):
    """The same with tuples in the place of lists."""
    if isinstance(value, (list, tuple)):
        return tuple(as_tuples(one) for one in value)
    return value


def as_lists(value):
    """The same with lists in the place of tuples."""
    if isinstance(value, (list, tuple)):
        return [as_lists(one) for one in value]
    return value


def forms(course):
    """The course of lists, of tuples, and a list of tuples."""
    return [as_lists(course), as_tuples(course), list(as_tuples(course))]


def some_task(chance, most_tries=3):
    most = chance.choice((1, 2, 4, 5, 8, 10))
    tries = tuple(chance.randint(0, most) for _ in range(chance.randint(0, most_tries)))
    return (chance.randint(1, 4), most, chance.randint(0, most), tries)


def some_part(chance, most_tasks=5):
    tasks = tuple(some_task(chance) for _ in range(chance.randint(0, most_tasks)))
    extras = tuple(chance.choice((0, 10, 50, 300)) for _ in range(chance.randint(0, 3)))
    return (chance.randint(1, 5), chance.randint(0, 3), chance.choice((0, 40, 100, 1000)), tasks, extras)


def some_course(chance, most_parts=3, most_tasks=4):
    return [some_part(chance, most_tasks) for _ in range(chance.randint(0, most_parts))]


def some_courses(many, seed, most_parts=3, most_tasks=4):
    """Always the same courses for the same seed."""
    chance = random.Random(seed)
    return [some_course(chance, most_parts, most_tasks) for _ in range(many)]


def full_part(chance):
    """A part with all counts and weights at their bounds and points of six digits."""
    tasks = []
    for _ in range(8):
        most = chance.randint(999000, 10 ** 6)
        tries = tuple(chance.randint(0, most) for _ in range(11))
        tasks.append((chance.randint(990, 1000), most, chance.randint(0, most), tries))
    return (chance.randint(990, 1000), 3, 1000, tuple(tasks), tuple(chance.randint(0, 9) for _ in range(12)))


def full_course(seed):
    chance = random.Random(seed)
    return [full_part(chance) for _ in range(6)]
