"""Marks: what the tries of a task give, and which of them counts."""


def gives(task):
    """A new list of what each try gives."""
    cap, tries = task[2:]
    # Only later tries are held down by the cap.
    return [points if at == 0 else min(points, cap) for at, points in enumerate(tries)]


def mark(task):
    """The most that one of the tries gives, None where the task is open."""
    return max(gives(task), default=None)


def chosen(task):
    """The number of the first try that gives the mark, None where the task is open."""
    given = gives(task)
    if not given:
        return None
    # index finds the first of equal ones, as the document asks.
    return given.index(max(given))
