"""What is a shape, what is a plain one, and how large shapes are."""

from nextbough.checks import need

MOST_CHILDREN = 6


def is_shape(thing):
    """Whether thing is a shape."""
    return has_forks_of(thing, 1)


def is_plain(thing):
    """Whether thing is a shape without a fork of just one child."""
    return has_forks_of(thing, 2)


def has_forks_of(thing, least):
    """Whether thing is a shape whose forks all have at least so many children."""
    left = [thing]
    while left:
        part = left.pop()
        if not isinstance(part, tuple) or len(part) > MOST_CHILDREN:
            return False
        if 0 < len(part) < least:
            return False
        left.extend(part)
    return True


def need_shape(form, word):
    """Refuses the parameter called word unless it is a shape."""
    need(is_shape(form), word)


def need_plain(form, word):
    """Refuses the parameter called word unless it is a plain shape."""
    need(is_plain(form), word)


def queues_of(form):
    """How many queues form has."""
    need_shape(form, "form")
    return many_queues(form)


def many_queues(form):
    """How many queues the shape has."""
    if not form:
        return 1
    return sum([many_queues(kid) for kid in form])


def nodes_of(form):
    """How many nodes form has."""
    need_shape(form, "form")
    return many_nodes(form)


def many_nodes(form):
    """How many nodes the shape has."""
    return 1 + sum([many_nodes(kid) for kid in form])


def forks_above(form):
    """The greatest number of forks above a queue of form."""
    need_shape(form, "form")
    return most_forks(form)


def most_forks(form):
    """The greatest number of forks above a queue of the shape."""
    if not form:
        return 0
    return 1 + max([most_forks(kid) for kid in form])


def need_plains(plains, least, most):
    """Refuses plains unless they are a tuple of so many plain shapes; a bound of None is none."""
    need(isinstance(plains, tuple) and len(plains) >= least, "plains")
    need(most is None or len(plains) <= most, "plains")
    for plain in plains:
        need_plain(plain, "plains")
