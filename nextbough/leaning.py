"""Melts one after the other, as long as there is one."""

from nextbough.checks import is_number
from nextbough.errors import InvalidPaper
from nextbough.melts import KINDS, is_kind, melt_parts
from nextbough.policies import Policy, need_policy


def lean_policy(policy):
    """The policy behind all melts that can be done, each time the first one, and these melts."""
    need_policy(policy, "policy")
    left = Policy(policy.given)
    melts = []
    found = first_melt(left)
    while found is not None:
        melts.append(found[:2])
        left = Policy(found[2])
        found = first_melt(left)
    return (left, tuple(melts))


def first_melt(policy):
    """The first melt that can be done: its kind, its node and the parts behind it; None if there is none."""
    for kind in KINDS:
        for node in range(len(policy.tree.kids)):
            parts = melt_parts(policy, kind, node)
            if parts is not None:
                return (kind, node, parts)
    return None


def lets_melts(policy, melts):
    """Checks whether the melts can be done, and then no further one; how many nodes they leave."""
    need_policy(policy, "policy")
    if not isinstance(melts, tuple):
        raise InvalidPaper("shape", -1)
    left = policy
    for place, melt in enumerate(melts):
        if not is_melt(melt):
            raise InvalidPaper("melt", place)
        parts = melt_parts(left, melt[0], melt[1])
        if parts is None:
            raise InvalidPaper("cannot", place)
        left = Policy(parts)
    if first_melt(left) is not None:
        raise InvalidPaper("more", -1)
    return len(left.tree.kids)


def is_melt(thing):
    """Whether thing is a tuple of a kind and a number."""
    return isinstance(thing, tuple) and len(thing) == 2 and is_kind(thing[0]) and is_number(thing[1])
