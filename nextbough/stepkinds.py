"""What are the steps of sections and outs."""

from nextbough.exprtrees import is_tree, names_in
from nextbough.factkinds import is_fact_name, is_name

MOST_RANK_TREES = 8


def are_steps(thing, is_out):
    """Whether thing has the form of the steps of an out, or else of a section; the names in it do not matter."""
    if not isinstance(thing, tuple):
        return False
    if is_out:
        return all([is_giving(step) for step in thing])
    return len(thing) > 0 and all([is_giving(step) for step in thing[:-1]]) and is_ranking(thing[-1])


def is_giving(thing):
    """Whether thing has the form of a let or of a set."""
    if not isinstance(thing, tuple) or len(thing) != 3 or not isinstance(thing[0], str):
        return False
    return thing[0] in ("let", "set") and is_name(thing[1]) and is_tree(thing[2])


def is_ranking(thing):
    """Whether thing has the form of the step that tells the rank."""
    if not isinstance(thing, tuple) or len(thing) != 2 or not isinstance(thing[0], str) or thing[0] != "rank":
        return False
    trees = thing[1]
    if not isinstance(trees, tuple) or not 1 <= len(trees) <= MOST_RANK_TREES:
        return False
    return all([is_tree(tree) for tree in trees])


def trees_of(step):
    """The expressions of the step."""
    return step[1] if step[0] == "rank" else step[2:]


def names_of_step(step):
    """The list of the names in the expressions of the step."""
    found = []
    for tree in trees_of(step):
        found.extend(names_in(tree))
    return found


def is_told(name, is_out):
    """Whether the packet tells the name to the expressions of an out, or else of a section."""
    return is_fact_name(name) or is_out and name == "rank"


def are_named_well(steps, keeps, is_out):
    """Whether lets are new names, sets are keeps, and expressions have only names that they may have.

    keeps are the keys of a dict.
    """
    lets = {}
    for step in steps:
        for name in names_of_step(step):
            if not (name in keeps or name in lets or is_told(name, is_out)):
                return False
        if step[0] == "let":
            if step[1] in keeps or step[1] in lets:
                return False
            lets[step[1]] = True
        elif step[0] == "set" and step[1] not in keeps:
            return False
    return True


def are_some_steps(thing, is_out):
    """Whether thing is the steps of an out, or else of a section, in the parts of some policy.

    What is set, and what is read and nowhere given by a let, has to be a keep of the origin.
    """
    if not are_steps(thing, is_out):
        return False
    lets = {step[1]: True for step in thing if step[0] == "let"}
    keeps = {step[1]: True for step in thing if step[0] == "set"}
    for step in thing:
        for name in names_of_step(step):
            if is_name(name) and name not in lets:
                keeps[name] = True
    return are_named_well(thing, keeps, is_out)
