"""Policies that let a packet tell its own way."""

from nextbough.checks import need
from nextbough.trees import forks_in, plain_tree
from nextbough.ways import need_way


def free_policy(plain):
    """The text of a policy of this shape whose ranks are the fields of the packets."""
    tree = plain_tree(plain, "plain")
    lines = ["root n0"]
    for fork in forks_in(tree):
        kids = " ".join([f"n{kid}" for kid in tree.kids[fork]])
        lines.append(f"tree n{fork} ({kids})")
    for queue, node in enumerate(tree.leaves):
        lines.append(f"class {queue} n{node}")
    lines.append(f"class * n{tree.leaves[-1]}")
    for node, kids in enumerate(tree.kids):
        lines.append(f"at n{node}")
        for section in [f"  in n{kid}" for kid in kids] if kids else ["  in"]:
            lines.extend([section, f"    rank f{tree.depths[node]}"])
    return "\n".join(lines)


def free_facts(plain, queue, ranks):
    """The facts that get this way by free_policy."""
    tree = plain_tree(plain, "plain")
    need_way(tree, queue, ranks)
    need(all([len(rank) == 1 for rank in ranks]), "ranks")
    return (queue, 1, 0, tuple([rank[0] for rank in ranks]))
