"""Disciplines: words for queues and forks, and the texts of their policies."""

from nextbough.checks import need
from nextbough.forktexts import form_told, parts_in, read_whole
from nextbough.strides import strides_of
from nextbough.trees import ShapeTree, forks_in

QUEUE_WORDS = ("come", "due", "small", "free")
# What is the rank of a packet by these words.
RANKS = {"come": "number", "due": "stamp", "small": "size", "free": "f0"}


def discipline_policy(text):
    """The text of the policy of the discipline."""
    need(isinstance(text, str), "text")
    whole = read_whole(text, QUEUE_WORDS)
    tree = ShapeTree(form_told(whole))
    names = {fork: f"k{place}" for place, fork in enumerate(forks_in(tree))}
    for queue, node in enumerate(tree.leaves):
        names[node] = f"q{queue}"
    lines = [f"root {names[0]}"]
    for fork in forks_in(tree):
        kids = " ".join([names[kid] for kid in tree.kids[fork]])
        lines.append(f"tree {names[fork]} ({kids})")
    for queue, node in enumerate(tree.leaves):
        lines.append(f"class {queue} {names[node]}")
    lines.append(f"class * {names[tree.leaves[-1]]}")
    for node, part in enumerate(parts_in(whole)):
        lines.append(f"at {names[node]}")
        lines.extend(block_lines(part, [names[kid] for kid in tree.kids[node]]))
    return "\n".join(lines)


def block_lines(part, kids):
    """The lines behind the at line of a queue or fork, whose children have these names."""
    word, weights, _ = part
    if not kids:
        return ["  in", f"    rank {RANKS[word]}"]
    if word == "turns":
        return turns_lines(weights, kids)
    lines = []
    for place, kid in enumerate(kids):
        rank = place if word == "strict" else RANKS[word]
        lines.extend([f"  in {kid}", f"    rank {rank}"])
    return lines


def turns_lines(weights, kids):
    """The lines behind the at line of a fork with turns."""
    lines = ["  keep v 0"] + [f"  keep e{place} 0" for place in range(len(kids))]
    for place, stride in enumerate(strides_of(weights)):
        lines.append(f"  in {kids[place]}")
        lines.extend([f"    let s max(v, e{place})", f"    set e{place} s + {stride}", "    rank s"])
    return lines + ["  out", "    set v rank"]
