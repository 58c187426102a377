"""The forks of an operator at work."""

from nextbough.strides import strides_of
from nextbough.trees import ShapeTree, forks_in


class OperatorForks:
    """The forks of an operator, numbered by themselves.

    ways has for each place the pairs (fork, child) of its path; turns has for each fork with turns the
    list of its keeps v, e0, e1, .., and an empty one for others.
    """

    def __init__(self, kinds, form):
        self.kinds = kinds
        self.ways = fork_ways(form)
        self.turns = [[0] * (len(weights) + 1) if weights else [] for _, weights in kinds]

    def admit(self, place, number, facts):
        """The ranks, at the forks above the place, of the packet that is taken there."""
        ranks = []
        for fork, child in self.ways[place]:
            ranks.append((self._rank_at(fork, child, number, facts),))
        return tuple(ranks)

    def _rank_at(self, fork, child, number, facts):
        """The rank of the packet at the fork; what turns keep goes on."""
        word, weights = self.kinds[fork]
        if word == "come":
            return number
        if word == "due":
            return facts[2]
        if word == "small":
            return facts[1]
        if word == "strict":
            return child
        keeps = self.turns[fork]
        rank = max(keeps[0], keeps[child + 1])
        keeps[child + 1] = rank + strides_of(weights)[child]
        return rank

    def dismiss(self, place, ranks):
        """Does what is done when a packet of the place departs, whose ranks begin with those at the forks."""
        for way, rank in zip(self.ways[place], ranks):
            keeps = self.turns[way[0]]
            if keeps:
                keeps[0] = rank[0]


def fork_ways(form):
    """For each place of the operator's shape the pairs (fork, child) of its path."""
    tree = ShapeTree(form)
    forks = forks_in(tree)
    ways = []
    for path in tree.paths:
        ways.append([(forks.index(node), tree.sides[below]) for node, below in zip(path, path[1:])])
    return ways
