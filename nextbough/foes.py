"""The foe: it brings each keeper to a wrong departure, or shows a laying in what the keeper does."""

from nextbough.checks import need
from nextbough.neighbours import neighbour_pushes
from nextbough.plainforms import plainly
from nextbough.seatlayings import first_seats
from nextbough.standings import Standing
from nextbough.steps import back_ranks_in, hop_ranks
from nextbough.trees import forks_in, plain_tree, shape_tree
from nextbough.wants import broken_in, shared_in
from nextbough.ways import need_way


def most_challenges(plain, chip):
    """How often the foe challenges a keeper, at most."""
    return challenges_of(plain_tree(plain, "plain"), shape_tree(chip, "chip"))


def most_pushes(plain, chip):
    """How many pushes a play has, at most."""
    tree = plain_tree(plain, "plain")
    board = shape_tree(chip, "chip")
    own = len(tree.leaves)
    seats = len(board.leaves)
    if own == 1:
        return 1
    if seats < own:
        return seats + 4
    many = challenges_of(tree, board)
    return own + 3 * many + many * (many - 1) // 2


def challenges_of(tree, board):
    """What most_challenges tells, of the trees of the two shapes."""
    own = len(tree.leaves)
    seats = len(board.leaves)
    if own == 1:
        return 0
    if seats < own or len(forks_in(tree)) == 1:
        return 1
    # A seat that is a child of the root is no seat that a challenge brings.
    alone = len([kid for kid in plainly(board.form) if not kid])
    return 2 + min(seats - own, seats - alone)


class Foe:
    """A foe of keepers of the chip for plain.

    held and chip_held are the standings of both; coming has the queues of the pushes that are next,
    behind all others, and hop, if it is not None, is (queue, one, other) of the hop behind them.
    Packets below firsts are the first ones; asked is the push that waits for its answer, or None;
    told are the answers so far; chosen has for each queue of plain the chosen packets by their chip
    queues; ended is the verdict.
    """

    def __init__(self, plain, chip):
        self.tree = plain_tree(plain, "plain")
        self.board = shape_tree(chip, "chip")
        self.held = Standing(plain)
        self.chip_held = Standing(chip)
        self.firsts = min(len(self.tree.leaves), len(self.board.leaves) + 1)
        self.coming = list(range(self.firsts))
        self.hop = None
        self.asked = None
        self.told = []
        self.chosen = [{} for _ in self.tree.leaves]
        self.ended = None

    def next_push(self):
        """The push that waits for its answer, or the next one; None when the play is over."""
        if self.ended is None and self.asked is None:
            self.asked = self._made()
        return self.asked

    def _made(self):
        """The next push."""
        number = len(self.told)
        if self.coming:
            queue = self.coming[0]
            return (number, queue, back_ranks_in(self.held, queue))
        queue, one, other = self.hop
        return (number, queue, hop_ranks(self.held, queue, one, other))

    def answer(self, queue, ranks):
        """Takes the keeper's way on the chip for the push."""
        need(self.asked is not None, "queue")
        need_way(self.board, queue, ranks)
        number, asked, wish = self.asked
        self.asked = None
        self.held.push(number, asked, wish)
        self.chip_held.push(number, queue, ranks)
        self.told.append((asked, wish, queue, ranks))
        if number < self.firsts or not self.coming:
            self.chosen[asked][queue] = number
        if self.coming:
            self.coming.pop(0)
        else:
            self.hop = None
        self.ended = self._lost()
        if self.ended is None and not self.coming and self.hop is None:
            self._challenge()

    def _lost(self):
        """The verdict if the orders differ, or else None."""
        dues = self.held.order()
        shows = self.chip_held.order()
        for behind, due in enumerate(dues):
            if shows[behind] != due:
                return ("won", behind, due, shows[behind])
        return None

    def _challenge(self):
        """Begins the next challenge, or ends the play where nothing is left to challenge."""
        rows = self.seats_now()
        shared = shared_in(rows)
        if shared is not None:
            queue, there, seat = shared
            one = self.chosen[queue][seat]
            other = self.chosen[there][seat]
        else:
            broken = broken_in(self.tree, self.board, rows)
            if broken is None:
                self.ended = ("fits", first_seats(rows))
                return
            queue = broken[1]
            one = self.chosen[broken[2]][broken[4]]
            other = self.chosen[broken[3]][broken[5]]
        self.hop = (queue, one, other)
        self.coming = [push[0] for push in neighbour_pushes(self.held, one, other)]

    def verdict(self):
        """None, or at the end ("won", behind, due, shown) or ("fits", images)."""
        return self.ended

    def answers(self):
        """The answers so far, as in a defeat."""
        return tuple(self.told)

    def seats_now(self):
        """For each queue of plain the chip queues at which the keeper pushed its chosen packets."""
        return tuple([tuple(sorted(held.keys())) for held in self.chosen])
