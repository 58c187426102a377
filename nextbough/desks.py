"""What commands begin, and the answers of those that use it."""

from nextbough.chiprunners import ChipRunner
from nextbough.compositelines import least_plan
from nextbough.leaning import lean_policy
from nextbough.plainruns import audit_of
from nextbough.plankeepers import PlanKeeper
from nextbough.policytexts import read_policy
from nextbough.ranktexts import way_text
from nextbough.reading import move_standing
from nextbough.runners import Runner
from nextbough.shapetexts import shape_text
from nextbough.shows import show_value
from nextbough.snapshots import restored
from nextbough.switches import Switch

BEGINNINGS = ("plan", "policy", "switch")
KEEPER_WORDS = ("push", "depart", "chip", "lines", "moved")
RUNNER_WORDS = ("lean", "carry", "arrive", "next", "order", "keeps")


class Desk:
    """The keeper, the runner with its policy, and the switch that were begun last; None where none was."""

    def __init__(self):
        self.keeper = None
        self.policy = None
        self.runner = None
        self.switch = None

    def answer(self, word, given):
        """The answer of the command with this word and these arguments."""
        if word in BEGINNINGS:
            return self._begin(word, given)
        if word in KEEPER_WORDS:
            return "absent" if self.keeper is None else self._ask_keeper(word, given)
        if word in RUNNER_WORDS:
            return "absent" if self.runner is None else self._ask_runner(word, given)
        return "absent" if self.switch is None else self._ask_switch(word, given)

    def _begin(self, word, given):
        """The answer of a command that begins something and uses nothing."""
        if word == "plan":
            self.keeper = PlanKeeper(given[0])
            return show_value(given[0])
        if word == "policy":
            self.policy = read_policy(given[0])
            self.runner = Runner(self.policy)
            return shape_text(self.policy.shape_of())
        self.switch = Switch(*given)
        return show_value(self.switch.images_now())

    def _ask_keeper(self, word, given):
        """The answer of a command that uses the keeper."""
        keeper = self.keeper
        if word == "push":
            number, way = given
            queue, ranks = keeper.push(number, way[0], way[1])
            return way_text(queue, ranks)
        if word == "depart":
            return show_value(keeper.depart())
        if word == "chip":
            return show_value(keeper.chip_standing())
        if word == "lines":
            return show_value(keeper.plain_standing())
        return show_value(move_standing(keeper.plan, keeper.chip_standing(), given[0]))

    def _ask_runner(self, word, given):
        """The answer of a command that uses the runner or its policy."""
        if word == "lean":
            self.policy, melts = lean_policy(self.policy)
            self.runner = Runner(self.policy)
            return show_value(melts)
        if word == "carry":
            plan = least_plan(self.policy.shape_of(), given[0])
            self.runner = ChipRunner(self.policy, plan)
            return show_value(plan)
        if word == "arrive":
            return show_value(self.runner.arrive(given[0]))
        if word == "next":
            return show_value(self.runner.depart())
        return show_value(self.runner.order() if word == "order" else self.runner.keeps_now())

    def _ask_switch(self, word, given):
        """The answer of a command that uses the switch."""
        switch = self.switch
        if word == "restart":
            self.switch = restored(switch.snapshot())
            return show_value(None)
        if word == "rows":
            return show_value(switch.order())
        if word == "counts":
            return show_value(switch.counts_of(given[0]))
        if word == "images":
            return show_value(switch.images_now())
        if word == "audit":
            return show_value(audit_of(switch, switch.chip_standing()))
        return show_value(changed(switch, word, given))


def changed(switch, word, given):
    """What the method of the switch returns that the word calls with these arguments."""
    if word == "mount":
        return switch.mount(*given)
    if word == "unmount":
        return switch.unmount(*given)
    if word == "exchange":
        return switch.exchange(*given)
    if word == "come":
        return switch.arrive(*given)
    return switch.move_to(*given) if word == "moveto" else switch.depart()
