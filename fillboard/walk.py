"""The fillings of a puzzle, walked through in their order."""

from fillboard.lays import ALL_SQUARES, keep


class Step:
    """What may be laid in a state, how far it has been tried, and how many fillings came before."""

    def __init__(self, state, lays, before):
        self.state = state
        self.lays = lays
        self.tried = 0
        self.before = before


class Walk:
    """A walk from filling to filling.

    `passed` tells how many fillings have been passed, `found` holds those that were to be found, `used` the lays of
    those that have been passed.
    """

    def __init__(self, puzzle):
        self.puzzle = puzzle
        self.known = {}
        self.used = {}
        self.steps = []
        self.passed = 0
        self.found = []

    def walk_through(self, first, last):
        """Finds the fillings with the numbers from first to last, or those of them that there are."""
        self.steps = []
        self.passed = 0
        self.found = []
        if self.puzzle.hopeless:
            return
        self.enter(self.puzzle.start, first)
        while len(self.steps) > 0 and self.passed <= last:
            step = self.steps[-1]
            if step.tried < len(step.lays):
                lay = step.lays[step.tried]
                step.tried = step.tried + 1
                self.enter(step.state - lay.cost, first)
            else:
                self.leave()

    def enter(self, state, first):
        """Goes into a state, or past it if its number of fillings is known and none of them is to be found."""
        if state & ALL_SQUARES == 0:
            if self.passed >= first:
                self.found.append([step.lays[step.tried - 1] for step in self.steps])
            self.passed = self.passed + 1
            self.mark_last()
            return
        number = self.known.get(state)
        if number is None or (number > 0 and self.passed + number > first):
            lays = self.puzzle.lays_next(state)
            if len(lays) > 0:
                self.steps.append(Step(state, lays, self.passed))
        elif number > 0:
            self.passed = self.passed + number
            self.mark_last()

    def leave(self):
        """Goes back from a state in which all has been tried."""
        step = self.steps.pop()
        number = self.passed - step.before
        keep(self.known, step.state, number)
        if number > 0:
            self.mark_last()

    def mark_last(self):
        """Marks what was laid last as used in a filling."""
        if len(self.steps) > 0:
            step = self.steps[-1]
            lay = step.lays[step.tried - 1]
            self.used[(lay.piece, lay.squares)] = lay


def lays_without_rivals(filling, used):
    """Those lays of a filling that share no square with another lay of any filling.

    They are in every filling: one without such a lay would cover its squares with others.
    """
    found = []
    for lay in filling:
        sharing = [other for other in used if other.squares & lay.squares != 0]
        if len(sharing) == 1:
            found.append(lay)
    return found
