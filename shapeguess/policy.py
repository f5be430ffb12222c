"""Drivers, which make choices for engines by a rule (S10.9 to S10.11)."""

from shapeguess.choices import can_do
from shapeguess.errors import BadChoice, NoVersion, TooLong
from shapeguess.values import is_number


class Driver:
    """A twin of an engine, two numbers, and a maker of versions."""

    def __init__(self, engine, warm, backs, maker):
        self._engine = engine.twin()
        self._warm = warm
        self._backs = backs
        self._maker = maker
        # For each own version: the number of its goings back.
        self._goings = {}
        # For each function: the rises of its cells when a version of it was put in, or at the beginning.
        self._kept = {name: engine.rises(name) for name in engine.program().names()}

    def go(self):
        """Make the next choice and return it."""
        if self._engine.end() is not None:
            raise BadChoice()
        choice = self._next_choice()
        before = self._engine.frames()
        number = self._engine.do(choice)
        if choice[0] == "put":
            self._goings[number] = 0
            name = choice[1].function()
            self._kept[name] = self._engine.rises(name)
        elif choice[0] == "step":
            self._count_going_back(before)
        return choice

    def run(self, limit):
        """Make choices until there is an end; return the list of them."""
        made = []
        while self._engine.end() is None:
            if len(made) >= limit:
                raise TooLong(limit)
            made.append(self.go())
        return made

    def engine(self):
        """Return a twin of the engine."""
        return self._engine.twin()

    def own(self):
        """Return the ascending list of the numbers of the own versions."""
        return list(self._goings)

    def goings_back(self, v):
        """Return the number of goings back of an own version, whose number may be anything."""
        if not is_number(v) or v not in self._goings:
            raise NoVersion(v)
        return self._goings[v]

    def _next_choice(self):
        """Return the next choice by the rule."""
        for v in self.own():
            if self._goings[v] > self._backs and can_do(self._engine, ("throw", v)):
                return ("throw", v)
        innermost = self._engine.frames()[-1]
        if innermost[0] == "plain":
            _, function, row = innermost
            choice = self._entering(function, row)
            if choice is None and row == 0:
                choice = self._putting(function)
            if choice is not None:
                return choice
        return ("step",)

    def _entering(self, function, row):
        """Return the choice to enter the greatest own version that a plain frame at a row can enter, or None."""
        versions = self._engine.versions()
        for v in self.own()[::-1]:
            if versions[v][0].function() == function:
                for k, point in enumerate(versions[v][0].points()):
                    # Most points stand at other rows, which is seen sooner here.
                    if point[0] == row and can_do(self._engine, ("enter", v, k)):
                        return ("enter", v, k)
        return None

    def _putting(self, function):
        """Return the choice to put in what the maker makes of a function whose cells rose enough, or None."""
        if self._engine.rises(function) < self._kept[function] + self._warm:
            return None
        maker = self._maker
        made = maker(self._engine.twin(), function)
        return None if made is None else ("put", made[0], made[1])

    def _count_going_back(self, before):
        """Count a going back if a step led the frame that was the innermost one from an own version to plain rows."""
        innermost = before[-1]
        after = self._engine.frames()
        if innermost[0] != "point" or innermost[1] not in self._goings or len(after) < len(before):
            return
        if after[len(before) - 1][0] == "plain":
            self._goings[innermost[1]] = self._goings[innermost[1]] + 1
