"""Balances: weightings that are worked on, with all that is done undone again at will."""

from fewreadings.errors import (InvalidMass, InvalidMove, InvalidName, InvalidOperation, InvalidStretch,
                                InvalidWeighting, NoMass, NothingLeft, UnknownKept)
from fewreadings.exact import whole_within
from fewreadings.weightings import FARTHEST, Weighting, is_place, joined, mean, moved, power_sum

LONGEST_NAME = 8


class Moment:
    """What there is behind an operation; no moment is ever changed, so that each can be returned to."""

    def __init__(self, weighting, kept, operation, ahead):
        self.weighting = weighting
        self.kept = kept
        self.operation = operation
        self.ahead = ahead


def with_mass(moment, place, mass):
    """Return the weighting and what is kept with a mass more, and how much lies at its place then."""
    try:
        weighting = joined(moment.weighting, Weighting(((place, mass),), ()))
    except InvalidWeighting:
        raise InvalidMass("no place, no mass, or too much") from None
    return weighting, moment.kept, dict(weighting.masses)[place]


def with_stretch(moment, low, high, height):
    """Return the weighting and what is kept with a stretch more, and how many there are then."""
    try:
        weighting = joined(moment.weighting, Weighting((), ((low, high, height),)))
    except InvalidWeighting:
        raise InvalidStretch("no stretch, one over another one, or too many") from None
    return weighting, moment.kept, len(weighting.stretches)


def without_mass(moment, place):
    """Return the weighting and what is kept without the mass at a place, and that mass."""
    masses = dict(moment.weighting.masses)
    # Without the first test a boolean would find the mass at 0 or 1.
    if not is_place(place) or place not in masses:
        raise NoMass("no mass at the place")
    mass = masses[place]
    rest = tuple([(other, much) for other, much in moment.weighting.masses if other != place])
    stretches = moment.weighting.stretches
    if len(rest) == 0 and len(stretches) == 0:
        raise NothingLeft("the only mass, and no stretch")
    return Weighting(rest, stretches), moment.kept, mass


def shifted(moment, shift):
    """Return the weighting that is moved and what is kept, and its sum of the power 1."""
    if not whole_within(shift, -2 * FARTHEST, 2 * FARTHEST):
        raise InvalidMove("no integer, or too far for any place")
    try:
        weighting = moved(moment.weighting, shift)
    except InvalidWeighting:
        raise InvalidMove("out of the line") from None
    return weighting, moment.kept, power_sum(weighting, 1)


def is_name(name):
    """Tell whether something can be kept under a name."""
    return (isinstance(name, str) and 1 <= len(name) <= LONGEST_NAME
            and all(["a" <= letter <= "z" for letter in name]))


def with_kept(moment, name):
    """Return the weighting and what is kept with it under a name, and whether something was before."""
    if not is_name(name):
        raise InvalidName("not one to eight letters a to z")
    return moment.weighting, {**moment.kept, name: moment.weighting}, name in moment.kept


def fetched(moment, name):
    """Return the weighting that is kept under a name and what is kept, and its sum of the power 0."""
    if not is_name(name) or name not in moment.kept:
        raise UnknownKept("nothing is kept under the name")
    weighting = moment.kept[name]
    return weighting, moment.kept, power_sum(weighting, 0)


ACTIONS = {"add": with_mass, "lay": with_stretch, "lift": without_mass, "move": shifted, "keep_as": with_kept,
           "fetch": fetched}
ARGUMENTS = {"add": 2, "lay": 3, "lift": 1, "move": 1, "keep_as": 1, "fetch": 1, "undo": 0, "redo": 0}


def is_operation(operation):
    """Tell whether something is the name of an operation, of undo or of redo, and its arguments."""
    if not isinstance(operation, tuple) or len(operation) == 0 or not isinstance(operation[0], str):
        return False
    return ARGUMENTS.get(operation[0], -1) == len(operation) - 1


class Trial:
    """A block at whose end a balance is as it was at its beginning, unless the trial is held."""

    def __init__(self, balance):
        self._balance = balance
        self._now = None
        self._undone = ()

    def __enter__(self):
        self._now = self._balance._now
        self._undone = self._balance._undone
        return self

    def hold(self):
        """Keep what the block changes."""
        self._now = None

    def __exit__(self, kind, value, trace):
        balance = self._balance
        if self._now is None:
            return
        balance._now = self._now
        balance._undone = self._undone


class Balance:
    """A weighting that is worked on."""

    def __init__(self, weighting):
        # The present moment, which leads to all moments ahead of it, and those that were undone, the last one first.
        self._now = Moment(weighting, {}, (), None)
        self._undone = ()

    @property
    def weighting_now(self):
        """The weighting as it is now."""
        return self._now.weighting

    @property
    def whole_now(self):
        """The sum of the power 0 as it is now."""
        return power_sum(self._now.weighting, 0)

    @property
    def mean_now(self):
        """The mean of the polynomial x as it is now."""
        return mean(self._now.weighting, (0, 1))

    @property
    def kept_under(self):
        """The ascending list of all names under which something is kept."""
        return sorted(self._now.kept)

    @property
    def history(self):
        """The list of all operations in effect, in their order."""
        found = []
        moment = self._now
        while moment.ahead is not None:
            found.append(moment.operation)
            moment = moment.ahead
        return found[::-1]

    def _executed(self, operation):
        """Execute an operation other than undo and redo, and return its result."""
        word, *arguments = operation
        action = ACTIONS[word]
        weighting, kept, result = action(self._now, *arguments)
        self._now = Moment(weighting, kept, operation, self._now)
        self._undone = ()
        return result

    def add(self, place, mass):
        """Add a mass at a place, and return how much lies there then."""
        return self._executed(("add", place, mass))

    def lay(self, low, high, height):
        """Lay a stretch among the others, and return how many there are then."""
        return self._executed(("lay", low, high, height))

    def lift(self, place):
        """Take the mass at a place away, and return it."""
        return self._executed(("lift", place))

    def move(self, shift):
        """Move all places so much further, and return the sum of the power 1 then."""
        return self._executed(("move", shift))

    def keep_as(self, name):
        """Keep all that there is under a name, and return whether something was kept under it before."""
        return self._executed(("keep_as", name))

    def fetch(self, name):
        """Return to what was kept under a name, and return the sum of the power 0 then."""
        return self._executed(("fetch", name))

    def undo(self):
        """Undo the last operation in effect, and return whether there was one."""
        moment = self._now
        if moment.ahead is None:
            return False
        self._now = moment.ahead
        self._undone = (moment, *self._undone)
        return True

    def redo(self):
        """Execute the operation that was undone last once more, and return whether there was one."""
        if len(self._undone) == 0:
            return False
        self._now = self._undone[0]
        self._undone = self._undone[1:]
        return True

    def _done(self, operation):
        """Execute an operation, undo and redo among them, and return its result."""
        if operation[0] == "undo":
            return self.undo()
        if operation[0] == "redo":
            return self.redo()
        return self._executed(operation)

    def apply_all(self, operations):
        """Execute all operations of a list or, if one raises an error, none, and return their results."""
        for index, operation in enumerate(operations):
            if not is_operation(operation):
                raise InvalidOperation(index)
        with Trial(self) as trial:
            results = [self._done(operation) for operation in operations]
            trial.hold()
        return results

    @classmethod
    def replay(cls, weighting, operations):
        """Return a balance of a weighting after a list of operations."""
        balance = cls(weighting)
        balance.apply_all(operations)
        return balance

    def tried_out(self, operations, keep):
        """Execute a list of operations, return their results, and take all back unless it is to be kept."""
        with Trial(self) as trial:
            results = self.apply_all(operations)
            if keep is True:
                trial.hold()
        return results
