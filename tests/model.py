"""A balance by the document's words: what it is now is always told from its beginning and the operations in effect."""

from fewreadings import errors
from tests import oracle


class Model:
    def __init__(self, masses, stretches):
        self.begun = (masses, stretches)
        self.effective = []
        self.undone = []

    def now(self):
        """Return masses, stretches and what is kept, after all operations in effect."""
        masses, stretches, kept = dict(self.begun[0]), list(self.begun[1]), {}
        for operation in self.effective:
            masses, stretches, kept, _ = after(masses, stretches, kept, operation)
        return masses, stretches, kept

    def execute(self, operation):
        if operation == ("undo",):
            if not self.effective:
                return False
            self.undone.append(self.effective.pop())
            return True
        if operation == ("redo",):
            if not self.undone:
                return False
            self.effective.append(self.undone.pop())
            return True
        *_, result = after(*self.now(), operation)
        self.effective.append(operation)
        self.undone = []
        return result

    def saved(self):
        return list(self.effective), list(self.undone)

    def restore(self, saved):
        self.effective, self.undone = list(saved[0]), list(saved[1])


def is_number(number, low, high):
    return type(number) is int and low <= number <= high


def after(masses, stretches, kept, operation):
    """Return masses, stretches and what is kept after an operation, and its result, or raise its error."""
    masses, stretches, kept = dict(masses), list(stretches), dict(kept)
    word, *arguments = operation
    if word == "add":
        place, mass = arguments
        if not is_number(place, -20, 20) or not is_number(mass, 1, 20):
            raise errors.InvalidMass
        masses[place] = masses.get(place, 0) + mass
        if masses[place] > 20 or len(masses) > 6:
            raise errors.InvalidMass
        return masses, stretches, kept, masses[place]
    if word == "lay":
        low, high, height = arguments
        if not (is_number(low, -20, 20) and is_number(high, -20, 20) and is_number(height, 1, 20)) or low >= high:
            raise errors.InvalidStretch
        if any(low < other[1] and other[0] < high for other in stretches) or len(stretches) == 4:
            raise errors.InvalidStretch
        stretches.append((low, high, height))
        return masses, sorted(stretches), kept, len(stretches)
    if word == "lift":
        place = arguments[0]
        if type(place) is not int or place not in masses:
            raise errors.NoMass
        if len(masses) == 1 and not stretches:
            raise errors.NothingLeft
        mass = masses.pop(place)
        return masses, stretches, kept, mass
    if word == "move":
        shift = arguments[0]
        if type(shift) is not int:
            raise errors.InvalidMove
        masses = {place + shift: mass for place, mass in masses.items()}
        stretches = [(low + shift, high + shift, height) for low, high, height in stretches]
        ends = list(masses) + [end for stretch in stretches for end in stretch[:2]]
        if min(ends) < -20 or max(ends) > 20:
            raise errors.InvalidMove
        return masses, stretches, kept, oracle.told(oracle.sum_of_power(masses.items(), stretches, 1))
    name = arguments[0]
    if word == "keep_as":
        if type(name) is not str or not 1 <= len(name) <= 8 or not set(name) <= set("abcdefghijklmnopqrstuvwxyz"):
            raise errors.InvalidName
        before = name in kept
        kept[name] = (dict(masses), list(stretches))
        return masses, stretches, kept, before
    if name not in kept:
        raise errors.UnknownKept
    masses, stretches = kept[name]
    return masses, stretches, kept, oracle.told(oracle.sum_of_power(masses.items(), stretches, 0))


def some_operation(source, likely):
    """Return an operation, with undo and redo among them; likely is how often of ten it is possible by itself."""
    word = source.choice(("add", "add", "add", "lay", "lay", "lift", "lift", "move", "keep_as", "fetch", "undo", "undo",
                          "redo"))
    well = source.randint(1, 10) <= likely
    if word == "add":
        if well:
            return word, source.randint(-4, 4), source.randint(1, 6)
        return word, source.choice((-21, -20, 0, 20, 21, True)), source.choice((0, -1, 1, 20, 21, True))
    if word == "lay":
        if well:
            low = source.randint(-8, 7)
            return word, low, low + source.randint(1, 3), source.randint(1, 20)
        return word, source.choice((-21, -3, 2, 20)), source.choice((-20, -1, 2, 21)), source.choice((0, 3, 21, True))
    if word == "lift":
        return word, source.randint(-4, 4) if well else source.choice((-30, 19, True, False))
    if word == "move":
        return word, source.randint(-2, 2) if well else source.choice((-41, -15, 15, 100, True, (1, 1)))
    if word in ("keep_as", "fetch"):
        return word, source.choice(("a", "b", "eightabc") if well else ("", "A", "ninenines", "a b", "c1", "zz"))
    return (word,)
