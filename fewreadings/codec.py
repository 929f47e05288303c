"""Codes of weightings: lists of integers from 0 to 255, with a checksum at their end."""

from fewreadings.errors import DecodeError
from fewreadings.exact import whole_within
from fewreadings.weightings import FARTHEST, HEAVIEST, MOST_MASSES, MOST_STRETCHES, Weighting

MARK = 113
CHECK_START = 7
CHECK_FACTOR = 29
CHECK_MODULUS = 199


def checksum(items):
    """Return the checksum of the items of a code."""
    check = CHECK_START
    for item in items:
        check = (CHECK_FACTOR * check + item) % CHECK_MODULUS
    return check


def encode_weighting(weighting):
    """Return the code of a weighting."""
    items = [MARK, len(weighting.masses), len(weighting.stretches)]
    for place, mass in weighting.masses:
        items.extend([place + FARTHEST, mass])
    for low, high, height in weighting.stretches:
        items.extend([low + FARTHEST, high + FARTHEST, height])
    items.append(checksum(items))
    return items


def item_at(values, offset, low, high):
    """Return the item at an offset, or raise DecodeError if it is missing, or no integer from low to high."""
    if offset == len(values) or not whole_within(values[offset], low, high):
        raise DecodeError(offset)
    return values[offset]


def place_at(values, offset):
    """Return the place, the low or the high at an offset, or raise DecodeError."""
    return item_at(values, offset, 0, 2 * FARTHEST) - FARTHEST


def mass_at(values, offset):
    """Return the mass or the height at an offset, or raise DecodeError."""
    return item_at(values, offset, 1, HEAVIEST)


def decode_weighting(values):
    """Return the weighting of a code, or raise DecodeError or InvalidWeighting."""
    item_at(values, 0, MARK, MARK)
    many_masses = item_at(values, 1, 0, MOST_MASSES)
    many_stretches = item_at(values, 2, 0, MOST_STRETCHES)
    masses = []
    stretches = []
    offset = 3
    for _ in range(many_masses):
        masses.append((place_at(values, offset), mass_at(values, offset + 1)))
        offset += 2
    for _ in range(many_stretches):
        stretches.append((place_at(values, offset), place_at(values, offset + 1), mass_at(values, offset + 2)))
        offset += 3
    check = checksum(values[:offset])
    item_at(values, offset, check, check)
    if len(values) > offset + 1:
        raise DecodeError(offset + 1)
    return Weighting(tuple(masses), tuple(stretches))
