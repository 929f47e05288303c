"""Promises 5 and 6 of the third stage: codes of weightings, and lists that are none."""

import unittest

from fewreadings.codec import decode_weighting, encode_weighting
from fewreadings.errors import DecodeError, InvalidWeighting
from fewreadings.weightings import Weighting
from tests import oracle

FULL = Weighting(tuple((place, 20) for place in (-20, -7, 0, 3, 19, 20)),
                 ((-20, -10, 1), (-10, -9, 20), (0, 5, 3), (19, 20, 7)))
OTHER_KINDS = (True, False, None, "0", "1", (1,), [1], b"1")


def checked(items):
    """Return items with their checksum."""
    check = 7
    for item in items:
        check = (29 * check + item) % 199
    return list(items) + [check]


def coded(masses, stretches):
    items = [113, len(masses), len(stretches)]
    items += [number for place, mass in masses for number in (place + 20, mass)]
    items += [number for low, high, height in stretches for number in (low + 20, high + 20, height)]
    return checked(items)


def is_number(item, low, high):
    return type(item) is int and low <= item <= high


def wrong_offset(values):
    """Return the offset of the first item that can not stand where it stands, or is missing, None if there is none."""
    ranges = [(113, 113), (0, 6), (0, 4)]
    if all(is_number(item, *ends) for item, ends in zip(values, ranges)) and len(values) >= 3:
        ranges += [(0, 40), (1, 20)] * values[1] + [(0, 40), (0, 40), (1, 20)] * values[2]
    for offset, ends in enumerate(ranges):
        if offset == len(values) or not is_number(values[offset], *ends):
            return offset
    right = checked(values[:len(ranges)])
    for offset in range(len(ranges), max(len(values), len(right))):
        if offset == len(values) or offset == len(right) or not is_number(values[offset], right[-1], right[-1]):
            return offset
    return None


class EncodeTest(unittest.TestCase):
    def test_codes(self):
        self.assertEqual(encode_weighting(Weighting(((0, 2),), ())), [113, 1, 0, 20, 2, 12])
        self.assertEqual(encode_weighting(Weighting((), ((-20, 20, 20),)))[:-1], [113, 0, 1, 0, 40, 20])
        self.assertEqual(encode_weighting(FULL)[:-1],
                         [113, 6, 4, 0, 20, 13, 20, 20, 20, 23, 20, 39, 20, 40, 20,
                          0, 10, 1, 10, 11, 20, 20, 25, 3, 39, 40, 7])
        self.assertEqual(len(encode_weighting(FULL)), 28)

    def test_they_lead_back(self):
        source = oracle.source_of(81)
        for _ in range(200):
            masses, stretches = oracle.some_weighting(source)
            weighting = Weighting(masses, stretches)
            values = encode_weighting(weighting)
            self.assertEqual(values, coded(masses, stretches))
            self.assertTrue(all(is_number(item, 0, 255) for item in values))
            kept = list(values)
            found = decode_weighting(values)
            self.assertEqual((found.masses, found.stretches), (masses, stretches))
            self.assertEqual(values, kept)
            self.assertEqual(encode_weighting(found), values)

    def test_lists_are_free(self):
        values = encode_weighting(FULL)
        wanted = list(values)
        found = decode_weighting(values)
        values.clear()
        self.assertEqual(found, FULL)
        self.assertEqual(encode_weighting(FULL), wanted)
        self.assertIsNot(encode_weighting(FULL), encode_weighting(FULL))
        self.assertIs(type(encode_weighting(FULL)), list)


class WrongCodeTest(unittest.TestCase):
    def check_offset(self, values, offset):
        kept = list(values)
        with self.subTest(values=values):
            with self.assertRaises(DecodeError) as caught:
                decode_weighting(values)
            self.assertIs(type(caught.exception), DecodeError)
            self.assertEqual(caught.exception.offset, offset)
            self.assertEqual(values, kept)

    def check_weighting(self, values, part, index):
        with self.subTest(values=values):
            with self.assertRaises(InvalidWeighting) as caught:
                decode_weighting(values)
            self.assertEqual((caught.exception.part, caught.exception.index), (part, index))

    def check_as_told(self, values):
        """Check a list by the offset that is told for it, or that it is a code, perhaps of no weighting."""
        offset = wrong_offset(values)
        if offset is not None:
            self.check_offset(values, offset)
            return
        try:
            self.assertEqual(encode_weighting(decode_weighting(values)), values)
        except InvalidWeighting:
            pass

    def test_known_offsets(self):
        for values, offset in (([], 0), ([112], 0), ([114, 1], 0), ([113], 1), ([113, 7], 1), ([113, -1], 1),
                               ([113, 6], 2), ([113, 0, 5], 2), ([113, 0, -1], 2), ([113, 7, 5], 1), ([113, 1, 0], 3),
                               ([113, 1, 0, 41], 3), ([113, 1, 0, -1], 3), ([113, 1, 0, 0], 4), ([113, 1, 0, 20, 0], 4),
                               ([113, 1, 0, 20, 21], 4), ([113, 1, 0, 20, 2], 5), ([113, 1, 0, 20, 2, 13], 5),
                               ([113, 1, 0, 20, 2, 12, 0], 6), ([113, 1, 0, 20, 2, 12, 12], 6),
                               ([113, 1, 0, 20, 2, 211], 5), ([113, 1, 0, 20, 2, -187], 5),
                               ([113, 1, 0, 20, 2, 11, 0], 5),
                               ([113, 0, 1, 20, 41, 1], 4), ([113, 0, 1, 41, 20, 1], 3), ([113, 0, 1, 20, 21, 0], 5),
                               ([113, 0, 1, 20, 21, 21], 5), ([0], 0), ([255], 0)):
            self.check_offset(values, offset)
            self.assertEqual(wrong_offset(values), offset)

    def test_every_item_changed(self):
        for weighting in (FULL, Weighting(((0, 2),), ()), Weighting((), ((-1, 1, 3),)),
                          Weighting(((3, 4),), ((3, 5, 1),))):
            values = encode_weighting(weighting)
            for offset in range(len(values)):
                for item in (*range(-2, 258), *OTHER_KINDS):
                    changed = list(values)
                    changed[offset] = item
                    self.check_as_told(changed)

    def test_items_lacking(self):
        for weighting in (FULL, Weighting(((0, 2),), ((-1, 1, 3),))):
            values = encode_weighting(weighting)
            for length in range(len(values)):
                self.check_offset(values[:length], length)
                without = values[:length] + values[length + 1:]
                self.check_as_told(without)

    def test_items_too_many(self):
        values = encode_weighting(FULL)
        for more in ([0], [values[-1]], [0, 0], [True], [None], [256, -1], ["x"]):
            self.check_offset(values + more, len(values))
        for offset in range(len(values) + 1):
            for item in (0, 1, 20, 113, 300):
                self.check_as_told(values[:offset] + [item] + values[offset:])

    def test_seventh_mass_and_fifth_stretch(self):
        seven = [113, 7, 0] + [number for place in range(7) for number in (place, 1)]
        five = [113, 0, 5] + [number for low in range(5) for number in (low, low + 1, 1)]
        self.check_offset(checked(seven), 1)
        self.check_offset(checked(five), 2)

    def test_booleans(self):
        # The checksum of these items is 1, for which a boolean does not stand.
        items = next([113, 1, 0, place, mass] for place in range(41) for mass in range(1, 21)
                     if checked([113, 1, 0, place, mass])[-1] == 1)
        self.assertEqual(encode_weighting(decode_weighting(items + [1])), items + [1])
        self.check_offset(items + [True], 5)
        self.check_offset([113, True, 0, 20, 2, 12], 1)
        self.check_offset([113, 1, False, 20, 2, 12], 2)

    def test_weightings_behind(self):
        for masses, stretches, part, index in (((), (), 2, 0), (((1, 1), (0, 1)), (), 0, 1),
                                               (((1, 1), (1, 2)), (), 0, 1),
                                               ((), ((1, 1, 1),), 1, 0), ((), ((1, 0, 1),), 1, 0),
                                               ((), ((0, 3, 1), (2, 4, 1)), 1, 1),
                                               (((2, 1), (1, 1)), ((1, 0, 1),), 0, 1),
                                               (((1, 1),), ((0, 1, 1), (1, 2, 1), (0, 1, 1)), 1, 2)):
            values = coded(masses, stretches)
            self.check_weighting(values, part, index)
            # What is wrong with the list is told first.
            self.check_offset(values[:-1], len(values) - 1)
            self.check_offset(values + [0], len(values))
            self.check_offset(values[:-1] + [(values[-1] + 1) % 199], len(values) - 1)

    def test_changed_lists(self):
        source = oracle.source_of(82)
        for _ in range(500):
            values = coded(*oracle.some_weighting(source))
            for _ in range(source.randint(1, 3)):
                at = source.randrange(len(values) + 1)
                item = source.choice((0, 1, 4, 6, 7, 20, 40, 41, 113, 256, -1, True))
                values[at:at + source.randint(0, 1)] = [item] * source.randint(0, 1)
            self.check_as_told(values)
            if source.randint(0, 1):
                self.check_as_told(values[:source.randrange(len(values) + 1)])


if __name__ == "__main__":
    unittest.main()
