"""[18] to [21]: shares, their means and chances, and told means, with the conventions of [2]."""

import random
import unittest
from fractions import Fraction

from helpers import ANY_VALUES, NO_RATIOS, are_told, check_error, fraction, in_any_terms, is_told, pair, picture
from questions import (KINDS, NO_BITS, check_share, mean_by, missed_by, some_function_on, some_question, some_share_on,
                       told_around)
from toldmeans.broken import Broken, closed_step, constant, open_step
from toldmeans.errors import BadNumber, BadRow, Unlike
from toldmeans.polys import Poly
from toldmeans.shares import (Share, Told, chance, chance_between, fits, mean, medians, missed, mixed, moved)

X = Poly((0, 1))
HALF = (1, 2)
TINY = Fraction(1, 10 ** 12)


def tolds_of(share):
    return dict(zip((fraction(place) for place in share.places), (fraction(part) for part in share.parts)))


def some_shares(seed, many, low=-2, high=3):
    source = random.Random(seed)
    return [some_share_on(source, Fraction(low), Fraction(high), 1 + k % 12) for k in range(many)]


class ShareTest(unittest.TestCase):
    def test_attributes(self):
        share = Share([[-2, 4], 0, (6, 4)], ((1, 4), [2, 8], HALF))
        self.assertEqual(share.places, ((-1, 2), (0, 1), (3, 2)))
        self.assertEqual(share.parts, ((1, 4), (1, 4), (1, 2)))
        self.assertEqual(list(vars(share)), ["places", "parts"])
        check_share(self, share, Fraction(-1, 2), Fraction(3, 2))
        one = Share((10 ** 40,), [1])
        self.assertEqual((one.places, one.parts), (((10 ** 40, 1),), ((1, 1),)))

    def test_equality(self):
        share = Share((0, 1), (HALF, HALF))
        self.assertTrue(share == Share([(0, 3), [2, 2]], ([2, 4], (3, 6))))
        for other in (Share((0, 2), (HALF, HALF)), Share((0, 1), ((1, 3), (2, 3))), Share((0,), (1,)), None, 0,
                      ((0, 1), (1, 1)), Told(constant(0, 1, 0), 0, 0), constant(0, 1, 0)):
            self.assertFalse(share == other)
            self.assertTrue(share != other)

    def test_wrong_places(self):
        for places in (5, None, True, 0.5, "", "0", b"1", {}, set(), object, [0, 0], [1, 0], (0, HALF, [1, 2]),
                       ((1, 3), (1, 4)), [0, None], [0, 1, 0.5], ((1, 0),), [True], [(1, -2)], (((1, 2), 3),)):
            check_error(self, BadRow, {"row": places}, Share, places, (1,))
        for places in ((), [], [1, 1], [0, True], {0: 1}, range(2), "01"):
            check_error(self, BadRow, {"row": places}, Share, places, [HALF, HALF])

    def test_wrong_parts(self):
        for parts in ((), (1,), [HALF, [1, 3]], (HALF, (499999, 10 ** 6)), (1, 0), (2, -1), [HALF, HALF, 0], None, 1,
                      HALF, (0, 1), (HALF, True), (HALF, None), (0.5, 0.5), {0: 1}, [HALF, (1, 0)], "ab",
                      ((1, 2), pair(Fraction(1, 2) + TINY))):
            check_error(self, BadRow, {"row": parts}, Share, (0, 1), parts)
        check_error(self, BadRow, {"row": ()}, Share, (), None)

    def test_mean(self):
        source = random.Random(1)
        for k, share in enumerate(some_shares(2, 60)):
            f = some_function_on(source, Fraction(-2), Fraction(3), KINDS[k % 3], 4, 5)
            before = picture((share, f))
            found = mean(share, f)
            self.assertTrue(is_told(found))
            self.assertEqual(fraction(found), mean_by(share, f))
            self.assertEqual(picture((share, f)), before)

    def test_mean_takes_the_numbers_at_knots(self):
        f = Broken((0, 1, 2), (Poly((1,)), Poly((3,))), (7, -8, 9))
        self.assertEqual(mean(Share((1,), (1,)), f), (-8, 1))
        self.assertEqual(mean(Share((0, HALF, 1, (3, 2), 2), [(1, 5)] * 5), f), (12, 5))

    def test_a_place_off_the_stretch(self):
        f = constant(0, 1, 4)
        self.assertEqual(mean(Share((0, 1), (HALF, HALF)), f), (4, 1))
        for places in ((pair(-TINY), 1), (0, pair(1 + TINY)), (-5, 7)):
            check_error(self, Unlike, {"what": "place"}, mean, Share(places, (HALF, HALF)), f)
        check_error(self, Unlike, {"what": "place"}, mean, Share((2,), (1,)), f)


class ChanceTest(unittest.TestCase):
    def test_chances(self):
        source = random.Random(3)
        for share in some_shares(4, 60):
            known = tolds_of(share)
            ends = sorted(source.choice(sorted(known) + [Fraction(-9), Fraction(9), Fraction(source.randint(-20, 30), 10)])
                          for _ in range(2))
            low, high = in_any_terms(source, ends[0]), in_any_terms(source, ends[1])
            closed, between = chance(share, low, high), chance_between(share, low, high)
            self.assertTrue(is_told(closed) and is_told(between))
            self.assertEqual(fraction(closed), sum(part for place, part in known.items() if ends[0] <= place <= ends[1]))
            self.assertEqual(fraction(between), sum(part for place, part in known.items() if ends[0] < place < ends[1]))

    def test_chances_of_one_place(self):
        share = Share((0, 1, 2), ((1, 4), (1, 4), HALF))
        self.assertEqual(chance(share, 1, 1), (1, 4))
        self.assertEqual(chance(share, 1, (5, 5)), (1, 4))
        self.assertEqual(chance_between(share, 1, 1), (0, 1))
        self.assertEqual(chance(share, HALF, HALF), (0, 1))
        self.assertEqual(chance(share, 0, 2), (1, 1))
        self.assertEqual(chance_between(share, 0, 2), (1, 4))
        self.assertEqual(chance_between(share, -1, 3), (1, 1))

    def test_wrong_ends(self):
        share = Share((0, 1), (HALF, HALF))
        for call in (chance, chance_between):
            for value in NO_RATIOS:
                check_error(self, BadNumber, {"what": "low", "number": value}, call, share, value, 1)
                check_error(self, BadNumber, {"what": "low", "number": value}, call, share, value, value)
                check_error(self, BadNumber, {"what": "high", "number": value}, call, share, 0, value)
            for low, high in ((1, 0), (0, pair(-TINY)), ((1, 2), [1, 3])):
                check_error(self, BadNumber, {"what": "high", "number": high}, call, share, low, high)


class MediansTest(unittest.TestCase):
    def test_by_what_a_median_is(self):
        for share in some_shares(5, 80):
            known = tolds_of(share)
            found = medians(share)
            self.assertTrue(are_told(found) and len(found) == 2)
            low, high = fraction(found[0]), fraction(found[1])

            def is_median(number):
                below = sum(part for place, part in known.items() if place <= number)
                above = sum(part for place, part in known.items() if place >= number)
                return below >= Fraction(1, 2) and above >= Fraction(1, 2)

            for number in sorted(known) + [low, high, (low + high) / 2, low - TINY, high + TINY]:
                self.assertEqual(is_median(number), low <= number <= high)

    def test_known_ones(self):
        self.assertEqual(medians(Share((3,), (1,))), ((3, 1), (3, 1)))
        self.assertEqual(medians(Share((0, 1), (HALF, HALF))), ((0, 1), (1, 1)))
        self.assertEqual(medians(Share((0, 1), ((51, 100), (49, 100)))), ((0, 1), (0, 1)))
        self.assertEqual(medians(Share((0, 1), ((49, 100), (51, 100)))), ((1, 1), (1, 1)))
        self.assertEqual(medians(Share((0, 1, 2, 3), [(1, 4)] * 4)), ((1, 1), (2, 1)))
        self.assertEqual(medians(Share((0, 1, 2), ((1, 4), HALF, (1, 4)))), ((1, 1), (1, 1)))


class MixedTest(unittest.TestCase):
    def test_mixtures(self):
        source = random.Random(6)
        for k in range(40):
            shares = source.sample(some_shares(k, 12), 1 + k % 8)
            parts = [source.randint(1, 5) for _ in shares]
            weights = [Fraction(part, sum(parts)) for part in parts]
            passed = source.choice((tuple, list))([in_any_terms(source, weight) for weight in weights])
            before = picture((shares, passed))
            found = mixed(source.choice((tuple, list))(shares), passed)
            check_share(self, found, -2, 3)
            wanted = {}
            for share, weight in zip(shares, weights):
                for place, part in tolds_of(share).items():
                    wanted[place] = wanted.get(place, 0) + weight * part
            self.assertEqual(tolds_of(found), wanted)
            self.assertEqual(picture((shares, passed)), before)

    def test_wrong_parts(self):
        share = Share((0, 1), (HALF, HALF))
        self.assertEqual(mixed([share], [1]), share)
        self.assertEqual(mixed((share, share), (HALF, [3, 6])), share)
        for parts in ((), (1,), (1, 0), (HALF, (1, 3)), None, 7, (HALF, None), (HALF, HALF, 0), (2, -1), [True, 0], "ab"):
            check_error(self, BadRow, {"row": parts}, mixed, (share, share), parts)

    def test_moved(self):
        source = random.Random(7)
        for share in some_shares(8, 40):
            factor, shift = Fraction(source.randint(-6, 6), 4), Fraction(source.randint(-9, 9), 7)
            found = moved(share, in_any_terms(source, factor), in_any_terms(source, shift))
            check_share(self, found, -99, 99)
            wanted = {}
            for place, part in tolds_of(share).items():
                wanted[factor * place + shift] = wanted.get(factor * place + shift, 0) + part
            self.assertEqual(tolds_of(found), wanted)

    def test_a_factor_of_0(self):
        found = moved(Share((0, 1, 2), ((1, 4), (1, 4), HALF)), (0, 5), [9, 6])
        self.assertEqual((found.places, found.parts), (((3, 2),), ((1, 1),)))

    def test_wrong_numbers(self):
        share = Share((0, 1), (HALF, HALF))
        for value in NO_RATIOS:
            check_error(self, BadNumber, {"what": "factor", "number": value}, moved, share, value, 1)
            check_error(self, BadNumber, {"what": "factor", "number": value}, moved, share, value, value)
            check_error(self, BadNumber, {"what": "shift", "number": value}, moved, share, 0, value)


PLAIN = Broken((0, 1, 2), (X, Poly((1,))), (0, 1, 1))
UPPER = closed_step(0, 2, 1, 1)
LOWER = open_step(0, 2, 1, 2)
NEITHER = Broken((0, 1, 2), (X, Poly((3,))), (0, 2, 3))


class ToldTest(unittest.TestCase):
    def test_attributes(self):
        for f, least, most in ((PLAIN, (1, 4), HALF), (PLAIN, None, 3), (PLAIN, [2, 4], None), (PLAIN, 1, (5, 5)),
                               (UPPER, (2, 6), None), (LOWER, None, [4, 6])):
            told = Told(f, least, most)
            self.assertEqual(list(vars(told)), ["function", "least", "most"])
            self.assertIs(told.function, f)
            self.assertEqual(told.least, None if least is None else pair(fraction(least)))
            self.assertEqual(told.most, None if most is None else pair(fraction(most)))
            self.assertTrue(told.least is None or is_told(told.least))
            self.assertTrue(told.most is None or is_told(told.most))
            self.assertFalse(told == Told(f, least, most))
            self.assertTrue(told == told)

    def test_a_function_of_no_kind(self):
        for least, most in ((0, 1), (None, None), ("a", "b"), (2, 1)):
            check_error(self, Unlike, {"what": "kind"}, Told, NEITHER, least, most)
            check_error(self, Unlike, {"what": "kind"}, Told, None, least, most)

    def test_wrong_least(self):
        for value in NO_RATIOS:
            if value is not None:
                for f in (PLAIN, UPPER, LOWER):
                    check_error(self, BadNumber, {"what": "least", "number": value}, Told, f, value, 1)
                    check_error(self, BadNumber, {"what": "least", "number": value}, Told, f, value, value)
        for most in (None, 0, "b"):
            check_error(self, BadNumber, {"what": "least", "number": (0, 3)}, Told, LOWER, (0, 3), most)

    def test_wrong_most(self):
        for value in NO_RATIOS:
            if value is not None:
                for f, least in ((PLAIN, 0), (PLAIN, None), (UPPER, 0), (LOWER, None)):
                    check_error(self, BadNumber, {"what": "most", "number": value}, Told, f, least, value)
        for least in (None, 0):
            check_error(self, BadNumber, {"what": "most", "number": 1}, Told, UPPER, least, 1)
        for least, most in ((1, 0), (HALF, pair(Fraction(1, 2) - TINY)), ([1, 3], [1, 4])):
            check_error(self, BadNumber, {"what": "most", "number": most}, Told, PLAIN, least, most)

    def test_no_bounds(self):
        for f in (PLAIN, UPPER, LOWER):
            check_error(self, Unlike, {"what": "bounds"}, Told, f, None, None)


class FitsTest(unittest.TestCase):
    def test_missed(self):
        source = random.Random(9)
        counts = [0, 0]
        for _ in range(150):
            low, high, rows = some_question(source, 6, 4)
            share = some_share_on(source, low, high, source.randint(1, 12))
            if source.random() < 0.4:
                rows = [told_around(source, row.function, mean_by(share, row.function), source.choice((0, 1))) for row in rows]
            before = picture((share, rows))
            found = missed(share, rows)
            self.assertTrue(is_told(found))
            self.assertEqual(fraction(found), missed_by(share, rows))
            self.assertIs(fits(share, rows), missed_by(share, rows) == 0)
            for bits in (None, 0, 1, 3, 60):
                gap = 0 if bits is None else Fraction(1, 2 ** bits)
                self.assertIs(fits(share, rows, bits), missed_by(share, rows) <= gap)
                self.assertIs(fits(share, rows, bits=bits), missed_by(share, rows) <= gap)
            self.assertEqual(picture((share, rows)), before)
            counts[fits(share, rows)] += 1
        self.assertGreater(min(counts), 30)

    def test_an_empty_row(self):
        share = Share((0, 7), (HALF, HALF))
        for rows in ((), []):
            self.assertEqual(missed(share, rows), (0, 1))
            self.assertIs(fits(share, rows), True)
            self.assertIs(fits(share, rows, 60), True)

    def test_just_at_a_bound_and_a_part_beyond(self):
        share = Share((0, 2), (HALF, HALF))
        f = Broken((0, 2), (X,), (0, 2))
        for least, most, wanted in ((1, 1, 0), (None, 1, 0), (1, None, 0), (1 + TINY, None, TINY), (None, 1 - TINY, TINY),
                                    (1 + TINY, 1 + TINY, TINY), (1 - TINY, 1 - TINY, TINY), (1 - TINY, 1 + TINY, 0)):
            rows = (Told(f, None if least is None else pair(least), None if most is None else pair(most)),)
            self.assertEqual(missed(share, rows), pair(wanted))
            self.assertIs(fits(share, rows), wanted == 0)
            self.assertIs(fits(share, rows, 39), True)
            self.assertIs(fits(share, rows, 40), wanted == 0)
        for bits in (0, 5, 60):
            gap = Fraction(1, 2 ** bits)
            for least, wanted in ((1 + gap, True), (1 + gap + TINY * gap, False), (1 + gap - TINY * gap, True)):
                self.assertIs(fits(share, [Told(f, pair(least), None)], bits), wanted)

    def test_errors_in_their_order(self):
        share = Share((0, 5), (HALF, HALF))
        one, other = Told(constant(0, 1, 0), 0, 0), Told(constant(0, 2, 0), 0, 0)
        more = Told(constant(-1, 1, 0), 0, 0)
        for rows in ((one, other), [one, one, more], (other, one)):
            check_error(self, Unlike, {"what": "stretch"}, missed, share, rows)
            check_error(self, Unlike, {"what": "stretch"}, fits, share, rows, -1)
        for bits in NO_BITS:
            if bits is not None:
                check_error(self, BadNumber, {"what": "bits", "number": bits}, fits, share, (one,), bits)
                check_error(self, BadNumber, {"what": "bits", "number": bits}, fits, share, (), bits)
        check_error(self, Unlike, {"what": "place"}, missed, share, (one, one))
        check_error(self, Unlike, {"what": "place"}, fits, share, [one], 60)
        check_error(self, Unlike, {"what": "place"}, fits, share, [one])

    def test_the_greatest_sizes(self):
        source = random.Random(10)
        share = some_share_on(source, Fraction(0), Fraction(36), 1)
        most = 10 ** 40 - 1
        places = sorted({Fraction(source.randint(0, most), most - 2) * 36 for _ in range(40)} - {Fraction(36)})
        parts = [Fraction(source.randint(1, most), most) for _ in places]
        share = Share([pair(min(place, Fraction(36))) for place in places], [pair(part / sum(parts)) for part in parts])
        rows = [told_around(source, f, mean_by(share, f), 0)
                for f in [some_function_on(source, Fraction(0), Fraction(36), kind, 6, 7) for kind in KINDS * 3]]
        self.assertEqual(missed(share, rows), (0, 1))
        self.assertEqual(tolds_of(mixed([share] * 8, [(1, 8)] * 8)), tolds_of(share))


class ValuesTest(unittest.TestCase):
    def test_no_share_or_told_equals_any_value(self):
        share, told = Share((0,), (1,)), Told(PLAIN, 0, 1)
        for value in ANY_VALUES:
            if value.__class__.__name__ != "Strange":
                self.assertFalse(share == value)
                self.assertFalse(told == value)
        self.assertFalse(share == told)


if __name__ == "__main__":
    unittest.main()
