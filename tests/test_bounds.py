import random
import unittest

from surelyread.best import best
from surelyread.bounds import all_bounds, certifies, right
from surelyread.errors import PageError, TooMany
from surelyread.grammars import parse_grammar
from surelyread.needs import needed, spots
from surelyread.strips import is_strip
from tests.brute import (
    NO_WISHES, all_allowed, cases, cost_of_rest, extent_of, is_allowed, leaf_cost_of, least_of,
    looks_of, machine_of, needed_of, piece_of, ranked, readings, regions_of_rest, rests)

INK = parse_grammar("plain w white; plain b black cost 1; across page = (w 1 to 3 | b 1)*;")
PAGE = (2, 0, 0, 2, 1)
ROWS = ("#.",)

# 0 w, 1 s (2 wide, 2 high), 2 line, 3 page
SHAPES = parse_grammar('plain w white cost 2; shape s cost 1 { "##" "#." } across line = (s cost 1 | w 1 to 3)*;'
                       " down page = (line 2 cost 3 | w 1)*;")


def bounds_of(parts, region, rows, wishes):
    """All bounds, told by all readings and all rests."""
    found = []
    for one in sorted(needed_of(parts, region)):
        pairs = ranked(parts, one, rows, wishes)
        found.append(one + (None, None, pairs[0][0] if pairs else None))
        if is_strip(parts[one[0]]):
            for state, offset in sorted(looks_of(parts, one)[0], key=lambda spot: (spot[1], spot[0])):
                told = [cost_of_rest(parts, one, offset, rest, rows)
                        for rest in rests(parts, one, state, offset)
                        if all_allowed(parts, regions_of_rest(parts, one, offset, rest), wishes)]
                found.append(one + (state, offset, min(told, default=None)))
    return found


def greater(one, other):
    """Whether one is greater than the other, None being greater than each number."""
    return other is not None and (one is None or one > other)


def is_right(parts, rows, wishes, bounds, bound):
    """Whether a bound of a list is right, told as the document tells it."""
    def told(region, state, offset):
        for one in bounds:
            if one[:7] == region + (state, offset):
                return one[7]
        return 0

    region, (state, offset, least) = bound[:5], bound[5:]
    part = parts[region[0]]
    if not is_strip(part):
        if state is not None or not is_allowed(parts, region, wishes) or not readings(parts, region):
            return True
        return not greater(least, leaf_cost_of(parts, region, rows))
    if state is None:
        return not is_allowed(parts, region, wishes) or not greater(least, told(region, 0, 0))
    ends, moves = machine_of(parts, region[0])
    end = extent_of(parts, region)
    if state >= len(ends) or offset > end:
        return True
    if offset == end and ends[state] and least != 0:
        return False
    for origin, target, inner, smallest, most, price in moves:
        for size in range(smallest, most + 1):
            if origin == state and offset + size <= end:
                terms = (price, told(piece_of(parts, region, offset, size, inner), None, None),
                         told(region, target, offset + size))
                if greater(least, None if None in terms else sum(terms)):
                    return False
    return True


def are_right(parts, rows, wishes, bounds):
    return all(is_right(parts, rows, wishes, bounds, bound) for bound in bounds)


class AllBounds(unittest.TestCase):
    def check(self, parts, region, rows, wishes, expected):
        with self.subTest(region=region, rows=rows, wishes=wishes):
            found = all_bounds(parts, region, rows, wishes)
            self.assertEqual(found, expected)
            self.assertIs(type(found), list)

    def test_example_of_the_document(self):
        parts = parse_grammar("plain w white; across page = w 1;")
        region = (1, 0, 0, 1, 1)
        bounds = [(0, 0, 0, 1, 1, None, None, 1), (1, 0, 0, 1, 1, None, None, 1),
                  (1, 0, 0, 1, 1, 0, 0, 1), (1, 0, 0, 1, 1, 1, 1, 0)]
        self.check(parts, region, ("#",), NO_WISHES, bounds)
        self.assertIs(certifies(parts, region, ("#",), NO_WISHES, bounds, 1), True)

    def test_leaves(self):
        self.check(INK, (0, 0, 0, 2, 1), ROWS, NO_WISHES, [(0, 0, 0, 2, 1, None, None, 1)])
        self.check(INK, (1, 1, 0, 2, 1), ROWS, NO_WISHES, [(1, 1, 0, 2, 1, None, None, 3)])
        self.check(INK, (1, 1, 0, 2, 1), ROWS, ((), ((1, 1, 0, 2, 1),)), [(1, 1, 0, 2, 1, None, None, None)])
        self.check(SHAPES, (1, 0, 0, 2, 2), ROWS, NO_WISHES, [(1, 0, 0, 2, 2, None, None, 3)])
        self.check(SHAPES, (1, 0, 0, 2, 1), ROWS, NO_WISHES, [(1, 0, 0, 2, 1, None, None, None)])

    def test_a_strip(self):
        leaves = [(0, 0, 0, 1, 1, None, None, 1), (0, 0, 0, 2, 1, None, None, 1),
                  (0, 1, 0, 1, 1, None, None, 0), (1, 0, 0, 1, 1, None, None, 1),
                  (1, 1, 0, 1, 1, None, None, 2)]
        strip = [PAGE + (None, None, 1), PAGE + (0, 0, 1), PAGE + (0, 1, 0), PAGE + (0, 2, 0)]
        self.check(INK, PAGE, ROWS, NO_WISHES, leaves + strip)

    def test_wishes(self):
        leaves = [(0, 0, 0, 1, 1, None, None, 1), (0, 0, 0, 2, 1, None, None, None),
                  (0, 1, 0, 1, 1, None, None, None), (1, 0, 0, 1, 1, None, None, 1),
                  (1, 1, 0, 1, 1, None, None, 2)]
        # A forbidden strip has no reading, but its spots have rests.
        strip = [PAGE + (None, None, None), PAGE + (0, 0, 3), PAGE + (0, 1, 2), PAGE + (0, 2, 0)]
        self.check(INK, PAGE, ROWS, (((1, 1, 0, 1, 1),), (PAGE,)), leaves + strip)

    def test_strips_in_strips_and_spots_without_a_rest(self):
        bounds = all_bounds(SHAPES, (3, 0, 0, 2, 3), ("##", "#.", ".."), NO_WISHES)
        self.assertEqual([bound[:7] for bound in bounds if bound[0] == 1], [
            (1, 0, 0, 2, 2, None, None), (1, 0, 1, 2, 2, None, None)])
        self.assertEqual([bound for bound in bounds if bound[:5] == (2, 0, 1, 2, 2)], [
            (2, 0, 1, 2, 2, None, None, 3), (2, 0, 1, 2, 2, 0, 0, 3), (2, 0, 1, 2, 2, 0, 1, 2),
            (2, 0, 1, 2, 2, 0, 2, 0)])
        parts = parse_grammar('shape s { "##" } across page = (s, s), s?;')
        self.check(parts, (1, 0, 0, 5, 1), ("#####",), NO_WISHES, [
            (0, 0, 0, 2, 1, None, None, 0), (0, 2, 0, 2, 1, None, None, 0),
            (1, 0, 0, 5, 1, None, None, None), (1, 0, 0, 5, 1, 0, 0, None), (1, 0, 0, 5, 1, 1, 2, None),
            (1, 0, 0, 5, 1, 2, 4, None)])

    def test_against_all_readings_and_rests(self):
        for parts, region, rows, wishes in cases(61, 60, limit=60):
            for told in (NO_WISHES, wishes, (wishes[0], wishes[1] + (region,))):
                self.check(parts, region, rows, told, bounds_of(parts, region, rows, told))

    def count(self, parts, region):
        return sum(1 + (len(spots(parts, one)) if is_strip(parts[one[0]]) else 0)
                   for one in needed(parts, region))

    def test_1500_bounds(self):
        parts = parse_grammar("plain w white; plain b black; across line = (w 1 | b 1)*; down page = (line | w 1)*;")
        region = (3, 0, 0, 4, 14)
        self.assertEqual(self.count(parts, region), 1500)
        told = all_bounds(parts, region, ("#...",) * 14, NO_WISHES)
        self.assertEqual(len(told), 1500)
        self.assertIs(certifies(parts, region, ("#...",) * 14, NO_WISHES, told, 0), True)
        self.assertIs(certifies(parts, region, ("#...",) * 14, NO_WISHES, told, 1), False)

    def test_1501_bounds(self):
        parts = parse_grammar(
            "plain w white; plain b black; across line = (w 1 to 2 | b 1 to 2)*; down page = (line 1 to 2)*;")
        region = (3, 0, 0, 11, 14)
        self.assertEqual(self.count(parts, region), 1501)
        for wishes in (NO_WISHES, ((), (region,))):
            with self.assertRaises(TooMany):
                all_bounds(parts, region, ("#...",), wishes)

    def test_1500_and_1501_bounds_of_one_strip(self):
        parts = parse_grammar("plain w white; down page = (w 1)*;")
        self.assertEqual(len(all_bounds(parts, (1, 0, 0, 1, 749), (".",), NO_WISHES)), 1500)
        parts = parse_grammar("plain w white; down page = (w 1 to 2)*;")
        with self.assertRaises(TooMany):
            all_bounds(parts, (1, 0, 0, 1, 500), (".",), NO_WISHES)


class Right(unittest.TestCase):
    LEAVES = [(0, 0, 0, 1, 1, None, None, 1), (0, 0, 0, 2, 1, None, None, 1),
              (0, 1, 0, 1, 1, None, None, 0), (1, 0, 0, 1, 1, None, None, 1),
              (1, 1, 0, 1, 1, None, None, 2)]
    SPOTS = [PAGE + (0, 0, 1), PAGE + (0, 1, 0), PAGE + (0, 2, 0)]
    ALL = LEAVES + [PAGE + (None, None, 1)] + SPOTS

    def check(self, bounds, expected, wishes=NO_WISHES, parts=INK, rows=ROWS):
        with self.subTest(bounds=bounds, wishes=wishes):
            kept = list(bounds)
            self.assertIs(right(parts, rows, wishes, bounds), expected)
            self.assertIs(are_right(parts, rows, wishes, bounds), expected)
            self.assertEqual(bounds, kept)

    def test_the_empty_list(self):
        self.check([], True)

    def test_all_bounds_in_any_order(self):
        self.check(self.ALL, True)
        self.check(self.ALL[::-1], True)
        self.check(self.ALL[4:] + self.ALL[:4], True)
        self.check(self.ALL + self.ALL, True)

    def test_lesser_bounds(self):
        self.check([bound[:7] + (0,) for bound in self.ALL], True)
        self.check([bound[:7] + (0,) if bound[0] == 2 else bound for bound in self.ALL], True)
        self.check([PAGE + (None, None, 0) if bound[5:7] == (None, None) and bound[0] == 2 else bound
                    for bound in self.ALL], True)

    def test_plain_parts(self):
        for region, cost in (((0, 0, 0, 2, 1), 1), ((1, 0, 0, 2, 1), 2), ((0, 1, 0, 3, 3), 0),
                             ((1, 1, 0, 3, 3), 10), ((1, 5, 5, 2, 2), 5)):
            for least in (0, cost - 1, cost):
                self.check([region + (None, None, max(least, 0))], True)
            for least in (cost + 1, cost + 100, None):
                self.check([region + (None, None, least)], False)

    def test_shapes(self):
        # The pattern has black pixels at three places, the image has one of them black.
        for least in (0, 2, 3):
            self.check([(1, 0, 0, 2, 2, None, None, least)], True, parts=SHAPES)
        for least in (4, None):
            self.check([(1, 0, 0, 2, 2, None, None, least)], False, parts=SHAPES)

    def test_a_shape_of_another_size(self):
        for size in ((1, 2), (2, 1), (3, 2), (2, 3), (16, 16)):
            for least in (0, 1000, None):
                self.check([(1, 0, 0) + size + (None, None, least)], True, parts=SHAPES)

    def test_regions_that_are_not_allowed(self):
        fixed = ((1, 1, 0, 1, 1),)
        for least in (0, 1000, None):
            self.check([PAGE + (None, None, least)], True, ((), (PAGE,)))
            self.check([(0, 0, 0, 1, 1, None, None, least)], True, ((), ((0, 0, 0, 1, 1),)))
            self.check([(0, 0, 0, 2, 1, None, None, least)], True, (fixed, ()))
            self.check([(0, 1, 0, 1, 1, None, None, least)], True, (fixed, ()))
            self.check([(1, 1, 0, 1, 1, None, None, least)], least == 0, (fixed, ()))
            self.check([(0, 0, 0, 1, 1, None, None, least)], least == 0, (fixed, ()))
            self.check([PAGE + (None, None, least)], least == 0, (fixed, ()))
            # The spots of a forbidden strip are looked at as others are.
            self.check([PAGE + (0, 0, least)], least == 0, ((), (PAGE,)))

    def test_regions_of_strips(self):
        spot = PAGE + (0, 0, 1)
        for least, expected in ((0, True), (1, True), (2, False), (None, False)):
            self.check(self.LEAVES + self.SPOTS + [PAGE + (None, None, least)], expected)
        # Without a bound of the spot it is 0.
        for least, expected in ((0, True), (1, False), (None, False)):
            self.check([PAGE + (None, None, least)], expected)
            self.check(self.LEAVES + [PAGE + (None, None, least)] + [spot[:5] + (0, 1, 0)], expected)

    def test_a_spot_at_the_end(self):
        for least, expected in ((0, True), (1, False), (7, False), (None, False)):
            self.check([PAGE + (0, 2, least)], expected)
        # States 1 and 2 of pairs of pieces: only behind the second one there can be an end.
        parts = parse_grammar("plain w white; across page = w 1, w 1;")
        for least in (0, 1, None):
            self.check([(1, 0, 0, 2, 1, 1, 2, least)], True, parts=parts)
            self.check([(1, 0, 0, 2, 1, 0, 2, least)], True, parts=parts)
            self.check([(1, 0, 0, 2, 1, 2, 2, least)], least == 0, parts=parts)
            # No move goes from state 2.
            self.check([(1, 0, 0, 2, 1, 2, 1, least)], True, parts=parts)

    def test_a_spot_ahead_of_the_end(self):
        for least, expected in ((0, True), (1, True), (2, False), (None, False)):
            self.check(self.LEAVES + [PAGE + (0, 0, least)] + self.SPOTS[1:], expected)
        for least, expected in ((0, True), (1, False), (None, False)):
            self.check(self.LEAVES + [PAGE + (0, 1, least)], expected)
            self.check([PAGE + (0, 0, least)], expected)

    def test_costs_of_moves(self):
        parts = parse_grammar("plain w white; across page = w 1 cost 4, w 1 to 2 cost 3;")
        page = (1, 0, 0, 2, 1)
        for first, second, expected in ((4, 0, True), (5, 0, False), (7, 3, True), (8, 3, False),
                                        (7, 4, False), (7, 2, False), (6, 2, True), (None, 3, False)):
            self.check([page + (0, 0, first), page + (1, 1, second)], expected, parts=parts)
        # At the offset 0 both sizes of the second move fit, and no other bound is told.
        self.check([page + (1, 0, 3)], True, parts=parts)
        self.check([page + (1, 0, 4)], False, parts=parts)

    def test_spots_of_leaves(self):
        for least in (0, 1000, None):
            for state, offset in ((0, 0), (0, 1), (3, 40)):
                self.check([(0, 0, 0, 1, 1, state, offset, least)], True)
                self.check([(1, 0, 0, 2, 2, state, offset, least)], True, parts=SHAPES)

    def test_states_and_offsets_that_there_are_not(self):
        for least in (0, 1000, None):
            self.check([PAGE + (1, 0, least)], True)
            self.check([PAGE + (9, 2, least)], True)
            self.check([PAGE + (0, 3, least)], True)
            self.check([PAGE + (0, 100, least)], True)
        parts = parse_grammar("plain w white; down page = (w 1)*;")
        self.check([(1, 0, 0, 5, 2, 0, 3, 7)], True, parts=parts)
        self.check([(1, 0, 0, 5, 2, 0, 2, 7)], False, parts=parts)
        self.check([(1, 0, 0, 1, 4, 0, 3, 7)], False, parts=parts)

    def test_bounds_that_do_not_count(self):
        wrong = (0, 0, 0, 1, 1, None, None, 2)
        self.check(self.ALL + [wrong], False)
        self.check([wrong] + self.ALL, False)
        self.check(self.ALL + [PAGE + (None, None, 2)], False)
        self.check(self.ALL + [PAGE + (0, 2, 1)], False)
        self.check(self.ALL + [(0, 0, 0, 1, 1, None, None, 0)], True)

    def test_the_first_of_two_bounds_counts(self):
        lesser = (0, 0, 0, 1, 1, None, None, 0)
        # With the lesser bound first, white and then white costs at least 0.
        self.check([lesser] + self.ALL, False)
        self.check([PAGE + (0, 0, 0)] + self.ALL, False)
        self.check([PAGE + (0, 0, 1)] + self.ALL + [PAGE + (0, 0, 0)], True)
        self.check([PAGE + (None, None, 0)] + self.ALL, True)

    def test_none_is_greater_than_each_number(self):
        parts = parse_grammar('plain w white; shape s { "##" } across page = s 1 | (w 2, w 2);')
        page = (2, 0, 0, 3, 1)
        told = [(1, 0, 0, 1, 1, None, None, None), page + (3, 2, None)]
        for least in (0, 10 ** 15, None):
            # State 1 is behind s, 2 behind the first w; only w and then nothing is left.
            self.check(told[:1] + [page + (0, 0, least), page + (1, 1, 0), page + (2, 2, None)],
                       True, parts=parts)
            self.check(told[:1] + [page + (0, 0, least), page + (2, 2, None)], True, parts=parts)
            self.check([page + (0, 0, least), page + (2, 2, None)], least == 0, parts=parts)
            self.check(told[:1] + [page + (0, 0, least)], least == 0, parts=parts)
            self.check([page + (0, 0, None), page + (None, None, least)] + told[:1] + [page + (2, 2, None)],
                       True, parts=parts)

    def test_all_bounds_and_changed_ones(self):
        for parts, region, rows, wishes in cases(62, 60, limit=60):
            bounds = all_bounds(parts, region, rows, wishes)
            self.check(bounds, True, wishes, parts, rows)
            self.check(bounds[::-1], True, wishes, parts, rows)
            for at in range(0, len(bounds), 1 + len(bounds) // 25):
                bound = bounds[at]
                if bound[7] is not None:
                    for least in (bound[7] + 1, None):
                        self.check(bounds[:at] + [bound[:7] + (least,)] + bounds[at + 1:],
                                   False, wishes, parts, rows)
                    less = [bound[:7] + (max(bound[7] - 1, 0),)]
                    self.check(less, are_right(parts, rows, wishes, less), wishes, parts, rows)
                    less = bounds[:at] + less + bounds[at + 1:]
                    self.check(less, are_right(parts, rows, wishes, less), wishes, parts, rows)
                less = bounds[:at] + bounds[at + 1:]
                self.check(less, are_right(parts, rows, wishes, less), wishes, parts, rows)


class Certifies(unittest.TestCase):
    def check(self, parts, region, rows, wishes, bounds, cost, expected):
        with self.subTest(region=region, wishes=wishes, bounds=bounds, cost=cost):
            kept = list(bounds)
            self.assertIs(certifies(parts, region, rows, wishes, bounds, cost), expected)
            self.assertEqual(bounds, kept)

    def test_the_least_cost_and_lesser_ones(self):
        for parts, region, rows, wishes in cases(63, 80):
            bounds = all_bounds(parts, region, rows, wishes)
            told = best(parts, region, rows, wishes)
            if told is None:
                for cost in (0, 1, 5, 10 ** 15, None):
                    self.check(parts, region, rows, wishes, bounds, cost, True)
            else:
                for cost in (0, told[0] // 2, max(told[0] - 1, 0), told[0]):
                    self.check(parts, region, rows, wishes, bounds, cost, True)
                for cost in (told[0] + 1, told[0] + 100, None):
                    self.check(parts, region, rows, wishes, bounds, cost, False)

    def test_the_empty_list(self):
        for cost, expected in ((0, True), (1, False), (None, False)):
            self.check(INK, PAGE, ROWS, NO_WISHES, [], cost, expected)
            self.check(INK, PAGE, ROWS, ((), (PAGE,)), [], cost, expected)

    def test_a_list_that_is_not_right(self):
        wrong = (1, 9, 9, 1, 1, None, None, 5)
        for bounds in (Right.ALL + [wrong], [wrong] + Right.ALL, [wrong]):
            for cost in (0, 1, 2, None):
                self.check(INK, PAGE, ROWS, NO_WISHES, bounds, cost, False)

    def test_the_first_bound_of_the_region_counts(self):
        bounds = [PAGE + (None, None, 0)] + Right.ALL
        self.check(INK, PAGE, ROWS, NO_WISHES, bounds, 0, True)
        self.check(INK, PAGE, ROWS, NO_WISHES, bounds, 1, False)
        self.check(INK, PAGE, ROWS, NO_WISHES, Right.ALL + bounds, 1, True)

    def test_bounds_of_other_regions_and_of_spots(self):
        for bounds in (Right.LEAVES + Right.SPOTS, Right.SPOTS[1:], Right.LEAVES):
            self.check(INK, PAGE, ROWS, NO_WISHES, bounds, 0, True)
            self.check(INK, PAGE, ROWS, NO_WISHES, bounds, 1, False)
        self.check(INK, (1, 1, 0, 1, 1), ROWS, NO_WISHES, Right.LEAVES, 2, True)
        self.check(INK, (1, 1, 0, 1, 1), ROWS, NO_WISHES, Right.LEAVES, 3, False)

    def test_no_allowed_reading(self):
        bounds = [PAGE + (None, None, None)]
        for cost in (0, 7, None):
            self.check(INK, PAGE, ROWS, ((), (PAGE,)), bounds, cost, True)
            self.check(INK, PAGE, ROWS, NO_WISHES, bounds, cost, False)

    def test_what_is_certified_holds(self):
        certified = 0
        for parts, region, rows, wishes in cases(64, 50, limit=60):
            least = least_of(parts, region, rows, wishes)
            for seed in range(12):
                bounds = self.changed(all_bounds(parts, region, rows, wishes), random.Random(seed))
                for cost in (0, 1, 2, 3, 4, 6, 8, None):
                    if certifies(parts, region, rows, wishes, bounds, cost):
                        certified += cost != 0
                        self.assertFalse(greater(cost, least), (parts, region, rows, wishes, bounds))
        self.assertGreater(certified, 100)

    def changed(self, bounds, chance):
        """Some of the bounds taken out, in another order, or greater or less by one."""
        found = []
        for bound in bounds:
            kind = chance.randint(0, 20)
            if kind == 0 and bound[7] is not None:
                found.append(bound[:7] + (max(bound[7] + chance.choice((-1, 1)), 0),))
            elif kind > 1:
                found.append(bound)
        if chance.randint(0, 1):
            chance.shuffle(found)
        return found

    def test_only_too_many_bounds_raise(self):
        for parts, region, rows, wishes in cases(65, 40, most=9, limit=10 ** 12):
            try:
                bounds = all_bounds(parts, region, rows, wishes)
            except PageError as error:
                self.assertIs(type(error), TooMany)
            else:
                least = least_of(parts, region, rows, wishes)
                self.assertIs(certifies(parts, region, rows, wishes, bounds, least), True)


if __name__ == "__main__":
    unittest.main()
