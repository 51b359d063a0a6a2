"""Things packed into rooms: [24] and the corners of [27]."""

import itertools
import random
import unittest

from checks import Checks

from romwright.pack import corners, first_order, judge_ends, least_ends, pack, Packing, packings
from romwright.plain import NoFit, TooMany


def end_by(start, things, order):
    end = start
    for number in order:
        size, align = things[number]
        end = -(-end // align) * align + size
    return end


def told(packing):
    return (packing.dealing, packing.orders, packing.ends, packing.words)


def by_hand(rooms, things, choices):
    """All packings in order, by their definition."""
    rows = []
    for dealing in itertools.product(*choices):
        kept = [[number for number, room in enumerate(dealing) if room == each] for each in range(len(rooms))]
        for orders in itertools.product(*[itertools.permutations(row) for row in kept]):
            ends = tuple(end_by(room[0], things, order) for room, order in zip(rooms, orders))
            if all(end <= room[1] for end, room in zip(ends, rooms)):
                rows.append((dealing, orders, ends, sum(ends) - sum(room[0] for room in rooms)))
    return rows


def chance(seed):
    rng = random.Random(seed)
    things = tuple((rng.randint(0, 9), rng.choice([1, 2, 4, 8, 16])) for _ in range(rng.randint(0, 4)))
    rooms = []
    for _ in range(rng.randint(1, 3)):
        start = rng.randint(1, 40)
        rooms.append((start, start + rng.randint(-1 if rng.random() < 0.1 else 5, 30)))
    choices = tuple(tuple(rng.sample(range(len(rooms)), rng.randint(1, len(rooms)))) for _ in things)
    return tuple(rooms), things, choices


class Ends(Checks):
    def test_plain(self):
        self.assertEqual(least_ends(5, ()), [5])
        self.assertEqual(least_ends(5, ((3, 1),)), [5, 8])
        self.assertEqual(least_ends(5, ((3, 4),)), [5, 11])
        self.assertEqual(least_ends(5, ((0, 8),)), [5, 8])
        # 5 to 8 and 8 to 12, not 8 to 12 and 12 to 15.
        self.assertEqual(least_ends(5, ((4, 4), (3, 1))), [5, 12, 8, 12])

    def test_no_order_ends_earlier(self):
        for seed in range(80):
            rooms, things, _ = chance(seed)
            start = rooms[0][0]
            ends = least_ends(start, things)
            self.assertEqual(len(ends), 2 ** len(things))
            self.assertIsNone(judge_ends(start, things, ends))
            for chosen, end in enumerate(ends):
                numbers = [number for number in range(len(things)) if chosen >> number & 1]
                orders = [order for order in itertools.permutations(numbers) if end_by(start, things, order) == end]
                self.assertEqual(min(end_by(start, things, each) for each in itertools.permutations(numbers)), end)
                self.assertEqual(first_order(start, things, chosen), orders[0])

    def test_spoilt_tables(self):
        things = ((4, 4), (3, 1), (0, 2), (5, 8))
        ends = least_ends(7, things)
        for place in range(16):
            for by in (-1, 1):
                self.assertEqual(judge_ends(7, things, ends[:place] + [ends[place] + by] + ends[place + 1:]), place)
        self.assertEqual(judge_ends(7, things, tuple(ends)), None)
        self.assertEqual(judge_ends(7, things, [end + 1 for end in ends]), 0)
        # The least wrong set.
        self.assertEqual(judge_ends(7, things, ends[:3] + [0, 0] + ends[5:]), 3)
        for wrong in ([], ends[:-1], ends + [9], ends[:8], [7]):
            self.assertEqual(judge_ends(7, things, wrong), 0)
        self.assertEqual(judge_ends(7, (), [7]), None)
        self.assertEqual(judge_ends(7, (), [8]), 0)

    def test_first_order(self):
        things = ((2, 1), (2, 1), (1, 1))
        self.assertEqual(first_order(0, things, 7), (0, 1, 2))
        self.assertEqual(first_order(0, things, 6), (1, 2))
        self.assertEqual(first_order(0, things, 0), ())
        self.assertEqual(first_order(5, ((4, 4), (3, 1)), 3), (1, 0))


class Packings(Checks):
    def test_by_their_definition(self):
        for seed in range(120):
            rooms, things, choices = chance(seed)
            rows = by_hand(rooms, things, choices)
            self.assertEqual([told(each) for each in packings(rooms, things, choices)], rows)
            if rows:
                least = min(row[3] for row in rows)
                self.assertEqual(told(pack(rooms, things, choices)), [row for row in rows if row[3] == least][0])
            else:
                self.fails(NoFit, len(things), pack, rooms, things, choices)

    def test_order_by_the_choices(self):
        made = list(packings(((0, 9), (0, 9)), ((1, 1), (1, 1)), ((1, 0), (0, 1))))
        self.assertEqual([each.dealing for each in made], [(1, 0), (1, 1), (1, 1), (0, 0), (0, 0), (0, 1)])
        self.assertEqual([each.orders for each in made],
                         [((1,), (0,)), ((), (0, 1)), ((), (1, 0)), ((0, 1), ()), ((1, 0), ()), ((0,), (1,))])
        self.assertEqual(pack(((0, 9), (0, 9)), ((1, 1), (1, 1)), ((1, 0), (0, 1))).dealing, (1, 0))

    def test_edges(self):
        self.assertEqual([told(each) for each in packings((), (), ())], [((), (), (), 0)])
        self.assertEqual([told(each) for each in packings(((4, 4),), (), ())], [((), ((),), (4,), 0)])
        self.assertEqual(told(pack(((4, 4),), ((0, 1), (0, 4)), ((0,), (0,)))), ((0, 0), ((0, 1),), (4,), 0))
        # A room whose start is beyond its limit has no packing, also without things.
        self.assertEqual(list(packings(((5, 4), (0, 9)), ((1, 1),), ((1,),))), [])
        self.fails(NoFit, 1, pack, ((5, 4), (0, 9)), ((1, 1),), ((1,),))
        # A thing without a room.
        self.fails(NoFit, 2, pack, ((0, 9),), ((1, 1), (1, 1)), ((0,), ()))
        self.assertEqual(list(packings(((0, 9),), ((1, 1), (1, 1)), ((0,), ()))), [])
        self.assertEqual(pack(((1, 9),), ((8, 1),), ((0,),)).ends, (9,))
        self.fails(NoFit, 1, pack, ((1, 9),), ((9, 1),), ((0,),))

    def test_counts(self):
        rooms, things = ((0, 99),) * 6, ((1, 1),) * 5
        choices = ((0, 5),) * 5
        self.assertEqual(pack(rooms, things, choices).words, 5)
        self.assertEqual(len(corners((0,) * 6, things, choices)), 6)
        self.fails(TooMany, 5, pack, ((0, 99),) * 7, ((1, 1),) * 6, ((0,),) * 6)
        self.fails(TooMany, 6, pack, ((0, 99),) * 7, things, choices)
        self.fails(TooMany, 5, corners, (0,) * 7, ((1, 1),) * 6, ((0,),) * 6)
        self.fails(TooMany, 6, corners, (0,) * 7, things, choices)
        late = packings(((0, 99),) * 7, ((1, 1),) * 6, ((0,),) * 6)
        self.fails(TooMany, 5, list, late)
        self.fails(TooMany, 6, list, packings(((0, 99),) * 7, things, choices))

    def test_comparisons(self):
        small, same, big = [pack(((start, 99),), ((size, 4),), ((0,),)) for start, size in ((0, 2), (2, 0), (0, 5))]
        self.assertIsInstance(small, Packing)
        self.assertEqual([small == same, small != same, small <= same, small >= same, small < same, small > same],
                         [True, False, True, True, False, False])
        self.assertEqual([small == big, small != big, small <= big, small >= big, small < big, small > big],
                         [False, True, True, False, True, False])
        self.assertFalse(small == 2)
        self.assertTrue(small != 2)
        with self.assertRaises(TypeError):
            small < 2


class Corners(Checks):
    def test_by_their_definition(self):
        for seed in range(80):
            rooms, things, choices = chance(seed)
            starts = tuple(room[0] for room in rooms)
            rows = by_hand([(start, 10 ** 6) for start in starts], things, choices)
            firsts = {}
            for row in rows:
                firsts.setdefault(tuple(end - start for start, end in zip(starts, row[2])), row)
            least = [one for one in sorted(firsts) if not any(
                other != one and all(a <= b for a, b in zip(other, one)) for other in firsts)]
            made = corners(starts, things, choices)
            self.assertEqual([(lengths, told(packing)) for lengths, packing in made],
                             [(lengths, firsts[lengths]) for lengths in least])

    def test_edges(self):
        self.assertEqual([lengths for lengths, _ in corners((3, 5), (), ())], [(0, 0)])
        self.assertEqual(corners((3,), ((1, 1),), ((),)), ())
        made = corners((0, 1), ((2, 1), (3, 2)), ((0, 1), (1, 0)))
        self.assertEqual([lengths for lengths, _ in made], [(0, 6), (2, 4), (3, 2), (5, 0)])
        self.assertEqual([packing.dealing for _, packing in made], [(1, 1), (0, 1), (1, 0), (0, 0)])


if __name__ == "__main__":
    unittest.main()
