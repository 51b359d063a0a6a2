"""Plans, what fits which machine, and goals, [58] and [59]."""

import random
import unittest

from checks import cells, Checks, code, kept, program, unit
from making import made_picked
from romwright.alike import Alphabet
from romwright.joining import joined
from romwright.lay import holds, layings, least_machines
from romwright.pick import pick
from romwright.plain import BadParcel, NoRow, RomError, TooMany
from romwright.plans import fitting, goals_of, Parcel, Plan, plan, price_table, row_of
from romwright.script import Script


def parcels(*rows):
    return [Parcel(*row) for row in rows]


def tried_row(lot, start, goals, free):
    """(price, length, row) of the best row, by trying all of at most four parcels; None if there is none."""
    best = None
    rows = [((), start)]
    for _ in range(5):
        for row, at in rows:
            if at in goals:
                told = (sum(lot[number].words for number in row if number not in free), len(row), row)
                best = told if best is None or told < best else best
        rows = [(row + (number,), parcel.result) for row, at in rows for number, parcel in enumerate(lot)
                if parcel.base in (None, at)]
    return best


class Parcels(Checks):
    def test_attributes(self):
        told = Parcel(None, 3, 60000)
        self.assertEqual((told.base, told.result, told.words), (None, 3, 60000))
        self.assertEqual((Parcel(0, 1, 1).base, Parcel(0, 1, 1).words), (0, 1))

    def test_bad(self):
        for words in (0, -1, 60001, True, False, None, "5"):
            self.fails(BadParcel, words, Parcel, 0, 1, words)


class Rows(Checks):
    def test_at_a_goal(self):
        self.assertEqual(row_of([], 4, (4,)), ())
        self.assertEqual(row_of(parcels((4, 4, 1), (None, 5, 1)), 4, (5, 4)), ())

    def test_no_row(self):
        self.fails(NoRow, 0, row_of, [], 0, (1,))
        self.fails(NoRow, 0, row_of, parcels((1, 2, 5), (2, 1, 5)), 0, (1, 2))
        self.fails(NoRow, 3, row_of, parcels((3, 1, 5)), 3, ())

    def test_least_price(self):
        lot = parcels((0, 2, 100), (0, 1, 30), (1, 2, 40), (None, 2, 90))
        self.assertEqual(row_of(lot, 0, (2,)), (1, 2))
        self.assertEqual(row_of(lot, 1, (2,)), (2,))
        self.assertEqual(row_of(lot, 7, (2,)), (3,))
        self.assertEqual(row_of(lot, 0, (2, 1)), (1,))

    def test_fewest_parcels_then_least_numbers(self):
        lot = parcels((0, 1, 30), (1, 2, 40), (0, 2, 70))
        self.assertEqual(row_of(lot, 0, (2,)), (2,))
        lot = parcels((1, 2, 10), (0, 1, 10), (0, 1, 10), (1, 2, 10))
        self.assertEqual(row_of(lot, 0, (2,)), (1, 0))
        lot = parcels((None, 5, 9), (None, 4, 9))
        self.assertEqual(row_of(lot, 0, (4, 5)), (0,))

    def test_free_ones(self):
        lot = parcels((0, 2, 100), (0, 1, 30), (1, 2, 40))
        self.assertEqual(row_of(lot, 0, (2,), (0,)), (0,))
        self.assertEqual(row_of(lot, 0, (2,), (1, 2)), (1, 2))
        self.assertEqual(row_of(lot, 0, (2,), (0, 1, 2)), (0,))
        self.assertEqual(row_of(lot, 0, (2,), (2,)), (1, 2))

    def test_limits(self):
        ten = parcels(*[(k, k + 1, 1) for k in range(10)])
        self.assertEqual(row_of(tuple(ten), 0, (10,)), tuple(range(10)))
        self.fails(TooMany, 10, row_of, ten + parcels((0, 10, 1)), 0, (10,))


class Plans(Checks):
    def test_none(self):
        told = plan([], [], ())
        self.assertEqual((told.to_all, told.rows, told.price), ((), (), 0))
        self.assertEqual(price_table([], [], ()), [0])
        told = plan([], (1, 2), (1, 2))
        self.assertEqual((told.to_all, told.rows, told.price), ((), ((), ()), 0))

    def test_to_all(self):
        lot = parcels((0, 1, 100), (0, 1, 100))
        self.assertEqual(price_table(lot, [0, 0, 0], (1,)), [300, 200, 200, 400])
        told = plan(lot, [0, 0, 0], (1,))
        self.assertEqual((told.to_all, told.rows, told.price), ((0,), ((0,),) * 3, 200))

    def test_several_sets_of_one_price(self):
        # Two devices: sending to both or to all is the same price.
        lot = parcels((0, 1, 100), (0, 1, 100))
        told = plan(lot, [0, 0], (1,))
        self.assertEqual((told.to_all, told.rows, told.price), ((), ((0,), (0,)), 200))
        lot = parcels((0, 1, 10), (1, 2, 10), (0, 2, 20), (3, 2, 5))
        told = plan(lot, [0, 0, 0], (2,))
        # (0, 1) goes ahead of (2,): as tuples.
        self.assertEqual((told.to_all, told.rows, told.price), ((0, 1), ((0, 1),) * 3, 40))

    def test_without_a_base(self):
        lot = parcels((None, 3, 50), (0, 3, 20))
        told = plan(lot, [0, 1, 2, 3], (3,))
        self.assertEqual((told.to_all, told.rows, told.price), ((0,), ((0,), (0,), (0,), ()), 100))
        told = plan(lot, [0, 1], (3,))
        self.assertEqual((told.to_all, told.rows, told.price), ((), ((1,), (0,)), 70))

    def test_no_row(self):
        lot = parcels((0, 1, 5))
        self.fails(NoRow, 7, plan, lot, [0, 7, 8], (1,))
        self.assertEqual(price_table(lot, [0, 7, 8], (1,)), [None, None])
        self.fails(NoRow, 0, plan, lot, [0], ())

    def test_limits(self):
        lot = parcels(*[(k, k + 1, 1) for k in range(11)])
        for call in (plan, price_table):
            self.fails(TooMany, 10, call, lot, [0] * 9, (5,))
            self.fails(TooMany, 8, call, lot[:10], [99] * 9, (5,))
        told = plan(lot[:10], [0] * 8, (10,))
        self.assertEqual((told.to_all, told.price), (tuple(range(10)), 20))
        self.assertEqual(len(price_table(lot[:10], [0] * 8, (10,))), 1024)

    def test_compared_by_price_alone(self):
        lot = parcels((0, 1, 10), (0, 1, 10), (0, 1, 11))
        first, second = plan(lot, [0], (1,)), plan(lot[1:], [0, 1], (1,))
        more = plan(lot[2:], [0], (1,))
        self.assertEqual([plan(lot[:1], [0], (1,)).price, second.price, more.price], [10, 10, 11])
        for one, other, equal, less in ((first, second, True, False), (first, more, False, True), (more, first, False, False)):
            self.assertEqual([one == other, one != other, one < other, one <= other, one > other, one >= other],
                             [equal, not equal, less, less or equal, not less and not equal, not less])
        self.assertFalse(first == 10)
        self.assertTrue(first != 10)
        self.assertIsInstance(first, Plan)
        with self.assertRaises(TypeError):
            first < 10

    def test_against_all_rows_and_sets(self):
        rng = random.Random(61)
        found = 0
        for _ in range(200):
            count = rng.randint(0, 4)
            lot = [Parcel(rng.choice([None, 0, 1, 2, 3]), rng.randrange(4), rng.randint(1, 4)) for _ in range(count)]
            starts = [rng.randrange(4) for _ in range(rng.randint(0, 4))]
            goals = tuple(rng.sample(range(4), rng.randint(0, 2)))
            prices, plans = [], []
            for chosen in range(1 << count):
                free = tuple(k for k in range(count) if chosen >> k & 1)
                rows = [tried_row(lot, start, goals, free) for start in starts]
                for start, row in zip(starts, rows):
                    if row is None:
                        self.fails(NoRow, start, row_of, lot, start, goals, free)
                    else:
                        self.assertEqual(row_of(lot, start, goals, free), row[2])
                price = None if None in rows else 2 * sum(lot[k].words for k in free) + sum(row[0] for row in rows)
                prices.append(price)
                if price is not None:
                    plans.append((price, free, tuple(row[2] for row in rows)))
            self.assertEqual(price_table(lot, starts, goals), prices)
            if plans:
                found += 1
                told = plan(lot, starts, goals)
                self.assertEqual((told.price, told.to_all, told.rows), min(plans))
            else:
                rowless = [start for start in starts if tried_row(lot, start, goals, ()) is None]
                self.fails(NoRow, rowless[0], plan, lot, starts, goals)
        self.assertGreater(found, 50)


class Fitting(Checks):
    def test_edges(self):
        corners = [((3, 5), (5, 3)), ((4, 4),), ((9, 1),)]
        self.assertEqual(fitting(corners, (4, 4)), (1, 0))
        self.assertEqual(fitting(corners, (5, 5)), (1, 2))
        self.assertEqual(fitting(corners, (5, 3)), (0, 1))
        self.assertEqual(fitting(corners, (5, 2)), (None, 0))
        self.assertEqual(fitting(corners, (9, 4)), (2, None))
        self.assertEqual(fitting(corners, (9, 1)), (2, 0))
        self.assertEqual(fitting([], (4,)), (None, None))

    def test_machines_hold_what_they_can_be_laid_in(self):
        rng = random.Random(62)
        tried = 0
        for seed in range(40):
            script, units, archives, picked = made_picked(seed)
            corners = [lengths for lengths, _ in least_machines(picked, 3000)]
            base = rng.choice(corners)
            lengths = tuple(max(1, number + rng.choice([-1, 0, 0, 0, 1])) for number in base)
            lines, regions = script.lines(), list(lengths)
            for number, line in enumerate(lines):
                words = line.split(" ")
                if words[0] == "region":
                    lines[number] = " ".join(words[:4] + [str(regions.pop(0))])
            try:
                fits = len(list(layings(pick(Script(lines), units, archives), 3000))) > 0
            except RomError:
                continue
            tried += 1
            self.assertEqual(fitting([tuple(corners)], lengths), (0, None) if fits else (None, 0))
            self.assertEqual(any(holds(corner, lengths) for corner in corners), fits)
        self.assertGreater(tried, 20)


class Goals(Checks):
    def test_alike_ones(self):
        def made(word, *more):
            return program([("ask",), ("push", word), ("add",), ("out",), *more])

        programs = [made(1), made(2), made(1, ("push", 3), ("drop",)), made(65537 % 65536), made(3)]
        for kind in (list, tuple):
            self.assertEqual(goals_of(kind(programs), 0, Alphabet((0, 1))), (0, 2, 3))
        self.assertEqual(goals_of(programs, 2, Alphabet((0, 1))), (0, 2, 3))
        self.assertEqual(goals_of(programs, 4, Alphabet((5,))), (4,))
        self.assertEqual(goals_of(programs, 1, Alphabet((5,))), (1,))
        # Over another alphabet others are alike.
        halves = [program([("ask",), ("push", 9), ("less",), ("out",)]), program([("ask",), ("drop",), ("push", 1), ("out",)])]
        self.assertEqual(goals_of(halves, 1, Alphabet((0, 8))), (0, 1))
        self.assertEqual(goals_of(halves, 1, Alphabet((0, 9))), (1,))

    def test_exports_differ(self):
        one = program([("halt",)], code("f", [("ret",)], [("f", 0)], [("f", 0, 0)]))
        self.assertEqual(goals_of([one, program([("halt",)])], 1, Alphabet((1,))), (1,))

    def test_too_many(self):
        # A device that counts what it is fed comes to more than 300 standings.
        counter = joined([unit("u", code("main", [("name", "n", 0), ("load",), ("ask",), ("add",), ("name", "n", 0),
                                                  ("store",), ("go", "begin")], [("begin", 0)]),
                               cells("d", "data", [0], [("n", 0)]))], "begin")
        self.fails(TooMany, 300, goals_of, [counter, counter], 1, Alphabet((1,)))
        self.assertEqual(goals_of([counter], 0, Alphabet((1,))), (0,))
        saved = program([("save",)], kept("s", k=1))
        self.assertEqual(goals_of([saved, counter], 1, Alphabet((1,))), (1,))


if __name__ == "__main__":
    unittest.main()
