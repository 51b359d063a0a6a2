"""Courses, waves, bridges and mending, [55] to [57]."""

import itertools
import random
import unittest

from checks import Checks
from romwright.fleet import Fleet
from romwright.life import course_of
from romwright.plain import BadMixture, BadName, BadReleases, NoWave, TooMany, Twice
from romwright.waves import bars, bridges, Course, mend, waves

NONE = ((), ())


def offers(*rows):
    return (tuple(rows), ())


def wants(*rows):
    return ((), tuple(rows))


F, G = ("f", 0, 0), ("g", 0, 0)
WF, WG = ("a", "f", 0, 0), ("a", "g", 0, 0)
EXAMPLE = Course(("a", "b"), ((offers(F), offers(G)), (wants(WF), wants(WG))))


class Member:
    def __init__(self, told):
        self.offers, self.wants = told


def by_fleet(course, mixture):
    rows = zip(course.names, course.releases, mixture)
    return Fleet({name: Member(releases[number]) for name, releases, number in rows}).missing()


def mixtures(course):
    return list(itertools.product(*[range(len(rows)) for rows in course.releases]))


def middle(first, second):
    return sorted(set(itertools.product(*zip(first, second))))


def made_course(rng, devices=4, releases=4, names="fgh"):
    """A course by chance."""
    told = rng.sample(["a", "b", "c", "d"], devices)
    rows = []
    for name in told:
        lot = []
        for _ in range(rng.randint(1, releases)):
            offered = sorted({each: (each, rng.randint(0, 1), 0) for each in names if rng.random() < 0.6}.values())
            peers = [peer for peer in told + ["zz"] if rng.random() < (0.05 if peer in (name, "zz") else 0.4)]
            wanted = sorted({(peer, rng.choice(names), rng.randint(0, 1) * (rng.random() < 0.3), 0) for peer in peers})
            lot.append((tuple(offered), tuple(wanted)))
        rows.append(tuple(lot))
    return Course(tuple(told), tuple(rows))


def made_chain(rng):
    """A course by chance whose releases offer and want names of their own number and of those beside it."""
    told = ["a", "b", "c", "d"][:rng.randint(2, 4)]
    rows = []
    for name in told:
        lot = []
        for number in range(rng.randint(2, 4) if len(told) < 4 else 3):
            offered = sorted({number} | {each for each in (number - 1, number + 1) if rng.random() < 0.7})
            peers = [peer for peer in told if peer != name and rng.random() < 0.6]
            lot.append((tuple((f"v{each}", 0, 0) for each in offered if each >= 0),
                        tuple((peer, f"v{number}", 0, 0) for peer in peers)))
        rows.append(tuple(lot))
    return Course(tuple(told), tuple(rows))


def tried_waves(course, start, goal):
    """The fewest waves by trying rows of any length; the closed lot if there are none."""
    good = {mixture for mixture in mixtures(course) if course.missing(mixture) == ()}
    rows, known = [(start,)], {start}
    while rows:
        ends = [row for row in rows if row[-1] == goal]
        if ends:
            return min(ends), None
        longer = {}
        for row in rows:
            for mixture in mixtures(course):
                if mixture not in known and set(middle(row[-1], mixture)) <= good:
                    longer.setdefault(mixture, []).append(row + (mixture,))
        rows = [min(longer[mixture]) for mixture in longer]
        known |= set(longer)
    return None, tuple(sorted(known))


class Courses(Checks):
    def test_attributes(self):
        told = Course(("a", "b"), [[offers(F), offers(G)], [wants(WF)]])
        self.assertEqual(told.names, ("a", "b"))
        self.assertEqual(told.releases, ((offers(F), offers(G)), (wants(WF),)))

    def test_errors(self):
        one = ((NONE,),)
        self.fails(TooMany, 4, Course, ("A", "b", "c", "d", "e"), ())
        for name in ("A", "", "1a", "a" * 10, 7):
            self.fails(BadName, name, Course, ("a", "a", name, "B"), ())
        self.fails(Twice, "b", Course, ("a", "b", "b", "a"), ())
        self.fails(Twice, "a", Course, ("a", "b", "a", "b"), ())
        self.fails(BadReleases, 0, Course, ("a",), ())
        self.fails(BadReleases, 0, Course, ("a",), ((),))
        self.fails(BadReleases, 0, Course, ("a",), ((NONE,) * 5,))
        self.fails(BadReleases, 1, Course, ("a", "b", "c"), one)
        self.fails(BadReleases, 1, Course, ("a",), one * 2)
        self.fails(BadReleases, 1, Course, ("a",), one * 3)
        self.fails(BadReleases, 1, Course, ("a", "b", "c"), one + ((),))
        self.fails(BadReleases, 0, Course, ("a", "b"), ((NONE,) * 5,))
        four = Course(("a", "b", "c", "d"), (((NONE,) * 4),) * 4)
        self.assertEqual(len(mixtures(four)), 256)

    def test_no_mixtures(self):
        for mixture in ((), (0,), (0, 0, 0), (0, 2), (2, 0), (0, -1), (0, True), (False, 0), [0, 0], (0, "0"), 7, None):
            good = (0, 1)
            self.fails(BadMixture, mixture, EXAMPLE.missing, mixture)
            self.fails(BadMixture, mixture, EXAMPLE.__and__, mixture)
            self.fails(BadMixture, mixture, mend, EXAMPLE, mixture)
            self.fails(BadMixture, mixture, bars, EXAMPLE, (good, mixture, (9, 9)))
            for call in (EXAMPLE.between, EXAMPLE.barred, lambda *told: list(EXAMPLE.turnings(*told)),
                         lambda *told: waves(EXAMPLE, *told), lambda *told: bridges(EXAMPLE, *told)):
                self.fails(BadMixture, mixture, call, mixture, (9, 9))
                self.fails(BadMixture, mixture, call, good, mixture)
        EXAMPLE.turnings((9, 9), (0, 0))

    def test_missing(self):
        self.assertEqual(EXAMPLE.missing((0, 0)), ())
        self.assertEqual(EXAMPLE.missing((0, 1)), (("b", "a", "g", 0, 0),))
        told = Course(("b", "a"), ((wants(("a", "f", 0, 1), ("b", "f", 0, 0), ("zz", "f", 0, 0), ("a", "f", 0, 0)),),
                                   (((F,), (("b", "q", 2, 2), ("a", "f", 0, 0))),)))
        self.assertEqual(told.missing((0, 0)), (("a", "a", "f", 0, 0), ("a", "b", "q", 2, 2), ("b", "a", "f", 0, 1),
                                                ("b", "b", "f", 0, 0), ("b", "zz", "f", 0, 0)))

    def test_missing_as_of_a_fleet(self):
        rng = random.Random(51)
        for _ in range(40):
            course = made_course(rng, rng.randint(1, 4))
            for mixture in mixtures(course):
                self.assertEqual(course.missing(mixture), by_fleet(course, mixture))

    def test_between(self):
        self.assertEqual(EXAMPLE.between((0, 1), (1, 0)), [(0, 0), (0, 1), (1, 0), (1, 1)])
        self.assertEqual(EXAMPLE.between((1, 1), (0, 1)), [(0, 1), (1, 1)])
        self.assertEqual(EXAMPLE.between((1, 1), (1, 1)), [(1, 1)])
        four = Course(("a", "b", "c", "d"), (((NONE,) * 4),) * 4)
        self.assertEqual(four.between((0, 3, 2, 1), (0, 1, 2, 3)), [(0, 1, 2, 1), (0, 1, 2, 3), (0, 3, 2, 1), (0, 3, 2, 3)])
        self.assertEqual(len(four.between((0, 0, 0, 0), (3, 3, 3, 3))), 16)

    def test_barred(self):
        self.assertEqual(EXAMPLE.barred((0, 0), (1, 1)), ((0, 1), (("b", "a", "g", 0, 0),)))
        self.assertEqual(EXAMPLE.barred((1, 1), (1, 0)), ((1, 0), (("b", "a", "f", 0, 0),)))
        self.assertIsNone(EXAMPLE.barred((1, 1), (1, 1)))
        self.assertEqual(EXAMPLE.barred((0, 1), (0, 1)), ((0, 1), (("b", "a", "g", 0, 0),)))

    def test_turnings(self):
        self.assertEqual(list(EXAMPLE.turnings((0, 0), (1, 1))), [((0, 0), (1, 0), (1, 1)), ((0, 0), (0, 1), (1, 1))])
        self.assertEqual(list(EXAMPLE.turnings((0, 1), (0, 1))), [((0, 1),)])
        four = Course(("d", "c", "b", "a"), (((NONE,) * 4),) * 4)
        rows = list(four.turnings((0, 1, 2, 3), (3, 1, 0, 1)))
        want = []
        for order in itertools.permutations((0, 2, 3)):
            row = [(0, 1, 2, 3)]
            for number in order:
                row.append(tuple((3, 1, 0, 1)[k] if k == number else row[-1][k] for k in range(4)))
            want.append(tuple(row))
        self.assertEqual(rows, want)
        self.assertEqual(len(list(four.turnings((0, 0, 0, 0), (1, 1, 1, 1)))), 24)

    def test_next_to(self):
        three = Course(("a", "b"), ((NONE,) * 3, (NONE,) * 2))
        self.assertEqual(three & (1, 0), [(0, 0), (1, 1), (2, 0)])
        self.assertEqual(three & (0, 1), [(0, 0), (1, 1), (2, 1)])
        self.assertEqual(Course(("a",), ((NONE,),)) & (0,), [])

    def test_safe_waves_whatever_the_order(self):
        rng = random.Random(52)
        for _ in range(60):
            course = made_course(rng, rng.randint(1, 4), 3)
            first, second = (rng.choice(mixtures(course)) for _ in range(2))
            rows = [row for row in course.turnings(first, second)]
            met = sorted({mixture for row in rows for mixture in row})
            self.assertEqual(met, course.between(first, second))
            wrong = [mixture for mixture in met if course.missing(mixture)]
            told = course.barred(first, second)
            self.assertEqual(told, (wrong[0], course.missing(wrong[0])) if wrong else None)


class Waves(Checks):
    def test_example(self):
        course = course_of(["device a", "release", "offer f 0 0", "release", "offer g 0 0", "device b", "release",
                            "want a f 0 0", "release", "want a g 0 0"])
        self.assertEqual(bridges(course, (0, 0), (1, 1)), (("a", 0, "g", 0, 0),))
        self.assertEqual(waves(course + bridges(course, (0, 0), (1, 1)), (0, 0), (1, 1)), ((0, 0), (0, 1), (1, 1)))

    def test_without_a_wave(self):
        self.assertEqual(waves(EXAMPLE, (0, 0), (0, 0)), ((0, 0),))
        self.assertEqual(waves(EXAMPLE, (0, 1), (0, 1)), ((0, 1),))

    def test_closed_lots(self):
        self.fails(NoWave, ((0, 0),), waves, EXAMPLE, (0, 0), (1, 1))
        self.fails(NoWave, ((0, 1),), waves, EXAMPLE, (0, 1), (1, 1))
        course = Course(("a", "b", "c"), ((offers(F), offers(G)), (wants(WF), wants(WG)), (NONE, NONE)))
        self.fails(NoWave, ((0, 0, 0), (0, 0, 1)), waves, course, (0, 0, 1), (1, 1, 1))

    def test_several_of_as_few(self):
        # Both can go by one wave; from release to release a must go ahead of b, by any of two steps.
        free = Course(("a", "b"), ((NONE,) * 3, (NONE,) * 3))
        self.assertEqual(waves(free, (0, 0), (2, 2)), ((0, 0), (2, 2)))
        course = Course(("a", "b"), ((offers(F), offers(F, G), offers(F, G), offers(G)), (wants(WF), wants(WG))))
        self.assertEqual(waves(course, (0, 0), (3, 1)), ((0, 0), (1, 0), (1, 1), (3, 1)))

    def test_against_all_rows(self):
        rng = random.Random(53)
        kinds = {}
        for turn in range(400):
            course = made_chain(rng) if turn % 2 else made_course(rng, rng.randint(1, 3), 3, "fg")
            start, goal = (rng.choice(mixtures(course)) for _ in range(2))
            if turn % 4 == 1:
                start, goal = mixtures(course)[0], mixtures(course)[-1]
            row, lot = tried_waves(course, start, goal)
            length = None if row is None else len(row)
            kinds[length] = kinds.get(length, 0) + 1
            if lot is None:
                self.assertEqual(waves(course, start, goal), row)
            else:
                self.fails(NoWave, lot, waves, course, start, goal)
                told = bars(course, lot)
                around = sorted({other for mixture in lot for other in course & mixture} - set(lot))
                missing = [course.missing(mixture) for mixture in around]
                self.assertEqual(told, tuple((a, m[0] if m else None) for a, m in zip(around, missing)))
                if course.missing(start) == ():
                    self.assertNotIn(None, [each[1] for each in told])
        self.assertTrue(all(kinds.get(length, 0) > 5 for length in (None, 1, 2, 3, 4)), kinds)

    def test_four_devices(self):
        rng = random.Random(54)
        for _ in range(6):
            course = made_course(rng, 4, 4)
            start, goal = (rng.choice(mixtures(course)) for _ in range(2))
            row, lot = tried_waves(course, start, goal)
            if lot is None:
                self.assertEqual(waves(course, start, goal), row)
            else:
                self.fails(NoWave, lot, waves, course, start, goal)
        free = Course(("a", "b", "c", "d"), (((NONE,) * 4),) * 4)
        self.assertEqual(waves(free, (0, 0, 0, 0), (3, 3, 3, 3)), ((0, 0, 0, 0), (3, 3, 3, 3)))

    def test_bars(self):
        self.assertEqual(bars(EXAMPLE, ((0, 0),)), (((0, 1), ("b", "a", "g", 0, 0)), ((1, 0), ("b", "a", "f", 0, 0))))
        self.assertEqual(bars(EXAMPLE, ((0, 1), (1, 0))), (((0, 0), None), ((1, 1), None)))
        self.assertEqual(bars(EXAMPLE, ((0, 0), (0, 1), (1, 0), (1, 1))), ())
        self.assertEqual(bars(EXAMPLE, ()), ())


class Bridges(Checks):
    def test_none_is_due(self):
        course = Course(("a", "b"), ((offers(F), offers(F, G)), (wants(WF), wants(WG))))
        self.assertEqual(bridges(course, (0, 0), (1, 1)), ())
        self.assertEqual(bridges(EXAMPLE, (0, 1), (0, 1)), ())

    def test_offers_ascend(self):
        course = Course(("a",), ((offers(("m", 0, 0), ("p", 1, 1)), NONE),))
        told = course + (("a", 0, "n", 2, 0), ("a", 1, "b", 0, 0), ("a", 0, "c", 0, 1))
        self.assertEqual(told.releases, ((offers(("c", 0, 1), ("m", 0, 0), ("n", 2, 0), ("p", 1, 1)), offers(("b", 0, 0))),))
        self.assertEqual(told.names, ("a",))
        self.assertEqual((course + ()).releases, course.releases)
        self.assertEqual(course.releases, ((offers(("m", 0, 0), ("p", 1, 1)), NONE),))

    def test_a_name_in_no_form(self):
        # The elder release offers g in another form, so no bridge gives it g; the newer one can get f.
        course = Course(("a", "b"), ((offers(F, ("g", 1, 0)), offers(G)), (wants(WF), wants(WG))))
        self.assertEqual(bridges(course, (0, 0), (1, 1)), (("a", 1, "f", 0, 0),))

    def test_none_help(self):
        course = Course(("a", "b"), ((offers(("f", 0, 0), ("g", 1, 0)), offers(("f", 1, 0), G)), (wants(WF), wants(WG))))
        self.fails(NoWave, ((0, 0),), bridges, course, (0, 0), (1, 1))
        course = Course(("a", "b"), ((NONE,), (wants(("zz", "f", 0, 0)), NONE)))
        self.fails(NoWave, ((0, 0),), bridges, course, (0, 0), (0, 1))
        self.fails(NoWave, ((0, 1),), bridges, course, (0, 1), (0, 0))

    def test_own_wants_count(self):
        # A want of the device itself can be bridged, though it stays missing.
        course = Course(("a",), ((wants(("a", "f", 0, 0)), NONE),))
        self.fails(NoWave, ((0,),), bridges, course, (0,), (1,))
        own = wants(*[("a", f"f{k}", 0, 0) for k in range(8)])
        self.assertEqual(bridges(Course(("a", "b"), ((own,), (NONE,))), (0, 0), (0, 0)), ())
        more = wants(*[("a", f"f{k}", 0, 0) for k in range(9)])
        self.fails(TooMany, 8, bridges, Course(("a", "b"), ((more,), (NONE,))), (0, 0), (0, 0))

    def test_eight_and_nine(self):
        def course(count):
            rows = [("a", f"f{k}", 0, 0) for k in range(count)]
            return Course(("a", "b"), ((NONE,), (NONE, wants(*rows))))

        want = tuple(("a", 0, f"f{k}", 0, 0) for k in range(8))
        self.assertEqual(bridges(course(8), (0, 0), (0, 1)), want)
        self.fails(TooMany, 8, bridges, course(9), (0, 0), (0, 1))
        self.fails(TooMany, 8, bridges, course(9), (0, 0), (0, 0))
        # Bridges that cannot stand together count as well.
        rows = [("a", name, takes, leaves) for name in "fgh" for takes in range(3) for leaves in range(1)]
        twice = Course(("a", "b"), ((NONE,), (NONE, wants(*rows))))
        self.fails(TooMany, 8, bridges, twice, (0, 0), (0, 1))
        twice = Course(("a", "b"), ((NONE,), (NONE, wants(*rows[:8]))))
        self.fails(NoWave, ((0, 0),), bridges, twice, (0, 0), (0, 1))

    def test_against_all_sets(self):
        rng = random.Random(55)
        kinds = {}
        while sum(kinds.values()) < 150:
            chain = rng.random() < 0.7
            course = made_chain(rng) if chain else made_course(rng, rng.randint(2, 3), 2, "fg")
            start, goal = (rng.choice(mixtures(course)) for _ in range(2))
            if chain:
                start, goal = mixtures(course)[0], mixtures(course)[-1]
            possible = sorted({(name, number) + want[1:]
                               for name, rows in zip(course.names, course.releases) for number, told in enumerate(rows)
                               for each in course.releases for _, lot in each for want in lot
                               if want[0] == name and want[1] not in [offer[0] for offer in told[0]]})
            if len(possible) > 8:
                self.fails(TooMany, 8, bridges, course, start, goal)
                kinds["many"] = kinds.get("many", 0) + 1
                continue
            best = None
            for count in range(len(possible) + 1):
                for chosen in itertools.combinations(possible, count):
                    if len({each[:3] for each in chosen}) == count and best is None:
                        if tried_waves(course + chosen, start, goal)[1] is None:
                            best = chosen
            kinds[best if best is None else len(best)] = kinds.get(best if best is None else len(best), 0) + 1
            if best is None:
                self.fails(NoWave, tried_waves(course, start, goal)[1], bridges, course, start, goal)
            else:
                self.assertEqual(bridges(course, start, goal), best)
        self.assertTrue(all(kinds.get(kind, 0) > 3 for kind in (None, "many", 0, 1, 2)), kinds)


class Mending(Checks):
    def test_good_ones_stay(self):
        self.assertEqual(mend(EXAMPLE, (1, 1)), (1, 1))

    def test_of_several_the_least(self):
        self.assertEqual(mend(EXAMPLE, (0, 1)), (0, 0))
        self.assertEqual(mend(EXAMPLE, (1, 0)), (0, 0))

    def test_none(self):
        course = Course(("a", "b"), ((NONE,), (wants(WF), wants(WG))))
        self.fails(NoWave, (), mend, course, (0, 0))

    def test_by_chance(self):
        rng = random.Random(56)
        for _ in range(100):
            course = made_course(rng, rng.randint(1, 4), 3)
            mixture = rng.choice(mixtures(course))
            good = [each for each in mixtures(course) if course.missing(each) == ()]
            if not good:
                self.fails(NoWave, (), mend, course, mixture)
                continue
            want = min((sum(one != other for one, other in zip(each, mixture)), each) for each in good)[1]
            self.assertEqual(mend(course, mixture), want)


if __name__ == "__main__":
    unittest.main()
