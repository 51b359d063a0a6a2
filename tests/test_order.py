"""Orders of plain rows."""

import random
import unittest

from romwright.order import ascending, greatest_of, least_of, ordered


class Orders(unittest.TestCase):
    def test_ascending(self):
        self.assertEqual(ascending([]), [])
        self.assertEqual(ascending(("b", "a", "b")), ["a", "b", "b"])
        self.assertEqual(ascending({3: "x", -1: "y", -2: "z"}), [-2, -1, 3])
        self.assertEqual(ascending([("b", 1), ("a", 2), ("b", 0), ("a", 2)]), [("a", 2), ("a", 2), ("b", 0), ("b", 1)])

    def test_ascending_by_chance(self):
        rng = random.Random(7)
        for _ in range(100):
            rows = [(rng.randint(0, 3), rng.choice("abc")) for _ in range(rng.randint(0, 12))]
            before = list(rows)
            self.assertEqual(ascending(rows), sorted(rows))
            self.assertEqual(rows, before)

    def test_ordered(self):
        rows = [["b"], ["a"], ["c"], ["d"]]
        self.assertEqual(ordered(rows, [2, 1, 2, 0]), [["d"], ["a"], ["b"], ["c"]])
        self.assertEqual(ordered((), []), [])

    def test_least_and_greatest(self):
        self.assertEqual(least_of([3, 1, 2, 1]), 1)
        self.assertEqual(greatest_of([3, 1, 5, 1]), 5)
        self.assertEqual(least_of(["b", "ab"]), "ab")
        self.assertEqual(greatest_of([-4]), -4)
        self.assertEqual(least_of([(1, 2), (1, 1)]), (1, 1))


if __name__ == "__main__":
    unittest.main()
