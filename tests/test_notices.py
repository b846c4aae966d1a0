"""Point 59."""

import random
import unittest

from truealmanac.notices import Bureau

WEST = (-60, ())
EAST = (60, ((5, 120),))


def random_notices(rng, many):
    zones = [WEST, EAST, (60, ()), (60, ((5, 0),))]
    return [(rng.choice(["a", "b", "rome", "z"]), rng.randint(0, 3), rng.choice(zones)) for _ in range(many)]


def kept_as_told(notices):
    return [max(notice for notice in notices if notice[0] == name) for name in sorted({n[0] for n in notices})]


class Bureaus(unittest.TestCase):
    def test_a_new_bureau(self):
        bureau = Bureau()
        self.assertEqual(bureau.kept(), [])
        self.assertIsNone(bureau.zone("rome"))

    def test_numbers(self):
        bureau = Bureau()
        for notice, taken in [(("rome", 5, WEST), True), (("rome", 5, WEST), False), (("rome", 4, EAST), False),
                              (("rome", 6, WEST), True), (("rome", 0, WEST), False), (("oslo", 0, EAST), True)]:
            self.assertIs(bureau.hear(notice), taken)
        self.assertEqual(bureau.kept(), [("oslo", 0, EAST), ("rome", 6, WEST)])
        self.assertEqual((bureau.zone("rome"), bureau.zone("oslo"), bureau.zone("bern")), (WEST, EAST, None))

    def test_equal_numbers(self):
        # The greatest tuple stays: a greater offset, then more and later changes.
        zones = [(-60, ()), (60, ()), (60, ((5, 0),)), (60, ((5, 120),)), (60, ((5, 120), (6, 0))), (60, ((6, -9),))]
        for k, zone in enumerate(zones):
            for j, other in enumerate(zones):
                bureau = Bureau()
                bureau.hear(("rome", 5, zone))
                self.assertIs(bureau.hear(("rome", 5, other)), j > k)
                self.assertEqual(bureau.zone("rome"), zones[max(j, k)])

    def test_order_of_names(self):
        bureau = Bureau()
        for name in ["b", "ab", "a", "zz", "z", "aaaaaaaa"]:
            bureau.hear((name, 1, WEST))
        self.assertEqual([notice[0] for notice in bureau.kept()], ["a", "aaaaaaaa", "ab", "b", "z", "zz"])

    def test_any_order(self):
        rng = random.Random(59)
        for _ in range(60):
            notices = random_notices(rng, rng.randint(0, 12))
            bureau = Bureau()
            for k, notice in enumerate(notices):
                before = bureau.kept()
                self.assertIs(bureau.hear(notice), bureau.kept() != before)
                self.assertEqual(bureau.kept(), kept_as_told(notices[:k + 1]))
            other = Bureau()
            for notice in rng.choices(notices, k=20) + rng.sample(notices, len(notices)) if notices else []:
                other.hear(notice)
            self.assertEqual(other.kept(), bureau.kept())

    def test_what_is_handed_out(self):
        bureau = Bureau()
        bureau.hear(("rome", 5, WEST))
        bureau.kept().clear()
        bureau.kept().append(("oslo", 1, EAST))
        self.assertEqual(bureau.kept(), [("rome", 5, WEST)])


class Meetings(unittest.TestCase):
    def test_two_bureaus(self):
        first, second = Bureau(), Bureau()
        for notice in [("a", 1, WEST), ("b", 5, WEST), ("c", 2, EAST)]:
            first.hear(notice)
        for notice in [("b", 4, EAST), ("c", 2, EAST), ("d", 0, WEST), ("e", 0, WEST)]:
            second.hear(notice)
        # The first one takes d and e, the second one a and b.
        self.assertEqual(first.meet(second), 4)
        told = [("a", 1, WEST), ("b", 5, WEST), ("c", 2, EAST), ("d", 0, WEST), ("e", 0, WEST)]
        self.assertEqual((first.kept(), second.kept()), (told, told))
        self.assertEqual((first.meet(second), second.meet(first)), (0, 0))
        # From now on each one hears for itself again.
        first.hear(("f", 1, WEST))
        self.assertEqual(second.kept(), told)

    def test_one_bureau(self):
        bureau = Bureau()
        self.assertEqual(bureau.meet(bureau), 0)
        bureau.hear(("a", 1, WEST))
        self.assertEqual(bureau.meet(bureau), 0)
        self.assertEqual(bureau.kept(), [("a", 1, WEST)])

    def test_any_order(self):
        rng = random.Random(60)
        for _ in range(40):
            bureaus = [Bureau() for _ in range(4)]
            notices = random_notices(rng, 15)
            for notice in notices:
                rng.choice(bureaus).hear(notice)
            # A round of meetings along a line, there and back, leads from each to each.
            steps = [(0, 1), (1, 2), (2, 3)]
            for a, b in rng.sample(steps, 3) + rng.sample(steps, 3) + steps + steps[::-1]:
                before = bureaus[a].kept(), bureaus[b].kept()
                taken = bureaus[a].meet(bureaus[b])
                after = kept_as_told(before[0] + before[1])
                self.assertEqual((bureaus[a].kept(), bureaus[b].kept()), (after, after))
                self.assertEqual(taken, sum(1 for kept in before for notice in after if notice not in kept))
            for bureau in bureaus:
                self.assertEqual(bureau.kept(), kept_as_told(notices))


if __name__ == "__main__":
    unittest.main()
