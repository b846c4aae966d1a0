"""Points 59 and 67."""

import random
import unittest

from truealmanac.network import Network
from truealmanac.notices import Bureau

WEST = (-60, ())
EAST = (60, ((5, 120),))
ROME = ("rome", 5, WEST)
OSLO = ("oslo", 5, EAST)


class Told:
    """A network as the document tells it, with the notices as dicts."""

    def __init__(self, names, links):
        self.kept = {name: {} for name in names}
        self.links = links
        self.queue = []

    def tell(self, name, notice):
        before = self.kept[name].get(notice[0])
        if before is not None and max(before, notice) == before:
            return False
        self.kept[name][notice[0]] = notice
        for other in sorted(self.kept):
            if (name, other) in self.links or (other, name) in self.links:
                self.queue.append((other, notice))
        return True

    def deed(self, n):
        if self.queue:
            at = (n // 3) % len(self.queue)
            message = self.queue[at]
            if n % 3 != 2:
                self.queue = self.queue[:at] + self.queue[at + 1:]
            if n % 3 != 1:
                self.tell(*message)

    def calm_round(self):
        self.queue = []
        for pair in self.links:
            for a, b in (pair, pair[::-1]):
                for notice in self.kept[a].values():
                    self.kept[b][notice[0]] = max(notice, self.kept[b].get(notice[0], notice))

    def kept_by(self, name):
        return [self.kept[name][word] for word in sorted(self.kept[name])]


def star():
    """c is linked to all others, one link is told twice and one in both ways."""
    return Network(["d", "c", "a", "b"], [("c", "d"), ("b", "c"), ("c", "a"), ("b", "c"), ("d", "c")])


def random_notice(rng):
    return (rng.choice(["rome", "oslo", "z"]), rng.randint(0, 4), rng.choice([WEST, EAST, (60, ())]))


class Tellings(unittest.TestCase):
    def test_a_new_network(self):
        network = star()
        self.assertEqual(network.queue(), [])
        for name in "abcd":
            self.assertIsInstance(network.bureau(name), Bureau)
            self.assertEqual(network.bureau(name).kept(), [])
            self.assertIs(network.bureau(name), network.bureau(name))

    def test_taken_and_not_taken(self):
        network = star()
        self.assertIs(network.tell("c", ROME), True)
        self.assertEqual(network.bureau("c").kept(), [ROME])
        told = [("a", ROME), ("b", ROME), ("d", ROME)]
        self.assertEqual(network.queue(), told)
        for notice in [ROME, ("rome", 4, EAST), ("rome", 5, (-61, ()))]:
            self.assertIs(network.tell("c", notice), False)
        self.assertEqual(network.queue(), told)
        self.assertEqual(network.bureau("c").kept(), [ROME])
        self.assertEqual(network.bureau("a").kept(), [])

    def test_the_order_of_the_queue(self):
        network = star()
        network.tell("a", ROME)
        network.tell("c", OSLO)
        self.assertEqual(network.queue(), [("c", ROME), ("a", OSLO), ("b", OSLO), ("d", OSLO)])
        network.tell("c", ("oslo", 6, EAST))
        self.assertEqual(network.queue()[4:], [(name, ("oslo", 6, EAST)) for name in "abd"])

    def test_without_links(self):
        network = Network(["a", "b"], [])
        self.assertIs(network.tell("a", ROME), True)
        self.assertEqual(network.queue(), [])
        network.calm_round()
        self.assertEqual(network.bureau("b").kept(), [])
        self.assertEqual(Network(["x"], []).queue(), [])

    def test_a_bureau_that_hears_by_itself(self):
        network = star()
        self.assertIs(network.bureau("c").hear(ROME), True)
        self.assertEqual(network.queue(), [])
        self.assertIs(network.tell("c", ROME), False)


class Deeds(unittest.TestCase):
    def network(self):
        network = star()
        network.tell("c", ROME)
        network.tell("a", OSLO)
        self.assertEqual(network.queue(), [("a", ROME), ("b", ROME), ("d", ROME), ("c", OSLO)])
        return network

    def test_delivered(self):
        for at in range(4):
            for n in (3 * at, 3 * (at + 4), 3 * (at + 4 * 10 ** 20)):
                network = self.network()
                before = network.queue()
                name, notice = before.pop(at)
                self.assertIsNone(network.deed(n))
                self.assertIn(notice, network.bureau(name).kept())
                sent = [("c", notice)] if name != "c" else [("a", notice), ("b", notice), ("d", notice)]
                self.assertEqual(network.queue(), before + sent)

    def test_lost(self):
        for at in range(4):
            for n in (3 * at + 1, 3 * (at + 4) + 1, 3 * (at + 4 * 10 ** 20) + 1):
                network = self.network()
                before = network.queue()
                name, notice = before.pop(at)
                self.assertIsNone(network.deed(n))
                self.assertEqual(network.queue(), before)
                self.assertNotIn(notice, network.bureau(name).kept())

    def test_delivered_again(self):
        for at in range(4):
            for n in (3 * at + 2, 3 * (at + 4) + 2, 3 * (at + 4 * 10 ** 20) + 2):
                network = self.network()
                before = network.queue()
                name, notice = before[at]
                self.assertIsNone(network.deed(n))
                self.assertIn(notice, network.bureau(name).kept())
                sent = [("c", notice)] if name != "c" else [("a", notice), ("b", notice), ("d", notice)]
                self.assertEqual(network.queue(), before + sent)
                # It is not taken again, and so not sent again.
                network.deed(3 * at + 2)
                self.assertEqual(network.queue(), before + sent)

    def test_an_empty_queue(self):
        network = star()
        for n in (0, 1, 2, 3, 10 ** 20):
            self.assertIsNone(network.deed(n))
            self.assertEqual(network.queue(), [])
        network.bureau("a").hear(ROME)
        network.deed(0)
        self.assertEqual(network.queue(), [])

    def test_back_to_the_sender(self):
        network = Network(["a", "b"], [("a", "b")])
        network.tell("a", ROME)
        network.deed(0)
        self.assertEqual(network.queue(), [("a", ROME)])
        network.deed(0)
        self.assertEqual(network.queue(), [])


class CalmRounds(unittest.TestCase):
    def test_the_queue_is_emptied_first(self):
        network = Network(["a", "b", "c"], [("a", "b")])
        network.tell("a", ROME)
        network.tell("c", OSLO)
        self.assertIsNone(network.calm_round())
        self.assertEqual(network.queue(), [])
        self.assertEqual([network.bureau(name).kept() for name in "abc"], [[ROME], [ROME], [OSLO]])

    def test_the_order_of_the_links(self):
        links = [("a", "b"), ("b", "c"), ("c", "d")]
        for order, many in [(links, 4), (links[::-1], 2)]:
            network = Network(["a", "b", "c", "d"], order)
            network.tell("a", ROME)
            network.calm_round()
            heard = [name for name in "abcd" if network.bureau(name).kept()]
            self.assertEqual(len(heard), many)

    def test_joined_bureaus_keep_the_same(self):
        # A ring of a to d with one link told twice, a pair, and one bureau alone.
        names = ["d", "a", "x", "b", "y", "c", "alone"]
        links = [("c", "d"), ("b", "c"), ("a", "b"), ("d", "a"), ("a", "b"), ("y", "x")]
        rng = random.Random(67)
        for _ in range(30):
            network = Network(names, links)
            told = {"abcd": [], "xy": [], "alone": []}
            for _ in range(rng.randint(0, 15)):
                name, notice = rng.choice(names), random_notice(rng)
                network.tell(name, notice)
                told[[group for group in told if name in group][0] if name != "alone" else "alone"].append(notice)
                network.deed(3 * rng.randint(0, 50) + 1)
            for _ in names:
                network.calm_round()
            for group, notices in told.items():
                kept = [max(n for n in notices if n[0] == word) for word in sorted({n[0] for n in notices})]
                for name in [group] if group == "alone" else group:
                    self.assertEqual(network.bureau(name).kept(), kept)

    def test_as_told(self):
        rng = random.Random(68)
        for _ in range(60):
            names = rng.sample("abcdefg", rng.randint(1, 5))
            links = [tuple(rng.sample(names, 2)) for _ in range(rng.randint(0, 7) if len(names) > 1 else 0)]
            network, told = Network(names, links), Told(names, links)
            for _ in range(60):
                step = rng.randint(0, 9)
                if step < 3:
                    name, notice = rng.choice(names), random_notice(rng)
                    self.assertIs(network.tell(name, notice), told.tell(name, notice))
                elif step < 9:
                    n = rng.randint(0, rng.choice([5, 1000]))
                    network.deed(n)
                    told.deed(n)
                else:
                    network.calm_round()
                    told.calm_round()
                self.assertEqual(network.queue(), told.queue)
                for name in names:
                    self.assertEqual(network.bureau(name).kept(), told.kept_by(name))


class Kept(unittest.TestCase):
    def test_arguments_are_not_kept(self):
        names, links = ["a", "b", "c"], [("a", "b")]
        network = Network(names, links)
        names.clear()
        links[0] = ("a", "c")
        links.append(("b", "c"))
        network.tell("a", ROME)
        self.assertEqual(network.queue(), [("b", ROME)])
        network.calm_round()
        self.assertEqual([network.bureau(name).kept() for name in "abc"], [[ROME], [ROME], []])

    def test_what_is_handed_out(self):
        network = star()
        network.tell("a", ROME)
        network.queue().clear()
        network.queue().append(("a", OSLO))
        self.assertEqual(network.queue(), [("c", ROME)])
        network.bureau("a").kept().clear()
        self.assertEqual(network.bureau("a").kept(), [ROME])


if __name__ == "__main__":
    unittest.main()
