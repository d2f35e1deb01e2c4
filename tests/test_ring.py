"""[7.1] to [7.5] and the heading ring.py."""

import itertools
import random
import types
import unittest

from tests import plain
from tests.rings import all_faults, no_faults, reached, ring_texts, some_faults, some_ring, walk
from wheelchorus.errors import BadFault, BadRing
from wheelchorus.ring import Ring


class RingTest(unittest.TestCase):
    def test_known_rings(self):
        ring = Ring("sosso")
        self.assertEqual((ring.text, ring.seekers, ring.zones), ("sosso", 3, ((0,), (1, 2), ())))
        self.assertEqual((list(ring), len(ring)), (["s", "o", "s", "s", "o"], 5))
        self.assertEqual(Ring("s").zones, ((0,),))
        self.assertEqual(Ring("oos").zones, ((), (), (0,)))
        self.assertEqual(Ring("ssssssssss").zones, (tuple(range(10)),))
        self.assertEqual(Ring("ooooooooos").zones, ((),) * 9 + ((0,),))

    def test_all_small_rings(self):
        for text in ring_texts(6) + ["s" * 10, "o" * 9 + "s", "soososoooo"]:
            ring = Ring(text)
            self.assertEqual((ring.text, ring.seekers, len(ring), "".join(ring)),
                             (text, text.count("s"), len(text), text))
            zones = [[] for _ in range(text.count("o") + 1)]
            zone, seeker = 0, 0
            for sign in text:
                if sign == "s":
                    zones[zone].append(seeker)
                    seeker += 1
                else:
                    zone += 1
            self.assertEqual(ring.zones, tuple(map(tuple, zones)))
            self.assertIs(type(ring.zones), tuple)
            self.assertEqual(ring.all_faults(), all_faults(text))
            self.assertIs(type(ring.all_faults()), tuple)

    def test_bad_rings(self):
        for thing in plain.ANY_OBJECTS + plain.WHOLE_NUMBERS + ("o", "ooo", "s" * 11, "S", "so ", "sxo", ["s"], ("s",)):
            with self.assertRaises(BadRing) as caught:
                Ring(thing)
            self.assertIs(caught.exception.text, thing)

    def test_equality(self):
        self.assertTrue(Ring("sos") == Ring("sos"))
        self.assertFalse(Ring("sos") != Ring("sos"))
        for other in (Ring("sso"), Ring("soss"), "sos", ["s", "o", "s"], None, 3):
            self.assertFalse(Ring("sos") == other)
            self.assertTrue(Ring("sos") != other)

    def test_joined(self):
        one, other = Ring("so"), Ring("oss")
        self.assertEqual(one.joined_with(other), Ring("sooss"))
        self.assertEqual(other.joined_with(one), Ring("ossso"))
        self.assertEqual((one.text, other.text), ("so", "oss"))
        self.assertEqual(Ring("sssss").joined_with(Ring("sssss")), Ring("s" * 10))
        with self.assertRaises(BadRing) as caught:
            Ring("sssss").joined_with(Ring("ooooos"))
        self.assertEqual(caught.exception.text, "sssssooooos")


class WalkTest(unittest.TestCase):
    def check(self, text, faults):
        ring = Ring(text)
        for things in (list(faults), tuple(faults)):
            for end in ("left", "right"):
                self.assertEqual(list(ring.walk_from(end, things)), walk(text, end, faults))
            self.assertEqual(ring.reached(things), reached(text, faults))
            self.assertIs(type(ring.reached(things)), tuple)
            self.assertEqual(list(things), list(faults))

    def test_all_faults_of_small_rings(self):
        for text in ring_texts(4):
            faults = all_faults(text)
            for many in range(3):
                for lot in itertools.combinations(faults, many):
                    self.check(text, lot)
        for text in ring_texts(3):
            for lot in itertools.combinations(all_faults(text), 3):
                self.check(text, lot)

    def test_great_rings(self):
        chance = random.Random(741)
        for _ in range(200):
            text = some_ring(chance)
            self.check(text, some_faults(chance, text))
        for text in ("ssssssssss", "ooooooooos", "sooooooooo", "sosososoos", "oossoossoo"):
            for lot in itertools.combinations(all_faults(text), 2):
                self.check(text, lot)

    def test_known_walks(self):
        ring = Ring("sosos")
        self.assertEqual(list(ring.walk_from("left", ())), [0, 1, 2])
        self.assertEqual(list(ring.walk_from("right", ())), [2, 1, 0])
        self.assertEqual(ring.reached(()), (0, 1, 2))
        # A short in the middle zone, the stretches 2 and 3, leaves the seeker between the openers unheard.
        for stretch in (2, 3):
            self.assertEqual(ring.reached([("short", stretch)]), (0, 2))
            self.assertEqual(ring.reached([("cut", stretch)]), (0, 1, 2))
        self.assertEqual(ring.reached([("cut", 2), ("cut", 3)]), (0, 2))
        self.assertEqual(ring.reached([("short", 0)]), (1, 2))
        self.assertEqual(ring.reached([("cut", 0)]), (0, 1, 2))
        # A short in a single zone leaves nobody.
        self.assertEqual(Ring("sss").reached([("short", 3)]), ())

    def test_twice_means_once(self):
        chance = random.Random(742)
        for _ in range(50):
            text = some_ring(chance)
            faults = some_faults(chance, text, 3)
            self.assertEqual(Ring(text).reached(faults + faults), reached(text, faults))
            self.assertEqual(list(Ring(text).walk_from("left", faults * 2)), walk(text, "left", faults))
        # A cut and a short on the same stretch.
        self.check("sos", (("cut", 1), ("short", 1)))

    def test_more_faults_and_two_faults(self):
        """[7.5]"""
        chance = random.Random(751)
        for _ in range(60):
            text = some_ring(chance, 7)
            ring = Ring(text)
            faults = list(dict.fromkeys(some_faults(chance, text, 5)))
            heard = ring.reached(faults)
            for many in range(len(faults)):
                for fewer in itertools.combinations(faults, many):
                    self.assertLessEqual(set(heard), set(ring.reached(fewer)))
            lots = [lot for many in range(3) for lot in itertools.combinations(faults, many)]
            self.assertIn(heard, [ring.reached(lot) for lot in lots])

    def test_bad_faults(self):
        chance = random.Random(743)
        for text in ("s", "sos", "ssssssssss"):
            ring = Ring(text)
            for thing in no_faults(text):
                other = chance.choice(no_faults(text))
                for faults in ([thing], (("cut", 0), thing, other), [("short", 1)] * 2 + [thing, thing]):
                    for call in (lambda: ring.reached(faults), lambda: list(ring.walk_from("right", faults))):
                        with self.assertRaises(BadFault) as caught:
                            call()
                        self.assertIs(caught.exception.fault, thing)

    def test_the_walk_checks_when_it_begins(self):
        ring = Ring("sos")
        for end in plain.ANY_OBJECTS + plain.WHOLE_NUMBERS + ("Left", "right ", "middle"):
            for faults in ((), [None], (("cut", 9),)):
                steps = ring.walk_from(end, faults)
                self.assertIsInstance(steps, types.GeneratorType)
                with self.assertRaises(BadRing) as caught:
                    next(steps)
                self.assertIs(caught.exception.text, end)
        steps = ring.walk_from("left", [("cut", 9)])
        with self.assertRaises(BadFault) as caught:
            next(steps)
        self.assertEqual(caught.exception.fault, ("cut", 9))


if __name__ == "__main__":
    unittest.main()
