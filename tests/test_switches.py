"""Points 4 and 5: the objects of switches."""

import unittest

from earthward.switches import Breaker, Earth, Feed, Splitter, Switch, switch_of

# A bar and the set that has it alone, worked out by hand.
ONES = ((0, 1), (1, 2), (2, 4), (5, 32), (8, 256), (9, 512))
PAIRS = ((0, 1, 3), (1, 0, 3), (0, 9, 513), (9, 0, 513), (3, 7, 136), (8, 9, 768), (9, 8, 768))


class SwitchObjects(unittest.TestCase):
    def assert_tells(self, switch, feeds, earths, joins, gentle):
        told = (switch.feeds(), switch.earths(), switch.joins())
        self.assertEqual(told, (feeds, earths, joins))
        self.assertEqual([type(number) for number in told], [int, int, int])
        self.assertIs(switch.gentle(), gentle)
        self.assertIsInstance(switch, Switch)

    def test_the_base(self):
        self.assert_tells(Switch(), 0, 0, 0, False)

    def test_feeds(self):
        for bar, alone in ONES:
            for switch in (Feed(bar), switch_of(("feed", bar))):
                with self.subTest(bar=bar):
                    self.assert_tells(switch, alone, 0, 0, False)

    def test_earths(self):
        for bar, alone in ONES:
            for switch in (Earth(bar), switch_of(("earth", bar))):
                with self.subTest(bar=bar):
                    self.assert_tells(switch, 0, alone, 0, False)

    def test_breakers(self):
        for one, other, both in PAIRS:
            for switch in (Breaker(one, other), switch_of(("breaker", one, other))):
                with self.subTest(one=one, other=other):
                    self.assert_tells(switch, 0, 0, both, False)

    def test_splitters(self):
        for one, other, both in PAIRS:
            for switch in (Splitter(one, other), switch_of(("splitter", one, other))):
                with self.subTest(one=one, other=other):
                    self.assert_tells(switch, 0, 0, both, True)

    def test_every_pair_of_bars(self):
        for one in range(10):
            for other in range(10):
                if one != other:
                    self.assertEqual(Breaker(one, other).joins(), 2 ** one + 2 ** other)
                    self.assertEqual(Splitter(one, other).joins(), 2 ** one + 2 ** other)

    def test_the_class_of_each(self):
        self.assertIs(type(switch_of(("feed", 4))), Feed)
        self.assertIs(type(switch_of(("earth", 4))), Earth)
        self.assertIs(type(switch_of(("breaker", 4, 2))), Breaker)
        self.assertIs(type(switch_of(("splitter", 4, 2))), Splitter)

    def test_no_class_stands_under_another_but_the_base(self):
        classes = (Feed, Earth, Breaker, Splitter)
        for one in classes:
            self.assertTrue(issubclass(one, Switch))
            self.assertFalse(issubclass(Switch, one))
            self.assertEqual([other for other in classes if issubclass(one, other)], [one])

    def test_asking_changes_nothing(self):
        switch = Splitter(2, 6)
        for _ in range(3):
            self.assert_tells(switch, 0, 0, 68, True)

    def test_two_objects_of_one_tuple_tell_the_same(self):
        told = ("breaker", 9, 0)
        self.assertEqual(switch_of(told).joins(), switch_of(told).joins())
        self.assertEqual(told, ("breaker", 9, 0))


if __name__ == "__main__":
    unittest.main()
