"""Points 2, 8 and 9: what is joined, live and earthed, what is safe, and ways."""

import copy
import random
import unittest

import model
from earthward.reach import earthed, joined, live, safe, way

# Bars 0, 1, 2 in a ring (switches 0, 1, 2), bar 3 behind 2 by two alike (3, 4), bar 4 alone; feeds 5 and 6, earth 7.
RING = (5, [
    ("breaker", 0, 1), ("splitter", 1, 2), ("breaker", 2, 0), ("breaker", 2, 3), ("splitter", 3, 2),
    ("feed", 0), ("feed", 4), ("earth", 3),
])
# Ten bars in a row, bar N joined to bar N + 1 by switch N; a feed at one end and an earth at the other.
ROW = (10, [("splitter" if bar % 2 else "breaker", bar, bar + 1) for bar in range(9)] + [("feed", 0), ("earth", 9)])
# Feeds and earths alone: nothing is ever joined.
APART = (3, [("feed", 0), ("feed", 1), ("earth", 1), ("earth", 2), ("feed", 0)])
BARE = (4, [])
ALONE = (1, [("feed", 0), ("earth", 0)])


def every_set(many):
    return range(2 ** many)


class Joined(unittest.TestCase):
    def test_the_set_without_bars(self):
        for yard in (RING, ROW, APART, BARE, ALONE):
            for standing in (0, 2 ** len(yard[1]) - 1):
                self.assertEqual(joined(yard, standing, 0), 0)

    def test_no_switch_shut(self):
        for yard in (RING, ROW, APART, BARE, ALONE):
            for some in every_set(yard[0]):
                self.assertEqual(joined(yard, 0, some), some)

    def test_all_bars(self):
        for yard in (RING, APART, BARE, ALONE):
            bars = 2 ** yard[0] - 1
            for standing in every_set(len(yard[1])):
                self.assertEqual(joined(yard, standing, bars), bars)

    def test_all_shut(self):
        for bar in range(4):
            self.assertEqual(joined(RING, 255, 2 ** bar), 15)
        self.assertEqual(joined(RING, 255, 16), 16)
        self.assertEqual(joined(RING, 255, 16 + 2), 31)
        for bar in range(10):
            self.assertEqual(joined(ROW, 2 ** 11 - 1, 2 ** bar), 1023)

    def test_one_bar_by_one_switch(self):
        self.assertEqual(joined(RING, 1, 1), 3)
        self.assertEqual(joined(RING, 1, 2), 3)
        self.assertEqual(joined(RING, 1, 4), 4)
        self.assertEqual(joined(RING, 2, 2), 6)
        self.assertEqual(joined(RING, 2, 4), 6)

    def test_any_of_several_alike(self):
        for standing in (8, 16, 24):
            self.assertEqual(joined(RING, standing, 4), 12)
            self.assertEqual(joined(RING, standing, 8), 12)
        self.assertEqual(joined(RING, 0, 4), 4)

    def test_a_ring_with_one_open(self):
        for standing in (6, 5, 3, 7):
            for bar in range(3):
                self.assertEqual(joined(RING, standing, 2 ** bar), 7)

    def test_far_ends_in_both_directions(self):
        self.assertEqual(joined(ROW, 2 ** 9 - 1, 1), 1023)
        self.assertEqual(joined(ROW, 2 ** 9 - 1, 512), 1023)
        self.assertEqual(joined(ROW, 2 ** 9 - 1 - 16, 1), 31)
        self.assertEqual(joined(ROW, 2 ** 9 - 1 - 16, 512), 1023 - 31)

    def test_feeds_and_earths_join_nothing(self):
        for standing in every_set(5):
            for some in every_set(3):
                self.assertEqual(joined(APART, standing, some), some)
        self.assertEqual(joined(RING, 32 + 64 + 128, 1), 1)

    def test_every_small_yard(self):
        for yard in model.all_yards(3, 2):
            for standing in every_set(len(yard[1])):
                for some in every_set(3):
                    self.assertEqual(joined(yard, standing, some), model.joined(yard, standing, some), yard)

    def test_drawn_yards(self):
        chance = random.Random(8)
        for yard in model.drawn_yards(81, 400, 10, 12):
            standing = chance.randrange(2 ** len(yard[1]))
            some = chance.randrange(2 ** yard[0])
            self.assertEqual(joined(yard, standing, some), model.joined(yard, standing, some), (yard, standing, some))


class Power(unittest.TestCase):
    def assert_told(self, yard, standing, under_power, led):
        with self.subTest(standing=standing):
            self.assertEqual(live(yard, standing), under_power)
            self.assertEqual(earthed(yard, standing), led)
            self.assertIs(safe(yard, standing), under_power & led == 0)

    def test_nothing_shut(self):
        for yard in (RING, ROW, APART, BARE, ALONE):
            self.assert_told(yard, 0, 0, 0)

    def test_a_feed_and_an_earth_of_one_bar(self):
        self.assert_told(ALONE, 1, 1, 0)
        self.assert_told(ALONE, 2, 0, 1)
        self.assert_told(ALONE, 3, 1, 1)

    def test_the_ring(self):
        self.assert_told(RING, 32, 1, 0)
        self.assert_told(RING, 64, 16, 0)
        self.assert_told(RING, 128, 0, 8)
        self.assert_told(RING, 128 + 8, 0, 12)
        self.assert_told(RING, 128 + 16 + 2, 0, 14)
        self.assert_told(RING, 32 + 1, 3, 0)
        self.assert_told(RING, 32 + 64 + 2, 17, 0)
        self.assert_told(RING, 32 + 64 + 128 + 7, 23, 8)
        self.assert_told(RING, 32 + 128 + 4 + 8, 13, 13)
        self.assert_told(RING, 7 + 24, 0, 0)
        self.assert_told(RING, 255, 31, 15)

    def test_the_row(self):
        ends = 2 ** 9 + 2 ** 10
        self.assert_told(ROW, ends, 1, 512)
        self.assert_told(ROW, ends + 2 ** 9 - 1, 1023, 1023)
        for gap in range(9):
            under_power = 2 ** (gap + 1) - 1
            self.assert_told(ROW, ends + 2 ** 9 - 1 - 2 ** gap, under_power, 1023 - under_power)

    def test_each_switch_apart_from_its_like(self):
        self.assert_told(APART, 16, 1, 0)
        self.assert_told(APART, 1, 1, 0)
        self.assert_told(APART, 2 + 8, 2, 4)
        self.assert_told(APART, 4 + 1, 1, 2)
        self.assert_told(APART, 4 + 2, 2, 2)
        self.assert_told(APART, 31, 3, 6)

    def test_every_small_yard(self):
        for yard in model.all_yards(3, 2):
            for standing in every_set(len(yard[1])):
                self.assert_told(yard, standing, model.live(yard, standing), model.earthed(yard, standing))

    def test_drawn_yards(self):
        chance = random.Random(9)
        met = set()
        for yard in model.drawn_yards(82, 400, 10, 12):
            standing = chance.randrange(2 ** len(yard[1]))
            self.assert_told(yard, standing, model.live(yard, standing), model.earthed(yard, standing))
            met.add(safe(yard, standing))
        self.assertEqual(met, {True, False})

    def test_the_kinds_of_what_is_told(self):
        for standing in (0, 32, 255):
            for some in (joined(RING, standing, 1), live(RING, standing), earthed(RING, standing)):
                self.assertIs(type(some), int)
            self.assertIs(type(safe(RING, standing)), bool)


class Ways(unittest.TestCase):
    def assert_way(self, yard, standing, some, goals):
        """A way that is one, and as short as any, or None where there is none."""
        told = way(yard, standing, some, goals)
        few = model.fewest_steps(yard, standing, some, goals)
        where = (yard, standing, some, goals, told)
        if few is None:
            self.assertIsNone(told, where)
            return
        self.assertIs(type(told), list, where)
        self.assertEqual([type(number) for number in told], [int] * few, where)
        self.assertTrue(model.is_way(yard, standing, some, goals, told), where)

    def test_a_way_of_no_number(self):
        for standing in (0, 7, 255):
            self.assertEqual(way(RING, standing, 1, 1), [])
            self.assertEqual(way(RING, standing, 3, 6), [])
            self.assertEqual(way(RING, standing, 31, 16), [])

    def test_a_way_of_one(self):
        self.assertEqual(way(RING, 1, 1, 2), [0])
        self.assertEqual(way(RING, 1, 2, 1), [0])
        self.assertEqual(way(RING, 2, 4, 2), [1])
        self.assertEqual(way(RING, 8, 4, 8), [3])
        self.assertEqual(way(RING, 16, 4, 8), [4])
        self.assertIn(way(RING, 24, 4, 8), ([3], [4]))

    def test_a_way_of_several(self):
        self.assertEqual(way(RING, 3, 1, 4), [0, 1])
        self.assertEqual(way(RING, 3, 4, 1), [1, 0])
        self.assertEqual(way(RING, 1 + 2 + 16, 1, 8), [0, 1, 4])
        self.assertEqual(way(ROW, 2 ** 9 - 1, 1, 512), [0, 1, 2, 3, 4, 5, 6, 7, 8])
        self.assertEqual(way(ROW, 2 ** 9 - 1, 512, 1), [8, 7, 6, 5, 4, 3, 2, 1, 0])

    def test_the_shortest_of_several(self):
        self.assertEqual(way(RING, 7, 1, 4), [2])
        self.assertEqual(way(RING, 7, 4, 1), [2])
        self.assertEqual(way(RING, 7 + 8, 1, 8), [2, 3])
        self.assertEqual(way(RING, 7 + 8, 8, 1), [3, 2])
        self.assertEqual(way(ROW, 2 ** 9 - 1, 1 + 8, 64 + 512), [3, 4, 5])
        self.assertEqual(way(ROW, 2 ** 9 - 1, 512 + 4, 1 + 32), [1, 0])

    def test_a_short_way_told_behind_a_long_one(self):
        long_first = [("breaker", 0, 1), ("breaker", 1, 2), ("breaker", 2, 3), ("splitter", 4, 3), ("splitter", 0, 4)]
        self.assertEqual(way((5, long_first), 31, 1, 8), [4, 3])
        self.assertEqual(way((5, long_first), 31, 8, 1), [3, 4])
        self.assertEqual(way((5, long_first), 15, 1, 8), [0, 1, 2])

    def test_none_where_there_is_none(self):
        self.assertIsNone(way(RING, 0, 1, 2))
        self.assertIsNone(way(RING, 255, 1, 16))
        self.assertIsNone(way(RING, 255, 16, 15))
        self.assertIsNone(way(RING, 3, 1, 8))
        self.assertIsNone(way(RING, 6, 16 + 8, 1))
        self.assertIsNone(way(ROW, 2 ** 9 - 2, 1, 1022))

    def test_none_from_or_to_the_set_without_bars(self):
        for yard in (RING, ROW, APART, BARE, ALONE):
            bars = 2 ** yard[0] - 1
            for standing in (0, 2 ** len(yard[1]) - 1):
                self.assertIsNone(way(yard, standing, 0, bars))
                self.assertIsNone(way(yard, standing, bars, 0))
                self.assertIsNone(way(yard, standing, 0, 0))
                self.assertIsNone(way(yard, standing, 1, 0))
                self.assertIsNone(way(yard, standing, 0, 1))

    def test_no_way_by_feeds_and_earths(self):
        for standing in every_set(5):
            self.assertIsNone(way(APART, standing, 1, 6))
            self.assertIsNone(way(APART, standing, 4, 3))
        self.assertIsNone(way((1, [("feed", 0), ("earth", 0)]), 3, 1, 0))

    def test_every_small_yard(self):
        for yard in model.all_yards(3, 2):
            for standing in every_set(len(yard[1])):
                for some in every_set(3):
                    for goals in every_set(3):
                        self.assert_way(yard, standing, some, goals)

    def test_drawn_yards(self):
        chance = random.Random(10)
        lengths = set()
        for yard in model.drawn_yards(83, 2000, 10, 12):
            joins = model.shut(yard, 2 ** len(yard[1]) - 1, "breaker", "splitter")
            standing = model.mask(number for number in joins if chance.random() < 0.9)
            some = 2 ** chance.randrange(yard[0]) | chance.choice([0, 2 ** chance.randrange(yard[0])])
            goals = 2 ** chance.randrange(yard[0]) | chance.choice([0, 2 ** chance.randrange(yard[0])])
            self.assert_way(yard, standing, some, goals)
            lengths.add(model.fewest_steps(yard, standing, some, goals))
        self.assertLessEqual({None, 0, 1, 2, 3, 4}, lengths)


class NothingShared(unittest.TestCase):
    def test_the_yard_handed_in_is_as_it_was(self):
        for yard in (RING, ROW, APART, BARE, ALONE):
            ahead = copy.deepcopy(yard)
            standing = 2 ** len(yard[1]) - 1
            for call, given in ((joined, (1,)), (live, ()), (earthed, ()), (safe, ()), (way, (1, 2 ** yard[0] // 2))):
                call(yard, standing, *given)
                self.assertEqual(yard, ahead, call)

    def test_the_list_told_is_the_askers_own(self):
        for standing, some, goals, expected in ((3, 1, 4, [0, 1]), (0, 1, 1, []), (7, 1, 4, [2])):
            first = way(RING, standing, some, goals)
            second = way(RING, standing, some, goals)
            self.assertIsNot(first, second)
            first.append(9)
            first[0] = 8
            self.assertEqual(second, expected)
            self.assertEqual(way(RING, standing, some, goals), expected)

    def test_the_same_asked_again_is_answered_the_same(self):
        alike = (2, [("breaker", 0, 1), ("splitter", 1, 0), ("breaker", 0, 1), ("splitter", 0, 1)])
        told = [way(alike, 15, 1, 2) for _ in range(5)]
        self.assertEqual(told, told[:1] * 5)
        self.assertEqual(way(copy.deepcopy(alike), 15, 1, 2), told[0])

    def test_a_yard_changed_behind_is_asked_anew(self):
        yard = (2, [("feed", 0)])
        self.assertEqual((live(yard, 1), joined(yard, 1, 1), way(yard, 1, 1, 2)), (1, 1, None))
        yard[1].append(("breaker", 0, 1))
        self.assertEqual((live(yard, 3), joined(yard, 3, 1), way(yard, 3, 1, 2)), (3, 3, [1]))
        yard[1][0] = ("earth", 1)
        self.assertEqual((live(yard, 3), earthed(yard, 3), safe(yard, 3)), (0, 3, True))


if __name__ == "__main__":
    unittest.main()
