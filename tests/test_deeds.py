"""Points 2, 3, 10 and 11: deeds, what is refused, and why one would be shorted."""

import copy
import random
import unittest

import model
from earthward.deeds import shorting, turned
from refusals import assert_refused

# Bar 0 fed (0), bars 0 and 1 by a breaker (1), 1 and 2 by a splitter (2), 0 and 2 by a breaker (3), bar 2 earthed (4).
RING = (3, [("feed", 0), ("breaker", 0, 1), ("splitter", 1, 2), ("breaker", 0, 2), ("earth", 2)])
# Two bars, each with a feed (0, 1) and an earth (2, 3), between them a splitter (4) and a breaker (5).
PAIR = (2, [("feed", 0), ("feed", 1), ("earth", 0), ("earth", 1), ("splitter", 0, 1), ("breaker", 1, 0)])
ALONE = (1, [("feed", 0), ("earth", 0)])
BARE = (2, [])

FAR = (10 ** 30 - 1, 10 ** 29, 2 ** 64, 10 ** 9, 100, 12, 13)


class Turned(unittest.TestCase):
    def assert_turned(self, yard, standing, number):
        """What the model asks for: a standing in which just that switch is otherwise, or the refusal that is due."""
        name = model.refusal(yard, standing, number)
        if name is not None:
            assert_refused(self, name, turned, yard, standing, number)
            return name
        told = turned(yard, standing, number)
        self.assertIs(type(told), int)
        self.assertEqual(told ^ standing, 2 ** number, (yard, standing, number))
        self.assertTrue(model.safe(yard, told), (yard, standing, number))
        return name

    def test_shutting_and_opening(self):
        self.assertEqual(turned(RING, 0, 0), 1)
        self.assertEqual(turned(RING, 1, 0), 0)
        self.assertEqual(turned(RING, 1, 1), 3)
        self.assertEqual(turned(RING, 3, 1), 1)
        self.assertEqual(turned(RING, 3, 0), 2)
        self.assertEqual(turned(RING, 0, 4), 16)
        self.assertEqual(turned(RING, 16, 4), 0)
        self.assertEqual(turned(RING, 17, 4), 1)
        self.assertEqual(turned(RING, 17, 0), 16)
        self.assertEqual(turned(RING, 17, 1), 19)

    def test_turned_twice_is_as_it_was(self):
        for yard in (RING, PAIR, ALONE):
            for standing in model.safe_standings(yard):
                for number in range(len(yard[1])):
                    if model.refusal(yard, standing, number) is None:
                        self.assertEqual(turned(yard, turned(yard, standing, number), number), standing)

    def test_no_such_switch(self):
        for yard in (RING, PAIR, ALONE, BARE):
            many = len(yard[1])
            for number in FAR + (many, many + 1, -1, -2, -many, -many - 1):
                if number >= many or number < 0:
                    assert_refused(self, "NoSwitch", turned, yard, 0, number)
            for number in FAR:
                assert_refused(self, "NoSwitch", turned, yard, 0, -number)
                assert_refused(self, "NoSwitch", turned, yard, 2 ** many // 2, -number)

    def test_a_full_yard(self):
        yard = (1, [("feed", 0)] * 12)
        self.assertEqual(turned(yard, 0, 11), 2048)
        self.assertEqual(turned(yard, 4095, 11), 2047)
        assert_refused(self, "NoSwitch", turned, yard, 0, 12)

    def test_shorted_by_each_kind(self):
        assert_refused(self, "Shorted", turned, ALONE, 1, 1)
        assert_refused(self, "Shorted", turned, ALONE, 2, 0)
        assert_refused(self, "Shorted", turned, RING, 17, 3)
        assert_refused(self, "Shorted", turned, RING, 24, 0)
        assert_refused(self, "Shorted", turned, RING, 9, 4)
        assert_refused(self, "Shorted", turned, PAIR, 1 + 8, 5)
        assert_refused(self, "Shorted", turned, PAIR, 4 + 32, 1)

    def test_a_splitter_of_dead_bars(self):
        self.assertEqual(turned(RING, 0, 2), 4)
        self.assertEqual(turned(RING, 4, 2), 0)
        self.assertEqual(turned(RING, 1, 2), 5)
        self.assertEqual(turned(RING, 5, 2), 1)
        self.assertEqual(turned(RING, 16, 2), 20)
        self.assertEqual(turned(RING, 20, 2), 16)
        self.assertEqual(turned(RING, 17, 2), 21)
        self.assertEqual(turned(PAIR, 4 + 8, 4), 28)
        self.assertEqual(turned(PAIR, 28, 4), 12)

    def test_a_splitter_whose_bars_are_joined_otherwise_too(self):
        self.assertEqual(turned(RING, 1 + 2 + 8, 2), 15)
        self.assertEqual(turned(RING, 15, 2), 11)
        self.assertEqual(turned(PAIR, 1 + 32, 4), 49)
        self.assertEqual(turned(PAIR, 49, 4), 33)
        self.assertEqual(turned(PAIR, 3 + 32, 4), 51)
        self.assertEqual(turned(PAIR, 51, 4), 35)

    def test_a_splitter_beside_its_like(self):
        yard = (2, [("feed", 0), ("splitter", 0, 1), ("splitter", 0, 1)])
        self.assertEqual(turned(yard, 3, 2), 7)
        self.assertEqual(turned(yard, 7, 1), 5)
        self.assertEqual(turned(yard, 7, 2), 3)
        assert_refused(self, "Loaded", turned, yard, 1, 2)
        assert_refused(self, "Loaded", turned, yard, 5, 2)
        assert_refused(self, "Loaded", turned, yard, 3, 1)

    def test_a_splitter_with_one_bar_live(self):
        assert_refused(self, "Loaded", turned, RING, 1 + 2, 2)
        assert_refused(self, "Loaded", turned, RING, 1 + 2 + 4, 2)
        assert_refused(self, "Loaded", turned, RING, 1 + 8, 2)
        assert_refused(self, "Loaded", turned, RING, 1 + 8 + 4, 2)
        for feed in (1, 2):
            assert_refused(self, "Loaded", turned, PAIR, feed, 4)
            assert_refused(self, "Loaded", turned, PAIR, feed + 16, 4)

    def test_a_splitter_with_both_bars_live_but_not_joined(self):
        assert_refused(self, "Loaded", turned, PAIR, 3, 4)
        assert_refused(self, "Loaded", turned, PAIR, 3 + 16, 4)

    def test_a_breaker_may_part_and_join_a_load(self):
        self.assertEqual(turned(PAIR, 1, 5), 33)
        self.assertEqual(turned(PAIR, 33, 5), 1)
        self.assertEqual(turned(PAIR, 3, 5), 35)
        self.assertEqual(turned(PAIR, 35, 5), 3)

    def test_loaded_ahead_of_shorted(self):
        for standing in (1 + 8, 2 + 4):
            self.assertFalse(model.safe(PAIR, standing + 16))
            assert_refused(self, "Loaded", turned, PAIR, standing, 4)
        assert_refused(self, "Loaded", turned, RING, 1 + 2 + 16, 2)

    def test_every_small_yard(self):
        met = set()
        for yard in model.all_yards(2, 3):
            for standing in model.safe_standings(yard):
                for number in range(-1, len(yard[1]) + 1):
                    met.add(self.assert_turned(yard, standing, number))
        self.assertEqual(met, {None, "NoSwitch", "Loaded", "Shorted"})

    def test_drawn_yards(self):
        chance = random.Random(100)
        met = set()
        for yard in model.drawn_yards(101, 800, 5, 12):
            standing = chance.randrange(2 ** len(yard[1]))
            if model.safe(yard, standing):
                for number in range(len(yard[1])):
                    met.add(self.assert_turned(yard, standing, number))
        self.assertEqual(met, {None, "Loaded", "Shorted"})


class Shorting(unittest.TestCase):
    def assert_shorting(self, yard, standing, number):
        told = shorting(yard, standing, number)
        after = model.with_turned(standing, number)
        where = (yard, standing, number, told)
        if model.safe(yard, after):
            self.assertIsNone(told, where)
            return None
        self.assertEqual([type(part) for part in told], [int, list, int], where)
        self.assertIs(type(told), tuple, where)
        feed, numbers, earth = told
        self.assertIn(feed, model.shut(yard, after, "feed"), where)
        self.assertIn(earth, model.shut(yard, after, "earth"), where)
        ends = (2 ** yard[1][feed][1], 2 ** yard[1][earth][1])
        self.assertTrue(model.is_way(yard, after, *ends, numbers), where)
        return told

    def test_a_feed_and_an_earth_of_one_bar(self):
        self.assertEqual(shorting(ALONE, 1, 1), (0, [], 1))
        self.assertEqual(shorting(ALONE, 2, 0), (0, [], 1))
        self.assertEqual(shorting((1, [("earth", 0), ("feed", 0)]), 1, 1), (1, [], 0))

    def test_a_feed_far_from_the_earth(self):
        self.assertEqual(shorting(RING, 1 + 16, 3), (0, [3], 4))
        self.assertEqual(shorting(RING, 8 + 16, 0), (0, [3], 4))
        self.assertEqual(shorting(RING, 1 + 2 + 4, 4), (0, [1, 2], 4))
        self.assertEqual(shorting(RING, 2 + 4 + 16, 0), (0, [1, 2], 4))
        self.assertEqual(shorting(RING, 1 + 4 + 16, 1), (0, [1, 2], 4))

    def test_loaded_too(self):
        self.assertEqual(shorting(RING, 1 + 2 + 16, 2), (0, [1, 2], 4))
        self.assertEqual(shorting(PAIR, 1 + 8, 4), (0, [4], 3))
        self.assertEqual(shorting(PAIR, 2 + 4, 4), (1, [4], 2))

    def test_the_feed_and_the_earth_that_are_joined(self):
        yard = (4, [("feed", 3), ("feed", 0), ("earth", 2), ("earth", 1), ("breaker", 1, 0)])
        self.assertEqual(shorting(yard, 15, 4), (1, [4], 3))
        self.assertEqual(shorting(yard, 1 + 4 + 8 + 16, 1), (1, [4], 3))

    def test_none_where_nothing_would_be_live_and_earthed(self):
        for number in range(5):
            self.assertIsNone(shorting(RING, 0, number))
        self.assertIsNone(shorting(RING, 1 + 16, 0))
        self.assertIsNone(shorting(RING, 1 + 16, 1))
        self.assertIsNone(shorting(RING, 1 + 16, 4))
        self.assertIsNone(shorting(ALONE, 1, 0))
        self.assertIsNone(shorting(PAIR, 1, 4))
        self.assertIsNone(shorting(PAIR, 1 + 16, 4))

    def test_every_small_yard(self):
        for yard in model.all_yards(2, 3):
            for standing in model.safe_standings(yard):
                for number in range(len(yard[1])):
                    self.assert_shorting(yard, standing, number)

    def test_drawn_yards(self):
        chance = random.Random(110)
        lengths = set()
        for yard in model.drawn_yards(111, 3000, 7, 12):
            standing = chance.randrange(2 ** len(yard[1]))
            if model.safe(yard, standing):
                for number in range(len(yard[1])):
                    told = self.assert_shorting(yard, standing, number)
                    lengths.add(None if told is None else len(told[1]))
        self.assertLessEqual({None, 0, 1, 2, 3}, lengths)


class NeverLiveAndEarthed(unittest.TestCase):
    def test_rows_of_drawn_deeds_from_all_open(self):
        chance = random.Random(30)
        done = 0
        refused = 0
        for yard in model.drawn_yards(31, 250, 8, 12):
            standing = 0
            for _ in range(40 if yard[1] else 0):
                number = chance.randrange(len(yard[1]))
                try:
                    after = turned(yard, standing, number)
                except ValueError:
                    refused += 1
                    continue
                done += 1
                self.assertEqual(model.live(yard, after) & model.earthed(yard, after), 0, (yard, after))
                self.assertFalse(model.loads(yard, standing, number), (yard, standing, number))
                self.assertEqual(after, model.with_turned(standing, number))
                standing = after
        self.assertGreater(done, 1000)
        self.assertGreater(refused, 1000)


class NothingShared(unittest.TestCase):
    def test_the_yard_handed_in_is_as_it_was(self):
        for yard in (RING, PAIR, ALONE):
            ahead = copy.deepcopy(yard)
            for standing in model.safe_standings(yard):
                for number in range(len(yard[1])):
                    if model.refusal(yard, standing, number) is None:
                        turned(yard, standing, number)
                    else:
                        assert_refused(self, model.refusal(yard, standing, number), turned, yard, standing, number)
                    self.assertEqual(yard, ahead)
                    shorting(yard, standing, number)
                    self.assertEqual(yard, ahead)

    def test_the_way_told_is_the_askers_own(self):
        for yard, standing, number, expected in ((RING, 7, 4, [1, 2]), (ALONE, 1, 1, [])):
            first = shorting(yard, standing, number)
            second = shorting(yard, standing, number)
            self.assertIsNot(first[1], second[1])
            first[1].append(9)
            first[1][0] = 8
            self.assertEqual(second[1], expected)
            self.assertEqual(shorting(yard, standing, number)[1], expected)

    def test_the_same_asked_again_is_answered_the_same(self):
        yard = (2, [("feed", 0), ("feed", 0), ("breaker", 0, 1), ("splitter", 0, 1), ("earth", 1), ("earth", 1)])
        told = [shorting(yard, 1 + 2 + 4 + 8, 4 + place % 2) for place in range(6)]
        self.assertEqual(told, told[:2] * 3)
        self.assertEqual(shorting(copy.deepcopy(yard), 15, 4), told[0])


if __name__ == "__main__":
    unittest.main()
