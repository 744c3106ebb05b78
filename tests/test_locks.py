"""Points 2, 3, 14 and 15: locks that keep a place dead, and what a live bar hangs on."""

import copy
import itertools
import random
import unittest

import model
from earthward.locks import fewest_locks, hanging, keeps_dead

# Bar 0 fed (0), bars 0 and 1 by a breaker (1), 1 and 2 by a splitter (2), bar 2 earthed (3), bar 2 fed (4).
LINE = (3, [("feed", 0), ("breaker", 0, 1), ("splitter", 1, 2), ("earth", 2), ("feed", 2)])
# A ring of four bars, all by splitters (0 to 3), fed twice at bar 0 (4, 5).
RING = (4, [("splitter", 0, 1), ("splitter", 1, 2), ("splitter", 2, 3), ("splitter", 3, 0), ("feed", 0), ("feed", 0)])
BARE = (2, [])
# Two rows of splitters with rungs between, each row fed at its end: one way may easily take what two need.
LADDER = (8, [("feed", 0), ("feed", 4), ("splitter", 0, 1), ("splitter", 1, 2), ("splitter", 2, 3), ("splitter", 4, 5),
              ("splitter", 5, 6), ("splitter", 6, 7), ("splitter", 0, 5), ("splitter", 1, 6), ("splitter", 2, 7),
              ("breaker", 3, 7)])
TWELVE_FEEDS = (10, [("feed", number % 10) for number in range(12)])
STAR = (10, [("splitter", 9, bar) for bar in range(6)] + [("feed", bar) for bar in range(6)])


class KeepsDead(unittest.TestCase):
    def test_no_locks(self):
        self.assertIs(keeps_dead(LINE, 1, 0), False)
        self.assertIs(keeps_dead(LINE, 4, 0), False)
        self.assertIs(keeps_dead(BARE, 3, 0), True)
        self.assertIs(keeps_dead((2, [("feed", 0), ("earth", 1)]), 2, 0), True)
        self.assertIs(keeps_dead((2, [("feed", 0), ("earth", 1)]), 3, 0), False)
        self.assertIs(keeps_dead((2, [("breaker", 0, 1), ("splitter", 1, 0)]), 3, 0), True)

    def test_some_locks(self):
        self.assertIs(keeps_dead(LINE, 1, 1 + 16), True)
        self.assertIs(keeps_dead(LINE, 1, 1 + 4), True)
        self.assertIs(keeps_dead(LINE, 1, 1), False)
        self.assertIs(keeps_dead(LINE, 1, 4 + 16), False)
        self.assertIs(keeps_dead(LINE, 2, 1 + 4), True)
        self.assertIs(keeps_dead(LINE, 4, 1 + 4), False)
        self.assertIs(keeps_dead(LINE, 4, 4 + 16), True)
        self.assertIs(keeps_dead(LINE, 7, 1 + 16), True)
        self.assertIs(keeps_dead(LINE, 5, 4 + 16), False)

    def test_breakers_and_earths_among_them(self):
        self.assertIs(keeps_dead(LINE, 2, 2), False)
        self.assertIs(keeps_dead(LINE, 2, 2 + 4), True)
        self.assertIs(keeps_dead(LINE, 4, 2 + 16), True)
        self.assertIs(keeps_dead(LINE, 4, 8), False)
        self.assertIs(keeps_dead(LINE, 4, 8 + 16), False)
        self.assertIs(keeps_dead(LINE, 1, 1 + 2 + 8), True)

    def test_all_switches(self):
        for yard in (LINE, RING, BARE, LADDER, TWELVE_FEEDS, STAR):
            for bar in range(yard[0]):
                self.assertIs(keeps_dead(yard, 2 ** bar, 2 ** len(yard[1]) - 1), True)

    def test_a_shut_earth_keeps_nothing_dead(self):
        self.assertIs(keeps_dead((1, [("feed", 0), ("earth", 0)]), 1, 0), False)

    def test_every_small_yard(self):
        met = set()
        for yard in model.all_yards(2, 3):
            for place in (1, 2, 3):
                for locks in range(2 ** len(yard[1])):
                    told = keeps_dead(yard, place, locks)
                    self.assertIs(told, model.keeps_dead(yard, place, locks), (yard, place, locks))
                    met.add(told)
        self.assertEqual(met, {True, False})

    def test_drawn_yards(self):
        chance = random.Random(140)
        for yard in model.drawn_yards(141, 300, 5, 7):
            place = chance.randrange(1, 2 ** yard[0])
            for locks in (0, 2 ** len(yard[1]) - 1, chance.randrange(2 ** len(yard[1]))):
                self.assertIs(keeps_dead(yard, place, locks), model.keeps_dead(yard, place, locks), (yard, place))


class FewestLocks(unittest.TestCase):
    def assert_fewest(self, yard, place):
        """Locks that keep the place dead, no fewer that do, and as many ways that share none of the lockable ones."""
        told = fewest_locks(yard, place)
        where = (yard, place, told)
        self.assertIs(type(told), tuple, where)
        self.assertEqual([type(part) for part in told], [list, list], where)
        locks, ways = told
        self.assertEqual(locks, sorted(set(locks)), where)
        self.assertLessEqual(set(locks), set(model.lockable(yard)), where)
        self.assertTrue(model.dead_with(yard, place, locks), where)
        self.assertTrue(keeps_dead(yard, place, model.mask(locks)), where)
        self.assertEqual(len(locks), model.how_few_locks(yard, place), where)
        self.assertEqual(len(ways), len(locks), where)
        everything = 2 ** len(yard[1]) - 1
        for way in ways:
            self.assertIs(type(way), list, where)
            self.assertTrue(model.is_fed_way(yard, everything, place, way), where)
        used = [number for way in ways for number in way if number in model.lockable(yard)]
        self.assertEqual(len(used), len(set(used)), where)
        return len(locks)

    def test_none_is_needed(self):
        for yard, place in ((BARE, 1), (BARE, 3), ((3, [("feed", 0), ("breaker", 0, 1), ("earth", 2)]), 4),
                            ((2, [("splitter", 0, 1), ("breaker", 0, 1), ("earth", 0)]), 3)):
            self.assertEqual(fewest_locks(yard, place), ([], []))

    def test_a_feed_in_the_place_itself(self):
        self.assertEqual(fewest_locks((1, [("feed", 0)]), 1), ([0], [[0]]))
        self.assertEqual(fewest_locks((1, [("earth", 0), ("feed", 0)]), 1), ([1], [[1]]))
        locks, ways = fewest_locks((1, [("feed", 0), ("feed", 0), ("earth", 0), ("feed", 0)]), 1)
        self.assertEqual((locks, sorted(ways)), ([0, 1, 3], [[0], [1], [3]]))

    def test_feeds_are_the_fewest(self):
        yard = (2, [("splitter", 0, 1), ("splitter", 1, 0), ("feed", 0), ("splitter", 0, 1)])
        locks, ways = fewest_locks(yard, 2)
        self.assertEqual(locks, [2])
        self.assertEqual(ways[0][0], 2)
        self.assert_fewest(yard, 2)
        # Nothing but feeds can be locked.
        yard = (3, [("breaker", 0, 2), ("breaker", 1, 2), ("feed", 0), ("feed", 1), ("breaker", 0, 1)])
        self.assertEqual(fewest_locks(yard, 4)[0], [2, 3])
        self.assert_fewest(yard, 4)

    def test_splitters_are_the_fewest(self):
        yard = (2, [("feed", 0), ("feed", 0), ("splitter", 0, 1), ("feed", 0)])
        locks, ways = fewest_locks(yard, 2)
        self.assertEqual(locks, [2])
        self.assertIn(ways, ([[0, 2]], [[1, 2]], [[3, 2]]))
        yard = (2, [("feed", 0), ("feed", 0), ("splitter", 0, 1), ("feed", 0), ("splitter", 1, 0)])
        self.assertEqual(fewest_locks(yard, 2)[0], [2, 4])
        self.assert_fewest(yard, 2)

    def test_both_are_the_fewest(self):
        # Behind bar 0 a splitter, in bar 1 a feed: one of each.
        yard = (2, [("feed", 0), ("feed", 0), ("splitter", 0, 1), ("feed", 1)])
        locks, ways = fewest_locks(yard, 2)
        self.assertEqual(locks, [2, 3])
        self.assertIn([3], ways)
        self.assert_fewest(yard, 2)

    def test_breakers_may_be_in_several_ways(self):
        yard = (3, [("feed", 0), ("feed", 0), ("breaker", 0, 1), ("breaker", 1, 2), ("feed", 1)])
        locks, ways = fewest_locks(yard, 4)
        self.assertEqual((locks, sorted(ways)), ([0, 1, 4], [[0, 2, 3], [1, 2, 3], [4, 3]]))

    def test_several_between_the_same_bars(self):
        yard = (3, [("feed", 0), ("breaker", 0, 1), ("breaker", 1, 0), ("splitter", 0, 1), ("splitter", 1, 2),
                    ("splitter", 2, 1), ("splitter", 1, 2), ("feed", 1), ("feed", 0), ("feed", 1)])
        self.assertEqual(fewest_locks(yard, 4)[0], [4, 5, 6])
        self.assertEqual(self.assert_fewest(yard, 4), 3)
        self.assertEqual(self.assert_fewest(yard, 2), 4)
        self.assertEqual(self.assert_fewest(yard, 6), 4)

    def test_rings(self):
        self.assertEqual(fewest_locks(RING, 1)[0], [4, 5])
        for place in range(1, 16):
            self.assertEqual(self.assert_fewest(RING, place), 2)
        locks, ways = fewest_locks((RING[0], RING[1][:5]), 4)
        self.assertEqual(locks, [4])
        self.assertEqual(len(ways), 1)
        yard = (4, RING[1] + [("feed", 2), ("feed", 2)])
        self.assertEqual(self.assert_fewest(yard, 2 + 8), 4)
        self.assertEqual(self.assert_fewest(yard, 2), 2)
        self.assertEqual(fewest_locks(yard, 2)[0], [0, 1])

    def test_a_place_of_several_bars(self):
        self.assertEqual(self.assert_fewest(LINE, 1), 2)
        self.assertEqual(self.assert_fewest(LINE, 7), 2)
        for bars in range(1, 11):
            locks, ways = fewest_locks(TWELVE_FEEDS, 2 ** bars - 1)
            self.assertEqual(locks, list(range(bars)) + [10, 11][:bars])
            self.assertEqual(sorted(ways), [[number] for number in locks])

    def test_a_bar_behind_another_bar_of_the_place(self):
        # Bar 0 is fed and in the place, and so is bar 1 behind it, which has no feed of its own.
        yard = (2, [("feed", 0), ("splitter", 0, 1)])
        self.assertEqual(fewest_locks(yard, 3)[0], [0])
        self.assertEqual(self.assert_fewest(yard, 3), 1)

    def test_ways_that_must_make_room(self):
        for place in range(1, 256):
            self.assertLessEqual(self.assert_fewest(LADDER, place), 2)
        self.assertEqual(self.assert_fewest(LADDER, 8), 2)
        turned_round = (8, list(reversed(LADDER[1])))
        for place in (8, 128, 4, 64, 32, 16, 4 + 64):
            self.assertEqual(self.assert_fewest(turned_round, place), self.assert_fewest(LADDER, place))

    def test_twelve_lockable_switches(self):
        self.assertEqual(self.assert_fewest(STAR, 512), 6)
        self.assertEqual(self.assert_fewest(STAR, 1), 2)
        self.assertEqual(self.assert_fewest(STAR, 1 + 2 + 4), 6)
        for place in (1, 2, 1023, 512):
            self.assert_fewest(TWELVE_FEEDS, place)

    def test_a_star_with_a_bar_that_all_come_through(self):
        locks, ways = fewest_locks(STAR, 512)
        self.assertEqual(sorted(way[0] for way in ways), [6, 7, 8, 9, 10, 11])
        self.assertEqual([way[1] + 6 for way in ways], [way[0] for way in ways])

    def test_every_small_yard(self):
        for yard in model.all_yards(2, 3):
            for place in (1, 2, 3):
                self.assert_fewest(yard, place)

    def test_drawn_yards(self):
        chance = random.Random(142)
        counts = set()
        for yard in self.yards_with_much_to_lock(143, 1500):
            counts.add(self.assert_fewest(yard, chance.randrange(1, 2 ** yard[0])))
        self.assertLessEqual({0, 1, 2, 3, 4, 5}, counts)

    def yards_with_much_to_lock(self, seed, many):
        """Half drawn as elsewhere, half with hardly an earth, most of them full."""
        yield from model.drawn_yards(seed, many // 2, 10, 12)
        chance = random.Random(seed)
        for _ in range(many - many // 2):
            bars = chance.randint(2, 7)
            kinds = chance.choices(["feed", "splitter", "breaker", "earth"], [4, 8, 3, 0.3], k=chance.randint(6, 12))
            yield (bars, [(kind, *chance.sample(range(bars), 1 if kind in ("feed", "earth") else 2)) for kind in kinds])


class Hanging(unittest.TestCase):
    def assert_hanging(self, yard, standing, bar):
        told = hanging(yard, standing, bar)
        where = (yard, standing, bar, told)
        if bar not in model.numbers_in(model.live(yard, standing)):
            self.assertIsNone(told, where)
            return None
        alone = model.hangs_on(yard, standing, bar)
        self.assertIs(type(told), tuple, where)
        if alone:
            self.assertEqual(told, ("on", alone), where)
            self.assertIs(type(told[1]), list, where)
            return "on"
        self.assertEqual([type(part) for part in told], [str, list, list], where)
        self.assertEqual(told[0], "two", where)
        for way in told[1:]:
            self.assertTrue(model.is_fed_way(yard, standing, 2 ** bar, way), where)
        self.assertEqual(set(told[1]) & set(told[2]), set(), where)
        return "two"

    def test_dead_bars(self):
        for bar in range(3):
            self.assertIsNone(hanging(LINE, 0, bar))
            self.assertIsNone(hanging(LINE, 2 + 4 + 8, bar))
        self.assertIsNone(hanging(LINE, 1, 1))
        self.assertIsNone(hanging(LINE, 1 + 2, 2))
        self.assertIsNone(hanging(LINE, 16, 0))
        self.assertIsNone(hanging(LINE, 1 + 4, 2))
        self.assertIsNone(hanging(BARE, 0, 1))

    def test_on_a_feed(self):
        self.assertEqual(hanging(LINE, 1, 0), ("on", [0]))
        self.assertEqual(hanging(LINE, 1 + 2, 0), ("on", [0]))
        self.assertEqual(hanging(LINE, 16 + 1, 2), ("on", [4]))
        # Two ways from the same feed: on the feed alone.
        self.assertEqual(hanging(RING, 1 + 2 + 4 + 8 + 16, 2), ("on", [4]))

    def test_on_a_breaker_or_a_splitter(self):
        yard = (2, [("feed", 0), ("breaker", 0, 1), ("feed", 0), ("splitter", 0, 1)])
        self.assertEqual(hanging(yard, 1 + 2 + 4, 1), ("on", [1]))
        self.assertEqual(hanging(yard, 1 + 4 + 8, 1), ("on", [3]))

    def test_on_several(self):
        self.assertEqual(hanging(LINE, 1 + 2, 1), ("on", [0, 1]))
        self.assertEqual(hanging(LINE, 1 + 2 + 4, 2), ("on", [0, 1, 2]))
        self.assertEqual(hanging(LINE, 16 + 2 + 4, 0), ("on", [1, 2, 4]))
        yard = (4, [("breaker", 2, 3), ("splitter", 0, 1), ("feed", 0), ("breaker", 1, 2), ("breaker", 0, 1)])
        self.assertEqual(hanging(yard, 31, 3), ("on", [0, 2, 3]))

    def test_two_feeds_of_one_bar(self):
        told = hanging((1, [("feed", 0), ("earth", 0), ("feed", 0)]), 5, 0)
        self.assertEqual((told[0], sorted(told[1:])), ("two", [[0], [2]]))
        told = hanging((1, [("feed", 0)] * 4), 15, 0)
        self.assertEqual((told[0], len(told), len(told[1]), len(told[2])), ("two", 3, 1, 1))
        self.assertNotEqual(told[1], told[2])

    def test_two_ways(self):
        told = hanging(LINE, 1 + 2 + 4 + 16, 1)
        self.assertEqual((told[0], sorted(told[1:])), ("two", [[0, 1], [4, 2]]))
        told = hanging(LINE, 1 + 2 + 4 + 16, 0)
        self.assertEqual((told[0], sorted(told[1:])), ("two", [[0], [4, 2, 1]]))
        told = hanging(RING, 63, 1)
        self.assertEqual(told[0], "two")
        self.assertEqual(sorted(way[1:] for way in told[1:]), [[0], [3, 2, 1]])
        self.assertEqual(sorted(way[0] for way in told[1:]), [4, 5])

    def test_breakers_are_not_shared(self):
        # Two feeds, but one breaker between: a lock would be put to both feeds, yet the bar hangs on the breaker.
        yard = (2, [("feed", 0), ("feed", 0), ("breaker", 0, 1)])
        self.assertEqual(hanging(yard, 7, 1), ("on", [2]))
        yard = (2, [("feed", 0), ("feed", 0), ("breaker", 0, 1), ("breaker", 0, 1)])
        told = hanging(yard, 15, 1)
        self.assertEqual(sorted(number for way in told[1:] for number in way), [0, 1, 2, 3])

    def test_open_switches_are_in_no_way(self):
        self.assertEqual(hanging(LINE, 1 + 2 + 16, 1), ("on", [0, 1]))
        self.assertEqual(hanging(RING, 63 - 2, 1), ("on", [0]))

    def test_standings_that_are_not_safe(self):
        yard = (2, [("feed", 0), ("earth", 0), ("breaker", 0, 1), ("earth", 1), ("feed", 1)])
        for standing in (3, 7, 15):
            self.assertFalse(model.safe(yard, standing))
        self.assertEqual(hanging(yard, 3, 0), ("on", [0]))
        self.assertEqual(hanging(yard, 15, 1), ("on", [0, 2]))
        told = hanging(yard, 31, 1)
        self.assertEqual((told[0], sorted(told[1:])), ("two", [[0, 2], [4]]))

    def test_ways_that_must_make_room(self):
        for bar in range(8):
            self.assertEqual(self.assert_hanging(LADDER, 4095, bar), "two")
        for without in itertools.combinations(range(12), 2):
            for bar in range(8):
                self.assert_hanging(LADDER, 4095 - model.mask(without), bar)

    def test_every_small_yard(self):
        met = set()
        for yard in model.all_yards(2, 3):
            for standing in range(2 ** len(yard[1])):
                for bar in range(2):
                    met.add(self.assert_hanging(yard, standing, bar))
        self.assertEqual(met, {None, "on", "two"})

    def test_drawn_yards(self):
        chance = random.Random(150)
        met = []
        for yard in model.drawn_yards(151, 1500, 7, 12):
            for standing in (2 ** len(yard[1]) - 1, chance.randrange(2 ** len(yard[1]))):
                for bar in range(yard[0]):
                    met.append(self.assert_hanging(yard, standing, bar))
        for kind in (None, "on", "two"):
            self.assertGreater(met.count(kind), 500)


class NothingShared(unittest.TestCase):
    def test_the_yard_handed_in_is_as_it_was(self):
        for yard in (LINE, RING, BARE, LADDER, STAR):
            ahead = copy.deepcopy(yard)
            everything = 2 ** len(yard[1]) - 1
            for call, given in ((keeps_dead, (1, 1)), (fewest_locks, (2,)), (hanging, (everything, 1)),
                                (hanging, (0, 0)), (hanging, (1, 0))):
                call(yard, *given)
                self.assertEqual(yard, ahead, call)

    def test_every_list_told_is_the_askers_own(self):
        for call, given in ((fewest_locks, (LINE, 1)), (fewest_locks, (RING, 2)), (fewest_locks, (STAR, 512)),
                            (hanging, (LINE, 3, 1)), (hanging, (RING, 63, 1)), (hanging, (STAR, 4095, 9)),
                            (fewest_locks, (BARE, 1))):
            first = call(*given)
            expected = copy.deepcopy(first)
            second = call(*given)
            lists = self.lists_in(first) + self.lists_in(second)
            self.assertEqual(len({id(one) for one in lists}), len(lists), call)
            for one in self.lists_in(first):
                one.append(99)
                one[0] = 98
            self.assertEqual(second, expected)
            self.assertEqual(call(*given), expected)

    def lists_in(self, told):
        """Every list of what is told, with the lists within it."""
        parts = [one for part in told if isinstance(part, (list, tuple)) for one in self.lists_in(part)]
        return ([told] if isinstance(told, list) else []) + parts

    def test_the_same_asked_again_is_answered_the_same(self):
        for yard in (LINE, RING, LADDER, STAR):
            everything = 2 ** len(yard[1]) - 1
            for bar in range(yard[0]):
                for call, given in ((fewest_locks, (2 ** bar,)), (hanging, (everything, bar))):
                    told = call(yard, *given)
                    self.assertEqual(call(copy.deepcopy(yard), *given), told)
                    self.assertEqual(call(yard, *given), told)


if __name__ == "__main__":
    unittest.main()
