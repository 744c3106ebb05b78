"""Points 2, 3, 12 and 13: layers, wishes and plans."""

import copy
import itertools
import random
import unittest

import model
from earthward.plans import as_wished, layers, plan

# Bar 0 fed (0), bars 0 and 1 by a splitter (1) and a breaker (2), bar 1 earthed (3).
LINE = (2, [("feed", 0), ("splitter", 0, 1), ("breaker", 0, 1), ("earth", 1)])
ALONE = (1, [("feed", 0), ("earth", 0)])
BARE = (3, [])
TEN_FEEDS = (10, [("feed", bar) for bar in range(10)])
# Twelve switches, any of them free.
FULL = (10, [("feed", 0), ("feed", 9), ("earth", 4), ("earth", 6), ("splitter", 0, 1), ("breaker", 1, 2),
             ("splitter", 2, 3), ("breaker", 3, 4), ("splitter", 4, 5), ("breaker", 6, 5), ("splitter", 9, 6),
             ("breaker", 8, 7)])
# Of twelve splitters in a ring each standing is come to: nothing is ever live.
DARK = (10, [("splitter", bar, (bar + 1) % 10) for bar in range(10)] + [("splitter", 0, 5), ("splitter", 5, 0)])


def small_yards(seed, many):
    return model.drawn_yards(seed, many, 4, 6)


def drawn_set(chance, many, often):
    return model.mask(number for number in range(many) if chance.random() < often)


class Layers(unittest.TestCase):
    def assert_layers(self, yard, standing, fixed):
        told = layers(yard, standing, fixed)
        where = (yard, standing, fixed)
        self.assertEqual(told, model.layers(yard, standing, fixed), where)
        self.assertEqual(told[0], [standing], where)
        everything = [one for layer in told for one in layer]
        self.assertEqual(len(everything), len(set(everything)), where)
        for layer in told:
            self.assertEqual(layer, sorted(layer), where)
            self.assertNotEqual(layer, [], where)
        return told

    def test_nothing_fixed(self):
        self.assertEqual(layers(ALONE, 0, 0), [[0], [1, 2]])
        self.assertEqual(layers(ALONE, 1, 0), [[1], [0], [2]])
        self.assertEqual(layers(ALONE, 2, 0), [[2], [0], [1]])
        self.assertEqual(layers((1, [("feed", 0)] * 3), 0, 0), [[0], [1, 2, 4], [3, 5, 6], [7]])
        self.assertEqual(layers((1, [("feed", 0)] * 3), 5, 0), [[5], [1, 4, 7], [0, 3, 6], [2]])
        self.assertEqual(layers(LINE, 0, 0), [[0], [1, 2, 4, 8], [3, 5, 6, 9, 10, 12], [7, 14]])
        self.assertEqual(layers(LINE, 5, 0), [[5], [1, 4, 7], [0, 3, 6, 9, 12], [2, 8, 14], [10]])

    def test_no_switch_at_all(self):
        self.assertEqual(layers(BARE, 0, 0), [[0]])

    def test_some_fixed(self):
        self.assertEqual(layers(ALONE, 0, 1), [[0], [2]])
        self.assertEqual(layers(ALONE, 0, 2), [[0], [1]])
        self.assertEqual(layers(ALONE, 1, 1), [[1]])
        self.assertEqual(layers(ALONE, 1, 2), [[1], [0]])
        self.assertEqual(layers(LINE, 0, 8), [[0], [1, 2, 4], [3, 5, 6], [7]])
        self.assertEqual(layers(LINE, 1, 1 + 4), [[1], [9]])
        self.assertEqual(layers(LINE, 9, 8), [[9], [8], [10, 12], [14]])

    def test_all_fixed(self):
        for yard in (LINE, ALONE, TEN_FEEDS, FULL):
            everything = 2 ** len(yard[1]) - 1
            for standing in (0, 1):
                self.assertEqual(layers(yard, standing, everything), [[standing]])

    def test_a_gap_that_no_deed_crosses(self):
        # A splitter alone between a feed that is fixed shut and a bar: it is Loaded either way.
        yard = (2, [("feed", 0), ("splitter", 0, 1)])
        self.assertEqual(layers(yard, 1, 1), [[1]])
        self.assertEqual(layers(yard, 3, 1), [[3]])
        self.assertEqual(layers(yard, 1, 0), [[1], [0], [2], [3]])

    def test_twelve_switches_free(self):
        counts = [1, 12, 66, 220, 495, 792, 924, 792, 495, 220, 66, 12, 1]
        told = layers(DARK, 0, 0)
        self.assertEqual([len(layer) for layer in told], counts)
        self.assertEqual([[bin(one).count("1") for one in layer] for layer in told],
                         [[far] * many for far, many in enumerate(counts)])
        self.assert_layers(FULL, 0, 0)

    def test_every_standing_that_a_deed_leads_to_is_in_a_layer(self):
        for yard, fixed in ((LINE, 0), (LINE, 2), (FULL, 0), (FULL, 4 + 64)):
            told = layers(yard, 0, fixed)
            place = {one: far for far, layer in enumerate(told) for one in layer}
            free = [number for number in range(len(yard[1])) if number not in model.numbers_in(fixed)]
            for one in place:
                behind = [model.with_turned(one, number) for number in free
                          if model.refusal(yard, one, number) is None]
                for other in behind:
                    self.assertLessEqual(place[other], place[one] + 1)

    def test_every_small_yard(self):
        for yard in model.all_yards(2, 3):
            for fixed in range(2 ** len(yard[1])):
                self.assert_layers(yard, 0, fixed)

    def test_drawn_yards(self):
        chance = random.Random(120)
        for yard in small_yards(121, 300):
            standing = chance.choice(model.safe_standings(yard))
            self.assert_layers(yard, standing, drawn_set(chance, len(yard[1]), chance.choice([0, 0, 0.3, 0.6])))


class Wishes(unittest.TestCase):
    def test_each_of_the_three_sets(self):
        # Bars 0 and 1 live, bar 2 neither, bar 3 earthed.
        yard = (4, [("feed", 0), ("breaker", 0, 1), ("earth", 3), ("earth", 1)])
        for live_ones, dead_ones, led in itertools.product(range(16), repeat=3):
            expected = live_ones | 3 == 3 and dead_ones & 3 == 0 and led | 8 == 8
            self.assertIs(as_wished(yard, 7, (live_ones, dead_ones, led)), expected)

    def test_nothing_wished(self):
        for yard in (LINE, ALONE, BARE, FULL):
            for standing in (0, 2 ** len(yard[1]) - 1):
                self.assertIs(as_wished(yard, standing, (0, 0, 0)), True)

    def test_wishes_against_themselves(self):
        for standing in range(4):
            self.assertIs(as_wished(ALONE, standing, (1, 1, 0)), False)
        for standing in range(3):
            self.assertIs(as_wished(ALONE, standing, (1, 0, 1)), False)

    def test_dead_is_not_earthed(self):
        self.assertIs(as_wished(ALONE, 0, (0, 1, 0)), True)
        self.assertIs(as_wished(ALONE, 0, (0, 0, 1)), False)
        self.assertIs(as_wished(ALONE, 2, (0, 1, 1)), True)

    def test_drawn_yards(self):
        chance = random.Random(130)
        for yard in model.drawn_yards(131, 600, 4, 8):
            standing = chance.choice(model.safe_standings(yard))
            wish = tuple(drawn_set(chance, yard[0], 0.3) for _ in range(3))
            self.assertIs(as_wished(yard, standing, wish), model.as_wished(yard, standing, wish))


class Plans(unittest.TestCase):
    def assert_plan(self, yard, standing, fixed, wish):
        """A plan that leads there with as few deeds as any, or never with every standing that deeds lead to."""
        told = plan(yard, standing, fixed, wish)
        where = (yard, standing, fixed, wish, told)
        self.assertEqual([type(part) for part in told], [str, list], where)
        self.assertIs(type(told), tuple, where)
        few = model.distances(yard, standing, fixed)
        met = [few[one] for one in few if model.as_wished(yard, one, wish)]
        if not met:
            self.assertEqual(told, ("never", sorted(few)), where)
            return None
        self.assertEqual((told[0], len(told[1])), ("plan", min(met)), where)
        self.assertTrue(self.leads_there(yard, standing, fixed, wish, told[1]), where)
        return len(told[1])

    def leads_there(self, yard, standing, fixed, wish, numbers):
        for number in numbers:
            if number in model.numbers_in(fixed) or model.refusal(yard, standing, number) is not None:
                return False
            standing = model.with_turned(standing, number)
        return model.as_wished(yard, standing, wish)

    def test_met_already(self):
        self.assertEqual(plan(LINE, 0, 0, (0, 0, 0)), ("plan", []))
        self.assertEqual(plan(LINE, 0, 15, (0, 3, 0)), ("plan", []))
        self.assertEqual(plan(LINE, 5, 0, (3, 0, 0)), ("plan", []))
        self.assertEqual(plan(LINE, 9, 0, (1, 2, 2)), ("plan", []))
        self.assertEqual(plan(BARE, 0, 0, (0, 7, 0)), ("plan", []))

    def test_one_deed(self):
        self.assertEqual(plan(LINE, 0, 0, (1, 0, 0)), ("plan", [0]))
        self.assertEqual(plan(LINE, 1, 0, (0, 1, 0)), ("plan", [0]))
        self.assertEqual(plan(LINE, 1, 0, (2, 0, 0)), ("plan", [2]))
        self.assertEqual(plan(LINE, 0, 0, (0, 0, 2)), ("plan", [3]))
        self.assertEqual(plan(LINE, 5, 0, (1, 2, 0)), ("plan", [2]))

    def test_several_deeds(self):
        self.assertEqual(plan(ALONE, 1, 0, (0, 0, 1)), ("plan", [0, 1]))
        self.assertEqual(plan(ALONE, 2, 0, (1, 0, 0)), ("plan", [1, 0]))
        # The splitter is shut first, for behind the feed it would be Loaded.
        self.assertEqual(plan(LINE, 0, 4, (2, 0, 0)), ("plan", [1, 0]))
        # And is opened last, for both bars are live ahead.
        self.assertEqual(plan(LINE, 3, 4, (1, 2, 0)), ("plan", [0, 1, 0]))
        self.assertEqual(plan(LINE, 3, 4 + 1, (1, 2, 0)), ("never", [3]))
        self.assertEqual(plan(LINE, 9, 4, (2, 0, 0))[0], "plan")
        self.assertEqual(sorted(plan(LINE, 9, 4, (2, 0, 0))[1]), [0, 0, 1, 3])

    def test_no_row_of_fewer_deeds(self):
        for yard, standing, fixed, wish, few in (
            (ALONE, 1, 0, (0, 0, 1), 2), (LINE, 3, 4, (1, 2, 0), 3), (LINE, 9, 4, (2, 0, 0), 4),
            (LINE, 10, 0, (3, 0, 0), 2), (FULL, 1, 0, (8, 0, 0), 5), (FULL, 0, 0, (1, 0, 16 + 64), 3),
            (FULL, 4 + 128, 0, (16, 0, 0), 5),
        ):
            kind, numbers = plan(yard, standing, fixed, wish)
            self.assertEqual((kind, len(numbers)), ("plan", few))
            self.assertTrue(self.leads_there(yard, standing, fixed, wish, numbers), (standing, wish, numbers))
            self.assert_plan(yard, standing, fixed, wish)
            for fewer in range(min(few, 4)):
                for row in itertools.product(range(len(yard[1])), repeat=fewer):
                    self.assertFalse(self.leads_there(yard, standing, fixed, wish, row), row)

    def test_never_with_all_standings(self):
        self.assertEqual(plan(ALONE, 0, 0, (1, 0, 1)), ("never", [0, 1, 2]))
        self.assertEqual(plan(ALONE, 1, 0, (1, 1, 0)), ("never", [0, 1, 2]))
        self.assertEqual(plan(ALONE, 0, 1, (1, 0, 0)), ("never", [0, 2]))
        self.assertEqual(plan(ALONE, 2, 3, (1, 0, 0)), ("never", [2]))
        self.assertEqual(plan(BARE, 0, 0, (4, 0, 0)), ("never", [0]))
        self.assertEqual(plan(LINE, 5, 4, (1, 0, 2)), ("never", [4, 5, 6, 7, 12, 14]))
        self.assertEqual(plan(DARK, 0, 0, (1, 0, 0)), ("never", list(range(4096))))

    def test_never_tells_the_standings_of_the_layers(self):
        for standing, fixed in ((0, 0), (1, 0), (0, 1), (4, 8), (1, 16)):
            for yard in (LINE, FULL):
                everything = [one for layer in layers(yard, standing, fixed) for one in layer]
                self.assertEqual(plan(yard, standing, fixed, (1, 1, 0)), ("never", sorted(everything)))

    def test_a_standing_told_as_never_is_closed(self):
        kind, standings = plan(FULL, 0, 1, (2, 0, 4))
        self.assertEqual(kind, "never")
        for one in standings:
            self.assertFalse(model.as_wished(FULL, one, (2, 0, 4)))
            for number in range(1, 12):
                if model.refusal(FULL, one, number) is None:
                    self.assertIn(model.with_turned(one, number), standings)
        self.assertIn(0, standings)

    def test_no_fixed_switch_is_turned(self):
        yard = (2, [("feed", 0), ("feed", 0), ("feed", 1), ("breaker", 0, 1), ("breaker", 1, 0)])
        self.assertEqual(plan(yard, 0, 1 + 4, (1, 0, 0)), ("plan", [1]))
        self.assertEqual(plan(yard, 0, 2 + 4, (1, 0, 0)), ("plan", [0]))
        self.assertEqual(plan(yard, 1, 1 + 2 + 4 + 8, (2, 0, 0)), ("plan", [4]))
        self.assertEqual(sorted(plan(yard, 0, 1 + 2 + 8, (1, 0, 0))[1]), [2, 4])
        self.assertEqual(plan(yard, 0, 1 + 2 + 4, (1, 0, 0)), ("never", [0, 8, 16, 24]))

    def test_all_three_sets_at_once(self):
        yard = (4, [("feed", 0), ("breaker", 0, 1), ("breaker", 1, 2), ("earth", 2), ("earth", 3)])
        told = plan(yard, 0, 0, (3, 4, 8))
        self.assertEqual((told[0], sorted(told[1])), ("plan", [0, 1, 4]))
        told = plan(yard, 7, 0, (3, 4, 4 + 8))
        self.assertEqual((told[0], sorted(told[1])), ("plan", [2, 3, 4]))
        self.assertLess(told[1].index(2), told[1].index(3))
        self.assertEqual(plan(yard, 0, 0, (3, 2, 8))[0], "never")
        self.assertEqual(plan(yard, 0, 0, (1, 8, 2 + 8))[0], "plan")
        self.assertEqual(plan(yard, 0, 0, (1, 0, 1 + 8))[0], "never")

    def test_ten_feeds_and_three_bars_the_other_way(self):
        chance = random.Random(132)
        for three in itertools.combinations(range(10), 3):
            standing = chance.randrange(1024)
            after = standing ^ model.mask(three)
            kind, numbers = plan(TEN_FEEDS, standing, 0, (after, 1023 - after, 0))
            self.assertEqual((kind, sorted(numbers)), ("plan", list(three)))

    def test_ten_feeds_and_all_bars_the_other_way(self):
        kind, numbers = plan(TEN_FEEDS, 341, 0, (1023 - 341, 341, 0))
        self.assertEqual((kind, sorted(numbers)), ("plan", list(range(10))))

    def test_twelve_switches_free(self):
        for standing, fixed, wish in ((0, 0, (1023, 0, 0)), (0, 0, (128, 0, 0)), (4 + 8, 0, (1 + 512, 0, 16 + 32 + 64)),
                                      (1 + 4, 2, (0, 0, 8 + 4 + 2)), (2 + 1024, 0, (0, 512, 64))):
            self.assert_plan(FULL, standing, fixed, wish)

    def test_every_small_yard(self):
        wishes = [(1, 0, 0), (2, 1, 0), (0, 3, 0), (0, 0, 1), (2, 0, 1), (0, 2, 3), (3, 0, 0)]
        for yard in model.all_yards(2, 2):
            for standing in model.safe_standings(yard):
                for wish in wishes:
                    self.assert_plan(yard, standing, 0, wish)

    def test_drawn_yards(self):
        chance = random.Random(133)
        lengths = set()
        for yard in small_yards(134, 600):
            standing = chance.choice(model.safe_standings(yard))
            fixed = drawn_set(chance, len(yard[1]), chance.choice([0, 0, 0, 0.3]))
            wish = tuple(drawn_set(chance, yard[0], often) for often in (0.2, 0.2, 0.15))
            lengths.add(self.assert_plan(yard, standing, fixed, wish))
        self.assertLessEqual({None, 0, 1, 2, 3, 4}, lengths)


class NothingShared(unittest.TestCase):
    def test_the_yard_handed_in_is_as_it_was(self):
        for yard in (LINE, ALONE, BARE, FULL):
            ahead = copy.deepcopy(yard)
            for call, given in ((layers, (0, 0)), (as_wished, (0, (1, 0, 0))), (plan, (0, 0, (1, 0, 0))),
                                (plan, (0, 0, (1, 1, 0)))):
                call(yard, *given)
                self.assertEqual(yard, ahead, call)

    def test_the_layers_told_are_the_askers_own(self):
        expected = [[0], [1, 2, 4, 8], [3, 5, 6, 9, 10, 12], [7, 14]]
        first = layers(LINE, 0, 0)
        second = layers(LINE, 0, 0)
        lists = [first, second] + first + second
        self.assertEqual(len({id(one) for one in lists}), len(lists))
        for layer in first:
            layer.append(99)
            layer[0] = 98
        first.clear()
        self.assertEqual(second, expected)
        self.assertEqual(layers(LINE, 0, 0), expected)

    def test_the_numbers_and_standings_told_are_the_askers_own(self):
        for given, expected in (
            ((ALONE, 1, 0, (0, 0, 1)), ("plan", [0, 1])), ((ALONE, 0, 0, (0, 0, 0)), ("plan", [])),
            ((ALONE, 0, 0, (1, 1, 0)), ("never", [0, 1, 2])), ((BARE, 0, 0, (1, 0, 0)), ("never", [0])),
        ):
            first = plan(*given)
            second = plan(*given)
            self.assertIsNot(first[1], second[1])
            first[1].append(9)
            first[1][0] = 8
            self.assertEqual(second, expected)
            self.assertEqual(plan(*given), expected)

    def test_the_same_asked_again_is_answered_the_same(self):
        yard = (2, [("feed", 0), ("feed", 0), ("feed", 1), ("breaker", 0, 1), ("breaker", 0, 1), ("splitter", 0, 1)])
        told = [plan(yard, 0, 0, (3, 0, 0)) for _ in range(4)]
        self.assertEqual(told, told[:1] * 4)
        self.assertEqual(plan(copy.deepcopy(yard), 0, 0, (3, 0, 0)), told[0])


if __name__ == "__main__":
    unittest.main()
