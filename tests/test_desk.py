"""Points 2, 3, 18 and 19: the desk, its rows and answers."""

import random
import unittest

import model
from earthward import errors
from earthward.desk import Desk
from earthward.locks import fewest_locks
from earthward.plans import plan
from earthward.yards import read
from model_board import ModelDesk, Refused
from refusals import assert_refused

# Bar 0 fed (0), bars 0 and 1 by a breaker (1), 1 and 2 by a splitter (2), bar 2 earthed (3), bar 3 earthed (4).
LINE = "bars 4\nfeed 0\nbreaker 0 1\nsplitter 1 2\nearth 2\nearth 3"
SEEN = ("show", "shut", "locked", "live", "earthed")
# Each form of a row, with numbers that there are in the yard LINE.
GOOD = ("bars 2", "feed 0", "earth 1", "breaker 0 1", "splitter 1 2", "turn 0", "lock 0", "permit 3", "permit 2 3",
        "locks 0", "locks 0 1 3", "reach live 0", "reach dead 1", "reach earthed 2", "live", "earthed", "locked", "shut",
        "show")


def desk_of(text, *rows):
    """A desk that was told the rows of the text, then these."""
    desk = Desk()
    for row in text.split("\n") + list(rows):
        desk.say(row)
    return desk


def seen(desk):
    return [desk.say(row) for row in SEEN]


class DeskCase(unittest.TestCase):
    def assert_desk_refuses(self, name, desk, row):
        """The refusal that is due, and nothing changed behind it."""
        ahead = seen(desk)
        assert_refused(self, name, desk.say, row)
        self.assertEqual(seen(desk), ahead, row)

    def assert_answers(self, desk, *pairs):
        for row, answer in pairs:
            told = desk.say(row)
            self.assertEqual(told, answer, row)
            self.assertIs(type(told), str, row)


class YardRows(DeskCase):
    def test_a_yard_is_told(self):
        desk = Desk()
        for row in LINE.split("\n"):
            self.assertEqual(desk.say(row), "ok")
        self.assert_answers(desk, ("show", LINE), ("shut", "none"), ("locked", "none"), ("live", "none"),
                            ("earthed", "none"))

    def test_a_yard_without_switches(self):
        desk = desk_of("bars 10")
        self.assert_answers(desk, ("show", "bars 10"), ("live", "none"), ("earthed", "none"), ("locked", "none"),
                            ("shut", "none"), ("reach dead 9", "plan"), ("reach live 9", "never"), ("locks 0 9", "none"))

    def test_a_new_count_behind_deeds_locks_and_permits(self):
        desk = desk_of(LINE, "turn 4", "lock 0", "permit 3", "permit 3")
        self.assert_answers(desk, ("bars 3", "ok"), ("show", "bars 3"), ("shut", "none"), ("locked", "none"),
                            ("earth 0", "ok"), ("turn 0", "shut"), ("permit 0", "permit 1"))
        self.assert_desk_refuses("NoPermit", desk, "back 2")

    def test_the_same_count_again_empties_the_yard(self):
        desk = desk_of(LINE, "turn 0")
        self.assert_answers(desk, ("bars 4", "ok"), ("show", "bars 4"), ("live", "none"))
        self.assert_desk_refuses("NoSwitch", desk, "turn 0")

    def test_a_new_switch_behind_deeds_locks_and_permits(self):
        desk = desk_of(LINE, "turn 4", "turn 3", "lock 0", "permit 3", "permit 2 3")
        self.assert_answers(desk, ("shut", "3 4"), ("feed 3", "ok"), ("show", LINE + "\nfeed 3"), ("shut", "none"),
                            ("locked", "none"), ("earthed", "none"))
        self.assert_desk_refuses("NoPermit", desk, "back 1")
        self.assert_desk_refuses("NoPermit", desk, "back 2")
        self.assert_answers(desk, ("turn 5", "shut"), ("live", "3"), ("turn 5", "open"), ("lock 5", "ok"),
                            ("turn 4", "shut"), ("permit 3", "permit 1"))

    def test_twelve_switches(self):
        desk = desk_of("bars 2", *["feed 0"] * 11)
        self.assertEqual(desk.say("splitter 0 1"), "ok")
        desk.say("turn 3")
        for row in ("feed 0", "earth 1", "breaker 0 1", "splitter 1 0"):
            self.assert_desk_refuses("NoRow", desk, row)
        # Ahead of what else is wrong with it.
        for row in ("feed 2", "breaker 1 1", "splitter 5 5", "earth 999999999"):
            self.assert_desk_refuses("NoRow", desk, row)
        self.assert_answers(desk, ("shut", "3"), ("bars 2", "ok"), ("feed 0", "ok"), ("show", "bars 2\nfeed 0"))

    def test_the_show_is_read_again(self):
        desk = desk_of(LINE, "turn 0")
        self.assertEqual(read(desk.say("show"))[1][2], ("splitter", 1, 2))


class DeedRows(DeskCase):
    def test_turns(self):
        desk = desk_of(LINE)
        self.assert_answers(
            desk, ("turn 0", "shut"), ("shut", "0"), ("live", "0"), ("turn 1", "shut"), ("live", "0 1"), ("shut", "0 1"),
            ("turn 4", "shut"), ("earthed", "3"), ("shut", "0 1 4"), ("turn 0", "open"), ("live", "none"),
            ("shut", "1 4"), ("turn 2", "shut"), ("turn 3", "shut"), ("earthed", "0 1 2 3"),
        )

    def test_switches_of_two_figures(self):
        desk = desk_of("bars 10", *[f"feed {bar % 10}" for bar in range(12)])
        self.assert_answers(desk, ("turn 11", "shut"), ("turn 10", "shut"), ("turn 9", "shut"), ("shut", "9 10 11"),
                            ("live", "0 1 9"), ("turn 10", "open"), ("live", "1 9"), ("lock 10", "ok"),
                            ("locked", "10"))

    def test_refused_turns(self):
        desk = desk_of(LINE, "turn 0", "turn 1")
        self.assert_desk_refuses("NoSwitch", desk, "turn 5")
        self.assert_desk_refuses("NoSwitch", desk, "turn 999999999")
        self.assert_desk_refuses("Loaded", desk, "turn 2")
        desk = desk_of(LINE, "turn 2", "turn 3", "turn 0")
        self.assert_desk_refuses("Shorted", desk, "turn 1")
        desk = desk_of(LINE, "turn 4", "lock 2", "permit 3")
        self.assert_desk_refuses("Locked", desk, "turn 2")
        self.assert_desk_refuses("Held", desk, "turn 4")

    def test_locks_put_and_taken_off(self):
        desk = desk_of(LINE)
        self.assert_answers(desk, ("lock 2", "ok"), ("locked", "2"), ("lock 0", "ok"), ("locked", "0 2"),
                            ("unlock 2", "ok"), ("locked", "0"), ("shut", "none"))
        self.assert_desk_refuses("NoSwitch", desk, "lock 5")
        self.assert_desk_refuses("NoSwitch", desk, "unlock 999999999")
        self.assert_desk_refuses("NoLock", desk, "lock 1")
        self.assert_desk_refuses("NoLock", desk, "lock 3")
        self.assert_desk_refuses("Locked", desk, "lock 0")
        self.assert_desk_refuses("NotLocked", desk, "unlock 2")
        desk.say("turn 2")
        self.assert_desk_refuses("NotOpen", desk, "lock 2")
        desk = desk_of(LINE, "turn 4", "lock 2", "permit 3")
        self.assert_desk_refuses("Held", desk, "unlock 2")

    def test_permits(self):
        desk = desk_of(LINE, "turn 3", "turn 4", "lock 0")
        self.assert_answers(desk, ("permit 3", "permit 1"), ("permit 2", "permit 2"), ("permit 2 3", "permit 3"),
                            ("back 2", "ok"), ("permit 3", "permit 4"), ("back 1", "ok"), ("back 3", "ok"))
        self.assert_desk_refuses("Held", desk, "turn 4")
        self.assert_answers(desk, ("turn 3", "open"), ("back 4", "ok"), ("turn 4", "open"), ("unlock 0", "ok"))

    def test_refused_permits(self):
        desk = desk_of(LINE, "turn 3", "turn 4")
        self.assert_desk_refuses("NotEarthed", desk, "permit 0")
        self.assert_desk_refuses("NotEarthed", desk, "permit 1 3")
        self.assert_desk_refuses("NotDead", desk, "permit 2")
        self.assert_desk_refuses("NotDead", desk, "permit 2 3")
        for row in ("permit 4", "permit 2 4", "permit 0 999999999", "permit 999999998 999999999", "permit 0 1 2 3 4"):
            self.assert_desk_refuses("NoBar", desk, row)
        self.assertEqual(desk.say("permit 3"), "permit 1")

    def test_refused_givings_back(self):
        desk = desk_of(LINE, "turn 4", "permit 3")
        for row in ("back 0", "back 2", "back 999999999"):
            self.assert_desk_refuses("NoPermit", desk, row)
        self.assertEqual(desk.say("back 1"), "ok")
        self.assert_desk_refuses("NoPermit", desk, "back 1")


class AskingRows(DeskCase):
    def test_none(self):
        desk = desk_of(LINE)
        for row in ("live", "earthed", "locked", "shut"):
            self.assertEqual(desk.say(row), "none")

    def test_live_and_earthed_tell_bars_and_the_others_switches(self):
        desk = desk_of("bars 3\nearth 0\nearth 1\nfeed 2\nsplitter 0 1", "turn 2", "turn 1", "lock 3")
        self.assert_answers(desk, ("live", "2"), ("earthed", "1"), ("shut", "1 2"), ("locked", "3"))

    def test_reach_of_each_kind(self):
        desk = desk_of(LINE)
        self.assert_answers(desk, ("reach live 0", "plan 0"), ("reach dead 0", "plan"), ("reach earthed 2", "plan 3"),
                            ("reach earthed 3", "plan 4"), ("reach live 3", "never"), ("reach dead 3", "plan"))
        self.assertIn(desk.say("reach live 1"), ("plan 0 1", "plan 1 0"))
        self.assertEqual(sorted(desk.say("reach earthed 1").split(" ")), ["2", "3", "plan"])
        desk.say("turn 0")
        self.assert_answers(desk, ("reach live 0", "plan"), ("reach dead 0", "plan 0"), ("reach live 1", "plan 1"))
        desk.say("turn 1")
        # The splitter would be under load: the breaker is opened ahead and shut behind.
        self.assertEqual(desk.say("reach live 2"), "plan 1 2 1")

    def test_reach_with_numbers_of_two_figures(self):
        desk = desk_of("bars 3", *["earth 1"] * 10, "feed 0", "feed 2")
        self.assert_answers(desk, ("reach live 0", "plan 10"), ("reach live 2", "plan 11"), ("reach live 1", "never"))

    def test_reach_turns_nothing(self):
        desk = desk_of(LINE, "turn 0", "turn 4", "lock 2", "permit 3")
        ahead = seen(desk)
        for row in ("reach live 1", "reach dead 0", "reach earthed 2", "reach live 3", "reach earthed 1"):
            first = desk.say(row)
            self.assertEqual(desk.say(row), first)
            self.assertEqual(seen(desk), ahead)

    def test_locked_and_held_switches_are_fixed(self):
        desk = desk_of("bars 2\nfeed 0\nfeed 0\nearth 1\nbreaker 0 1\nsplitter 0 1\nearth 1")
        self.assertEqual(desk.say("lock 0"), "ok")
        self.assertEqual(desk.say("reach live 0"), "plan 1")
        self.assertEqual(desk.say("lock 1"), "ok")
        self.assertEqual(desk.say("reach live 0"), "never")
        self.assertEqual(desk.say("turn 2"), "shut")
        self.assertEqual(desk.say("permit 1"), "permit 1")
        # The earth that is held stays shut, and the held locks stay.
        self.assertEqual(desk.say("reach live 1"), "never")
        self.assertEqual(desk.say("reach earthed 0"), "plan 3")
        self.assertEqual(desk.say("back 1"), "ok")
        self.assertEqual(desk.say("unlock 1"), "ok")
        self.assertIn(desk.say("reach live 1"), ("plan 2 1 3", "plan 2 3 1", "plan 1 2 3", "plan 2 4 1"))

    def test_reach_with_a_permit_and_no_locks(self):
        desk = desk_of("bars 3\nearth 0\nbreaker 0 1\nfeed 2\nearth 1", "turn 0", "permit 0")
        self.assertIn(desk.say("reach earthed 1"), ("plan 1", "plan 3"))
        self.assertEqual(desk.say("reach live 2"), "plan 2")
        self.assertEqual(desk.say("reach live 0"), "never")

    def test_reach_is_as_plan_tells_it(self):
        chance = random.Random(180)
        for bars, switches in model.drawn_yards(181, 60, 5, 7):
            desk = desk_of(f"bars {bars}", *[" ".join(map(str, switch)) for switch in switches])
            standing = locks = 0
            for _ in range(8 if switches else 0):
                number = chance.randrange(len(switches))
                locking = chance.random() < 0.3
                try:
                    desk.say(f"lock {number}" if locking else f"turn {number}")
                except errors.WardError:
                    continue
                locks ^= 2 ** number if locking else 0
                standing ^= 0 if locking else 2 ** number
            for bar in range(bars):
                for kind, wish in (("live", (2 ** bar, 0, 0)), ("dead", (0, 2 ** bar, 0)), ("earthed", (0, 0, 2 ** bar))):
                    answer, numbers = plan((bars, switches), standing, locks, wish)
                    expected = [answer] + [str(number) for number in numbers if answer == "plan"]
                    self.assertEqual(desk.say(f"reach {kind} {bar}"), " ".join(expected))

    def test_refused_reaching(self):
        desk = desk_of(LINE)
        for row in ("reach live 4", "reach dead 999999999", "reach earthed 10"):
            self.assert_desk_refuses("NoBar", desk, row)
        for row in ("reach", "reach live", "reach 0", "reach live 0 1", "reach lively 0", "reach shut 0", "reach locked 0",
                    "reach none 9", "reach Live 0", "reach live -1", "reach live 00", "reach live x", "reach  live 0",
                    "reach live  0", "reach live 0 ", "reach  0", "reach 0 live", "reach live,0", "reach reach 0"):
            self.assert_desk_refuses("NoRow", desk, row)

    def test_locks(self):
        desk = desk_of(LINE)
        self.assert_answers(desk, ("locks 0", "0"), ("locks 3", "none"), ("locks 0 1 2 3", "0"))
        self.assertIn(desk.say("locks 2"), ("0", "2"))
        desk = desk_of("bars 3", *["breaker 0 1"] * 9, "feed 0", "feed 1", "feed 2")
        self.assert_answers(desk, ("locks 0", "9 10"), ("locks 2", "11"), ("locks 1 2", "9 10 11"))

    def test_locks_are_as_fewest_locks_tells_them(self):
        chance = random.Random(182)
        for bars, switches in model.drawn_yards(183, 150, 6, 12):
            desk = desk_of(f"bars {bars}", *[" ".join(map(str, switch)) for switch in switches])
            place = chance.randrange(1, 2 ** bars)
            row = " ".join(map(str, model.numbers_in(place)))
            locks = fewest_locks((bars, switches), place)[0]
            self.assertEqual(desk.say(f"locks {row}"), " ".join(map(str, locks)) or "none")

    def test_the_locks_that_are_told_are_not_put(self):
        desk = desk_of(LINE, "turn 0")
        ahead = seen(desk)
        self.assertEqual(desk.say("locks 0"), "0")
        self.assertEqual(seen(desk), ahead)

    def test_refused_locks(self):
        desk = desk_of(LINE)
        for row in ("locks 4", "locks 0 4", "locks 999999999", "locks 0 1 2 3 10"):
            self.assert_desk_refuses("NoBar", desk, row)


class RowsOfNoForm(DeskCase):
    def test_unknown_kinds(self):
        desk = desk_of(LINE, "turn 0")
        for row in ("", " ", "\n", "none", "ok", "help", "open 0", "close 0", "switch 0", "Live", "LIVE", "lives", "liv",
                    "Turn 0", "turned 0", "bar 3", "Bars 3", "feeds 0", "locked 0", "unlocks 0", "dead", "dead 0", "0",
                    "1 2", "plan live 0", "permits", "held", "give_back 1", "x" * 10000, "reset", "-", "turn0", "turn"):
            self.assert_desk_refuses("NoRow", desk, row)

    def test_words_lacking_and_too_many(self):
        desk = desk_of(LINE, "turn 0", "lock 2")
        for row in ("bars", "bars 3 3", "feed", "feed 0 1", "earth", "earth 0 1", "breaker", "breaker 0", "breaker 0 1 2",
                    "splitter", "splitter 0", "splitter 0 1 2", "turn", "turn 0 1", "lock", "lock 0 2", "unlock",
                    "unlock 2 2", "back", "back 1 2", "permit", "locks", "live 0", "earthed 0", "locked 0", "shut 0",
                    "show 0", "show show", "live live"):
            self.assert_desk_refuses("NoRow", desk, row)

    def test_blanks_ahead_behind_and_doubled(self):
        desk = desk_of(LINE, "turn 4")
        for row in GOOD:
            for faulty in (" " + row, row + " ", "  " + row, row + "  ", " " + row + " ", row.replace(" ", "  ", 1) + " ",
                           row + "\n", "\n" + row, row + "\nshow"):
                self.assert_desk_refuses("NoRow", desk, faulty)
            if " " in row:
                for faulty in (row.replace(" ", "  "), row.replace(" ", ""), row.replace(" ", "\n"), row.replace(" ", ",")):
                    self.assert_desk_refuses("NoRow", desk, faulty)

    def test_numbers_written_otherwise(self):
        desk = desk_of(LINE, "turn 4", "permit 3")
        heads = ("bars", "feed", "earth", "breaker 0", "splitter 0", "turn", "lock", "unlock", "back", "permit", "locks",
                 "permit 0", "locks 0", "reach live", "reach dead", "reach earthed")
        for head in heads:
            for number in ("00", "01", "-1", "+1", "1.0", "1e0", "0x1", "1_0", "one", "a", "", "1000000000", "9999999999",
                           "1" * 30, "9" * 5000, "-0", "1-", "1,2", "~", "0000000001", "(1)", "1\n"):
                self.assert_desk_refuses("NoRow", desk, f"{head} {number}")

    def test_numbers_of_nine_figures_are_numbers(self):
        desk = desk_of(LINE)
        for row, name in (("bars 999999999", "NoMeasure"), ("feed 999999999", "NoBar"), ("breaker 0 100000000", "NoBar"),
                          ("turn 999999999", "NoSwitch"), ("lock 100000000", "NoSwitch"), ("back 999999999", "NoPermit"),
                          ("unlock 999999999", "NoSwitch"), ("permit 999999999", "NoBar"), ("locks 100000000", "NoBar"),
                          ("reach live 999999999", "NoBar")):
            self.assert_desk_refuses(name, desk, row)

    def test_bars_that_do_not_rise_or_come_twice(self):
        desk = desk_of(LINE, "turn 3", "turn 4")
        for bars in ("3 2", "3 3", "0 0", "0 2 1", "1 0 2", "0 1 1", "2 2 3", "0 1 2 3 3", "1 0"):
            self.assert_desk_refuses("NoRow", desk, f"permit {bars}")
            self.assert_desk_refuses("NoRow", desk, f"locks {bars}")
        # Ahead of a bar that there is not.
        for bars in ("9 3", "4 4", "0 999999999 999999999", "999999999 0"):
            self.assert_desk_refuses("NoRow", desk, f"permit {bars}")
            self.assert_desk_refuses("NoRow", desk, f"locks {bars}")

    def test_very_long_rows(self):
        desk = desk_of(LINE, "turn 0")
        rising = " ".join(map(str, range(20000)))
        self.assert_desk_refuses("NoBar", desk, "permit " + rising)
        self.assert_desk_refuses("NoBar", desk, "locks " + rising)
        self.assert_desk_refuses("NoRow", desk, "permit " + rising + " 3")
        self.assert_desk_refuses("NoRow", desk, "turn " + rising)
        self.assert_desk_refuses("NoRow", desk, "turn" + " " * 50000)

    def test_rows_ahead_of_the_first_count(self):
        desk = Desk()
        for row in GOOD[1:] + ("turn 99", "permit 99", "breaker 1 1", "feed 999999999", "", "x", "back 1", "unlock 0"):
            assert_refused(self, "NoRow", desk.say, row)
        for row, name in (("bars 0", "NoMeasure"), ("bars 11", "NoMeasure"), ("bars x", "NoRow"), ("bars", "NoRow")):
            assert_refused(self, name, desk.say, row)
        for row in GOOD[1:]:
            assert_refused(self, "NoRow", desk.say, row)
        self.assertEqual(desk.say("bars 1"), "ok")
        self.assertEqual(desk.say("show"), "bars 1")


class RowsOfTheYardRefused(DeskCase):
    def test_no_measure(self):
        desk = desk_of(LINE, "turn 0", "lock 2")
        for count in (0, 11, 12, 100, 999999999):
            self.assert_desk_refuses("NoMeasure", desk, f"bars {count}")

    def test_no_bar(self):
        desk = desk_of(LINE, "turn 0", "lock 2")
        for row in ("feed 4", "earth 4", "breaker 0 4", "breaker 4 0", "splitter 4 5", "splitter 10 0"):
            self.assert_desk_refuses("NoBar", desk, row)

    def test_same(self):
        desk = desk_of(LINE, "turn 0", "lock 2")
        for row in ("breaker 0 0", "splitter 3 3"):
            self.assert_desk_refuses("Same", desk, row)

    def test_no_bar_ahead_of_same(self):
        desk = desk_of(LINE, "turn 0", "lock 2")
        for row in ("breaker 4 4", "splitter 999999999 999999999"):
            self.assert_desk_refuses("NoBar", desk, row)

    def test_a_refused_row_leaves_the_permits(self):
        desk = desk_of(LINE, "turn 4", "permit 3")
        for row, name in (("bars 11", "NoMeasure"), ("feed 4", "NoBar"), ("breaker 1 1", "Same"), ("bars 3 ", "NoRow"),
                          ("turn 4", "Held")):
            self.assert_desk_refuses(name, desk, row)
        self.assertEqual(desk.say("permit 3"), "permit 2")
        self.assertEqual(desk.say("back 1"), "ok")


def drawn_row(chance, bars, many):
    """A row, mostly of a form that there is, for a yard of so many bars and switches."""
    kind = chance.choices(("switch", "number", "place", "reach", "word", "bars", "odd"), [4, 40, 18, 5, 8, 0.3, 3])[0]
    bar = chance.randrange(bars + (chance.random() < 0.1))
    if kind == "switch":
        return " ".join(map(str, model.drawn_switch(chance, bars + 1)))
    if kind == "number":
        word = chance.choices(("turn", "lock", "unlock", "back"), [10, 5, 1, 1])[0]
        return f"{word} {chance.randrange(max(many, 3) + (chance.random() < 0.1))}"
    if kind == "place":
        chosen = chance.sample(range(bars), chance.randint(1, min(2, bars)))
        shown = sorted(chosen) if chance.random() < 0.9 else chosen + [bar]
        return " ".join([chance.choice(("permit", "permit", "permit", "locks")), *map(str, shown)])
    if kind == "reach":
        return f"reach {chance.choice(('live', 'dead', 'earthed'))} {bar}"
    if kind == "word":
        return chance.choice(SEEN)
    if kind == "bars":
        return f"bars {chance.choice((0, 1, 2, 3, 4, 5, 6, 11))}"
    row = chance.choice(GOOD)
    place = chance.randrange(len(row) + 1)
    return row[:place] + chance.choice(("", " ", "0", "-", "x", "\n")) + row[place + chance.randint(0, 1):]


class AgainstTheModel(DeskCase):
    def both(self, desk, other, row):
        try:
            expected = other.say(row)
        except Refused as refused:
            assert_refused(self, refused.args[0], desk.say, row)
            return refused.args[0]
        self.assertEqual(desk.say(row), expected, (other.rows, row))
        return "done"

    def test_drawn_rows(self):
        chance = random.Random(190)
        met = []
        for _ in range(120):
            desk = Desk()
            other = ModelDesk()
            for row in self.first_rows(chance):
                self.assertEqual(self.both(desk, other, row), "done")
            for _ in range(60):
                row = drawn_row(chance, other.board.bars, len(other.rows) - 1)
                met.append((row.split(" ")[0], self.both(desk, other, row)))
                for asked in SEEN:
                    self.assertEqual(self.both(desk, other, asked), "done")
        for kind, name in (
            ("turn", "done"), ("turn", "NoSwitch"), ("turn", "Locked"), ("turn", "Held"), ("turn", "Loaded"),
            ("turn", "Shorted"), ("lock", "done"), ("lock", "NoLock"), ("lock", "NotOpen"), ("lock", "Locked"),
            ("unlock", "done"), ("unlock", "NotLocked"), ("unlock", "Held"), ("permit", "done"), ("permit", "NoRow"),
            ("permit", "NotEarthed"), ("permit", "NotDead"), ("back", "done"), ("back", "NoPermit"), ("locks", "done"),
            ("reach", "done"), ("reach", "NoBar"), ("feed", "done"), ("splitter", "done"), ("breaker", "NoBar"),
        ):
            self.assertGreater(met.count((kind, name)), 3, (kind, name))

    def first_rows(self, chance):
        bars = chance.randint(1, 4)
        earths = [("earth", bar) for bar in chance.sample(range(bars), chance.randint(1, bars))]
        others = [model.drawn_switch(chance, bars) for _ in range(chance.randint(1, 6))]
        return [f"bars {bars}"] + [" ".join(map(str, switch)) for switch in others + earths]


class ThePromise(unittest.TestCase):
    def test_rows_of_drawn_deeds(self):
        """While a permit stands its bars are earthed, and dead where all switches but the locked ones are shut."""
        chance = random.Random(33)
        watched = 0
        for yard in model.drawn_yards(34, 150, 4, 9):
            if len(yard[1]) < 3:
                continue
            yard = (yard[0], yard[1] + [("earth", chance.randrange(yard[0])), ("earth", 0)])
            desk = desk_of(f"bars {yard[0]}", *[" ".join(map(str, switch)) for switch in yard[1]])
            standing_permits = {}
            for _ in range(70):
                row = drawn_row(chance, yard[0], len(yard[1]))
                if row.split(" ")[0] not in ("turn", "lock", "unlock", "permit", "back"):
                    continue
                self.note(desk, row, standing_permits)
                watched += len(standing_permits)
                self.assert_safe(desk, yard, standing_permits)
        self.assertGreater(watched, 2000)

    def note(self, desk, row, standing_permits):
        """Says the row, and notes which permits stand then."""
        words = row.split(" ")
        try:
            answer = desk.say(row)
        except errors.WardError:
            return
        if words[0] == "permit":
            standing_permits[answer.split(" ")[1]] = {int(word) for word in words[1:]}
        if words[0] == "back":
            standing_permits.pop(words[1])

    def numbers(self, answer):
        return set() if answer == "none" else {int(word) for word in answer.split(" ")}

    def assert_safe(self, desk, yard, standing_permits):
        live_ones, led, locked, shut_ones = [self.numbers(desk.say(row)) for row in ("live", "earthed", "locked", "shut")]
        self.assertEqual(live_ones & led, set(), yard)
        standing = model.mask(shut_ones)
        self.assertEqual(live_ones, set(model.numbers_in(model.live(yard, standing))))
        self.assertEqual(led, set(model.numbers_in(model.earthed(yard, standing))))
        for bars in standing_permits.values():
            self.assertLessEqual(bars, led, yard)
            self.assertTrue(model.dead_with(yard, model.mask(bars), locked), yard)


class NothingShared(unittest.TestCase):
    def test_two_desks_do_not_touch_one_another(self):
        one = desk_of(LINE, "turn 4", "permit 3", "lock 0")
        other = Desk()
        assert_refused(self, "NoRow", other.say, "show")
        other.say("bars 1")
        other.say("earth 0")
        other.say("turn 0")
        self.assertEqual(other.say("permit 0"), "permit 1")
        self.assertEqual(seen(one), [LINE, "4", "0", "none", "3"])
        self.assertEqual(one.say("permit 3"), "permit 2")
        one.say("bars 2")
        self.assertEqual(seen(other), ["bars 1\nearth 0", "0", "none", "none", "0"])
        self.assertEqual(other.say("back 1"), "ok")

    def test_the_same_rows_are_answered_the_same(self):
        rows = LINE.split("\n") + ["reach live 2", "locks 1 2", "turn 0", "reach live 2", "turn 1", "live", "reach dead 0"]
        told = [[desk.say(row) for row in rows] for desk in (Desk(), Desk(), Desk())]
        self.assertEqual(told, told[:1] * 3)


if __name__ == "__main__":
    unittest.main()
