"""Points 2, 4, 6 and 7: yards, their texts, and the texts that are refused."""

import copy
import re
import unittest

from earthward.yards import read, shown
from refusals import assert_refused

SAMPLE = "bars 4\nfeed 0\nearth 3\nbreaker 0 1\nsplitter 2 3\nfeed 0"
SAMPLE_YARD = (4, [("feed", 0), ("earth", 3), ("breaker", 0, 1), ("splitter", 2, 3), ("feed", 0)])

YARDS = (
    (1, []),
    (10, []),
    (1, [("feed", 0)]),
    (1, [("feed", 0), ("earth", 0)] * 6),
    (2, [("splitter", 1, 0)] * 12),
    (2, [("breaker", 0, 1), ("breaker", 1, 0), ("breaker", 0, 1), ("splitter", 0, 1)]),
    (10, [("feed", 9), ("earth", 9), ("breaker", 9, 0), ("splitter", 0, 9)]),
    (10, [("feed", bar) for bar in range(10)] + [("earth", 0), ("earth", 9)]),
    (10, [("breaker", bar, bar + 1) for bar in range(9)] + [("splitter", 9, 0)] * 3),
    SAMPLE_YARD,
)

NO_NUMBERS = (
    "", "00", "01", "007", "0000000000", "1234567890", "1000000000", "0123456789", "1" * 5000, "0" * 5000,
    "9" * 100000, "-1", "+1", "-0", "1_0", "1.0", "1e0", "0x1", "a", "1a", "a1", "one", "\t1", "1,", "(1)",
)

KINDS = (("feed", 1), ("earth", 1), ("breaker", 2), ("splitter", 2))


def with_row(place, row):
    """Five rows behind a count of 4, the one at the place being the row."""
    rows = ["bars 4", "feed 0", "earth 3", "breaker 0 1", "splitter 2 3"]
    rows[place] = row
    return "\n".join(rows)


def due(text):
    """The refusal that point 7 asks for, or None: told again by patterns, apart from the program."""
    number = "(0|[1-9][0-9]{0,8})"
    bars = 0
    for place, row in enumerate(text.split("\n")):
        count = re.fullmatch("bars " + number, row)
        switch = re.fullmatch(f"(?:feed|earth) {number}|(?:breaker|splitter) {number} {number}", row)
        if (count if place == 0 else switch) is None or place > 12:
            return "NoRow"
        if place == 0:
            bars = int(count.group(1))
            if not 1 <= bars <= 10:
                return "NoMeasure"
            continue
        ends = [int(end) for end in switch.groups() if end is not None]
        if [end for end in ends if end >= bars]:
            return "NoBar"
        if len(ends) == 2 and ends[0] == ends[1]:
            return "Same"
    return None


def one_sign_off(text):
    """Every text that has one sign more, one less or another one."""
    signs = [chr(code) for code in range(32, 127) if chr(code) != "%"] + ["\n"]
    for place in range(len(text) + 1):
        yield text[:place] + text[place + 1:]
        for sign in signs:
            yield text[:place] + sign + text[place:]
            yield text[:place] + sign + text[place + 1:]


class Texts(unittest.TestCase):
    def test_the_text_of_a_yard(self):
        self.assertEqual(shown(SAMPLE_YARD), SAMPLE)
        self.assertEqual(shown((1, [])), "bars 1")
        self.assertEqual(shown((10, [("splitter", 9, 0)])), "bars 10\nsplitter 9 0")

    def test_the_yard_of_a_text(self):
        self.assertEqual(read(SAMPLE), SAMPLE_YARD)
        self.assertEqual(read("bars 1"), (1, []))
        self.assertEqual(read("bars 10\nsplitter 9 0"), (10, [("splitter", 9, 0)]))

    def test_read_of_shown_is_the_yard(self):
        for yard in YARDS:
            with self.subTest(yard=yard):
                self.assertEqual(read(shown(yard)), yard)

    def test_shown_of_read_is_the_text(self):
        for text in [shown(yard) for yard in YARDS] + ["bars 1\nfeed 0", "bars 3\nbreaker 2 0\nbreaker 0 2"]:
            with self.subTest(text=text):
                self.assertEqual(shown(read(text)), text)

    def test_every_count(self):
        for count in range(1, 11):
            self.assertEqual(read(f"bars {count}"), (count, []))
            self.assertEqual(shown((count, [])), f"bars {count}")

    def test_zero_to_twelve_switches(self):
        for many in range(13):
            yard = (2, [("breaker", 1, 0)] * many)
            self.assertEqual(read(shown(yard)), yard)
            self.assertEqual(shown(yard).count("\n"), many)

    def test_every_pair_of_bars(self):
        for one in range(10):
            for other in range(10):
                if one != other:
                    text = f"bars 10\nfeed {one}\nearth {other}\nbreaker {one} {other}\nsplitter {other} {one}"
                    switches = [("feed", one), ("earth", other), ("breaker", one, other), ("splitter", other, one)]
                    self.assertEqual(read(text), (10, switches))
                    self.assertEqual(shown((10, switches)), text)

    def test_the_kinds_of_what_is_told(self):
        yard = read(SAMPLE)
        self.assertIs(type(yard), tuple)
        self.assertIs(type(yard[0]), int)
        self.assertIs(type(yard[1]), list)
        for switch in yard[1]:
            self.assertIs(type(switch), tuple)
            self.assertEqual([type(part) for part in switch], [str] + [int] * (len(switch) - 1))
        self.assertIs(type(shown(yard)), str)


class NothingShared(unittest.TestCase):
    def test_the_yard_handed_in_is_as_it_was(self):
        for yard in YARDS:
            ahead = copy.deepcopy(yard)
            shown(yard)
            self.assertEqual(yard, ahead)

    def test_the_list_told_is_the_askers_own(self):
        first = read(SAMPLE)
        second = read(SAMPLE)
        self.assertIsNot(first[1], second[1])
        first[1].append(("feed", 1))
        first[1][0] = ("earth", 2)
        self.assertEqual(second, SAMPLE_YARD)
        self.assertEqual(read(SAMPLE), SAMPLE_YARD)
        first[1].clear()
        self.assertEqual(read(SAMPLE), SAMPLE_YARD)
        read("bars 2")[1].append(("feed", 1))
        self.assertEqual(read("bars 2"), (2, []))

    def test_a_yard_shown_and_then_changed_is_shown_as_changed(self):
        yard = (2, [("feed", 0)])
        self.assertEqual(shown(yard), "bars 2\nfeed 0")
        yard[1].append(("earth", 1))
        self.assertEqual(shown(yard), "bars 2\nfeed 0\nearth 1")


class Refused(unittest.TestCase):
    def assert_text(self, text, name):
        with self.subTest(text=text[:80]):
            assert_refused(self, name, read, text)

    def test_other_forms_of_the_count(self):
        for row in ("", " ", "bars", "bars ", " bars 4", "bars 4 ", "bars  4", "bars 4 4", "bar 4", "Bars 4", "BARS 4",
                    "4", "4 bars", "bars4", "bars\t4", "feed 0", "breaker 0 1", "show", "bars x", "bars -4"):
            self.assert_text(row, "NoRow")
            self.assert_text(with_row(0, row), "NoRow")

    def test_other_forms_of_a_switch(self):
        rows = ["", " ", "0", "0 1", "Feed 0", "FEED 0", "feeds 0", "fee 0", "switch 0", "show", "turn 0", "bars 4"]
        for kind, many in KINDS:
            good = " ".join([kind] + ["0", "1"][:many])
            rows += [kind, kind + " ", " " + good, good + " ", good + "  ", good.replace(" ", "  ", 1), good + " 2",
                     good + " 2 3", good + " x", good.replace(" ", ""), good.replace(" ", "\t"), "x" + good]
        rows += ["breaker 0", "splitter 0", "breaker 0  1", "splitter 0  1", "feed 0 1", "earth 0 1", "feed breaker 0 1"]
        for row in rows:
            for place in (1, 3, 4):
                self.assert_text(with_row(place, row), "NoRow")

    def test_words_that_are_no_numbers(self):
        for word in NO_NUMBERS:
            self.assert_text(f"bars {word}", "NoRow")
            for place in (1, 3, 4):
                for row in (f"feed {word}", f"earth {word}", f"breaker {word} 0", f"breaker 0 {word}",
                            f"splitter {word} 0", f"splitter 0 {word}", f"breaker {word} {word}"):
                    self.assert_text(with_row(place, row), "NoRow")

    def test_very_long_words_and_rows(self):
        for row in ("feed" * 5000, "feed " + "x" * 5000, "feed" + " 0" * 5000, " " * 5000, "9" * 5000):
            self.assert_text(row, "NoRow")
            self.assert_text("bars 4\n" + row, "NoRow")

    def test_empty_texts_and_rows(self):
        for text in ("", "\n", "\n\n", "\nbars 4", SAMPLE + "\n", SAMPLE + "\n\n", "bars 1\n", "bars 1\n\nfeed 0",
                     SAMPLE.replace("\n", "\n\n", 1)):
            self.assert_text(text, "NoRow")

    def test_the_count_lacking_or_twice(self):
        for text in ("feed 0", "feed 0\nbars 4", "bars 4\nbars 4", "bars 4\nfeed 0\nbars 4", "bars 4\nbars 4\nfeed 0",
                     "bars 4\nbars 0", "bars 4\nbars 11"):
            self.assert_text(text, "NoRow")

    def test_a_thirteenth_switch(self):
        full = "\n".join(["bars 2"] + ["feed 0"] * 12)
        self.assertEqual(len(read(full)[1]), 12)
        for row in ("feed 0", "breaker 0 1", "feed 2", "breaker 1 1", "", "x"):
            self.assert_text(full + "\n" + row, "NoRow")
        self.assert_text("\n".join([full] + ["feed 0"] * 5000), "NoRow")

    def test_a_fault_ahead_of_the_thirteenth_switch(self):
        rows = ["bars 2"] + ["feed 0"] * 13
        self.assert_text("\n".join(["bars 11"] + rows[1:]), "NoMeasure")
        self.assert_text("\n".join(rows[:12] + ["feed 2", "feed 0"]), "NoBar")
        self.assert_text("\n".join(rows[:12] + ["breaker 1 1", "feed 0"]), "Same")

    def test_counts_out_of_their_bounds(self):
        for count in ["0", "11", "12", "20", "99", "100"] + ["1" * many for many in range(2, 10)] + ["9" * 9]:
            self.assert_text(f"bars {count}", "NoMeasure")
            self.assert_text(with_row(0, f"bars {count}"), "NoMeasure")

    def test_bars_that_there_are_not(self):
        for bar in ["4", "5", "9", "10", "11"] + ["9" * many for many in range(1, 10)] + ["100000000"]:
            for place in (1, 3, 4):
                for row in (f"feed {bar}", f"earth {bar}", f"breaker {bar} 0", f"breaker 3 {bar}",
                            f"splitter {bar} 3", f"splitter 0 {bar}"):
                    self.assert_text(with_row(place, row), "NoBar")

    def test_the_first_bar_that_there_is_not(self):
        for count in range(1, 11):
            self.assertEqual(read(f"bars {count}\nfeed {count - 1}"), (count, [("feed", count - 1)]))
            self.assert_text(f"bars {count}\nfeed {count}", "NoBar")
            self.assert_text(f"bars {count}\nearth {count}", "NoBar")
            self.assert_text(f"bars {count}\nbreaker 0 {count}", "NoBar")
            self.assert_text(f"bars {count}\nsplitter {count} 0", "NoBar")

    def test_from_a_bar_to_itself(self):
        for bar in range(4):
            for place in (1, 3, 4):
                self.assert_text(with_row(place, f"breaker {bar} {bar}"), "Same")
                self.assert_text(with_row(place, f"splitter {bar} {bar}"), "Same")
        self.assert_text("bars 10\nsplitter 9 9", "Same")
        self.assert_text("bars 1\nbreaker 0 0", "Same")

    def test_two_faults_in_one_row(self):
        for row in ("breaker 4 4", "splitter 9 9", "breaker 999999999 999999999"):
            self.assert_text(with_row(3, row), "NoBar")
        for row in ("feed 9 9", "breaker 1 1 ", "breaker  1 1", "breaker 01 01", "breaker 9 09", "breaker 09 9",
                    "splitter 2 2 2", "splitter x 9", "splitter 9 1234567890", "feed 1234567890"):
            self.assert_text(with_row(3, row), "NoRow")
        for row in ("bars 0 ", "bars 00", "bars 011", "bars 11 11", "bars 1234567890", "bar 0"):
            self.assert_text(with_row(0, row), "NoRow")

    def test_two_faulty_rows(self):
        faults = (("x", "NoRow"), ("feed 4", "NoBar"), ("breaker 1 1", "Same"), ("bars 0", "NoRow"))
        for one, name in faults:
            for other, _ in faults:
                self.assert_text("\n".join(["bars 4", one, other]), name)
                self.assert_text("\n".join(["bars 4", "feed 0", one, "earth 1", other, "feed 0"]), name)
            self.assert_text("\n".join(["bars 0", one]), "NoMeasure")
            self.assert_text("\n".join(["bars 11", "feed 0", one]), "NoMeasure")
            self.assert_text("\n".join(["bars 04", one]), "NoRow")

    def test_a_refused_text_leaves_nothing_behind(self):
        self.assert_text("bars 4\nfeed 0\nfeed 9", "NoBar")
        self.assertEqual(read("bars 4\nfeed 1"), (4, [("feed", 1)]))


class OneSignOff(unittest.TestCase):
    def test_each_text_is_refused_as_due_or_shown_again(self):
        met = set()
        for sample in (SAMPLE, "bars 10\nsplitter 9 0", "\n".join(["bars 2"] + ["earth 1"] * 12)):
            for text in one_sign_off(sample):
                name = due(text)
                met.add(name)
                if name is None:
                    self.assertEqual(shown(read(text)), text)
                else:
                    assert_refused(self, name, read, text)
        self.assertEqual(met, {None, "NoRow", "NoMeasure", "NoBar", "Same"})


if __name__ == "__main__":
    unittest.main()
