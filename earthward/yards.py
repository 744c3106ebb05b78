"""Yards: read from a text, and shown as one."""

from earthward.errors import NoBar, NoMeasure, NoRow, Same

MOST_BARS = 10
MOST_SWITCHES = 12
MOST_FIGURES = 9
FIGURES = "0123456789"

# How many numbers stand behind the first word of a row.
NUMBERS_BEHIND = {"bars": 1, "feed": 1, "earth": 1, "breaker": 2, "splitter": 2}


def is_number(word):
    # The length is asked ahead of all else: a word may be of any length, and int refuses very long ones.
    if not 1 <= len(word) <= MOST_FIGURES:
        return False
    if word[0] == "0" and len(word) > 1:
        return False
    return all([sign in FIGURES for sign in word])


def numbers_told(words):
    if not all([is_number(word) for word in words]):
        raise NoRow("a word of the row is no number")
    return [int(word) for word in words]


# The first word and the numbers of a row of a yard's text, the count's row or a switch's.
def parted(row):
    words = row.split(" ")
    kind = words[0]
    if kind not in NUMBERS_BEHIND or len(words) != 1 + NUMBERS_BEHIND[kind]:
        raise NoRow("no such row")
    return tuple([kind] + numbers_told(words[1:]))


def count_in(row):
    told = parted(row)
    if told[0] != "bars":
        raise NoRow("the row of the count is due")
    if not 1 <= told[1] <= MOST_BARS:
        raise NoMeasure("the count of the bars is out of its bounds")
    return told[1]


# The switch that a row tells, in a yard that has so many bars and so many switches already.
def switch_in(row, bars, switches_ahead):
    switch = parted(row)
    if switch[0] == "bars":
        raise NoRow("the row of a switch is due")
    if switches_ahead >= MOST_SWITCHES:
        raise NoRow("one switch too many")
    if max(switch[1:]) >= bars:
        raise NoBar("there is no such bar")
    if len(switch) == 3 and switch[1] == switch[2]:
        raise Same("a switch leads from a bar to itself")
    return switch


def read(text):
    rows = text.split("\n")
    bars = count_in(rows[0])
    switches = []
    for row in rows[1:]:
        switches.append(switch_in(row, bars, len(switches)))
    return (bars, switches)


def row_of(switch):
    return " ".join([switch[0]] + [str(bar) for bar in switch[1:]])


def shown(yard):
    count = yard[0]
    return "\n".join([f"bars {count}"] + [row_of(switch) for switch in yard[1]])
