"""The desk: rows are told, one at a time, and each is answered by a text."""

from earthward.board import Board
from earthward.errors import NoBar, NoRow
from earthward.locks import fewest_locks
from earthward.plans import plan
from earthward.reach import earthed, has, live, numbers_in
from earthward.yards import count_in, numbers_told, shown, switch_in


def joined_by_blanks(numbers):
    if not numbers:
        return "none"
    return " ".join([str(number) for number in numbers])


def one_number(words):
    if len(words) != 1:
        raise NoRow("one number is due")
    return numbers_told(words)[0]


# The set of the bars that the words tell, in a yard of so many.
def place_told(words, bars):
    numbers = numbers_told(words)
    if not numbers or any([one >= other for one, other in zip(numbers, numbers[1:])]):
        raise NoRow("bars are due, rising, none twice")
    # Ahead of the shifting: a number of nine figures makes a set too great to keep.
    if numbers[-1] >= bars:
        raise NoBar("there is no such bar")
    return sum([1 << number for number in numbers])


def wish_for(kind, place):
    if kind == "live":
        return (place, 0, 0)
    if kind == "dead":
        return (0, place, 0)
    return (0, 0, place)


class Desk:
    def __init__(self):
        self.yard = None
        self.board = None

    def say(self, row):
        words = row.split(" ")
        kind = words[0]
        if kind == "bars":
            return self.begin((count_in(row), []))
        if self.yard is None:
            raise NoRow("there is no yard yet")
        if kind in ("feed", "earth", "breaker", "splitter"):
            return self.add_switch(row)
        if kind in ("turn", "lock", "unlock", "back"):
            return self.done(kind, one_number(words[1:]))
        if kind == "permit":
            number = self.board.permit(place_told(words[1:], self.yard[0]))
            return f"permit {number}"
        if kind == "locks":
            return joined_by_blanks(fewest_locks(self.yard, place_told(words[1:], self.yard[0]))[0])
        if kind == "reach":
            return self.reach(words[1:])
        if len(words) != 1:
            raise NoRow("no such row")
        return self.tell(kind)

    def begin(self, yard):
        self.yard = yard
        self.board = Board(yard)
        return "ok"

    def add_switch(self, row):
        bars = self.yard[0]
        switches = self.yard[1]
        return self.begin((bars, switches + [switch_in(row, bars, len(switches))]))

    def done(self, kind, number):
        if kind == "turn":
            return "shut" if has(self.board.turn(number), number) else "open"
        if kind == "lock":
            self.board.lock(number)
        if kind == "unlock":
            self.board.unlock(number)
        if kind == "back":
            self.board.give_back(number)
        return "ok"

    def reach(self, words):
        if len(words) != 2 or words[0] not in ("live", "dead", "earthed"):
            raise NoRow("a kind and one bar are due")
        wish = wish_for(words[0], place_told(words[1:], self.yard[0]))
        told = plan(self.yard, self.board.standing(), self.board.locked() | self.board.held(), wish)
        if told[0] == "never":
            return "never"
        return " ".join(["plan"] + [str(number) for number in told[1]])

    def tell(self, kind):
        if kind == "live":
            return joined_by_blanks(numbers_in(live(self.yard, self.board.standing())))
        if kind == "earthed":
            return joined_by_blanks(numbers_in(earthed(self.yard, self.board.standing())))
        if kind == "locked":
            return joined_by_blanks(numbers_in(self.board.locked()))
        if kind == "shut":
            return joined_by_blanks(numbers_in(self.board.standing()))
        if kind == "show":
            return shown(self.yard)
        raise NoRow("no such row")
