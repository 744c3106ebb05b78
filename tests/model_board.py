"""What the document says of the board and the desk, told again apart from the program: by sets, and rows by patterns."""

import re

import model
from earthward.locks import fewest_locks
from earthward.plans import plan

NUMBER = "(?:0|[1-9][0-9]{0,8})"
SWITCH_ROW = rf"(?:feed|earth) {NUMBER}|(?:breaker|splitter) {NUMBER} {NUMBER}"
ROWS = (
    rf"bars {NUMBER}", SWITCH_ROW, rf"(?:turn|lock|unlock|back) {NUMBER}", rf"(?:permit|locks)(?: {NUMBER})+",
    rf"reach (?:live|dead|earthed) {NUMBER}", "live|earthed|locked|shut|show",
)


class Refused(Exception):
    """Its one argument is the name of the refusal."""


def first_due(*pairs):
    """Raises the first of the refusals whose ground holds. Each ground is a function, for the later ones lean on it
    that the ones ahead do not hold."""
    for name, ground in pairs:
        if ground():
            raise Refused(name)


class ModelBoard:
    def __init__(self, yard):
        self.bars = yard[0]
        self.yard = (yard[0], tuple(yard[1]))
        self.shut_ones = set()
        self.locked_ones = set()
        self.standing_permits = {}
        self.given = 0

    def state(self):
        return (self.standing(), self.locked(), self.held(), self.permits())

    def standing(self):
        return model.mask(self.shut_ones)

    def locked(self):
        return model.mask(self.locked_ones)

    def held_ones(self):
        return set().union(*[held for place, held in self.standing_permits.values()])

    def held(self):
        return model.mask(self.held_ones())

    def permits(self):
        return sorted((number, place) for number, (place, held) in self.standing_permits.items())

    def is_no_switch(self, number):
        return number not in range(len(self.yard[1]))

    def turn(self, number):
        first_due(
            ("NoSwitch", lambda: self.is_no_switch(number)),
            ("Locked", lambda: number in self.locked_ones),
            ("Held", lambda: number in self.held_ones()),
            ("Loaded", lambda: model.refusal(self.yard, self.standing(), number) == "Loaded"),
            ("Shorted", lambda: model.refusal(self.yard, self.standing(), number) == "Shorted"),
        )
        self.shut_ones = self.shut_ones ^ {number}
        return self.standing()

    def lock(self, number):
        first_due(
            ("NoSwitch", lambda: self.is_no_switch(number)),
            ("NoLock", lambda: number not in model.lockable(self.yard)),
            ("NotOpen", lambda: number in self.shut_ones),
            ("Locked", lambda: number in self.locked_ones),
        )
        self.locked_ones = self.locked_ones | {number}
        return self.locked()

    def unlock(self, number):
        first_due(
            ("NoSwitch", lambda: self.is_no_switch(number)),
            ("NotLocked", lambda: number not in self.locked_ones),
            ("Held", lambda: number in self.held_ones()),
        )
        self.locked_ones = self.locked_ones - {number}
        return self.locked()

    def own_earths(self, bars):
        return {number for number in self.shut_ones if self.yard[1][number] in [("earth", bar) for bar in bars]}

    def permit(self, place):
        first_due(
            ("NoBar", lambda: place <= 0 or max(model.numbers_in(place)) >= self.bars),
            ("NotEarthed", lambda: not all(self.own_earths([bar]) for bar in model.numbers_in(place))),
            ("NotDead", lambda: not model.dead_with(self.yard, place, self.locked_ones)),
        )
        self.given += 1
        self.standing_permits[self.given] = (place, self.own_earths(model.numbers_in(place)) | self.locked_ones)
        return self.given

    def give_back(self, number):
        first_due(("NoPermit", lambda: number not in self.standing_permits))
        self.standing_permits = {one: self.standing_permits[one] for one in self.standing_permits if one != number}
        return self.held()


def told(numbers):
    return " ".join(map(str, numbers)) or "none"


def no_rise(numbers):
    return list(numbers) != sorted(set(numbers))


class ModelDesk:
    def __init__(self):
        self.rows = []
        self.board = None

    def say(self, row):
        words = row.split(" ")
        kind = words[0]
        first_due(
            ("NoRow", lambda: not any(re.fullmatch(pattern, row) for pattern in ROWS)),
            ("NoRow", lambda: kind in ("permit", "locks") and no_rise([int(word) for word in words[1:]])),
            ("NoRow", lambda: kind != "bars" and self.board is None),
            ("NoRow", lambda: re.fullmatch(SWITCH_ROW, row) and len(self.rows) == 13),
        )
        numbers = [int(word) for word in words if word.isdigit()]
        bars = [] if kind in ("bars", "turn", "lock", "unlock", "back") else numbers
        first_due(
            ("NoMeasure", lambda: kind == "bars" and numbers[0] not in range(1, 11)),
            ("NoBar", lambda: any(bar >= self.board.bars for bar in bars)),
            ("Same", lambda: kind in ("breaker", "splitter") and bars[0] == bars[1]),
        )
        if kind == "bars" or re.fullmatch(SWITCH_ROW, row):
            return self.begin([row] if kind == "bars" else self.rows + [row])
        return self.answer(kind, words[1:], numbers)

    def begin(self, rows):
        self.rows = rows
        switches = [row.split(" ") for row in rows[1:]]
        self.board = ModelBoard((int(rows[0].split(" ")[1]), [(kind, *map(int, bars)) for kind, *bars in switches]))
        return "ok"

    def yard(self):
        return (self.board.bars, list(self.board.yard[1]))

    def answer(self, kind, words, numbers):
        if kind == "turn":
            self.board.turn(*numbers)
            return "shut" if numbers[0] in self.board.shut_ones else "open"
        if kind in ("lock", "unlock", "back"):
            getattr(self.board, {"back": "give_back"}.get(kind, kind))(*numbers)
            return "ok"
        if kind == "permit":
            return f"permit {self.board.permit(model.mask(numbers))}"
        if kind == "locks":
            return told(fewest_locks(self.yard(), model.mask(numbers))[0])
        if kind == "reach":
            return self.plan_for(words[0], 2 ** numbers[0])
        if kind in ("locked", "shut"):
            return told(sorted(self.board.locked_ones if kind == "locked" else self.board.shut_ones))
        if kind in ("live", "earthed"):
            return told(model.numbers_in(getattr(model, kind)(self.yard(), self.board.standing())))
        return "\n".join(self.rows)

    def plan_for(self, kind, bar):
        """As plan tells it: which one of several is told is not promised but to be the same."""
        wish = {"live": (bar, 0, 0), "dead": (0, bar, 0), "earthed": (0, 0, bar)}[kind]
        fixed = model.mask(self.board.locked_ones | self.board.held_ones())
        kind, numbers = plan(self.yard(), self.board.standing(), fixed, wish)
        return "never" if kind == "never" else " ".join(["plan", *map(str, numbers)])
