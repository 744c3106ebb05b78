"""Points 2, 3, 16 and 17: the board, its turns, its locks and its permits."""

import copy
import itertools
import random
import unittest

import model
from earthward import errors
from earthward.board import Board
from model_board import ModelBoard, Refused
from refusals import assert_refused

# Bar 0 fed (0), bars 0 and 1 by a breaker (1), 1 and 2 by a splitter (2), bar 2 earthed (3), bar 1 earthed (4),
# bar 3 earthed twice (5, 6) and joined to nothing, bar 2 fed (7).
LINE = (4, [("feed", 0), ("breaker", 0, 1), ("splitter", 1, 2), ("earth", 2), ("earth", 1), ("earth", 3), ("earth", 3),
            ("feed", 2)])
BARE = (2, [])
# Two bars, each with a feed (0, 1) and an earth (2, 3), between them a splitter (4) and a breaker (5).
PAIR = (2, [("feed", 0), ("feed", 1), ("earth", 0), ("earth", 1), ("splitter", 0, 1), ("breaker", 1, 0)])

FAR = (10 ** 30 - 1, 10 ** 29, 2 ** 64, 10 ** 9, 1000)


def state(board):
    return (board.standing(), board.locked(), board.held(), board.permits())


def board_of(yard, shut=(), locked=(), places=()):
    """A board behind these turns, then these locks, then these permits."""
    board = Board(yard)
    for number in shut:
        board.turn(number)
    for number in locked:
        board.lock(number)
    for place in places:
        board.permit(place)
    return board


class BoardCase(unittest.TestCase):
    def assert_board_refuses(self, name, call, *given):
        """The refusal that is due, and nothing changed behind it."""
        board = call.__self__
        ahead = copy.deepcopy(state(board))
        assert_refused(self, name, call, *given)
        self.assertEqual(state(board), ahead, given)


class Turns(BoardCase):
    def test_the_beginning(self):
        for yard in (LINE, BARE, PAIR):
            self.assertEqual(state(Board(yard)), (0, 0, 0, []))

    def test_shutting_and_opening(self):
        board = Board(LINE)
        self.assertEqual(board.turn(0), 1)
        self.assertEqual(board.turn(1), 3)
        self.assertEqual(board.standing(), 3)
        self.assertEqual(board.turn(0), 2)
        self.assertEqual(board.turn(7), 130)
        self.assertEqual(state(board), (130, 0, 0, []))

    def test_no_switch(self):
        for yard in (LINE, BARE, PAIR):
            board = Board(yard)
            for number in FAR + (len(yard[1]), len(yard[1]) + 1):
                self.assert_board_refuses("NoSwitch", board.turn, number)
                self.assert_board_refuses("NoSwitch", board.turn, -number)
            self.assert_board_refuses("NoSwitch", board.turn, -1)
        self.assert_board_refuses("NoSwitch", Board((1, [("feed", 0)] * 12)).turn, 12)

    def test_locked(self):
        self.assert_board_refuses("Locked", board_of(LINE, locked=[0]).turn, 0)
        self.assert_board_refuses("Locked", board_of(LINE, locked=[2]).turn, 2)

    def test_locked_ahead_of_held(self):
        board = board_of(LINE, shut=[3], locked=[2, 7], places=[4])
        self.assertEqual(board.held() & 128, 128)
        self.assert_board_refuses("Locked", board.turn, 7)

    def test_locked_ahead_of_loaded_and_shorted(self):
        self.assert_board_refuses("Locked", board_of(LINE, shut=[0, 1], locked=[2]).turn, 2)
        self.assert_board_refuses("Locked", board_of(LINE, shut=[3], locked=[7]).turn, 7)
        self.assert_board_refuses("Locked", board_of(PAIR, shut=[0, 3], locked=[4]).turn, 4)

    def test_held(self):
        self.assert_board_refuses("Held", board_of(LINE, shut=[5], places=[8]).turn, 5)

    def test_what_no_permit_holds_is_turned(self):
        board = board_of(LINE, shut=[5], places=[8])
        self.assertEqual(board.turn(6), 96)
        self.assertEqual(board.turn(6), 32)
        self.assertEqual(board.turn(0), 33)

    def test_loaded(self):
        self.assert_board_refuses("Loaded", board_of(LINE, shut=[0, 1]).turn, 2)
        self.assert_board_refuses("Loaded", board_of(LINE, shut=[2, 7]).turn, 2)

    def test_loaded_ahead_of_shorted(self):
        board = board_of(PAIR, shut=[0, 3])
        self.assertFalse(model.safe(PAIR, 1 + 8 + 16))
        self.assert_board_refuses("Loaded", board.turn, 4)

    def test_shorted(self):
        self.assert_board_refuses("Shorted", board_of(LINE, shut=[3]).turn, 7)
        self.assert_board_refuses("Shorted", board_of(LINE, shut=[7]).turn, 3)
        self.assert_board_refuses("Shorted", board_of(LINE, shut=[0, 4]).turn, 1)


class Locks(BoardCase):
    def test_feeds_and_splitters(self):
        board = Board(LINE)
        self.assertEqual(board.lock(0), 1)
        self.assertEqual(board.lock(2), 5)
        self.assertEqual(board.lock(7), 133)
        self.assertEqual(board.locked(), 133)
        self.assertEqual(board.unlock(2), 129)
        self.assertEqual(board.lock(2), 133)
        self.assertEqual(state(board), (0, 133, 0, []))

    def test_no_switch(self):
        for yard in (LINE, BARE, PAIR):
            board = Board(yard)
            for number in FAR + (len(yard[1]), len(yard[1]) + 1):
                for call in (board.lock, board.unlock):
                    self.assert_board_refuses("NoSwitch", call, number)
                    self.assert_board_refuses("NoSwitch", call, -number)
                    self.assert_board_refuses("NoSwitch", call, -1)

    def test_breakers_and_earths(self):
        for number in (1, 3, 4, 5, 6):
            self.assert_board_refuses("NoLock", Board(LINE).lock, number)
            self.assert_board_refuses("NoLock", board_of(LINE, shut=[number]).lock, number)
        self.assert_board_refuses("NoLock", board_of(LINE, shut=[5], places=[8]).lock, 5)

    def test_not_open(self):
        self.assert_board_refuses("NotOpen", board_of(LINE, shut=[0]).lock, 0)
        self.assert_board_refuses("NotOpen", board_of(LINE, shut=[2]).lock, 2)

    def test_locked_already(self):
        for number in (0, 2, 7):
            self.assert_board_refuses("Locked", board_of(LINE, locked=[number]).lock, number)
        self.assert_board_refuses("Locked", board_of(LINE, shut=[3], locked=[2, 7], places=[4]).lock, 2)

    def test_not_locked(self):
        for number in range(8):
            self.assert_board_refuses("NotLocked", Board(LINE).unlock, number)
        self.assert_board_refuses("NotLocked", board_of(LINE, shut=[0]).unlock, 0)
        # A held earth isn't locked.
        self.assert_board_refuses("NotLocked", board_of(LINE, shut=[5], places=[8]).unlock, 5)
        board = board_of(LINE, locked=[0])
        board.unlock(0)
        self.assert_board_refuses("NotLocked", board.unlock, 0)

    def test_held(self):
        board = board_of(LINE, shut=[3], locked=[2, 7, 0], places=[4])
        for number in (0, 2, 7):
            self.assert_board_refuses("Held", board.unlock, number)
        board.give_back(1)
        for number, left in ((0, 132), (2, 128), (7, 0)):
            self.assertEqual(board.unlock(number), left)

    def test_a_lock_behind_the_permit_is_not_held(self):
        board = board_of(LINE, shut=[5], places=[8])
        board.lock(0)
        self.assertEqual((board.locked(), board.held()), (1, 32))
        self.assertEqual(board.unlock(0), 0)

    def test_what_is_unlocked_is_turned_again(self):
        board = board_of(LINE, locked=[0])
        board.unlock(0)
        self.assertEqual(board.turn(0), 1)


class Permits(BoardCase):
    def test_numbers(self):
        board = board_of(LINE, shut=[5])
        self.assertEqual([board.permit(8), board.permit(8), board.permit(8)], [1, 2, 3])
        board.give_back(2)
        self.assertEqual(board.permit(8), 4)
        for number in (1, 3, 4):
            board.give_back(number)
        self.assertEqual(board.permits(), [])
        self.assertEqual(board.permit(8), 5)
        self.assertEqual(board.permits(), [(5, 8)])

    def test_a_refused_permit_takes_no_number(self):
        board = board_of(LINE, shut=[5])
        self.assert_board_refuses("NoBar", board.permit, 0)
        self.assert_board_refuses("NotEarthed", board.permit, 1)
        self.assertEqual(board.permit(8), 1)

    def test_the_permits_rise(self):
        board = board_of(LINE, shut=[5, 3, 4], locked=[0, 2, 7])
        for place in (8, 4, 2, 8 + 4, 6):
            board.permit(place)
        self.assertEqual(board.permits(), [(1, 8), (2, 4), (3, 2), (4, 12), (5, 6)])
        board.give_back(3)
        board.permit(14)
        self.assertEqual(board.permits(), [(1, 8), (2, 4), (4, 12), (5, 6), (6, 14)])

    def test_no_bar(self):
        for yard in (LINE, BARE, PAIR, (10, [("earth", 0)])):
            board = Board(yard)
            beyond = 2 ** yard[0]
            for place in FAR + (beyond, beyond + 1, 2 * beyond, 2 * beyond - 1):
                self.assert_board_refuses("NoBar", board.permit, place if place >= beyond else beyond)
                self.assert_board_refuses("NoBar", board.permit, -place)
            for place in (0, -1, -2, -beyond, 1 - beyond):
                self.assert_board_refuses("NoBar", board.permit, place)

    def test_no_bar_ahead_of_the_others(self):
        board = board_of(LINE, shut=[5])
        self.assert_board_refuses("NoBar", board.permit, 8 + 16)
        self.assert_board_refuses("NoBar", board.permit, 1 + 16)
        self.assert_board_refuses("NoBar", board.permit, -8)

    def test_not_earthed(self):
        for place in range(1, 16):
            self.assert_board_refuses("NotEarthed", Board(LINE).permit, place)
        board = board_of(LINE, shut=[5, 3], locked=[2, 7])
        self.assert_board_refuses("NotEarthed", board.permit, 8 + 2)
        self.assert_board_refuses("NotEarthed", board.permit, 4 + 1)
        self.assertEqual(board.permit(12), 1)

    def test_an_earth_of_another_bar_is_none_of_its_own(self):
        # Bar 1 is earthed through the splitter, bar 2 has the earth.
        board = board_of(LINE, shut=[3, 2], locked=[0, 7])
        self.assertEqual(model.earthed(LINE, board.standing()), 6)
        self.assert_board_refuses("NotEarthed", board.permit, 2)
        self.assert_board_refuses("NotEarthed", board.permit, 6)
        self.assertEqual(board.permit(4), 1)

    def test_not_earthed_ahead_of_not_dead(self):
        self.assert_board_refuses("NotEarthed", Board(LINE).permit, 1)
        self.assert_board_refuses("NotEarthed", board_of(LINE, shut=[3]).permit, 6)

    def test_not_dead(self):
        board = board_of(LINE, shut=[3])
        self.assert_board_refuses("NotDead", board.permit, 4)
        board.lock(7)
        self.assert_board_refuses("NotDead", board.permit, 4)
        board.lock(0)
        self.assertEqual(board.permit(4), 1)
        # Bar 3 needs no lock, but with bar 2 in the place they are needed.
        board = board_of(LINE, shut=[3, 5], locked=[0])
        self.assert_board_refuses("NotDead", board.permit, 12)
        self.assertEqual(board.permit(8), 1)

    def test_open_but_not_locked_is_not_dead(self):
        board = board_of(PAIR, shut=[2, 3], locked=[0])
        self.assert_board_refuses("NotDead", board.permit, 1)
        board.lock(1)
        self.assertEqual(board.permit(1), 1)

    def test_what_a_permit_holds(self):
        # Both earths of bar 3; no earth of another bar; each lock, wherever it is.
        board = board_of(LINE, shut=[5, 6, 3], locked=[0])
        self.assertEqual(board.permit(8), 1)
        self.assertEqual(board.held(), 32 + 64 + 1)
        self.assertEqual(board_of(LINE, shut=[5, 3], places=[8]).held(), 32)
        self.assertEqual(board_of(LINE, shut=[3, 4, 5], locked=[0, 7], places=[6]).held(), 8 + 16 + 1 + 128)

    def test_an_earth_shut_behind_the_permit_is_not_held(self):
        board = board_of(LINE, shut=[5], places=[8])
        board.turn(6)
        self.assertEqual(board.held(), 32)
        self.assertEqual(board.turn(6), 32)
        board.turn(6)
        board.permit(8)
        self.assertEqual(board.held(), 96)
        self.assert_board_refuses("Held", board.turn, 6)

    def test_held_by_several(self):
        board = board_of(LINE, shut=[5, 3], locked=[0, 7], places=[8, 4, 12])
        self.assertEqual(board.held(), 32 + 8 + 1 + 128)
        self.assertEqual(board.give_back(3), 32 + 8 + 1 + 128)
        self.assertEqual(board.give_back(1), 8 + 1 + 128)
        self.assertEqual(board.turn(5), 8)
        self.assert_board_refuses("Held", board.turn, 3)
        self.assert_board_refuses("Held", board.unlock, 0)
        self.assertEqual(board.give_back(2), 0)
        self.assertEqual(board.turn(3), 0)
        self.assertEqual(board.unlock(0), 128)
        self.assertEqual(state(board), (0, 128, 0, []))

    def test_each_of_two_alike_holds_until_its_own_giving_back(self):
        board = board_of(LINE, shut=[5], locked=[0], places=[8, 8])
        self.assertEqual(board.give_back(1), 33)
        self.assert_board_refuses("Held", board.turn, 5)
        self.assert_board_refuses("Held", board.unlock, 0)
        self.assertEqual(board.give_back(2), 0)
        self.assertEqual(board.turn(5), 0)

    def test_no_permit(self):
        board = board_of(LINE, shut=[5])
        far = FAR + tuple(-number for number in FAR)
        for number in (0, 1, -1, 2) + far:
            self.assert_board_refuses("NoPermit", board.give_back, number)
        board.permit(8)
        board.permit(8)
        for number in (0, -1, -2, 3) + far:
            self.assert_board_refuses("NoPermit", board.give_back, number)
        board.give_back(1)
        self.assert_board_refuses("NoPermit", board.give_back, 1)
        board.give_back(2)
        self.assert_board_refuses("NoPermit", board.give_back, 2)

    def test_a_place_of_ten_bars(self):
        yard = (10, [("earth", bar) for bar in range(10)] + [("feed", 0), ("splitter", 0, 9)])
        board = board_of(yard, shut=range(10))
        self.assert_board_refuses("NotDead", board.permit, 1023)
        board.lock(10)
        self.assertEqual(board.permit(1023), 1)
        self.assertEqual(board.held(), 2047)
        self.assert_board_refuses("NoBar", board.permit, 1024)


class AgainstTheModel(BoardCase):
    CALLS = ("turn", "lock", "unlock", "permit", "give_back")

    def both(self, board, other, call, given):
        """The same asked of both: the same answer or the same refusal, and the same to be seen behind it."""
        where = (other.yard, other.state(), call, given)
        try:
            expected = getattr(other, call)(given)
        except Refused as refused:
            name = refused.args[0]
            self.assert_board_refuses(name, getattr(board, call), given)
            return name
        told = getattr(board, call)(given)
        self.assertEqual(told, expected, where)
        self.assertIs(type(told), int, where)
        self.assertEqual(state(board), other.state(), where)
        return "done"

    def test_every_row_of_few_deeds(self):
        met = set()
        yard = (2, [("feed", 0), ("earth", 1), ("splitter", 0, 1)])
        deeds = [(call, number) for call in self.CALLS[:3] for number in range(3)]
        deeds += [("permit", place) for place in (1, 2)] + [("give_back", 1)]
        for row in itertools.product(deeds, repeat=4):
            board = Board(yard)
            other = ModelBoard(yard)
            met |= {self.both(board, other, call, given) for call, given in row}
        self.assertLessEqual({"done", "Locked", "Held", "Loaded", "Shorted", "NoLock", "NotOpen", "NotLocked",
                              "NotEarthed", "NotDead", "NoPermit"}, met)

    def test_drawn_rows(self):
        chance = random.Random(160)
        met = []
        for yard in yards_for_permits(161, 250):
            board = Board(yard)
            other = ModelBoard(yard)
            for _ in range(60):
                call = chance.choices(self.CALLS, [6, 3, 1, 4, 1])[0]
                given = drawn_given(chance, yard, call, len(other.permits()))
                met.append((call, self.both(board, other, call, given)))
        for call, name in (
            ("turn", "done"), ("turn", "NoSwitch"), ("turn", "Locked"), ("turn", "Held"), ("turn", "Loaded"),
            ("turn", "Shorted"), ("lock", "done"), ("lock", "NoSwitch"), ("lock", "NoLock"), ("lock", "NotOpen"),
            ("lock", "Locked"), ("unlock", "done"), ("unlock", "NoSwitch"), ("unlock", "NotLocked"),
            ("unlock", "Held"), ("permit", "done"), ("permit", "NoBar"), ("permit", "NotEarthed"),
            ("permit", "NotDead"), ("give_back", "done"), ("give_back", "NoPermit"),
        ):
            self.assertGreater(met.count((call, name)), 10, (call, name))


def yards_for_permits(seed, many):
    """Yards in which places can be earthed and kept dead: some earths ahead, then what is drawn."""
    chance = random.Random(seed)
    for bars, switches in model.drawn_yards(seed, many, 5, 8):
        earths = [("earth", bar) for bar in chance.sample(range(bars), chance.randint(1, min(3, bars)))]
        mixed = earths + switches
        chance.shuffle(mixed)
        yield (bars, mixed)


def drawn_given(chance, yard, call, permits):
    """A number or a place for a call: mostly one that may be, now and then one far off."""
    if chance.random() < 0.05:
        return chance.choice([-1, -2, len(yard[1]), 2 ** yard[0], 10 ** 30 - 1, 1 - 10 ** 30, 0])
    if call == "permit":
        earthed = [switch[1] for switch in yard[1] if switch[0] == "earth"]
        return model.mask(chance.sample(earthed, chance.randint(1, min(2, len(earthed)))))
    if call == "give_back":
        return chance.randint(1, permits + 2)
    return chance.randrange(len(yard[1]))


class ThePromise(unittest.TestCase):
    def assert_safe(self, yard, board):
        standing = board.standing()
        self.assertEqual(model.live(yard, standing) & model.earthed(yard, standing), 0, (yard, standing))
        others = 2 ** len(yard[1]) - 1 - board.locked()
        self.assertEqual(standing & board.locked(), 0, (yard, standing))
        for number, place in board.permits():
            self.assertEqual(place & ~model.earthed(yard, standing), 0, (yard, standing, place))
            self.assertEqual(place & model.live(yard, others), 0, (yard, board.locked(), place))
        return len(board.permits())

    def test_rows_of_drawn_deeds(self):
        chance = random.Random(30)
        counts = {"done": 0, "refused": 0, "under a permit": 0, "done under a permit": 0}
        for yard in yards_for_permits(31, 300):
            board = Board(yard)
            for _ in range(80):
                call = chance.choices(("turn", "lock", "unlock", "permit", "give_back"), [9, 3, 1, 4, 0.3])[0]
                given = drawn_given(chance, yard, call, len(board.permits()))
                ahead = board.standing()
                kind = "done"
                try:
                    getattr(board, call)(given)
                except errors.WardError:
                    kind = "refused"
                if call == "turn" and kind == "done":
                    self.assertFalse(model.loads(yard, ahead, given), (yard, ahead, given))
                permits = self.assert_safe(yard, board)
                counts[kind] += 1
                counts["under a permit"] += permits > 0
                counts["done under a permit"] += permits > 0 and call == "turn" and kind == "done"
        for kind in counts:
            self.assertGreater(counts[kind], 1000, counts)

    def test_whatever_deeds_are_done_under_a_permit(self):
        """Every standing that the board comes to by turns, with the permit standing."""
        board = board_of(PAIR, shut=[3], locked=[1, 4, 0], places=[2])
        place = 2
        met = {board.standing()}
        rows = [()]
        while rows:
            row = rows.pop()
            for number in range(6):
                other = board_of(PAIR, shut=[3], locked=[1, 4, 0], places=[2])
                for turn in row:
                    other.turn(turn)
                try:
                    after = other.turn(number)
                except errors.WardError:
                    continue
                self.assertEqual(model.earthed(PAIR, after) & place, place)
                if after not in met:
                    met.add(after)
                    rows.append(row + (number,))
        self.assertEqual(met, {8, 8 + 4, 8 + 32, 8 + 4 + 32})


class NothingShared(unittest.TestCase):
    def test_the_yard_handed_in_is_as_it_was(self):
        yard = copy.deepcopy(LINE)
        board = Board(yard)
        for call, given in (("turn", 5), ("lock", 0), ("permit", 8), ("unlock", 0), ("give_back", 1), ("turn", 99),
                            ("lock", 1), ("permit", 0), ("turn", 3), ("lock", 2), ("lock", 7), ("permit", 4)):
            try:
                getattr(board, call)(given)
            except errors.WardError:
                pass
            self.assertEqual(yard, LINE)

    def test_the_list_of_switches_may_be_changed_behind(self):
        for spoil in (
            lambda switches: switches.clear(),
            lambda switches: switches.reverse(),
            lambda switches: switches.append(("feed", 3)),
            lambda switches: switches.__setitem__(slice(None), [("feed", 3)] * 8),
            lambda switches: switches.pop(),
        ):
            for spoiled_ahead in (True, False):
                yard = copy.deepcopy(LINE)
                board = Board(yard)
                if spoiled_ahead:
                    spoil(yard[1])
                self.assertEqual(board.turn(3), 8)
                self.assertEqual(board.turn(5), 40)
                if not spoiled_ahead:
                    spoil(yard[1])
                assert_refused(self, "Shorted", board.turn, 7)
                assert_refused(self, "NoSwitch", board.turn, 8)
                assert_refused(self, "NoLock", board.lock, 1)
                assert_refused(self, "NotDead", board.permit, 4)
                self.assertEqual([board.lock(2), board.lock(7)], [4, 132])
                self.assertEqual(board.permit(12), 1)
                self.assertEqual(state(board), (40, 132, 172, [(1, 12)]))
                assert_refused(self, "Held", board.turn, 5)

    def test_the_list_of_permits_is_the_askers_own(self):
        board = board_of(LINE, shut=[5], places=[8, 8])
        first = board.permits()
        second = board.permits()
        self.assertIsNot(first, second)
        first.clear()
        second.append((9, 1))
        self.assertEqual(board.permits(), [(1, 8), (2, 8)])
        self.assertEqual(board.give_back(1), 32)
        self.assertEqual(board.permits(), [(2, 8)])
        Board(BARE).permits().append((1, 1))
        self.assertEqual(Board(BARE).permits(), [])

    def test_the_kinds_of_what_is_told(self):
        board = board_of(LINE, shut=[5], locked=[0], places=[8])
        for told in (board.standing(), board.locked(), board.held(), board.turn(6), board.lock(2), board.unlock(2),
                     board.permit(8), board.give_back(2)):
            self.assertIs(type(told), int)
        self.assertIs(type(board.permits()), list)
        self.assertIs(type(board.permits()[0]), tuple)

    def test_two_boards_do_not_touch_one_another(self):
        yard = copy.deepcopy(LINE)
        one = Board(yard)
        other = Board(yard)
        one.turn(5)
        one.lock(0)
        one.permit(8)
        self.assertEqual(state(other), (0, 0, 0, []))
        other.turn(0)
        other.turn(5)
        self.assertEqual(other.permit(8), 1)
        self.assertEqual(state(one), (32, 1, 33, [(1, 8)]))
        one.give_back(1)
        self.assertEqual(state(other), (33, 0, 32, [(1, 8)]))

    def test_asking_changes_nothing(self):
        board = board_of(LINE, shut=[5], locked=[0], places=[8])
        told = [state(board) for _ in range(3)]
        self.assertEqual(told, [(32, 1, 33, [(1, 8)])] * 3)


if __name__ == "__main__":
    unittest.main()
