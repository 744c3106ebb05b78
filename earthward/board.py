"""The board: turns, locks and permits, each refused where it would break the promise."""

from earthward.deeds import check_switch, turned
from earthward.errors import Held, Locked, NoBar, NoLock, NoPermit, NotDead, NotEarthed, NotLocked, NotOpen
from earthward.locks import can_lock, keeps_dead
from earthward.reach import Net, has, numbers_in


# The shut earths of the place's own bars; others earth them through what is joined, but aren't asked for.
def own_earths(net, standing, place):
    numbers = [number for number in numbers_in(standing) if net.switches[number].earths() & place]
    return sum([1 << number for number in numbers])


class Board:
    def __init__(self, yard):
        # A list of its own, for the asker may change the one that was handed in.
        self.yard = (yard[0], list(yard[1]))
        self.net = Net(self.yard)
        self.shut = 0
        self.locks = 0
        # For each permit that stands, by its number, a tuple: its place, and the set of the switches that it holds.
        self.given = {}
        self.last_number = 0

    def standing(self):
        return self.shut

    def locked(self):
        return self.locks

    def held(self):
        some = 0
        for given in self.given.values():
            some = some | given[1]
        return some

    def permits(self):
        return [(number, given[0]) for number, given in self.given.items()]

    def turn(self, number):
        check_switch(self.yard, number)
        if has(self.locks, number):
            raise Locked("the switch is locked")
        if has(self.held(), number):
            raise Held("a permit holds the switch")
        self.shut = turned(self.yard, self.shut, number)
        return self.shut

    def lock(self, number):
        check_switch(self.yard, number)
        if not can_lock(self.net.switches[number]):
            raise NoLock("no lock can be put to a switch of this kind")
        if has(self.shut, number):
            raise NotOpen("the switch is shut")
        if has(self.locks, number):
            raise Locked("the switch is locked already")
        self.locks = self.locks | (1 << number)
        return self.locks

    def unlock(self, number):
        check_switch(self.yard, number)
        if not has(self.locks, number):
            raise NotLocked("the switch isn't locked")
        if has(self.held(), number):
            raise Held("a permit holds the switch")
        self.locks = self.locks & ~(1 << number)
        return self.locks

    def permit(self, place):
        if not 0 < place < (1 << self.yard[0]):
            raise NoBar("no bars, or one that there is not")
        if place & ~self.net.led_bars(self.shut):
            raise NotEarthed("a bar has no shut earth of its own")
        if not keeps_dead(self.yard, place, self.locks):
            raise NotDead("the locks don't keep the place dead")
        # Never less, also when permits were given back: no number comes twice.
        self.last_number = self.last_number + 1
        self.given[self.last_number] = (place, own_earths(self.net, self.shut, place) | self.locks)
        return self.last_number

    def give_back(self, number):
        if number not in self.given:
            raise NoPermit("no permit of that number stands")
        self.given.pop(number)
        return self.held()
