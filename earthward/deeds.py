"""Deeds: turning a switch, and why it is refused."""

from earthward.errors import Loaded, NoSwitch, Shorted
from earthward.reach import Net, lowest, numbers_in, way


# Asked ahead of all else: a number of thirty figures is no place to shift to.
def check_switch(yard, number):
    if not 0 <= number < len(yard[1]):
        raise NoSwitch("there is no such switch")


def after_turn(standing, number):
    return standing ^ (1 << number)


# Whether a gentle switch would part or join a load. Asked with the switch open, so that it is the same for both turns.
def loads(net, standing, number):
    switch = net.switches[number]
    if not switch.gentle():
        return False
    apart = standing & ~(1 << number)
    ends = switch.joins()
    if not ends & net.live_bars(apart):
        return False
    return ends & ~net.joined_bars(apart, lowest(ends)) != 0


def shorts(net, standing, number):
    return not net.is_safe(after_turn(standing, number))


def turned(yard, standing, number):
    check_switch(yard, number)
    net = Net(yard)
    if loads(net, standing, number):
        raise Loaded("a splitter would part or join a load")
    if shorts(net, standing, number):
        raise Shorted("a bar would be live and earthed")
    return after_turn(standing, number)


def shorting(yard, standing, number):
    net = Net(yard)
    after = after_turn(standing, number)
    for feed in [other for other in numbers_in(after) if net.switches[other].feeds()]:
        for earth in [other for other in numbers_in(after) if net.switches[other].earths()]:
            found = way(yard, after, net.switches[feed].feeds(), net.switches[earth].earths())
            if found is not None:
                return (feed, found, earth)
    return None
