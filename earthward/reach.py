"""What is joined: the live bars and the earthed ones of a standing, and the shortest ways.

A set of bars or of switches is a whole number: the sum of 2 to the N over its numbers N.
"""

from earthward.switches import switch_of


def has(some, number):
    return (some >> number) & 1 == 1


# The objects of a yard's switches, made once, so that many standings of the same yard can be asked about.
class Net:
    def __init__(self, yard):
        self.switches = [switch_of(switch) for switch in yard[1]]

    def shut_ones(self, standing):
        return [switch for number, switch in enumerate(self.switches) if has(standing, number)]

    def joined_bars(self, standing, some):
        pairs = [switch.joins() for switch in self.shut_ones(standing)]
        reached = some
        ahead = None
        while reached != ahead:
            ahead = reached
            for pair in pairs:
                if pair & reached:
                    reached = reached | pair
        return reached

    def live_bars(self, standing):
        fed = 0
        for switch in self.shut_ones(standing):
            fed = fed | switch.feeds()
        return self.joined_bars(standing, fed)

    # The bars with a shut earth of their own.
    def led_bars(self, standing):
        led = 0
        for switch in self.shut_ones(standing):
            led = led | switch.earths()
        return led

    def earthed_bars(self, standing):
        return self.joined_bars(standing, self.led_bars(standing))

    def is_safe(self, standing):
        return self.live_bars(standing) & self.earthed_bars(standing) == 0


def joined(yard, standing, some):
    return Net(yard).joined_bars(standing, some)


def live(yard, standing):
    return Net(yard).live_bars(standing)


def earthed(yard, standing):
    return Net(yard).earthed_bars(standing)


def safe(yard, standing):
    return Net(yard).is_safe(standing)


# The set of one bar alone, the lowest of those of a set that has some.
def lowest(some):
    return some & -some


def numbers_in(some):
    return [number for number in range(some.bit_length()) if has(some, number)]


# Each bar that one step leads to from the front and that isn't reached yet, with that step: (number, bar it is from).
# Bars stand here as sets of one.
def steps_from(net, standing, front, reached):
    steps = {}
    for number, switch in enumerate(net.switches):
        pair = switch.joins()
        if has(standing, number) and pair & front and pair & ~reached:
            steps[pair & ~reached] = (number, pair & front)
    return steps


def numbers_back(steps, some, bar):
    numbers = []
    while not bar & some:
        step = steps[bar]
        numbers.append(step[0])
        bar = step[1]
    return list(reversed(numbers))


def way(yard, standing, some, goals):
    net = Net(yard)
    steps = {}
    reached = some
    front = some
    while front and not front & goals:
        found = steps_from(net, standing, front, reached)
        steps.update(found)
        # Each key is a set of one bar, so their sum is the set of all of them.
        front = sum(found)
        reached = reached | front
    if not front:
        return None
    return numbers_back(steps, some, lowest(front & goals))
