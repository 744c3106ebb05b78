"""Locks: the fewest that keep a place dead, with the ways that show it; and what a live bar hangs on."""

from earthward.reach import Net, numbers_in, way


def can_lock(switch):
    return switch.feeds() != 0 or switch.gentle()


def all_switches(yard):
    return (1 << len(yard[1])) - 1


def keeps_dead(yard, place, locks):
    return Net(yard).live_bars(all_switches(yard) & ~locks) & place == 0


# Ways from feeds to a place, by the switches of a standing. No two of them share a switch, but for the common ones,
# by which any number of them may go. The power counts as one bar more, from which each feed leads to its own bar:
# so a feed is gone through like any other switch.
class Bundle:
    def __init__(self, yard, standing, common, place):
        self.yard = yard
        self.net = Net(yard)
        self.common = common
        self.place = place
        self.power = 1 << yard[0]
        # The two bars of each switch that is in one way at most; and the bar that the way goes to by it, where there
        # is such a way. Bars stand here as sets of one.
        self.pairs = {}
        self.goals = {}
        for number in numbers_in(standing & ~common):
            self.pairs[number] = self.pair_of(self.net.switches[number])

    def pair_of(self, switch):
        if switch.feeds():
            return switch.feeds() | self.power
        return switch.joins()

    def joined_in_common(self, some):
        return self.net.joined_bars(self.common, some)

    # Steps from the power on, to the place or, where it can't be come to, to all bars that can: each one a tuple
    # (number, bar that it leads to). By a switch of starts one goes from those of its bars alone that are told there.
    def steps_by(self, starts):
        steps = []
        reached = self.power
        ahead = None
        while reached != ahead and not reached & self.place:
            ahead = reached
            for number in starts:
                bar = self.pairs[number] & ~reached
                if bar and starts[number] & reached:
                    steps.append((number, bar))
                    reached = reached | self.joined_in_common(bar)
        return steps

    # Those of the steps that lead from the power to the place; none where it isn't come to.
    def row_in(self, steps):
        row = []
        wanted = self.place
        for step in reversed(steps):
            if self.joined_in_common(step[1]) & wanted:
                row.append(step)
                wanted = self.pairs[step[0]] & ~step[1]
        return list(reversed(row))

    # Steps by switches that are in no way, and against a way: this frees its switch, for the new way then goes on as
    # that one did, and that one as the new way.
    def steps_left(self):
        starts = dict(self.pairs)
        starts.update(self.goals)
        return self.steps_by(starts)

    # One way more, though the others may go otherwise then; False where there can't be more.
    def widen(self):
        row = self.row_in(self.steps_left())
        for step in row:
            if step[0] in self.goals:
                self.goals.pop(step[0])
            else:
                self.goals[step[0]] = step[1]
        return len(row) > 0

    # Where no way more can be: the switches at the rim of the bars that are still come to. By each of them a way goes
    # out and none comes back, so there are as many as ways.
    def rim(self):
        reached = self.power
        for step in self.steps_left():
            reached = reached | self.joined_in_common(step[1])
        return [number for number, pair in self.pairs.items() if pair & reached and pair & ~reached]

    # The steps of one of the ways: sought anew, for among the steps of all of them there may be rings that lead
    # nowhere.
    def row_of_a_way(self):
        starts = {}
        for number, bar in self.goals.items():
            starts[number] = self.pairs[number] & ~bar
        return self.row_in(self.steps_by(starts))

    def way_by(self, row):
        numbers = []
        bar = self.power
        for step in row:
            numbers.extend(way(self.yard, self.common, bar, self.pairs[step[0]] & ~step[1]))
            numbers.append(step[0])
            bar = step[1]
        numbers.extend(way(self.yard, self.common, bar, self.place))
        return numbers

    def take_ways(self):
        taken = []
        row = self.row_of_a_way()
        while row:
            taken.append(self.way_by(row))
            for step in row:
                self.goals.pop(step[0])
            row = self.row_of_a_way()
        return taken


def fewest_locks(yard, place):
    common = sum([1 << number for number, switch in enumerate(Net(yard).switches) if not can_lock(switch)])
    bundle = Bundle(yard, all_switches(yard), common, place)
    while bundle.widen():
        pass
    locks = bundle.rim()
    return (locks, bundle.take_ways())


def hanging(yard, standing, bar):
    net = Net(yard)
    if bar not in numbers_in(net.live_bars(standing)):
        return None
    goal = 1 << bar
    alone = [number for number in numbers_in(standing) if not net.live_bars(standing & ~(1 << number)) & goal]
    if alone:
        return ("on", alone)
    bundle = Bundle(yard, standing, 0, goal)
    bundle.widen()
    bundle.widen()
    ways = bundle.take_ways()
    return ("two", ways[0], ways[1])
