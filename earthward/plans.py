"""Plans: the fewest deeds to what is wished, or all standings that deeds lead to."""

from earthward.deeds import after_turn, loads, shorts
from earthward.reach import Net, has


def free_switches(yard, fixed):
    return [number for number in range(len(yard[1])) if not has(fixed, number)]


# The layer behind one. Each of its standings is put into came_by, with the switch that was turned to come to it.
def layer_behind(net, free, layer, came_by):
    behind = []
    for standing in layer:
        for number in free:
            after = after_turn(standing, number)
            # The dict is asked first: it spares most of the walks through the bars.
            if after not in came_by and not loads(net, standing, number) and not shorts(net, standing, number):
                came_by[after] = number
                behind.append(after)
    return sorted(behind)


def layers(yard, standing, fixed):
    net = Net(yard)
    free = free_switches(yard, fixed)
    came_by = {standing: None}
    layer = [standing]
    told = []
    while layer:
        told.append(layer)
        layer = layer_behind(net, free, layer, came_by)
    return told


def meets(net, standing, wish):
    under_power = net.live_bars(standing)
    grounded = net.earthed_bars(standing)
    return wish[0] & ~under_power == 0 and wish[1] & under_power == 0 and wish[2] & ~grounded == 0


def as_wished(yard, standing, wish):
    return meets(Net(yard), standing, wish)


# The deeds that led to a standing: turning a switch again leads to the standing ahead.
def deeds_to(standing, came_by):
    numbers = []
    while came_by[standing] is not None:
        number = came_by[standing]
        numbers.append(number)
        standing = after_turn(standing, number)
    return list(reversed(numbers))


def plan(yard, standing, fixed, wish):
    net = Net(yard)
    free = free_switches(yard, fixed)
    came_by = {standing: None}
    layer = [standing]
    while layer:
        for reached in layer:
            if meets(net, reached, wish):
                return ("plan", deeds_to(reached, came_by))
        layer = layer_behind(net, free, layer, came_by)
    return ("never", sorted(came_by))
