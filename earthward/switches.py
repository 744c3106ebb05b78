"""The objects of switches: what each feeds, earths and joins while it is shut.

A set of bars is a whole number: the sum of 2 to the N over its bars N.
"""


class Switch:
    def feeds(self):
        return 0

    def earths(self):
        return 0

    def joins(self):
        return 0

    def gentle(self):
        return False


class Feed(Switch):
    def __init__(self, bar):
        self.bar = bar

    def feeds(self):
        return 1 << self.bar


class Earth(Switch):
    def __init__(self, bar):
        self.bar = bar

    def earths(self):
        return 1 << self.bar


class Breaker(Switch):
    def __init__(self, one, other):
        self.one = one
        self.other = other

    def joins(self):
        return (1 << self.one) | (1 << self.other)


# Under Switch and not under Breaker: a splitter is no breaker, though both join.
class Splitter(Switch):
    def __init__(self, one, other):
        self.one = one
        self.other = other

    def joins(self):
        return (1 << self.one) | (1 << self.other)

    def gentle(self):
        return True


def switch_of(switch):
    kind = switch[0]
    if kind == "feed":
        return Feed(switch[1])
    if kind == "earth":
        return Earth(switch[1])
    if kind == "breaker":
        return Breaker(switch[1], switch[2])
    return Splitter(switch[1], switch[2])
