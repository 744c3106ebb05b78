"""What the document says of stages 2 to 5, told again apart from the program: slow, by plain sets and tables."""

import functools
import itertools
import random

KINDS = ("feed", "earth", "breaker", "splitter")


def mask(numbers):
    return sum(2 ** number for number in set(numbers))


def numbers_in(some):
    return [number for number, figure in enumerate(reversed(bin(some)[2:])) if figure == "1"]


def shut(yard, standing, *kinds):
    """The numbers of the shut switches of these kinds."""
    return [number for number in numbers_in(standing) if yard[1][number][0] in kinds]


def table(yard, standing):
    """For each bar the bars that it is joined to, as rows of a table."""
    pairs = {tuple(sorted(yard[1][number][1:])) for number in shut(yard, standing, "breaker", "splitter")}
    return closed_table(yard[0], tuple(sorted(pairs)))


# The same pairs are asked for again and again.
@functools.lru_cache(maxsize=50000)
def closed_table(count, pairs):
    """The pairs' table, closed through each bar in turn."""
    bars = range(count)
    joins = [[one == other for other in bars] for one in bars]
    for one, other in pairs:
        joins[one][other] = joins[other][one] = True
    for middle, one, other in itertools.product(bars, repeat=3):
        joins[one][other] = joins[one][other] or (joins[one][middle] and joins[middle][other])
    return joins


def joined(yard, standing, some):
    joins = table(yard, standing)
    return mask(other for one in numbers_in(some) for other in range(yard[0]) if joins[one][other])


def live(yard, standing):
    return joined(yard, standing, mask(yard[1][number][1] for number in shut(yard, standing, "feed")))


def earthed(yard, standing):
    return joined(yard, standing, mask(yard[1][number][1] for number in shut(yard, standing, "earth")))


def safe(yard, standing):
    return live(yard, standing) & earthed(yard, standing) == 0


def ends_of(yard, standing, some, numbers):
    """The bars to which these numbers lead, one behind the other, from bars of the set; none where one isn't so."""
    places = set(numbers_in(some))
    for number in numbers:
        if number not in shut(yard, standing, "breaker", "splitter"):
            return set()
        one, other = yard[1][number][1:]
        places = {other for place in places if place == one} | {one for place in places if place == other}
    return places


def is_way(yard, standing, some, goals, numbers):
    return bool(ends_of(yard, standing, some, numbers) & set(numbers_in(goals)))


def fewest_steps(yard, standing, some, goals):
    """How many numbers a shortest way has, or None: no shortest way comes to a bar twice."""
    places = set(numbers_in(some))
    joins = [yard[1][number][1:] for number in shut(yard, standing, "breaker", "splitter")]
    for steps in range(yard[0]):
        if places & set(numbers_in(goals)):
            return steps
        places |= {other for one, other in joins if one in places} | {one for one, other in joins if other in places}
    return None


def with_turned(standing, number):
    return standing - 2 ** number if number in numbers_in(standing) else standing + 2 ** number


def loads(yard, standing, number):
    kind = yard[1][number][0]
    if kind != "splitter":
        return False
    apart = standing - 2 ** number if number in numbers_in(standing) else standing
    one, other = yard[1][number][1:]
    under_power = numbers_in(live(yard, apart))
    return not table(yard, apart)[one][other] and (one in under_power or other in under_power)


def refusal(yard, standing, number):
    """The name of the refusal that is due for a deed, or None."""
    if number not in range(len(yard[1])):
        return "NoSwitch"
    if loads(yard, standing, number):
        return "Loaded"
    return None if safe(yard, with_turned(standing, number)) else "Shorted"


# A yard is asked about from several standings, with several switches fixed.
@functools.lru_cache(maxsize=100)
def deeds_of(count, switches):
    """Every deed of every safe standing that isn't refused: (standing, number, standing behind it)."""
    yard = (count, list(switches))
    return [
        (one, number, with_turned(one, number))
        for one in safe_standings(yard)
        for number in range(len(switches)) if refusal(yard, one, number) is None
    ]


def distances(yard, standing, fixed):
    """How few deeds lead to each standing: narrowed down again and again, until nothing becomes less."""
    out = numbers_in(fixed)
    deeds = [(one, other) for one, number, other in deeds_of(yard[0], tuple(yard[1])) if number not in out]
    few = {standing: 0}
    changed = True
    while changed:
        changed = False
        for one, other in deeds:
            if one in few and few.get(other, len(deeds) + 1) > few[one] + 1:
                few[other] = few[one] + 1
                changed = True
    return few


def layers(yard, standing, fixed):
    few = distances(yard, standing, fixed)
    return [sorted(one for one in few if few[one] == far) for far in range(max(few.values()) + 1)]


def as_wished(yard, standing, wish):
    under_power = set(numbers_in(live(yard, standing)))
    led = set(numbers_in(earthed(yard, standing)))
    shall, shall_not, to_ground = [set(numbers_in(some)) for some in wish]
    return shall <= under_power and not shall_not & under_power and to_ground <= led


def safe_standings(yard):
    return [standing for standing in range(2 ** len(yard[1])) if safe(yard, standing)]


def lockable(yard):
    return [number for number, switch in enumerate(yard[1]) if switch[0] in ("feed", "splitter")]


def keeps_dead(yard, place, locks):
    """As its first words say: in no standing in which all the locks are open a bar of the place is live."""
    return not any(live(yard, standing) & place for standing in range(2 ** len(yard[1])) if not standing & locks)


def dead_with(yard, place, open_ones):
    """As its last words say, which is quicker: in the standing of all other switches."""
    return not live(yard, mask(number for number in range(len(yard[1])) if number not in open_ones)) & place


def how_few_locks(yard, place):
    """Every set of lockable switches is tried, the ones with fewer first."""
    lockables = lockable(yard)
    for many in range(len(lockables) + 1):
        if any(dead_with(yard, place, locks) for locks in itertools.combinations(lockables, many)):
            return many
    return None


def is_fed_way(yard, standing, place, numbers):
    """A feed's number and then a way from its bar to the place, no switch twice."""
    if not numbers or numbers[0] not in shut(yard, standing, "feed") or len(numbers) != len(set(numbers)):
        return False
    return is_way(yard, standing, 2 ** yard[1][numbers[0]][1], place, numbers[1:])


def hangs_on(yard, standing, bar):
    return [number for number in numbers_in(standing) if bar not in numbers_in(live(yard, standing - 2 ** number))]


def all_switches(bars):
    ones = [(kind, bar) for kind in KINDS[:2] for bar in range(bars)]
    return ones + [(kind, one, other) for kind in KINDS[2:] for one, other in itertools.permutations(range(bars), 2)]


def all_yards(bars, most):
    """Every yard of so many bars with up to so many switches."""
    for many in range(most + 1):
        for switches in itertools.product(all_switches(bars), repeat=many):
            yield (bars, list(switches))


def drawn_switch(chance, bars):
    kind = chance.choice(KINDS if bars > 1 else KINDS[:2])
    return (kind, *chance.sample(range(bars), 1 if kind in KINDS[:2] else 2))


def drawn_yards(seed, many, most_bars, most_switches):
    """So many yards, the same for the same seed."""
    chance = random.Random(seed)
    for _ in range(many):
        bars = chance.randint(1, most_bars)
        yield (bars, [drawn_switch(chance, bars) for _ in range(chance.randint(0, most_switches))])
