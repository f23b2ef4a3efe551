"""Walks in a strip between two walls: their weights, their sequence, and the sums that count them."""

from hookstrips.base.numbers import check_between, is_between
from hookstrips.base.polys import moved, sum_with
from hookstrips.diagonal.bounds import Bounds, check_bounds_and_box, check_window
from hookstrips.errors import InvalidNumber, InvalidOperation, InvalidWalk, TooMany
from hookstrips.shape.boxes import Box

MIN_WALLS = 3
MAX_WALLS = 12
MAX_WALK = 62
MOST_STEPS = 60
MOST_WALKS = 2000
FAR_STEPS = 10000


class Strip:
    """A strip of heights between two walls; it never changes."""

    def __init__(self, walls):
        check_between(walls, MIN_WALLS, MAX_WALLS)
        self._walls = walls

    @property
    def walls(self):
        """The number K: the walls stand at 0 and at K."""
        return self._walls

    @property
    def highest(self):
        """The greatest height."""
        return self._walls - 1

    def __eq__(self, other):
        return isinstance(other, Strip) and self._walls == other._walls

    def __str__(self):
        return f"strip 1 to {self._walls - 1}"


def check_strip(strip):
    """Raise InvalidWalk unless the value is a strip."""
    if not isinstance(strip, Strip):
        raise InvalidWalk("not a strip")


def check_ends(strip, first, last, goal):
    """Raise the first error of a strip and of three heights, the last one and the goal neighbours."""
    check_strip(strip)
    check_between(first, 1, strip.highest)
    check_between(last, 1, strip.highest)
    check_between(goal, 1, strip.highest)
    if abs(goal - last) != 1:
        raise InvalidNumber(goal)


def check_told(strip, first, steps, last, goal, most):
    """Raise the first error of what tells walks with at most so many steps."""
    check_strip(strip)
    check_between(first, 1, strip.highest)
    check_between(steps, 0, most)
    check_ends(strip, first, last, goal)


def is_walk(strip, value):
    """Whether the value is a walk in the strip, of any length."""
    check_strip(strip)
    if not isinstance(value, tuple) or len(value) < 2:
        return False
    if not all([is_between(height, 1, strip.highest) for height in value]):
        return False
    return all([abs(after - height) == 1 for height, after in zip(value, value[1:])])


def check_walk(strip, walk):
    """Raise InvalidWalk unless the value is a walk in the strip with at most 62 heights."""
    if not is_walk(strip, walk) or len(walk) > MAX_WALK:
        raise InvalidWalk("not a walk in the strip with at most 62 heights")


def doubled_weight(strip, walk):
    """The sum of all j whose steps to and from h(j) go one way."""
    check_walk(strip, walk)
    return sum([at for at in range(1, len(walk) - 1) if walk[at - 1] != walk[at + 1]])


def rise_of(strip, walk):
    """Half of what the doubled weight is above the least weight."""
    weight = doubled_weight(strip, walk)
    return (weight - least_of(walk[0], walk[-2], walk[-1])) // 2


def least_weight(strip, first, last, goal):
    """The least doubled weight of the walks with these three heights."""
    check_ends(strip, first, last, goal)
    return least_of(first, last, goal)


def least_of(first, last, goal):
    """The least weight of three heights, the last one and the goal neighbours."""
    return (first - last) * (first - goal) // 2


def has_walks(strip, first, steps, last, goal):
    """Whether there are walks with these heights and so many steps."""
    check_told(strip, first, steps, last, goal, MOST_STEPS)
    return is_reached(first, steps, last)


def is_reached(first, steps, last):
    """Whether walks come from the first height to the last one by so many steps."""
    far = abs(first - last)
    return steps >= far and (steps - far) % 2 == 0


def walks(strip, first, steps, last, goal):
    """A generator of all these walks, ascending."""
    check_told(strip, first, steps, last, goal, MOST_STEPS)
    table = _ways_table(strip, steps, last)
    number = table[steps][first]
    if number > MOST_WALKS:
        raise TooMany(MOST_WALKS)
    for place in range(number):
        yield _walk_with_place(table, first, goal, place)


def _ways_to(strip, last):
    """The list that tells for each height, walls among them, how many ways of no step lead to the last one."""
    ways = [0] * (strip.walls + 1)
    ways[last] = 1
    return ways


def _one_step_more(ways):
    """The same list for one step more; no way leads over a wall."""
    inner = [ways[height - 1] + ways[height + 1] for height in range(1, len(ways) - 1)]
    return [0] + inner + [0]


def _ways_table(strip, steps, last):
    """The list of these lists for each number of steps from 0 on."""
    table = [_ways_to(strip, last)]
    for _ in range(steps):
        table.append(_one_step_more(table[-1]))
    return table


def _walk_with_place(table, first, goal, place):
    """The walk with an index among those that the table counts."""
    walk = [first]
    for ways in table[-2::-1]:
        height = walk[-1]
        # The walks that go down from here stand ahead of those that go up.
        if place < ways[height - 1]:
            walk.append(height - 1)
        else:
            place -= ways[height - 1]
            walk.append(height + 1)
    return tuple(walk) + (goal,)


def walks_number(strip, first, steps, last, goal):
    """How many such walks there are."""
    check_told(strip, first, steps, last, goal, FAR_STEPS)
    ways = _ways_to(strip, last)
    for _ in range(steps):
        ways = _one_step_more(ways)
    return ways[first]


def walks_poly(strip, first, steps, last, goal):
    """The polynomial that counts the walks by their rises."""
    check_told(strip, first, steps, last, goal, MOST_STEPS)
    weights = {}
    for height in range(1, strip.highest):
        weights[(height, height + 1)] = (1,) if height == first else ()
        weights[(height + 1, height)] = (1,) if height + 1 == first else ()
    for at in range(1, steps + 1):
        weights = _weights_after(weights, at)
    return weights[(last, goal)][least_of(first, last, goal)::2]


def _weights_after(weights, at):
    """The polynomials of the doubled weights by (h(at), h(at + 1)), out of those by the heights ahead."""
    grown = {}
    for height, after in weights:
        straight = weights.get((2 * height - after, height), ())
        grown[(height, after)] = sum_with(weights[(after, height)], moved(straight, at), 1)
    return grown


def walk_at(strip, first, steps, last, goal, place):
    """The walk with an index in the ascending sequence."""
    check_told(strip, first, steps, last, goal, MOST_STEPS)
    table = _ways_table(strip, steps, last)
    check_between(place, 0, table[steps][first] - 1)
    return _walk_with_place(table, first, goal, place)


def place_of(strip, walk):
    """The index of a walk among those with its heights at the ends and as many steps."""
    check_walk(strip, walk)
    table = _ways_table(strip, len(walk) - 2, walk[-2])
    place = 0
    for at, ways in enumerate(table[-2::-1]):
        if walk[at + 1] > walk[at]:
            place += ways[walk[at] - 1]
    return place


def lightest_walk(strip, first, steps, last, goal):
    """The walk of the rise 0, or None."""
    check_told(strip, first, steps, last, goal, MOST_STEPS)
    if not is_reached(first, steps, last):
        return None
    walk = [first]
    for _ in range(steps + 1):
        walk.append(_lightest_step(walk[-1], last, goal))
    return tuple(walk)


def _lightest_step(height, last, goal):
    """The next height of the walk of the rise 0."""
    if height == last:
        return goal
    # The goal stands beside the last height, so this also leads back from the goal.
    return height + 1 if height < last else height - 1


def mirrored_walk(strip, walk):
    """The walk with the height K - h in the place of each height h."""
    check_walk(strip, walk)
    return tuple([strip.walls - height for height in walk])


def sum_of_walks(strip, first, steps, last, goal):
    """The pair of the bounds and the box whose sum counts the walks by their rises."""
    check_told(strip, first, steps, last, goal, MOST_STEPS)
    if not is_reached(first, steps, last):
        raise InvalidOperation("there is no such walk")
    beta = min(last, goal)
    bounds = Bounds(strip.walls, first, strip.walls - 1 - beta, beta)
    return bounds, Box((steps + last - first) // 2, (steps - last + first) // 2)


def walks_of_sum(bounds, box):
    """The tuple (first, steps, last, goal) of the walks that the sum counts."""
    check_bounds_and_box(bounds, box)
    if bounds.alpha + bounds.beta != bounds.modulus - 1:
        raise InvalidOperation("alpha and beta do not add up to K - 1")
    check_window(bounds, box)
    last = bounds.first + box.wide - box.high
    return bounds.first, box.wide + box.high, last, 2 * bounds.beta + 1 - last
