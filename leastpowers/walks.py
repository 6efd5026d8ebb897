"""Walks from an unknown, by sides of own rows, to a right side."""

from leastpowers.determinants import own_options, rows_of_exact, shortest_ways, with_end
from leastpowers.errors import TooMany
from leastpowers.forms import is_index
from leastpowers.numbers import later, least_order

MOST_WALKS = 2000


def exact_options(table):
    """The own options of an exact table, or an error is raised: a walk is a way by these to the right side."""
    return own_options(table, rows_of_exact(table))


def ends_of(options):
    """For each unknown the least length of its walks, None without a walk, and 0 behind them for the right side."""
    right = len(options)
    return with_end(shortest_ways(options, right), right)


def is_walk(table, thing):
    """Whether thing is a walk of some unknown."""
    options = exact_options(table)
    many = table[0]
    if not isinstance(thing, tuple) or not all([is_index(many, item) for item in thing]):
        return False
    return len(thing) > 0 and all([other in options[unknown] for unknown, other in steps_of(many, thing)])


def steps_of(many, walk):
    """The steps (event, next event) of a walk, the last one of which leads to the right side."""
    return list(zip(walk, walk[1:] + (many,)))


def length_of(table, walk):
    """The length of a walk."""
    options = exact_options(table)
    return sum([options[unknown][other] for unknown, other in steps_of(table[0], walk)])


def walks_of(table, unknown, most):
    """All tuples (length, walk) of the walks of an unknown whose length is at most most."""
    options = exact_options(table)
    ends = ends_of(options)
    found = []
    heads = within_most([(0, (unknown,))], ends, most)
    while heads:
        # Each head is the beginning of some walk that is short enough, and no two are that of the same one.
        if len(found) + len(heads) > MOST_WALKS:
            raise TooMany(MOST_WALKS)
        reached = []
        for length, walk in heads:
            for other, delay in options[walk[-1]].items():
                if other < table[0]:
                    reached.append((length + delay, walk + (other,)))
                elif length + delay <= most:
                    found.append((length + delay, walk))
        heads = within_most(reached, ends, most)
    return sorted(found)


def within_most(heads, ends, most):
    """The beginnings (length, walk) of walks that can come to an end with a length of at most most."""
    return [(length, walk) for length, walk in heads if has_end_within(length, ends[walk[-1]], most)]


def has_end_within(length, end, most):
    """Whether there is an end, and it comes with a length to at most most."""
    return end is not None and length + end <= most


def shortest(table, unknown):
    """The least tuple (length, walk) of the walks of an unknown, None if there is no walk."""
    options = exact_options(table)
    ends = ends_of(options)
    if ends[unknown] is None:
        return None
    return (ends[unknown], shortest_walk(options, ends, unknown))


def shortest_walk(options, ends, unknown):
    """The least one of the shortest walks of an unknown, which has some."""
    walk = ()
    head = unknown
    while head < len(options):
        walk = walk + (head,)
        nexts = shortest_nexts(options, ends, head)
        # A walk that ends here is less than one that goes on.
        head = nexts[-1] if nexts[-1] == len(options) else nexts[0]
    return walk


def shortest_nexts(options, ends, unknown):
    """The events, ascending, to which the shortest walks of an unknown, which has some, go from it."""
    own = options[unknown]
    return [other for other in sorted(own) if later(ends[other], own[other]) == ends[unknown]]


def second_length(table, unknown):
    """The least length of all walks of an unknown but one shortest one, None if there is no other walk."""
    options = exact_options(table)
    ends = ends_of(options)
    if ends[unknown] is None:
        return None
    lengths = []
    gone = 0
    # Any other walk goes along with the shortest one up to some event, and from there to another one.
    for head, after in steps_of(table[0], shortest_walk(options, ends, unknown)):
        for other, delay in options[head].items():
            if other != after:
                lengths.append(later(ends[other], gone + delay))
        gone = gone + options[head][after]
    return least_order(lengths)
