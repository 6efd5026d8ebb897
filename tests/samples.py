"""What several tests need: calls that are watched, values of any kind, and values that are drawn."""

import random

from leastpowers.errors import NoIndex, Nothing, Wrong

BIG = 10 ** 39 + 7


def call(test, function, *args):
    """What a function returns; it keeps its arguments, and tells the same again, whatever was done to the answer."""
    before = repr(args)
    kept = repr(function(*args))
    spoil(function(*args))
    answer = function(*args)
    test.assertEqual(kept, repr(answer), function)
    test.assertEqual(before, repr(args), function)
    test.assertTrue(parted(answer, [args]), function)
    return answer


def failed(test, error, function, *args):
    """The error of just this class that a function raises; it keeps its arguments."""
    before = repr(args)
    with test.assertRaises(error) as caught:
        function(*args)
    test.assertIs(error, caught.exception.__class__)
    test.assertEqual(before, repr(args), function)
    return caught.exception


def holders(thing):
    """All lists and dicts in a value."""
    found = [thing] if isinstance(thing, (list, dict)) else []
    if isinstance(thing, dict):
        thing = list(thing.items())
    if isinstance(thing, (list, tuple)):
        for item in thing:
            found += holders(item)
    return found


def parted(answer, args):
    """Whether no list and no dict of an answer is another one of it, or of the arguments."""
    own = [id(holder) for holder in holders(answer)]
    return len(own) == len(set(own)) and not set(own) & {id(holder) for holder in holders(args)}


def spoil(answer):
    """Changes all lists and dicts of an answer, as a caller may."""
    for holder in holders(answer):
        if isinstance(holder, dict):
            holder["spoilt"] = None
        else:
            holder.append("spoilt")


ANY = [
    None, True, False, 0, 1, 2, -1, BIG, -BIG, "", "0", "plan", "own", "()", "none", "a\nb", [], (), {}, [()], ((),),
    ({},), (0,), (1,), [0], [0, 1], (0, 1), (1, 0), (0, 0), (True, False), (None,), (None, None), (0, None), (0, ()),
    (0, []),
    ((), 0), ((), None), ((), ()), [[], []], {0: 0}, {0: (0, 0)}, {True: (0, 0)}, {None: None}, {"0": (0, 0)}, {(): ()},
    {0: [0, 0]}, {0: (0, True)}, {0: (False, 0)}, Wrong(0), Nothing(), NoIndex([]), (Wrong(0), 0), (0, Nothing()),
    ("own", {}), ("own", ()), ("plan", ()), ("plan", []), ["plan", ()], ("plan",), (0, (0, 0), 0), ((0, (1, 1)),),
    ((0, (1, 1)), (0, (1, 1))), [(0, 0, 0)], [(0, 0, True)], [(0, 0)], [None], [[]], ["0"],
    ((((((((((),),),),),),),),),), [[[[[[[[[[]]]]]]]]]],
]


def exchanged(thing):
    """Values that come from one by exchanging, leaving out, or adding a single part of it."""
    yield from [None, True, False, "0", [thing], (thing,), (thing, thing), {}]
    if isinstance(thing, int):
        yield from [thing + 1, thing - 1, -thing, BIG, str(thing)]
    if isinstance(thing, tuple):
        yield list(thing)
    if isinstance(thing, list):
        yield tuple(thing)
    if isinstance(thing, (tuple, list)):
        made = type(thing)
        yield made(thing[::-1])
        for at, item in enumerate(thing):
            yield made([*thing[:at], *thing[at + 1:]])
            yield made([*thing[:at], item, item, *thing[at + 1:]])
            for other in exchanged(item):
                yield made([*thing[:at], other, *thing[at + 1:]])
        yield made([*thing, ()])
    if isinstance(thing, dict):
        yield list(thing.items())
        yield {**thing, True: (0, 0)}
        yield {**thing, "0": (0, 0)}
        for key, item in thing.items():
            rest = {other: thing[other] for other in thing if other != key}
            yield rest
            yield {**rest, str(key): item}
            if key in (0, 1):
                yield {**rest, bool(key): item}
            for other in exchanged(item):
                yield {**thing, key: other}


def drawn_order(draw, size=5):
    return None if draw.random() < 0.2 else draw.randint(-size, size)


def drawn_bounds(draw, size=5):
    least = draw.randint(-size, size)
    return (least, draw.choice([None, least, least, least + 1, least + draw.randint(0, size)]))


def drawn_fraction(draw, size=9):
    while True:
        num, den = draw.randint(-size, size), draw.randint(1, size)
        if all([num % by or den % by for by in range(2, size + 1)]):
            return (num, den)


def drawn_number(draw, terms=4, size=3):
    powers = sorted(draw.sample(range(-size, size + 1), draw.randint(0, terms)))
    factors = [drawn_fraction(draw) for _ in powers]
    return tuple([(power, factor) for power, factor in zip(powers, factors) if factor[0]])


def drawn_quotient(draw):
    den = ()
    while den == ():
        den = drawn_number(draw)
    return (drawn_number(draw), den)


def drawn_table(draw, many, most_rows=4, most_sides=5):
    rows = []
    for _ in range(draw.randint(0, most_rows)):
        sides = [(draw.randrange(many), *drawn_bounds(draw)) for _ in range(draw.randint(0, most_sides) if many else 0)]
        rows.append((tuple(sides), draw.choice([None, drawn_bounds(draw)])))
    return (many, tuple(rows))


def drawn_telling(draw, table):
    told = []
    for sides, right in table[1]:
        numbers = tuple([drawn_within(draw, least, greatest) for _, least, greatest in sides])
        told.append((numbers, () if right is None else drawn_within(draw, *right)))
    return tuple(told)


def drawn_within(draw, least, greatest):
    if greatest is None and draw.random() < 0.3:
        return ()
    order = draw.randint(least, least + 3 if greatest is None else greatest)
    return ((order, (draw.choice([-2, -1, 1, 3]), 1)), (order + 2, (1, 2)))


def drawn_wait(draw, many, size=5, most_options=3):
    some = 0 if draw.random() < 0.07 else draw.randint(1, min(many, most_options))
    others = sorted(draw.sample(range(many), some))
    return (draw.randrange(many), tuple([(other, draw.randint(-size, size)) for other in others]))


def drawn_system(draw, many, most_waits=6, size=5, most_options=3):
    waits = draw.randint(0, most_waits) if many else 0
    return (many, tuple([drawn_wait(draw, many, size, most_options) for _ in range(waits)]))


def drawing(seed):
    return random.Random(seed)


def plain_own(system, thing):
    """Whether a value of any kind is of such a kind as own waits are: a dict from integers to indexes and integers."""
    if not isinstance(thing, dict) or any([key.__class__ is not int for key in thing]):
        return False
    for item in thing.values():
        if not isinstance(item, tuple) or [part.__class__ for part in item] != [int, int]:
            return False
        if item[0] not in range(len(system[1])):
            return False
    return True
