"""Own rows, which show that a table is silent."""

from leastpowers.forms import is_index, is_tuple_of
from leastpowers.ownwaits import is_own_waits, own_waits, weights_for
from leastpowers.silence import silent_system
from leastpowers.tables import without_rights
from leastpowers.tablewaits import wait_places


def own_rows(table):
    """Own rows of a table, None if it is not silent."""
    many = table[0]
    own = own_waits(silent_system(table))
    if len(own) < many:
        return None
    places = silent_places(table)
    return (tuple([places[own[unknown][0]][0] for unknown in own]), weights_of(own))


def weights_of(own):
    """The weights of own waits of all unknowns."""
    return tuple([weight for _, weight in own.values()])


def silent_places(table):
    """The row and the unknown of each wait of a table without its right sides."""
    return wait_places(without_rights(table))


def is_own(table, thing):
    """Whether thing is own rows of a table."""
    many = table[0]
    if not is_tuple_of(2, thing) or not all([is_tuple_of(many, part) for part in thing]):
        return False
    rows, weights = thing
    if not all([is_index(len(table[1]), row) for row in rows]):
        return False
    chosen = chosen_waits(table, rows)
    if chosen is None:
        return False
    own = {unknown: (chosen[unknown], weights[unknown]) for unknown in chosen}
    return is_own_waits(silent_system(table), own)


def own_weights(table, rows):
    """Weights with which rows, one for each unknown, are own rows; None if there are none."""
    chosen = chosen_waits(table, rows)
    if chosen is None:
        return None
    own = weights_for(silent_system(table), chosen)
    return None if own is None else weights_of(own)


def chosen_waits(table, rows):
    """The index of the wait of each unknown in its row; None if some unknown has none, its HIGH being no integer."""
    places = silent_places(table)
    wanted = [(row, unknown) for unknown, row in enumerate(rows)]
    if not all([place in places for place in wanted]):
        return None
    return {unknown: places.index((row, unknown)) for row, unknown in wanted}
