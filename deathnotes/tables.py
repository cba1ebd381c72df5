"""Tables of all houses: what can be one, what is come to in them, and what only rings keep."""

from deathnotes.checks import FEWEST_HOUSES, MOST_HOUSES, MOST_THINGS, check_handle, is_below, is_handle
from deathnotes.errors import BadTables

MOST_UNITS = 99


def rings(tables):
    """Tell the handles of all things that stand and are not come to, rising."""
    check_tables(tables)
    rows = shortest_rows(tables)
    return [handle for handle in standing(tables) if handle not in rows]


def why(tables, handle):
    """Tell the shortest row by which a handle is come to, None if it is not."""
    check_tables(tables)
    check_handle(handle, len(tables))
    return shortest_rows(tables).get(handle)


def check_tables(tables):
    """Refuse what is no list of the tables of 2 to 8 houses."""
    many = len(tables)
    if many < FEWEST_HOUSES:
        raise BadTables(many)
    if many > MOST_HOUSES:
        raise BadTables(MOST_HOUSES)
    for number, table in enumerate(tables):
        if table is not None and not is_table(table, many):
            raise BadTables(number)
    # What stands can be asked only where all of them are tables.
    links = standing(tables)
    for number, table in enumerate(tables):
        if table is not None and not all([handle in links for handle in handles_in(table)]):
            raise BadTables(number)


def is_table(value, many):
    """Tell whether this looks like the table of one of so many houses."""
    if not is_pair(value):
        return False
    units, things = value
    return are_units(units, many) and are_things(things, many)


def is_pair(value):
    """Tell whether this is a tuple of two."""
    return isinstance(value, tuple) and len(value) == 2


def are_units(value, many):
    """Tell whether these are tuples (handle, count), rising."""
    if not isinstance(value, tuple):
        return False
    for unit in value:
        if not is_pair(unit) or not is_handle(unit[0], many):
            return False
        if not is_below(unit[1], MOST_UNITS + 1) or unit[1] == 0:
            return False
    return is_rising([unit[0] for unit in value])


def are_things(value, many):
    """Tell whether these are tuples (number, links), rising."""
    if not isinstance(value, tuple):
        return False
    for thing in value:
        if not is_pair(thing) or not is_below(thing[0], MOST_THINGS):
            return False
        if not are_units(thing[1], many):
            return False
    return is_rising([thing[0] for thing in value])


def is_rising(keys):
    """Tell whether each key is above the one ahead of it."""
    return keys == sorted(set(keys))


def handles_in(table):
    """Tell the handles of which a house has a unit, itself or by a thing."""
    units, things = table
    handles = [unit[0] for unit in units]
    for _, links in things:
        handles.extend([unit[0] for unit in links])
    return handles


def standing(tables):
    """Tell the handle of each thing that stands, rising, with what the thing has."""
    links = {}
    for house, table in enumerate(tables):
        if table is not None:
            for thing, units in table[1]:
                links[(house, thing)] = units
    return links


def shortest_rows(tables):
    """Tell the handle of each thing that is come to, with the shortest row, of several the first."""
    links = standing(tables)
    rows = {}
    for house, table in enumerate(tables):
        if table is not None:
            for handle, _ in table[0]:
                rows.setdefault(handle, (house, handle))
    # Rows of one length are found as they ascend: so the first one that is
    # found of a handle is the one that is asked.
    ahead = list(rows)
    while ahead:
        found = []
        for handle in ahead:
            for other, _ in links[handle]:
                if other not in rows:
                    rows[other] = (*rows[handle], other)
                    found.append(other)
        ahead = found
    return rows
