"""What points 11 and 12 tell of tables, by the tests' own slow way, and tables by chance."""


def links_by_hand(tables):
    """Tell the handles that each thing that stands has units of."""
    return {(house, number): [handle for handle, _ in links]
            for house, table in enumerate(tables) if table for number, links in table[1]}


def beyond_by_hand(tables):
    """Tell the number of the first table with a count above 99, None of none."""
    for house, table in enumerate(tables):
        if table and any(count > 99 for units in all_units(table) for _, count in units):
            return house
    return None


def unfounded_by_hand(tables):
    """Tell the number of the first table with a unit of what does not stand, None of none."""
    links = links_by_hand(tables)
    for house, table in enumerate(tables):
        if table and any(handle not in links for units in all_units(table) for handle, _ in units):
            return house
    return None


def all_units(table):
    """Tell the units that a house itself has, and those that each of its things has."""
    return [table[0]] + [links for _, links in table[1]]


def come_to_by_hand(tables):
    """Tell the handles that are come to: all are tried again until none is new."""
    links = links_by_hand(tables)
    found = {handle for table in tables if table for handle, _ in table[0]}
    many = -1
    while many != len(found):
        many = len(found)
        found |= {other for handle in found for other in links[handle]}
    return found


def why_by_hand(tables, handle):
    """Tell the first of the shortest of all rows without a thing twice, None of none."""
    links = links_by_hand(tables)
    ahead = [(house, first) for house, table in enumerate(tables) if table for first, _ in table[0]]
    while ahead:
        ends = sorted(row for row in ahead if row[-1] == handle)
        if ends:
            return ends[0]
        ahead = [(*row, other) for row in ahead for other in links[row[-1]] if other not in row]
    return None


def tables_by_chance(chance, many, most, dense):
    """Make tables of so many houses, with so many things of a house at the most."""
    up = [house for house in range(many) if chance.random() < 0.85]
    standing = [(house, number) for house in up for number in sorted(chance.sample(range(100), chance.randint(0, most)))]

    def units(wanted):
        handles = chance.sample(standing, min(len(standing), chance.randint(0, wanted)))
        return tuple((handle, chance.choice([1, 2, 99])) for handle in sorted(handles))

    tables = [None] * many
    for house in up:
        things = tuple((number, units(dense)) for owner, number in standing if owner == house)
        tables[house] = (units(1), things)
    return tables
