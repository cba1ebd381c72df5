"""Tables as texts: a row for each house, and one for each of its things."""

from deathnotes.errors import BadText
from deathnotes.tables import check_tables


def written(tables):
    """Write tables as a text."""
    check_tables(tables)
    rows = []
    for table in tables:
        rows.extend(table_rows(table))
    return "\n".join(rows)


def table_rows(table):
    """Tell the rows of the table of one house."""
    if table is None:
        return ["dead"]
    units, things = table
    rows = [row_of(["house"], units)]
    for number, links in things:
        rows.append(row_of(["thing", str(number)], links))
    return rows


def row_of(words, units):
    """Tell the row of some words and of units behind them."""
    return " ".join(words + [f"{house}.{thing}:{count}" for (house, thing), count in units])


def read(text):
    """Read the tables that a text tells."""
    tables = []
    # The empty text has no row, not one of an empty word.
    rows = text.split("\n") if text else []
    for at, row in enumerate(rows):
        add_row(tables, row.split(" "), at)
    check_tables(tables)
    return tables


def add_row(tables, words, at):
    """Add to the tables what the words of the row at this place tell."""
    match words:
        case ["dead"]:
            tables.append(None)
        case ["house", *rest]:
            tables.append((read_units(rest, at), ()))
        case ["thing", number, *rest] if tables and tables[-1] is not None:
            units, things = tables[-1]
            thing = (read_number(number, at), read_units(rest, at))
            tables[-1] = (units, (*things, thing))
        case _:
            raise BadText(at)


def read_units(words, at):
    """Read words as units."""
    return tuple([read_unit(word, at) for word in words])


def read_unit(word, at):
    """Read a word as a unit, such as 2.7:3."""
    handle, _, count = word.partition(":")
    house, _, thing = handle.partition(".")
    return ((read_number(house, at), read_number(thing, at)), read_number(count, at))


def read_number(word, at):
    """Read a word as a number of one or two figures."""
    if not word.isdecimal() or len(word) > 2 or str(int(word)) != word:
        raise BadText(at)
    return int(word)
