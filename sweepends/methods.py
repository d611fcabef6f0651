"""Methods: which parts of a table a step solves at once."""
from sweepends.checks import require_number
from sweepends.errors import InvalidMethod, NoInverse, NotSplit
from sweepends.exact import NIL, is_fraction, over
from sweepends.grids import grid_determinant
from sweepends.tables import MOST_ROWS, require_table


def is_method(size, value):
    """Whether a value, whatever it is, is a method for so many unknowns."""
    require_number(size, 1, MOST_ROWS)
    if type(value) is not tuple or len(value) not in (1, 2):
        return False
    name = value[0]
    if type(name) is not str:
        return False
    if len(value) == 1:
        return name == "each"
    detail = value[1]
    if name == "behind" or name == "back":
        return is_fraction(detail) and detail != NIL
    if name == "lots" or name == "lots behind":
        return are_lots(size, detail)
    return False


def are_lots(size, value):
    """Whether a value is a tuple of ascending tuples, none of them (), that hold each index once in all."""
    if type(value) is not tuple:
        return False
    found = []
    for lot in value:
        if not is_ascending(lot):
            return False
        found.extend(lot)
    return sorted(found) == list(range(size))


def is_ascending(lot):
    """Whether a value is an ascending tuple of whole numbers other than ()."""
    if type(lot) is not tuple or lot == ():
        return False
    if not all(type(at) is int for at in lot):
        return False
    return all(at < behind for at, behind in zip(lot, lot[1:]))


def split_of(table, method):
    """The table M that the method makes of any table."""
    require_table(table)
    require_method(table, method)
    split = split_table(table, method)
    require_split(split)
    return split


def parting_of(table, method):
    """The parting of a table and the table M that the method makes of it."""
    require_table(table)
    require_method(table, method)
    if grid_determinant(table) == NIL:
        raise NoInverse()
    split = split_table(table, method)
    require_split(split)
    return table, split


def require_method(table, value):
    if not is_method(len(table), value):
        raise InvalidMethod(value)


def require_split(split):
    if grid_determinant(split) == NIL:
        raise NotSplit()


def split_table(table, method):
    name = method[0]
    turns = turns_of(len(table), method)
    if name == "each" or name == "lots":
        return taken_alone(table, turns)
    split = taken_behind(table, turns)
    if name == "lots behind":
        return split
    return over_stepped(split, method[1])


def turns_of(size, method):
    """For each unknown the number of its turn; those with the same one are solved together."""
    name = method[0]
    if name == "back":
        return list(range(size))[::-1]
    if name == "each" or name == "behind":
        return list(range(size))
    turns = [0] * size
    for turn, lot in enumerate(method[1]):
        for at in lot:
            turns[at] = turn
    return turns


def taken_alone(table, turns):
    """The table with 0 wherever the column has another turn than the row."""
    return tuple([tuple([number if beside == turn else NIL for beside, number in zip(turns, row)])
                  for turn, row in zip(turns, table)])


def taken_behind(table, turns):
    """The table with 0 wherever the column has a later turn than the row."""
    return tuple([tuple([number if beside <= turn else NIL for beside, number in zip(turns, row)])
                  for turn, row in zip(turns, table)])


def over_stepped(split, factor):
    """The table with what stands along it divided by the factor."""
    return tuple([tuple([over(number, factor) if at == k else number for k, number in enumerate(row)])
                  for at, row in enumerate(split)])
