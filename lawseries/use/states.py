"""What is on a desk at one time, and whether pledges hold then."""

from lawseries.base.numbers import is_prime
from lawseries.between.rows_between import is_between
from lawseries.height.heights import height_of
from lawseries.log.logs import differential


class State:
    """The laws, rows and pledges on a desk, and its lines, which never change."""

    def __init__(self, laws, rows, pledges):
        self.held_laws = laws
        self.held_rows = rows
        self.held_pledges = pledges
        self.held_lines = _lines_of(laws, rows)


def broken_pledge(laws, rows, pledges):
    """The first pledge that does not hold, or None."""
    for pledge in pledges:
        if not _is_kept(pledge, laws, rows):
            return pledge
    return None


def news_of(before, after):
    """The ascending lines of a state that another one lacks, and the other way round."""
    gone = [line for line in before if line not in after]
    new = [line for line in after if line not in before]
    return tuple(sorted(gone)), tuple(sorted(new))


def _lines_of(laws, rows):
    told = [f"law {name}: {laws[name]} with {differential(laws[name])}" for name in sorted(laws)]
    return tuple(told + [f"row {name}: {rows[name]}" for name in sorted(rows)])


def _is_kept(pledge, laws, rows):
    kind = pledge[0]
    if kind == "whole":
        held = laws.get(pledge[1], rows.get(pledge[1]))
        return held is not None and held.is_whole
    if kind == "height":
        given = laws.get(pledge[1])
        return given is not None and is_prime(given.modulus) and height_of(given) == pledge[2]
    if kind == "fold":
        return _is_kept_fold(rows.get(pledge[1]), laws.get(pledge[2]), pledge[3])
    return _is_kept_between(rows.get(pledge[1]), laws.get(pledge[2]), laws.get(pledge[3]))


def _is_kept_fold(row, given, number):
    return row is not None and given is not None and given.multiple(number) == row


def _is_kept_between(row, one, other):
    if row is None or one is None or other is None or one.modulus != other.modulus:
        return False
    return is_between(one, other, row)
