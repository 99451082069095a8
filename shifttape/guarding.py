"""Tapes of which no lost shift code spoils more signs than so many."""

from shifttape.checks import MOST_SIGNS, check_count, check_set, check_sheet, check_text
from shifttape.losses import spoilt
from shifttape.reading import set_behind

# How many signs may still be spoilt where no lost shift can spoil one: as many as a text can have.
SAFE = 32


def _with_code(sheet, sign, now, spare, rests):
    """Return, in a list, the shortest tape that begins with the code of the sign, if there is one.

    Here and below, spare tells how many signs the last shift ahead may still spoil if it is lost.
    """
    zero, one, home = sheet
    code = sheet[now].find(sign)
    if code < 0:
        return []
    left = spare if zero[code] == one[code] else spare - 1
    if left < 0:
        return []
    # Behind the code home it is set 0, also if the shift ahead was lost.
    if code == home:
        left = SAFE
    return [[code] + rests[set_behind(sheet, code, now)][left]]


def _with_shifts(sheet, sign, now, most, rests):
    """Return the shortest tapes that begin with one or two shifts and go on with the code of the sign."""
    other = 1 - now
    stay, turn = len(sheet[0]) + now, len(sheet[0]) + other
    # A shift to the set that it is in already spoils nothing if it is lost, and ends what the one
    # ahead of it spoils: so behind a shift that turns, the same one again makes it safe.
    again = [[stay] + tape for tape in _with_code(sheet, sign, now, SAFE, rests)]
    once = [[turn] + tape for tape in _with_code(sheet, sign, other, most, rests)]
    twice = [[turn, turn] + tape for tape in _with_code(sheet, sign, other, SAFE, rests)]
    return again + once + twice


def _with_sign(sheet, sign, most, rests):
    """Return the shortest tapes of a text, by set and spare, from the sign ahead and those of the rest."""
    tapes = []
    for now in (0, 1):
        shifted = _with_shifts(sheet, sign, now, most, rests)
        plain = [_with_code(sheet, sign, now, spare, rests) for spare in range(SAFE + 1)]
        tapes.append([min(some + shifted, key=len) for some in plain])
    return tapes


def guarded(sheet, text, begin, most):
    """Return a shortest tape, read as the text if begun in a set, of which no lost shift spoils more than most."""
    check_sheet(sheet)
    check_text(sheet, text)
    check_set(begin)
    check_count(most, MOST_SIGNS)
    # From the end on, since what is best for the rest depends on the set and the spare alone.
    ends = [[] for _ in range(SAFE + 1)]
    tapes = [ends, ends]
    for sign in reversed(text):
        tapes = _with_sign(sheet, sign, most, tapes)
    return tapes[begin][SAFE]


def is_guarded(sheet, tape, begin, most):
    """Tell whether no lost shift of a tape that is begun in a set spoils more signs than most."""
    # Refuses a bad sheet, tape or set, so the number is looked at behind them.
    losses = spoilt(sheet, tape, begin)
    check_count(most, MOST_SIGNS)
    return all([many <= most for _, many in losses])
