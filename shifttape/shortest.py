"""The shortest tapes of a text."""

from shifttape.checks import check_set, check_sheet, check_text
from shifttape.reading import set_behind

# Stands beside the sets 0 and 1 where a tape has to be read alike in both of them.
EITHER = 2


def _code_of(sheet, sign, now):
    """Return the code of a sign in a set or in both alike, or -1 if there is none."""
    zero, one, _ = sheet
    if now != EITHER:
        return sheet[now].find(sign)
    code = zero.find(sign)
    if one.find(sign) != code:
        return -1
    return code


def _without_shift(sheet, sign, now, rests):
    """Return, in a list, the best tape that begins with the code of the sign, if there is one."""
    code = _code_of(sheet, sign, now)
    if code < 0:
        return []
    return [[code] + rests[set_behind(sheet, code, now)]]


def _first_of(tapes):
    """Return the shortest tape, of several the first as lists ascend."""
    return min(tapes, key=lambda tape: (len(tape), tape))


def _with_sign(sheet, sign, rests):
    """Return the best tapes of a text, by where they begin, from the sign ahead and those of the rest."""
    size = len(sheet[0])
    plain = [_without_shift(sheet, sign, now, rests) for now in (0, 1, EITHER)]
    shifted = [[size + now] + tape for now in (0, 1) for tape in plain[now]]
    return [_first_of(tapes + shifted) for tapes in plain]


def _best_tapes(sheet, text):
    """Return the best tapes of a text that are begun in set 0, in set 1, and in either."""
    # From the end on, since what is best for the rest depends on the set alone.
    best = [[], [], []]
    for sign in reversed(text):
        best = _with_sign(sheet, sign, best)
    return best


def shortest(sheet, text, begin):
    """Return the shortest tape, of several the first, that is read as the text if begun in a set."""
    check_sheet(sheet)
    check_text(sheet, text)
    check_set(begin)
    return _best_tapes(sheet, text)[begin]


def either(sheet, text):
    """Return the shortest tape, of several the first, that is read as the text in whichever set it is begun."""
    check_sheet(sheet)
    check_text(sheet, text)
    return _best_tapes(sheet, text)[EITHER]
