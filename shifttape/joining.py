"""Tapes joined and cut so that what is read stays."""

from shifttape.checks import check_begun, check_count, check_set, check_sheet, check_tape
from shifttape.reading import walked


def _shift_ahead(sheet, tape, now, wanted):
    """Return, in a list, the shift to the wanted set, if a tape is read otherwise from the set now."""
    text, _ = walked(sheet, tape, now)
    told, _ = walked(sheet, tape, wanted)
    if text == told:
        return []
    return [len(sheet[0]) + wanted]


def joined(sheet, tapes, begin):
    """Return one tape of several that are each begun in a set, all behind one another."""
    check_sheet(sheet)
    for tape in tapes:
        check_tape(sheet, tape)
    check_set(begin)
    whole = []
    now = begin
    for tape in tapes:
        part = _shift_ahead(sheet, tape, now, begin) + tape
        # Not from begin: a tape that is read alike from both sets may end in the one or the other.
        _, now = walked(sheet, part, now)
        whole.extend(part)
    return whole


def cut(sheet, tape, begin, place):
    """Return the codes ahead of a place, and those from there on, each to be begun in that set."""
    check_begun(sheet, tape, begin)
    check_count(place, len(tape))
    front, back = tape[:place], tape[place:]
    _, now = walked(sheet, front, begin)
    return front, _shift_ahead(sheet, back, begin, now) + back
