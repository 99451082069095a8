"""What tapes are read as if one shift code is lost."""

from shifttape.checks import check_begun
from shifttape.reading import walked


def _shift_places(sheet, tape):
    """Return the places of all shift codes, rising."""
    return [place for place, code in enumerate(tape) if code >= len(sheet[0])]


def _text_without(sheet, tape, begin, place):
    """Return the text of a tape that has lost the code at a place."""
    text, _ = walked(sheet, tape[:place] + tape[place + 1:], begin)
    return text


def _count_unlike(text, other):
    """Return at how many places two texts of as many signs are unlike."""
    return sum([1 for sign, instead in zip(text, other) if sign != instead])


def spoilt(sheet, tape, begin):
    """Return, for each shift code, its place and how many signs are read otherwise if it alone is lost."""
    check_begun(sheet, tape, begin)
    text, _ = walked(sheet, tape, begin)
    # A lost shift takes no sign away, so the signs of both texts stand for the same codes.
    return [
        (place, _count_unlike(text, _text_without(sheet, tape, begin, place)))
        for place in _shift_places(sheet, tape)
    ]


def lost_at(sheet, tape, begin, text):
    """Return the places of all shift codes without which the tape is read as the text, which may be any."""
    check_begun(sheet, tape, begin)
    places = _shift_places(sheet, tape)
    return [place for place in places if _text_without(sheet, tape, begin, place) == text]
