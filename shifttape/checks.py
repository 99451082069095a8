"""Refusals of what is handed in."""

from shifttape.errors import BadCount, BadSet, BadSheet, BadTape, NoSign

MOST_PLACES = 26
MOST_CODES = 100
MOST_SIGNS = 32


def are_signs(signs):
    """Tell whether all signs are from the blank to ~."""
    return all(" " <= sign <= "~" for sign in signs)


def _can_be_a_set(signs):
    """Tell whether all signs are from the blank to ~, and all unlike."""
    return are_signs(signs) and len(set(signs)) == len(signs)


def check_sheet(sheet):
    """Refuse what is no sheet."""
    zero, one, home = sheet
    if len(zero) != len(one):
        raise BadSheet("the sets have unlike lengths")
    if not 1 <= len(zero) <= MOST_PLACES:
        raise BadSheet("a set has 1 to 26 signs")
    if not _can_be_a_set(zero) or not _can_be_a_set(one):
        raise BadSheet("the signs of a set are all unlike, from the blank to ~")
    if home is not None and not 0 <= home < len(zero):
        raise BadSheet("home is None or a number below the length of the sets")


def check_tape(sheet, tape):
    """Refuse what is no tape of this sheet, which is a good one."""
    last = len(sheet[0]) + 1
    for place, code in enumerate(tape):
        if place == MOST_CODES or not 0 <= code <= last:
            raise BadTape(place)


def check_set(begin):
    """Refuse what is no set."""
    if begin != 0 and begin != 1:
        raise BadSet("a set is 0 or 1")


def check_text(sheet, text):
    """Refuse what is no text of this sheet, which is a good one."""
    zero, one, _ = sheet
    for place, sign in enumerate(text):
        if place == MOST_SIGNS or (sign not in zero and sign not in one):
            raise NoSign(place)


def check_count(many, most):
    """Refuse what is no number from 0 to the most that is allowed."""
    if not 0 <= many <= most:
        raise BadCount(f"a number from 0 to {most} is wanted here")


def check_begun(sheet, tape, begin):
    """Refuse a bad sheet, tape or set, in the order in which they are handed in."""
    check_sheet(sheet)
    check_tape(sheet, tape)
    check_set(begin)
