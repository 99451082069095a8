"""What tapes are read as."""

from shifttape.checks import check_begun


def set_behind(sheet, code, now):
    """Return the set behind a code that is read in the set now (which may be a mark for any set)."""
    zero, _, home = sheet
    if code >= len(zero):
        return code - len(zero)
    if code == home:
        return 0
    return now


def walked(sheet, tape, begin):
    """Return the text of a tape and the set at its end, unchecked."""
    text = ""
    now = begin
    for code in tape:
        if code < len(sheet[now]):
            text += sheet[now][code]
        now = set_behind(sheet, code, now)
    return text, now


def read(sheet, tape, begin):
    """Return the text of all signs of a tape that is begun in a set."""
    check_begun(sheet, tape, begin)
    text, _ = walked(sheet, tape, begin)
    return text


def last_set(sheet, tape, begin):
    """Return the set at the end of a tape that is begun in a set."""
    check_begun(sheet, tape, begin)
    _, now = walked(sheet, tape, begin)
    return now
