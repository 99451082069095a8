"""Sheets written as texts, and read from them."""

from shifttape.checks import are_signs, check_sheet
from shifttape.errors import BadText

ROWS = 3
NO_HOME = "-"


def written(sheet):
    """Return a sheet as three rows: zero, one and home."""
    check_sheet(sheet)
    zero, one, home = sheet
    last = NO_HOME if home is None else str(home)
    return "\n".join([zero, one, last])


def _are_figures(row):
    """Tell whether a row is one or two figures without a needless 0."""
    if not 1 <= len(row) <= 2:
        return False
    if len(row) == 2 and row[0] == "0":
        return False
    return all("0" <= figure <= "9" for figure in row)


def _is_good(number, row):
    """Tell whether a row is as the row of that number in a written sheet."""
    if number < ROWS - 1:
        return are_signs(row)
    return number == ROWS - 1 and (row == NO_HOME or _are_figures(row))


def _check_rows(rows):
    """Refuse the first row that is not as in a written sheet, or that is lacking."""
    for number, row in enumerate(rows):
        if not _is_good(number, row):
            raise BadText(number)
    if len(rows) < ROWS:
        raise BadText(len(rows))


def read_sheet(text):
    """Return the sheet that is written so."""
    # Split at line feeds alone: any other line end would be a sign that no row has.
    rows = text.split("\n")
    _check_rows(rows)
    zero, one, last = rows
    sheet = (zero, one, None if last == NO_HOME else int(last))
    check_sheet(sheet)
    return sheet
