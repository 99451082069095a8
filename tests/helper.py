"""What several tests use: a reader and two searches of their own, and a check of refusals."""

from itertools import product

from shifttape import errors

REFUSALS = (errors.BadSheet, errors.BadSet, errors.BadCount, errors.BadTape, errors.NoSign, errors.BadText)


def refusal(case, wanted, action, *given):
    """Check that the action refuses what is given with an error of just the wanted class; return the error."""
    with case.assertRaises(wanted) as caught:
        action(*given)
    error = caught.exception
    case.assertIsInstance(error, errors.TapeError)
    case.assertIsInstance(error, ValueError)
    case.assertEqual([one for one in REFUSALS if isinstance(error, one)], [wanted])
    return error


def stepped(sheet, code, now):
    """Return the sign (or no sign) of a code in a set, and the set behind it."""
    zero, one, home = sheet
    size = len(zero)
    if code == size:
        return "", 0
    if code == size + 1:
        return "", 1
    sign = (zero, one)[now][code]
    return sign, 0 if code == home else now


def plain_read(sheet, tape, begin):
    signs = []
    now = begin
    for code in tape:
        sign, now = stepped(sheet, code, now)
        signs.append(sign)
    return "".join(signs)


def plain_end(sheet, tape, begin):
    now = begin
    for code in tape:
        _, now = stepped(sheet, code, now)
    return now


def plain_losses(sheet, tape, begin):
    """Return (place, many) for each shift, by a second reader that misses that one code."""
    told = []
    now = begin
    for place, lost in enumerate(tape):
        _, behind = stepped(sheet, lost, now)
        if lost >= len(sheet[0]):
            right, wrong, many = behind, now, 0
            for code in tape[place + 1:]:
                sign, right = stepped(sheet, code, right)
                instead, wrong = stepped(sheet, code, wrong)
                many += sign != instead
            told.append((place, many))
        now = behind
    return told


def worst_loss(sheet, tape, begin):
    return max([many for _, many in plain_losses(sheet, tape, begin)], default=0)


def tapes_read_as(sheet, text, begin, length):
    """Go through all tapes of just so many codes that are read as the text if begun in the set."""
    if length == 0:
        if text == "":
            yield []
        return
    for code in range(len(sheet[0]) + 2):
        sign, now = stepped(sheet, code, begin)
        if text.startswith(sign):
            for tape in tapes_read_as(sheet, text[len(sign):], now, length - 1):
                yield [code] + tape


def guarded_length(sheet, text, begin, most):
    """Return how long a shortest guarded tape is, by a search from the front.

    Two readers go along: one that has had all codes, and one that missed the last shift.
    """
    size = len(sheet[0])
    level = [(0, begin, begin, 0)]
    seen = set(level)
    length = 0
    while not any(place == len(text) for place, _, _, _ in level):
        beyond = []
        for place, now, lost, many in level:
            steps = [(place, 0, now, 0), (place, 1, now, 0)]
            code = sheet[now].find(text[place])
            if code >= 0:
                sign, right = stepped(sheet, code, now)
                instead, wrong = stepped(sheet, code, lost)
                steps.append((place + 1, right, wrong, many + (sign != instead)))
            beyond.extend(step for step in steps if step[3] <= most and step not in seen)
            seen.update(steps)
        level = beyond
        length += 1
    return length


def first_tapes(sheet, most):
    """Go through all tapes of at most so many codes, by length and then as lists ascend.

    Returns three dicts, text to first tape: begun in set 0, begun in set 1, read so in both.
    """
    from_zero, from_one, from_both = {}, {}, {}
    for length in range(most + 1):
        for tape in product(range(len(sheet[0]) + 2), repeat=length):
            text = plain_read(sheet, tape, 0)
            other = plain_read(sheet, tape, 1)
            from_zero.setdefault(text, list(tape))
            from_one.setdefault(other, list(tape))
            if text == other:
                from_both.setdefault(text, list(tape))
    return from_zero, from_one, from_both


def searched(sheet, text, begins):
    """Return the first of the shortest tapes read as the text from each of the sets, by a search from the front."""
    level = {(0, begins): []}
    seen = set(level)
    while level:
        ends = [tape for (place, _), tape in level.items() if place == len(text)]
        if ends:
            return min(ends)
        beyond = {}
        for (place, sets), tape in level.items():
            for code in range(len(sheet[0]) + 2):
                steps = [stepped(sheet, code, now) for now in sets]
                if {sign for sign, _ in steps} == {""}:
                    ahead = place
                elif {sign for sign, _ in steps} == {text[place]}:
                    ahead = place + 1
                else:
                    continue
                state = (ahead, tuple(now for _, now in steps))
                longer = tape + [code]
                if state not in seen and (state not in beyond or longer < beyond[state]):
                    beyond[state] = longer
        seen.update(beyond)
        level = beyond
    raise AssertionError("no tape is read as the text")
