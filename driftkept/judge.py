"""The judge: whether a history is that of one order that keeps time."""

from driftkept.values import is_same

# A row is a tuple (thread, index, call, answer, witness, first, last).


def answer_of(plain, call):
    """The answer of a call on a plain map."""
    match call:
        case ("change", key, old, new):
            return plain.get(key) == old
        case ("move", key, other):
            return key in plain and other not in plain
        case ("puts", pairs):
            return tuple([plain.get(pair[0]) for pair in pairs])
    # A look, a put and a take answer with what the key had.
    return plain.get(call[1])


def after_call(plain, call):
    """The plain map behind a call, a new dict."""
    behind = dict(plain)
    match call:
        case ("put", key, value):
            behind[key] = value
        case ("take", key):
            behind.pop(key, None)
        case ("change", key, old, new):
            if answer_of(plain, call):
                behind[key] = new
        case ("move", key, other):
            if answer_of(plain, call):
                behind[other] = behind.pop(key)
        case ("puts", pairs):
            behind.update(dict(pairs))
    return behind


def is_change(row):
    """True if the row is a change."""
    call, answer, witness, first, last = row[2:]
    return witness is not None and (last is None or shows_change(call, answer))


def shows_change(call, answer):
    """True if the answer of a call shows that something was changed."""
    match call:
        case ("put", key, value):
            return not is_same(answer, value)
        case ("take", key):
            return answer is not None
        case ("change", key, old, new):
            return answer is True and old != new
        case ("move", key, other):
            return answer is True
        case ("puts", pairs):
            return not is_same(answer, tuple([pair[1] for pair in pairs]))
    return False


def in_order(rows):
    """The indexes of the rows that took place, in the order of the history."""
    places = [(row[4], 0 if is_change(row) else 1, at) for at, row in enumerate(rows) if row[4] is not None]
    return [place[2] for place in sorted(places)]


def map_at(rows, number):
    """The plain map behind all changes with a witness of at most this number."""
    plain = {}
    for at in in_order(rows):
        if is_change(rows[at]) and rows[at][4] <= number:
            plain = after_call(plain, rows[at][2])
    return plain


def first_fault(rows):
    """The first fault: the tuple (word, index of the row), or ("", -1)."""
    faults = [
        ("time", [is_untimely(row) for row in rows]),
        ("row", misplaced(rows)),
        ("missing", [is_missing(row) for row in rows]),
        ("twice", doubled(rows)),
    ]
    for word, found in faults:
        if True in found:
            return (word, found.index(True))
    return answer_fault(rows)


def is_untimely(row):
    """True if the numbers of a row do not keep time."""
    witness, first, last = row[4:]
    if first < 1 or last is not None and last < first:
        return True
    if witness is None:
        return False
    return witness < first or last is not None and witness > last


def misplaced(rows):
    """For each row whether it stands twice, or no call before it of its thread had ended."""
    ends = first_ends(rows)
    seen = {}
    found = []
    for row in rows:
        thread, index = row[:2]
        before = ends.get((thread, index - 1))
        begun_early = index != 0 and (before is None or before >= row[5])
        found.append((thread, index) in seen or begun_early)
        seen[(thread, index)] = True
    return found


def first_ends(rows):
    """A dict from thread and index to the least access at which such a row ended."""
    ends = {}
    for row in rows:
        place, last = (row[0], row[1]), row[6]
        if last is not None:
            ends[place] = min(last, ends.get(place, last))
    return ends


def is_missing(row):
    """True if a row has ended with a witness and an answer that do not go together."""
    call, answer, witness, first, last = row[2:]
    if last is None:
        return False
    if answer == "full" and call[0] == "look":
        return True
    return (witness is None) != (answer == "full" or answer == "undone")


def doubled(rows):
    """For each row whether it is a change at the witness of a change that stands before it."""
    seen = {}
    found = []
    for row in rows:
        change = is_change(row)
        found.append(change and row[4] in seen)
        if change:
            seen[row[4]] = True
    return found


def answer_fault(rows):
    """The first fault "answer", in the order of the history, or ("", -1)."""
    plain = {}
    for at in in_order(rows):
        call, answer, witness, first, last = rows[at][2:]
        if last is not None and not is_same(answer, answer_of(plain, call)):
            return ("answer", at)
        plain = after_call(plain, call)
    return ("", -1)
