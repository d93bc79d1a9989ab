"""Plans: what a call answers, and how it changes the records of its buckets."""

from driftkept.records import bucket_of, value_in, with_item, without_item
from driftkept.values import is_whole, is_within


def is_call(value):
    """True if the value is a call; the value may be anything."""
    # A pattern also takes lists, and a call is none.
    if not isinstance(value, tuple):
        return False
    match value:
        case ("look", key):
            return is_whole(key)
        case ("put", key, item):
            return is_whole(key) and is_whole(item)
        case ("take", key):
            return is_whole(key)
        case ("change", key, old, new):
            return is_whole(key) and is_whole(old) and is_whole(new)
        case ("move", key, other):
            return is_whole(key) and is_whole(other) and key != other
        case ("puts", pairs):
            return is_pairs(pairs)
    return False


def is_pairs(value):
    """True if the value is a tuple of 1 to 3 pairs of integers with different keys."""
    if not isinstance(value, tuple) or not is_within(len(value), 1, 3):
        return False
    for pair in value:
        if not (isinstance(pair, tuple) and len(pair) == 2 and is_whole(pair[0]) and is_whole(pair[1])):
            return False
    return len({pair[0] for pair in value}) == len(value)


def keys_of(call):
    """The keys that a call names."""
    if call[0] == "puts":
        return [key for key, value in call[1]]
    if call[0] == "move":
        return [call[1], call[2]]
    return [call[1]]


def buckets_of(call):
    """The buckets of a call, ascending, each once."""
    return sorted({bucket_of(key) for key in keys_of(call)})


def plan(call, records):
    """The plan of a call, from the records of its buckets."""
    values = [value_in(records[bucket_of(key)], key) for key in keys_of(call)]
    answer = answer_by(call, values)
    reason = reason_key(call, values)
    if reason is not None:
        return ("answer", answer, bucket_of(reason))
    items = new_items(call, values)
    rows = [(bucket, with_items(records[bucket], bucket, items)) for bucket in buckets_of(call)]
    return ("change", answer, rows)


def answer_by(call, values):
    """The answer of a call, by the values that its keys have."""
    if call[0] == "change":
        return values[0] == call[2]
    if call[0] == "move":
        return values[0] is not None and values[1] is None
    if call[0] == "puts":
        return tuple(values)
    return values[0]


def reason_key(call, values):
    """A key whose bucket is reason enough that nothing is changed; None if something is."""
    key = keys_of(call)[0]
    match call[0]:
        case "put":
            return key if values[0] == call[2] else None
        case "take":
            return key if values[0] is None else None
        case "change":
            return key if values[0] != call[2] or call[3] == call[2] else None
        case "move":
            return move_reason(call, values)
        case "puts":
            # Over several buckets no single record tells that all of it was so at one moment.
            same = values == [value for other, value in call[1]]
            return key if same and len(buckets_of(call)) == 1 else None
    return key


def move_reason(call, values):
    """The key that keeps a move from being made, or None."""
    if values[0] is None:
        return call[1]
    return call[2] if values[1] is not None else None


def new_items(call, values):
    """The pairs of the keys that a call changes and their new values, None for those that go."""
    if call[0] == "puts":
        return list(call[1])
    if call[0] == "move":
        return [(call[1], None), (call[2], values[0])]
    if call[0] == "take":
        return [(call[1], None)]
    return [(call[1], call[-1])]


def with_items(record, bucket, items):
    """The record of a bucket behind those of the items that belong to it."""
    for key, value in items:
        if bucket_of(key) == bucket:
            record = without_item(record, key) if value is None else with_item(record, key, value)
    return record
