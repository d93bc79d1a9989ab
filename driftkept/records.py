"""Records: the pairs of a bucket, written once and never changed."""

from driftkept.values import is_ascending, is_whole

BUCKETS = 4
EMPTY = ("items", ())


def bucket_of(key):
    """The bucket of a key."""
    return key % BUCKETS


def is_items(value, bucket):
    """True if the value is a record of this bucket; the value may be anything."""
    if not (isinstance(value, tuple) and len(value) == 2 and value[0] == "items"):
        return False
    pairs = value[1]
    if not (isinstance(pairs, tuple) and all([is_pair(pair, bucket) for pair in pairs])):
        return False
    return is_ascending([pair[0] for pair in pairs])


def is_pair(value, bucket):
    """True if the value is a pair of a key of this bucket and the key's value."""
    if not (isinstance(value, tuple) and len(value) == 2):
        return False
    return is_whole(value[0]) and is_whole(value[1]) and bucket_of(value[0]) == bucket


def value_in(record, key):
    """The value of the key in a record, or None."""
    for other, value in record[1]:
        if other == key:
            return value
    return None


def with_item(record, key, value):
    """The record in which the key has this value."""
    pairs = without_item(record, key)[1]
    return ("items", tuple(sorted([*pairs, (key, value)])))


def without_item(record, key):
    """The record without the key."""
    return ("items", tuple([pair for pair in record[1] if pair[0] != key]))
