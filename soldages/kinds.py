"""Questions about values of any kind and about words, and copies of values."""


def is_whole(value):
    """Tell whether a value is an integer; a bool is none."""
    return isinstance(value, int) and not isinstance(value, bool)


def is_whole_tuple(value, size):
    """Tell whether a value is a tuple of so many integers."""
    return isinstance(value, tuple) and len(value) == size and all([is_whole(part) for part in value])


def is_number(word):
    """Tell whether a word is an integer from 0 in digits without leading zeros."""
    return word.isascii() and word.isdigit() and (word == "0" or not word.startswith("0"))


def copied(value):
    """Return an equal value that shares no list and no dict with this one."""
    if isinstance(value, list):
        return [copied(part) for part in value]
    if isinstance(value, tuple):
        return tuple([copied(part) for part in value])
    if isinstance(value, dict):
        return {key: copied(value[key]) for key in value}
    return value
