"""The forms of plain values that several modules ask for.

Each question here takes any object, so none of them puts an object into a
set or takes it as a key before its form is known.
"""


def is_word(value):
    """Return whether any object is a string of one to eight letters from a to z."""
    return isinstance(value, str) and 1 <= len(value) <= 8 and all(["a" <= sign <= "z" for sign in value])


def is_map(words, value):
    """Return whether any object is a dictionary from just these unlike words to unlike words."""
    if not isinstance(value, dict) or len(value) != len(words):
        return False
    if not all([word in value and is_word(value[word]) for word in words]):
        return False
    return len({value[word] for word in words}) == len(words)


def is_ascending(items):
    """Return whether each item of a list is greater than the one ahead."""
    return all([one < other for one, other in zip(items, items[1:])])


def is_string_in(words, value):
    """Return whether any object is one of some words."""
    # What is no string perhaps can't be looked for in a dictionary.
    return isinstance(value, str) and value in words


def is_list_of(words, value):
    """Return whether any object is a list of some words."""
    return isinstance(value, list) and all([isinstance(word, str) and word in words for word in value])


def is_count(value):
    """Return whether any object is a whole number of at least 0."""
    # True and False are integers to Python, but no counts.
    return isinstance(value, int) and not isinstance(value, bool) and value >= 0


def is_tuple_of(size, value):
    """Return whether any object is a tuple of so many things."""
    return isinstance(value, tuple) and len(value) == size


def is_place(size, value):
    """Return whether any object is a place of a list of some size."""
    return is_count(value) and value < size


def are_places(size, value):
    """Return whether any object is an ascending list of places of a list of some size."""
    return isinstance(value, list) and all([is_place(size, place) for place in value]) and is_ascending(value)


def is_block(size, value):
    """Return whether any object is a block, not empty, of a list of some size."""
    return is_tuple_of(2, value) and is_count(value[0]) and is_count(value[1]) and value[0] < value[1] <= size


def is_strike(value):
    """Return whether any object has the form of a strike."""
    if not is_tuple_of(4, value) or not all([is_count(number) for number in value[1:]]):
        return False
    return value[0] in ("cover", "stop") and value[1] < value[2] < value[3]


def are_strikes(value):
    """Return whether any object is a list of what has the form of a strike."""
    return isinstance(value, list) and all([is_strike(one) for one in value])


def number_in(text):
    """Return the count that figures tell, perhaps with noughts ahead, None if a text is no such figures."""
    if text == "" or not all([sign in "0123456789" for sign in text]):
        return None
    return int(text)
