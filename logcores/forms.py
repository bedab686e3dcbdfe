"""The forms of plain values that several modules ask for.

Each question here takes any object, so none of them puts an object into a
set or takes it as a key before its form is known.
"""


def is_word(value):
    """Return whether any object is a string of one to eight letters from a to z."""
    return isinstance(value, str) and 1 <= len(value) <= 8 and all(["a" <= sign <= "z" for sign in value])


def is_map(words, value):
    """Return whether any object is a dictionary from just these unlike words to unlike words."""
    if not isinstance(value, dict) or len(value) != len(words):
        return False
    if not all([word in value and is_word(value[word]) for word in words]):
        return False
    return len({value[word] for word in words}) == len(words)


def is_ascending(items):
    """Return whether each item of a list is greater than the one ahead."""
    return all([one < other for one, other in zip(items, items[1:])])
