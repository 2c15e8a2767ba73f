"""Words, terms and locks: what they are, and what they come to."""

LETTERS = "abcdefghijklmnopqrstuvwxyz"
MOST_LETTERS = 8
MOST_FIGURE = 99


def is_whole(thing):
    return isinstance(thing, int) and not isinstance(thing, bool)


def is_tuple_of(thing, many):
    return isinstance(thing, tuple) and len(thing) == many


def is_name_and_number(thing):
    """Whether this is a text with a whole number: a word with its number, or a lock as hands hold it."""
    return is_tuple_of(thing, 2) and isinstance(thing[0], str) and is_whole(thing[1])


def is_word(thing):
    if not isinstance(thing, str) or not 1 <= len(thing) <= MOST_LETTERS:
        return False
    return all([letter in LETTERS for letter in thing])


def is_term(thing, params):
    """Whether this is a term whose word is one of the params, or the empty text."""
    if not is_tuple_of(thing, 2):
        return False
    word, figure = thing
    if not isinstance(word, str) or not is_whole(figure):
        return False
    return (word == "" or word in params) and -MOST_FIGURE <= figure <= MOST_FIGURE


def is_lock(thing, names, params):
    """Whether this is a lock as rows tell it, of one of the names."""
    if not is_tuple_of(thing, 2):
        return False
    name, term = thing
    return isinstance(name, str) and name in names and is_term(term, params)


def value_of(term, numbers):
    word, figure = term
    return figure if word == "" else numbers[word] + figure


def put_in(term, terms):
    word, figure = term
    # The empty text is no word, so nothing takes its place, whatever the dict holds.
    if word == "" or word not in terms:
        return (word, figure)
    other, more = terms[word]
    return (other, figure + more)
