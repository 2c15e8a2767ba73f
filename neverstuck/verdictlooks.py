"""A look at verdicts, whoever made them."""

from neverstuck.booklooks import shows_stuck
from neverstuck.papers import shows_paper
from neverstuck.terms import is_tuple_of
from neverstuck.textlooks import shows_text_ring


def shows_verdict(program, town, thing):
    if not is_tuple_of(thing, 2) or not isinstance(thing[0], str):
        return False
    word, shown = thing
    if word == "never":
        return shows_paper(program, shown)
    if word == "stuck":
        return shows_stuck(program, town, shown)
    return word == "unsure" and shows_text_ring(program, shown)
