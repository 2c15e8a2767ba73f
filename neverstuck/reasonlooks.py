"""A look at reasons, whoever made them."""

from neverstuck.facts import holds, words_in
from neverstuck.terms import is_name_and_number, is_tuple_of, is_whole


def are_numbers_of(facts, thing):
    """Whether this is a tuple of numbers of facts, one at least."""
    if not isinstance(thing, tuple) or len(thing) == 0:
        return False
    return all([is_whole(number) and 0 <= number < len(facts) for number in thing])


def is_chain_or_round(fact, some):
    """Whether some facts, in this order, show a fact."""
    if not all([one[1] == other[0] for one, other in zip(some, some[1:])]):
        return False
    first, last = some[0][0], some[-1][1]
    together = sum([more for one, other, more in some])
    if (first, last) == fact[:2] and together <= fact[2]:
        return True
    return first == last and together < 0


def are_pairs_against(facts, fact, thing):
    if not isinstance(thing, tuple) or not all([is_name_and_number(pair) for pair in thing]):
        return False
    words = [word for word in words_in(facts + (fact,)) if word != ""]
    if [pair[0] for pair in thing] != words:
        return False
    numbers = dict(thing)
    return all([holds(one, numbers) for one in facts]) and not holds(fact, numbers)


def shows_reason(facts, fact, thing):
    if not is_tuple_of(thing, 2) or not isinstance(thing[0], str):
        return False
    if thing[0] == "so":
        return are_numbers_of(facts, thing[1]) and is_chain_or_round(fact, [facts[number] for number in thing[1]])
    return thing[0] == "not" and are_pairs_against(facts, fact, thing[1])
