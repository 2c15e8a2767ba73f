"""Why a fact follows of others, or numbers against it."""

from neverstuck.facts import chain_in, round_in, settle, words_in


def numbers_against(facts, fact):
    """Numbers by which all facts hold and this one doesn't, of facts of which it doesn't follow."""
    one, other, more = fact
    # Of whole numbers a fact doesn't hold just where this one does.
    all_facts = facts + ((other, one, -more - 1),)
    words = words_in(all_facts)
    start = {word: 0 for word in words}
    start[""] = 0
    sums, last, late = settle(all_facts, start)
    # Settled sums turned round obey each fact; moved together, they give the empty text its 0.
    return tuple([(word, sums[""] - sums[word]) for word in words if word != ""])


def reason(facts, fact):
    some = round_in(facts)
    if some is None:
        some = chain_in(facts, fact)
    if some is None:
        return ("not", numbers_against(facts, fact))
    return ("so", some)
