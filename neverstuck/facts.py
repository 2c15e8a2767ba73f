"""Facts: whether they hold, and what follows of them."""

from neverstuck.terms import value_of


def holds(fact, numbers):
    one, other, more = fact
    return value_of((one, 0), numbers) <= value_of((other, more), numbers)


def words_in(facts):
    """The words of some facts, rising, the empty text too where it stands in one."""
    return sorted({word for one, other, more in facts for word in (one, other)})


def settle(facts, start):
    """Lower the sums of words along the facts, from those at the start, as long as it goes.

    Tells the sums, for each word that was lowered the number of the fact that
    did it last, and None; or, where it has no end, a word that was lowered late.
    """
    sums = dict(start)
    last = {}
    late = None
    # Sums that can settle do so within as many turns as there are words.
    for turn in range(len(words_in(facts)) + 1):
        late = None
        for number, (one, other, more) in enumerate(facts):
            if one in sums and (other not in sums or sums[one] + more < sums[other]):
                sums[other] = sums[one] + more
                last[other] = number
                late = other
        if late is None:
            break
    return (sums, last, late)


def way_back(facts, last, word, first):
    """The numbers of the facts that lead from first to a word, by those that lowered each last."""
    some = [last[word]]
    while facts[some[-1]][0] != first:
        some.append(last[facts[some[-1]][0]])
    return tuple(some[::-1])


def round_in(facts):
    """A round of facts, together below 0, as numbers of facts; None where the facts can be."""
    sums, last, late = settle(facts, {word: 0 for word in words_in(facts)})
    if late is None:
        return None
    # Back from a word lowered so late, one comes into a round, and in so many steps is in it.
    word = late
    for step in range(len(last)):
        word = facts[last[word]][0]
    return way_back(facts, last, word, word)


def chain_in(facts, fact):
    """A chain by which a fact follows of facts that can be, as numbers of facts; None without."""
    one, other, more = fact
    sums, last, late = settle(facts, {one: 0})
    if other not in sums or sums[other] > more:
        return None
    return way_back(facts, last, other, one)


def follows(facts, fact):
    return round_in(facts) is not None or chain_in(facts, fact) is not None


def fact_of(one, other, more):
    return (one[0], other[0], other[1] - one[1] - more)


def is_less(facts, one, other, more):
    if one[0] != other[0]:
        return follows(facts, fact_of(one, other, more))
    return one[1] + more <= other[1] or round_in(facts) is not None
