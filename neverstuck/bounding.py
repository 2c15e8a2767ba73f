"""Bounds of one name: how far at least all that is that each deed takes of it.

A form is a bound without its figure: a word with 0, or () where nothing is
known of the number. Figures are turned by the side here, so that greater is
further. Where forms are chosen, figures are only held down by what is taken, so
the greatest of them serve best; hence forms alone have to be tried.
"""

from neverstuck.facts import settle
from neverstuck.pairs import locks_waited_for
from neverstuck.programs import deed_numbers
from neverstuck.terms import MOST_FIGURE, put_in

# Where there is no number for a room: less than any can be, and more than any.
NO_ROOM = -1000000000
ALL_ROOM = 1000000000


def words_of(program, deed):
    return program[1][deed][1] + ("",)


def forms_of(program, deed):
    return [(word, 0) for word in words_of(program, deed)] + [()]


def gaps_of(facts, words):
    """By (one, other) how much greater than a word's number another one's is at least, where facts tell it."""
    gaps = {}
    for one in words:
        sums, last, late = settle(facts, {one: 0})
        for other in sums:
            gaps[(one, other)] = -sums[other]
    return gaps


def weighed(program, living):
    """Living rows with the gaps by which they are known in the place of the facts."""
    return [(number, deed, row, gaps_of(facts, words_of(program, deed)), held)
            for number, deed, row, facts, held in living]


def room(gaps, side, one, other):
    """How much further than one bound's number another one's is at least."""
    if one == ():
        return ALL_ROOM
    if other == ():
        return NO_ROOM
    ends = (one[0], other[0]) if side == 1 else (other[0], one[0])
    return side * (other[1] - one[1]) + gaps[ends] if ends in gaps else NO_ROOM


def terms_of(locks, name):
    return [term for other, term in locks if other == name]


def rises(rows, name, side):
    """Whether each lock of a name is further than all of it that are held around its row."""
    return all([room(gaps, side, other, term) >= 1
                for number, deed, row, gaps, held in rows
                for term in terms_of(locks_waited_for(row), name)
                for other in terms_of(held, name)])


def own_figures(program, rows, name, side, takers):
    """For each deed that takes a name the greatest figure of each form that its own locks let."""
    figures = {deed: {form: MOST_FIGURE for form in forms_of(program, deed)} for deed in takers}
    for number, deed, row, gaps, held in rows:
        for term in terms_of(locks_waited_for(row), name):
            for form in forms_of(program, deed):
                figures[deed][form] = min(figures[deed][form], room(gaps, side, form, term))
    return figures


def calls_taking(program, rows, name, takers):
    """The calls of deeds that take a name: (deed, called, {form: it put in}, gaps, terms of the name held around)."""
    numbers = deed_numbers(program)
    found = []
    for number, deed, row, gaps, held in rows:
        if row[0] == "call" and numbers[row[1]] in takers:
            called = numbers[row[1]]
            terms = dict(zip(program[1][called][1], row[2]))
            handed = {form: form if form == () else put_in(form, terms) for form in forms_of(program, called)}
            found.append((deed, called, handed, gaps, terms_of(held, name)))
    return found


def least_figures(figures, calls, side):
    """By (deed, form) the least figure by which a call is further than all that is held around it."""
    least = {(deed, form): -MOST_FIGURE for deed in figures for form in figures[deed]}
    for deed, called, handed, gaps, held in calls:
        for form in handed:
            needed = [1 - room(gaps, side, term, handed[form]) for term in held]
            least[(called, form)] = max([least[(called, form)]] + needed)
    return least


def links_of(program, calls, side):
    """By (deed, called) how much room each form of the deed has to each one of the called deed."""
    links = {}
    for deed, called, handed, gaps, held in calls:
        table = links.setdefault((deed, called), {})
        for form in forms_of(program, deed):
            for other in handed:
                some = room(gaps, side, form, handed[other])
                table[(form, other)] = min(some, table.get((form, other), some))
    return links


def drop_short(some, deed, least):
    """Take out the forms of a deed whose figures are too small."""
    for form in list(some):
        if some[form] < least[(deed, form)]:
            del some[form]


def narrow(figures, links, least):
    """Hold figures down by those of called deeds and take out what is too small, as long as it goes."""
    for deed in figures:
        drop_short(figures[deed], deed, least)
    changed = True
    while changed:
        changed = False
        for (deed, called), table in links.items():
            some = figures[deed]
            for form in list(some):
                rooms = [figure + table[(form, other)] for other, figure in figures[called].items()]
                most = max(rooms, default=NO_ROOM)
                if most < some[form]:
                    some[form] = most
                    changed = True
            drop_short(some, deed, least)


def one_form_each(figures, links, least):
    """For each deed one form with its figure, all of which go together; None where there are none such."""
    narrow(figures, links, least)
    if not all([len(some) > 0 for some in figures.values()]):
        return None
    for deed, some in figures.items():
        if len(some) > 1:
            return by_trying(figures, deed, links, least)
    return figures


def by_trying(figures, deed, links, least):
    """As one_form_each, where a deed has several forms still."""
    for form, figure in figures[deed].items():
        tried = {other: dict(some) for other, some in figures.items()}
        tried[deed] = {form: figure}
        found = one_form_each(tried, links, least)
        if found is not None:
            return found
    return None


def bounds_by(program, rows, name, side, takers):
    """For each deed that takes a name a bound, by this side; None where there are none such."""
    if not rises(rows, name, side):
        return None
    calls = calls_taking(program, rows, name, takers)
    figures = own_figures(program, rows, name, side, takers)
    found = one_form_each(figures, links_of(program, calls, side), least_figures(figures, calls, side))
    if found is None:
        return None
    return {deed: () if form == () else (form[0], side * figure)
            for deed, some in found.items() for form, figure in some.items()}
