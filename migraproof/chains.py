"""Chains of records, in which neighbors have the same result under one of two migrations.

A stop is a record of a chain: a pair of the number of its case and the tuple of its free texts, in order.
"""

from migraproof.common import checked_web
from migraproof.records import canonical, free_texts, renamed
from migraproof.texts import sample_texts


def joining_chain(first, second, record, other):
    """A chain from the record to the other one; () if they are not joined."""
    web = checked_web(first, second)
    if record == other:
        return (record,)
    beginning, end = chain_to_none(web, record), chain_to_none(web, other)
    if beginning and end:
        return without_repeats((*beginning, *end[-2::-1]))
    if beginning or end:
        return ()
    return chain_between(web, stop_of(web, record), stop_of(web, other))


def chain_to_none(web, record):
    """A chain from the record to None; () if they are not joined."""
    if record is None:
        return (None,)
    stop = stop_of(web, record)
    path = path_to_a_goal(web, (web.node(0, stop[0]), ()), nodes_of_none(web))
    if path is None:
        return ()
    stops = stops_along(web, stop, path, ())
    return (*[record_at(web, each) for each in stops], None)


def chain_between(web, stop, other):
    """A chain from one stop to the other one, neither of which is joined with None; () if they are not joined."""
    known, wanted = known_names(web, stop), known_names(web, other)
    if sorted(known) != sorted(wanted):
        return ()
    # An order in the path has the position of each known text of the first stop.
    number = stop[0]
    start = (web.node(0, number), tuple(web.known(0, number)))
    positions = web.known(0, other[0])
    goal = (web.node(0, other[0]), tuple([positions[wanted.index(name)] for name in known]))
    path = path_to_a_goal(web, start, (goal,))
    if path is None:
        return ()
    stops = stops_along(web, stop, path, other[1])
    last = moved(web, stops[-1], 0, other[0], other[1])
    stops = [*stops, last, *stops_with_new_names(web, last, other[1])]
    return without_repeats([record_at(web, each) for each in stops])


def without_repeats(records):
    """The chain of the records in which no record follows itself."""
    return tuple([record for place, record in enumerate(records) if place == 0 or record != records[place - 1]])


def stop_of(web, record):
    """The stop for a valid record."""
    return (web.cases.index(canonical(record, web.constants)), free_texts(record, web.constants))


def record_at(web, stop):
    """The record at the stop."""
    number, names = stop
    case = web.cases[number]
    return renamed(case, tuple(zip(free_texts(case, web.constants), names)))


def names_shown(web, stop, side):
    """The free texts of the result on the side of the record at the stop."""
    number, names = stop
    news = dict(zip(free_texts(web.cases[number], web.constants), names))
    return [news[text] for text in web.texts[side][number]]


def known_names(web, stop):
    """The texts at the known positions of the left result of the record at the stop."""
    shown = names_shown(web, stop, 0)
    return [shown[place] for place in web.known(0, stop[0])]


def nodes_of_none(web):
    """The nodes of the states that are None, with the order of no positions."""
    return [(web.node(side, number), ()) for side in (0, 1) for number, given in enumerate(web.results[side])
            if given is None]


def path_to_a_goal(web, start, goals):
    """The shortest way from the start to one of the goals, all of them pairs of a node and an order; None if there is
    none. It is the list of pairs of the side from which a step leads to the other one, and the case that it takes."""
    steps = {start: None}
    waiting = [start]
    at = 0
    while at < len(waiting):
        place = waiting[at]
        at += 1
        if place in goals:
            return path_back(steps, place)
        (side, _), order = place
        for number in web.members[place[0]]:
            later = (web.node(1 - side, number), web.carried(side, number, order))
            if later not in steps:
                steps[later] = (place, (side, number))
                waiting.append(later)
    return None


def path_back(steps, place):
    """The steps that led to the place, in order."""
    path = []
    while steps[place] is not None:
        place, step = steps[place]
        path.append(step)
    return path[::-1]


def stops_along(web, stop, path, avoided):
    """The stops of a chain that begins with this stop and takes the steps of the path."""
    stops = [stop]
    for side, number in path:
        stops.append(moved(web, stops[-1], side, number, avoided))
    return stops


def moved(web, stop, side, number, avoided):
    """The stop at a record of the case, which has the same state on the side, with the same result on this side.

    Its other free texts are new: they neither occur at the stop nor are they among those to be avoided.
    """
    news = dict(zip(web.texts[side][number], names_shown(web, stop, side)))
    texts = free_texts(web.cases[number], web.constants)
    others = [text for text in texts if text not in news]
    fresh = sample_texts(len(others), but=(*web.constants, *stop[1], *avoided))
    for text, name in zip(others, fresh):
        news[text] = name
    return (number, tuple([news[text] for text in texts]))


def stops_with_new_names(web, stop, names):
    """The stops of a chain behind this stop, up to the one with the same case and these free texts.

    The known texts at both are the same. The other ones are replaced by new texts at first, because a text can be
    replaced only by one that does not occur at the stop.
    """
    number = stop[0]
    known = web.known_texts(0, number)
    places = [place for place, text in enumerate(free_texts(web.cases[number], web.constants)) if text not in known]
    stops = [stop]
    for news in (sample_texts(len(names), but=(*web.constants, *stop[1], *names)), names):
        for place in places:
            last = stops[-1]
            stops.extend(stops_with_one_new_name(web, last, last[1][place], news[place]))
    return stops[1:]


def stops_with_one_new_name(web, stop, old, new):
    """The stops of a chain behind this stop, up to the one that has the new text in the place of the old one.

    The chain goes on to a record of the case for which the position of the old text ceased to be known, and so on with
    earlier ones, until a result does not have the old text; there it is replaced, and the chain goes back.
    """
    stops = [stop]
    side = 0
    while old in names_shown(web, stops[-1], side):
        place = names_shown(web, stops[-1], side).index(old)
        cause = web.causes[(web.node(side, stops[-1][0]), place)]
        stops.append(moved(web, stops[-1], side, cause, (new,)))
        side = 1 - side
    back = [(number, tuple([new if name == old else name for name in names])) for number, names in reversed(stops)]
    return stops[1:] + back
