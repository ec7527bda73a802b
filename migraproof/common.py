"""What two migrations with the same source both keep."""

from migraproof.cases import check_many
from migraproof.migrations import constants_of_both, reduced
from migraproof.records import canonical, free_texts, renamed
from migraproof.recovery import check_same_source, images_and_answers


def known_positions(first, second):
    """For each case the known positions of its left result and of its right result."""
    web = checked_web(first, second)
    return tuple([tuple([tuple(web.known(side, number)) for side in (0, 1)]) for number in range(len(web.cases))])


def parts(first, second):
    """The parts, each as the numbers of its cases and whether it is dropped."""
    return tuple([(tuple(part.numbers), part.is_dropped) for part in parts_of(checked_web(first, second))])


def common_part(first, second):
    """The common part and None, or None and the evidence that there is none."""
    web = checked_web(first, second)
    found = parts_of(web)
    for part in found:
        if part.clash is not None:
            return (None, evidence(web, part))
    remaining = [part for part in found if not part.is_dropped]
    width = max([len(order) for part in remaining for order in part.orders.values()], default=0)
    target = common_schema(len(remaining), width)
    check_many((target,), web.constants)
    results = [None] * len(web.cases)
    for place, part in enumerate(remaining):
        for number in part.numbers:
            texts = web.texts_at(0, number, part.orders[web.node(0, number)])
            results[number] = (((f"p{place + 1}",), *texts, *[None] * (width - len(texts))),)
    return (reduced((first[0], target, web.constants, tuple(results))), None)


def checked_web(first, second):
    """The web of the two migrations; raises SchemasDiffer and TooManyCases."""
    check_same_source(first, second)
    check_many((first[0], first[1], second[1]), constants_of_both(first, second))
    return Web(first, second)


class Web:
    """The cases of two migrations with the same source, their states on both sides, and which positions are known.

    A side is 0 for left and 1 for right. A node is a pair of a side and the number of a state of this side.
    """

    def __init__(self, first, second):
        rows = images_and_answers(first, second)
        self.constants = constants_of_both(first, second)
        self.cases = [case for case, _, _ in rows]
        self.results = [[row[side + 1] for row in rows] for side in (0, 1)]
        self.texts = [[free_texts(given or (), self.constants) for given in results] for results in self.results]
        self.states = [state_numbers(results, self.constants) for results in self.results]
        self.members = {}
        for side in (0, 1):
            for number in range(len(rows)):
                self.members.setdefault(self.node(side, number), []).append(number)
        # For each position that is not known the case that shows it, in the order in which they ceased to be known.
        self.causes = {}
        while self.positions_cease():
            pass

    def node(self, side, number):
        """The node of the case on the side."""
        return (side, self.states[side][number])

    def known(self, side, number):
        """The known positions of the result of the case on the side."""
        node = self.node(side, number)
        return [place for place in range(len(self.texts[side][number])) if (node, place) not in self.causes]

    def texts_at(self, side, number, positions):
        """The texts at these positions of the result of the case on the side."""
        return tuple([self.texts[side][number][place] for place in positions])

    def known_texts(self, side, number):
        """The texts at the known positions of the result of the case on the side."""
        return self.texts_at(side, number, self.known(side, number))

    def positions_cease(self):
        """Goes through all cases once and finds positions that do not remain known; tells whether there are any."""
        many = len(self.causes)
        for number in range(len(self.cases)):
            for side in (0, 1):
                shown = self.known_texts(1 - side, number)
                for place in self.known(side, number):
                    if self.texts[side][number][place] not in shown:
                        self.causes[(self.node(side, number), place)] = number
        return len(self.causes) > many

    def carried(self, side, number, order):
        """The order of known positions on the side, carried over to the other side by the case."""
        return tuple([self.texts[1 - side][number].index(text) for text in self.texts_at(side, number, order)])


class Part:
    """A part of a web: the numbers of its cases, whether it is dropped, and the order of each of its nodes.

    The clash is None, or the pair of two different orders that some node receives.
    """

    def __init__(self, web, first):
        self.clash = None
        start = web.node(0, first)
        self.orders = {start: tuple(web.known(0, first))}
        waiting = [start]
        while waiting:
            node = waiting.pop()
            side = node[0]
            for number in web.members[node]:
                other = web.node(1 - side, number)
                order = web.carried(side, number, self.orders[node])
                if other not in self.orders:
                    self.orders[other] = order
                    waiting.append(other)
                elif self.orders[other] != order:
                    self.clash = (self.orders[other], order)
        self.numbers = [number for number in range(len(web.cases)) if web.node(0, number) in self.orders]
        self.is_dropped = any(web.results[side][number] is None for number in self.numbers for side in (0, 1))


def parts_of(web):
    """The parts of the web, in the order of their first cases."""
    found = []
    placed = set()
    for first in range(len(web.cases)):
        if first not in placed:
            part = Part(web, first)
            for number in part.numbers:
                placed.add(number)
            found.append(part)
    return found


def evidence(web, part):
    """Two joined records, the second one with the known texts of the first one in other places.

    The first one is the first case of the part. One way from it to the node of the clash, and back by the other way,
    moves its known texts as the two orders differ.
    """
    first = part.numbers[0]
    before, after = part.clash
    texts = web.known_texts(0, first)
    news = [texts[before.index(place)] for place in after]
    case = web.cases[first]
    return (case, renamed(case, tuple(zip(texts, news))))


def common_schema(many, width):
    """The schema of the common part for so many parts with so many known texts."""
    names = tuple([f"p{number + 1}" for number in range(max(many, 1))])
    texts = [(f"text{number + 1}", "text", True) for number in range(width)]
    return ((("common", False, (("part", names, False), *texts)),), ())


def state_numbers(results, constants):
    """The numbers of the states of these results, from 0 in the order of their first occurrences."""
    forms = [None if given is None else canonical(given, constants) for given in results]
    numbers = {}
    return [numbers.setdefault(form, len(numbers)) for form in forms]
