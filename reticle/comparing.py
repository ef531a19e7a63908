"""Comparing circuits: the search for a match or a difference."""

from reticle.errors import TooLarge
from reticle.rounds import Pair, Rounds


def last_rounds(pair, bonds):
    """The rounds of a pair, advanced until a balance is not kept or until nothing more is told apart."""
    rounds = Rounds(pair, bonds)
    while rounds.is_balanced and not rounds.is_settled:
        rounds.advance()
    return rounds


def on_side(members, side):
    """The indexes of those members of a class that are on a side."""
    return [index for other_side, index in members if other_side == side]


def partners(classes):
    """The tuple of the partners of the indexes of the first side, where those of a class are paired in order."""
    table = {}
    for members in classes:
        for index, partner in zip(on_side(members, 0), on_side(members, 1)):
            table[index] = partner
    return tuple([table[index] for index in range(len(table))])


class Choice:
    """A net of the first circuit with the nets that can be its partner, which are tried one after the other."""

    def __init__(self, step, members):
        self._step = step
        self._net = on_side(members, 0)[0]
        self._candidates = on_side(members, 1)
        self._found = []

    def bond(self):
        """The bond with the partner that is being tried."""
        return (self._net, self._candidates[len(self._found)])

    def take(self, found):
        """Notes the difference of the partner that was being tried."""
        self._found.append(found)

    def is_over(self):
        """True if all partners were tried."""
        return len(self._found) == len(self._candidates)

    def told(self):
        """The difference that follows if no partner gives a match."""
        return ("choose", self._step, self._net, tuple(zip(self._candidates, self._found)))


class Search:
    """The choices that are in effect, each with a bond."""

    def __init__(self):
        self._choices = []

    def bonds(self):
        """The list of the bonds that are being tried."""
        return [choice.bond() for choice in self._choices]

    def choose(self, step, classes):
        """Adds a choice for a net of one of these classes of nets."""
        # The fewer partners there are, the smaller the search.
        self._choices.append(Choice(step, min(classes, key=len)))

    def fail(self, found):
        """Goes on behind a list of bonds with a difference. Returns the whole difference if nothing is left to try."""
        reason = found
        while self._choices:
            self._choices[-1].take(reason)
            if not self._choices[-1].is_over():
                return None
            reason = self._choices.pop().told()
        return reason


def compare(first, second, *, limit=1000):
    """("same", match) or ("different", difference). Raises TooLarge if more bonds than the limit would be tried."""
    pair = Pair(first, second)
    search = Search()
    for _ in range(limit):
        rounds = last_rounds(pair, search.bonds())
        if rounds.is_balanced:
            unsure = [members for members in rounds.net_classes() if len(members) > 2]
            if not unsure:
                return ("same", (partners(rounds.net_classes()), partners(rounds.device_classes())))
            search.choose(rounds.number, unsure)
        else:
            whole = search.fail(("count", rounds.number))
            if whole is not None:
                return ("different", whole)
    raise TooLarge(limit)


def are_same(first, second, *, limit=1000):
    """True if two circuits have a match, as compare finds out."""
    return compare(first, second, limit=limit)[0] == "same"


def candidates_of(rounds, net):
    """The ascending list of the nets of the second circuit that have the same colour as a net of the first one."""
    for members in rounds.net_classes():
        if (0, net) in members:
            return on_side(members, 1)
    return None


def holds(pair, bonds, difference):
    """True if a difference is one under a list of bonds, as far as it can be told without those in its cases."""
    step = difference[1]
    if not 0 <= step <= len(pair.sides):
        return False
    rounds = Rounds(pair, bonds)
    rounds.advance_to(step)
    if difference[0] == "count":
        return not rounds.is_balanced
    return candidates_of(rounds, difference[2]) == [partner for partner, _ in difference[3]]


def is_difference(first, second, difference):
    """True if a tuple is a difference of two circuits under the empty list of bonds."""
    pair = Pair(first, second)
    # A list of what is left to look at, since differences can be nested deeply.
    left = [([], difference)]
    while left:
        bonds, part = left.pop()
        if not holds(pair, bonds, part):
            return False
        if part[0] == "choose":
            net, cases = part[2:]
            left.extend([([*bonds, (net, partner)], inner) for partner, inner in cases])
    return True
