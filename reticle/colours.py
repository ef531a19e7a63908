"""Classes of nets and devices of two circuits that a round cannot tell apart."""

from reticle.rounds import Pair, Rounds


def rounds_at(first, second, bonds, step):
    """The rounds of two circuits under a list of bonds, advanced to a round."""
    rounds = Rounds(Pair(first, second), bonds)
    rounds.advance_to(step)
    return rounds


def net_classes(first, second, bonds, step):
    """The partition of all nets by their colours in a round: lists of pairs of a side and a net."""
    return rounds_at(first, second, bonds, step).net_classes()


def device_classes(first, second, bonds, step):
    """The partition of all devices by their colours in a round: lists of pairs of a side and an index."""
    return rounds_at(first, second, bonds, step).device_classes()


def is_balanced(first, second, bonds, step):
    """True if each colour of a round occurs equally often in both circuits."""
    return rounds_at(first, second, bonds, step).is_balanced
