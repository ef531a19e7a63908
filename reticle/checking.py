"""Checking layouts with decks, which are lists of rules."""

from reticle.boxes import spread_box
from reticle.errors import InvalidRule
from reticle.regions import covers, rest, union, within
from reticle.rules import is_rule, layer_regions, marks, marks_on, reach


def refuse_wrong_rules(deck):
    """Raises InvalidRule with the index of the first rule of a deck that is not valid."""
    for index, rule in enumerate(deck):
        if not is_rule(rule):
            raise InvalidRule(index)


def check(layout, deck):
    """The list of the marks of the rules of a deck."""
    refuse_wrong_rules(deck)
    return [marks(layout, rule) for rule in deck]


def is_kept(layout, deck):
    """True if no square is marked by any rule of a deck."""
    refuse_wrong_rules(deck)
    return all([marks(layout, rule) == () for rule in deck])


def marked_at(layout, deck, x, y):
    """The ascending list of the indexes of the rules of a deck that mark the square (x, y)."""
    return [index for index, region in enumerate(check(layout, deck)) if covers(region, x, y)]


def marks_again(layout, rule, old_marks, window):
    """The marks of a rule, from those for a layout with the same squares outside of the window."""
    n = reach(rule)
    if n is None:
        return marks(layout, rule)
    # Only marks in this box can have changed, and only squares of the box around it tell which.
    changed = spread_box(window, left=n, down=n, right=n, up=n)
    around = spread_box(changed, left=n, down=n, right=n, up=n)
    near = [within(region, around) for region in layer_regions(layout, rule)]
    new_marks = within(marks_on(near, rule), changed)
    return union(rest(old_marks, (changed,)), new_marks)


def recheck(layout, deck, found, *, window):
    """What check gives, from its answer for a layout with the same squares outside of the window."""
    refuse_wrong_rules(deck)
    return [marks_again(layout, rule, old_marks, window) for rule, old_marks in zip(deck, found)]
