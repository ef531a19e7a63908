"""Derived layers: the squares for which expressions hold, and the marks of rules about them."""

from reticle.decks import PAIRING
from reticle.layouts import LAYERS
from reticle.regions import meeting, odd_part, rest, union
from reticle.rules import marks_on, rule_layers
from reticle.sizing import grow, opened, shrink


def paired(operation, left, right):
    """The region of an operation with two parts."""
    if operation == "and":
        return meeting(left, right)
    if operation == "or":
        return union(left, right)
    return rest(left, right) if operation == "minus" else odd_part(left, right)


def sized(operation, n, inner):
    """The region of an operation with a number."""
    if operation == "grow":
        return grow(inner, n)
    return shrink(inner, n) if operation == "shrink" else opened(inner, n)


def evaluate(expression, regions):
    """The region of an expression, where a dict gives the region of each name."""
    operation = expression[0]
    if operation == "layer":
        return regions[expression[1]]
    if operation in PAIRING:
        left, right = [evaluate(part, regions) for part in expression[1:]]
        return paired(operation, left, right)
    return sized(operation, expression[1], evaluate(expression[2], regions))


def derived(layout, deck):
    """A dict from the names of the seven layers and of the derived layers of a deck to their regions."""
    regions = {layer: layout.region(layer) for layer in LAYERS}
    for name, expression in deck.definitions:
        regions[name] = evaluate(expression, regions)
    return regions


def check_deck(layout, deck):
    """The list of the marks of the rules of a deck."""
    regions = derived(layout, deck)
    return [marks_on([regions[layer] for layer in rule_layers(rule)], rule) for rule in deck.rules]
