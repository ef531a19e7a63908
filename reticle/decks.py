"""Decks: definitions of derived layers by expressions, and rules about these layers and the seven ones."""

from reticle.errors import InvalidDeck
from reticle.layouts import LAYERS, is_name
from reticle.rules import GREATEST_NUMBER, is_rule_over

# The operations with two parts, and those with a number and one part.
PAIRING = ("and", "or", "minus", "odd")

SIZING = ("grow", "shrink", "open")

WORDS = ("and", "or", "minus", "odd", "grow", "shrink", "open", "layer", "rule")

GREATEST_DEPTH = 12

MOST_DEFINITIONS = 40

MOST_RULES = 40


def parts_of(expression):
    """The tuple of the expressions that an expression is directly made of."""
    if expression[0] in PAIRING:
        return expression[1:]
    return expression[2:] if expression[0] in SIZING else ()


def inner_parts(expressions):
    """The list of the parts of expressions."""
    parts = []
    for expression in expressions:
        # The same part can stand at very many places, and it is as deep at each of them.
        parts.extend([part for part in parts_of(expression) if part not in parts])
    return parts


def expression_depth(expression):
    """The depth of an expression."""
    depth = 0
    level = [expression]
    while level:
        depth += 1
        level = inner_parts(level)
    return depth


def is_size(operation, n):
    """True if an integer can be the number of an operation with a number."""
    return (1 if operation == "open" else 0) <= n <= GREATEST_NUMBER


def is_expression_over(layers, expression, depth):
    """True if an expression is right for the layers with names of a list, and not deeper than this."""
    if depth < 1:
        return False
    if expression[0] == "layer":
        return expression[1] in layers
    if expression[0] in SIZING and not is_size(expression[0], expression[1]):
        return False
    return all([is_expression_over(layers, part, depth - 1) for part in parts_of(expression)])


def is_new_layer(layers, name):
    """True if a string can be the name of a derived layer, beside the layers with names of a list."""
    return is_name(name) and name not in WORDS and name not in layers


class Deck:
    """A list of definitions of derived layers, and a list of rules."""

    def __init__(self, definitions, rules):
        if len(definitions) > MOST_DEFINITIONS:
            raise InvalidDeck("there are too many definitions")
        if len(rules) > MOST_RULES:
            raise InvalidDeck("there are too many rules")
        layers = list(LAYERS)
        for name, expression in definitions:
            if not is_new_layer(layers, name):
                raise InvalidDeck("the name of a derived layer is not valid, or it has a meaning")
            if not is_expression_over(layers, expression, GREATEST_DEPTH):
                raise InvalidDeck(f"the expression for {name} is not valid")
            layers.append(name)
        if not all([is_rule_over(layers, rule) for rule in rules]):
            raise InvalidDeck("a rule is not valid")
        self.definitions = tuple(definitions)
        self.rules = tuple(rules)
