"""Written decks."""

from reticle.decks import GREATEST_DEPTH, MOST_DEFINITIONS, MOST_RULES, PAIRING, SIZING, Deck, is_new_layer, is_size
from reticle.errors import InvalidText
from reticle.layouts import LAYERS
from reticle.rules import LAYER_COUNTS, NUMBER_COUNTS, is_rule_over
from reticle.words import read_integers


def expression_words(expression):
    """The list of the words of an expression."""
    operation = expression[0]
    if operation == "layer":
        return [expression[1]]
    if operation in PAIRING:
        return [*expression_words(expression[1]), operation, *part_words(expression[2])]
    return [operation, str(expression[1]), *part_words(expression[2])]


def part_words(expression):
    """The list of the words of an expression that stands behind an operation."""
    words = expression_words(expression)
    return ["(", *words, ")"] if expression[0] in PAIRING else words


def format_deck(deck):
    """The text of a deck."""
    lines = [["layer", name, *expression_words(expression)] for name, expression in deck.definitions]
    lines.extend([["rule", *rule] for rule in deck.rules])
    return "\n".join([" ".join([str(word) for word in words]) for words in lines])


class Reader:
    """Reads the expression that words of a line write, for the layers with names of a list.

    `room` is how deep an expression may be at its place. So however long a line is, nothing is read deeper.
    """

    def __init__(self, words, layers, line):
        self._words = tuple(words)
        self._layers = tuple(layers)
        self._line = line
        self._at = 0

    def read_all(self):
        """The expression of all words."""
        found, _ = self._chain(GREATEST_DEPTH)
        if self._at < len(self._words):
            raise InvalidText(self._line)
        return found

    def _next_word(self):
        """The next word, which is not read yet, or a word that is never right if there is none."""
        return self._words[self._at] if self._at < len(self._words) else ""

    def _read_word(self):
        word = self._next_word()
        self._at += 1
        return word

    def _chain(self, room):
        """Reads parts and the operations between them. Gives the expression and its depth."""
        if self._next_word() == "(":
            raise InvalidText(self._line)
        found, depth = self._part(room)
        while self._next_word() in PAIRING:
            operation = self._read_word()
            right, right_depth = self._part(room - 1)
            found = (operation, found, right)
            depth = 1 + max(depth, right_depth)
            if depth > room:
                raise InvalidText(self._line)
        return (found, depth)

    def _part(self, room):
        """Reads what may stand behind an operation. Gives the expression and its depth."""
        word = self._read_word()
        if room < 1:
            raise InvalidText(self._line)
        if word == "(":
            return self._in_parentheses(room)
        if word in SIZING:
            n = self._size(word)
            inner, depth = self._part(room - 1)
            return ((word, n, inner), depth + 1)
        if word not in self._layers:
            raise InvalidText(self._line)
        return (("layer", word), 1)

    def _in_parentheses(self, room):
        found, depth = self._chain(room)
        if found[0] not in PAIRING or self._read_word() != ")":
            raise InvalidText(self._line)
        return (found, depth)

    def _size(self, operation):
        numbers = read_integers([self._read_word()])
        if numbers is None or not is_size(operation, numbers[0]):
            raise InvalidText(self._line)
        return numbers[0]


def read_definition(words, layers, line):
    """The pair of a name and an expression that the words of a line behind the first one give."""
    if not words or not is_new_layer(layers, words[0]):
        raise InvalidText(line)
    return (words[0], Reader(words[1:], layers, line).read_all())


def read_rule(words, layers, line):
    """The rule that the words of a line behind the first one give."""
    if not words or words[0] not in LAYER_COUNTS:
        raise InvalidText(line)
    first_number = 1 + LAYER_COUNTS[words[0]]
    numbers = read_integers(words[first_number:])
    if len(words) != first_number + NUMBER_COUNTS[words[0]] or numbers is None:
        raise InvalidText(line)
    rule = (*words[:first_number], *numbers)
    if not is_rule_over(layers, rule):
        raise InvalidText(line)
    return rule


def parse_deck(text):
    """The deck that a text writes. Raises InvalidText with the number of the first wrong line."""
    definitions = []
    rules = []
    layers = list(LAYERS)
    lines = text.split("\n") if text != "" else []
    for number, line in enumerate(lines, start=1):
        words = line.split(" ")
        if words[0] == "layer" and not rules and len(definitions) < MOST_DEFINITIONS:
            definitions.append(read_definition(words[1:], layers, number))
            layers.append(definitions[-1][0])
        elif words[0] == "rule" and len(rules) < MOST_RULES:
            rules.append(read_rule(words[1:], layers, number))
        else:
            raise InvalidText(number)
    return Deck(definitions, rules)
