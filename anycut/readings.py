"""Reading services and rules from their texts.

A text is taken apart loosely, and what was read is then shown: only if this gives just the same text, it
has one. So zeros ahead, other sequences, parts that are empty or stand twice, and states that are not
numbered as in `table` need no check of their own.
"""

from anycut.errors import CutError, Unreadable
from anycut.rules import Rule
from anycut.services import Service
from anycut.texts import show_rule, show_service

DIGITS = "0123456789"
STATE_DIGITS = 3
NUMBER_DIGITS = 20


def number_in(word, most):
    """Return the integer with a text of at most so many digits."""
    digits = word[1:] if word.startswith("-") else word
    if not 1 <= len(digits) <= most or not all([sign in DIGITS for sign in digits]):
        raise Unreadable(word)
    return int(word)


def step_in(word):
    """Return the tuple (next state, answer) with a text."""
    onward, _, answer = word.partition("/")
    return number_in(onward, STATE_DIGITS), None if answer == "-" else number_in(answer, NUMBER_DIGITS)


def service_in(text):
    """Return the service of which a text tells."""
    parts = text.split("; ")
    if len(parts) == 1:
        # A service has at least one state.
        raise Unreadable(text)
    return Service(parts[0].split(" "), [[step_in(word) for word in part.split(" ")] for part in parts[1:]])


def read_service(text):
    """Return the service with a text."""
    try:
        service = service_in(text)
    except CutError:
        raise Unreadable(text) from None
    if show_service(service) != text:
        raise Unreadable(text)
    return service


def pairs_in(words):
    """Return a dict of the names in some words and of what stands behind their signs."""
    told = {}
    for word in words:
        name, _, rest = word.partition("=")
        told[name] = rest
    return told


def rule_in(text):
    """Return the rule of which a text tells."""
    if text == "plain":
        return Rule()
    early, keyed, ranks = [], {}, {}
    for part in text.split("; "):
        head, *words = part.split(" ")
        if head == "early":
            early = words
        elif head == "keyed":
            keyed = pairs_in(words)
        elif head == "ranks":
            places = pairs_in(words)
            ranks = {name: number_in(places[name], NUMBER_DIGITS) for name in places}
        else:
            raise Unreadable(text)
    return Rule(early, keyed, ranks)


def read_rule(text):
    """Return the rule with a text."""
    try:
        rule = rule_in(text)
    except CutError:
        raise Unreadable(text) from None
    if show_rule(rule) != text:
        raise Unreadable(text)
    return rule
