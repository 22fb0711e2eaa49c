"""Scripts of faults as text (points 99 to 101)."""

from throughline.errors import InvalidScript
from throughline.net.rules import Rule

CHOICES = ("from", "to", "ticks", "nth", "chance")
FAULTS = ("lose", "mark", "copy", "delay")
# Behind these words stands a number: the least and the greatest one, and what is expected there.
NUMBERS = {
    "from": (0, 65535, "an address from 0 to 65535"),
    "to": (0, 65535, "an address from 0 to 65535"),
    "nth": (1, 999999999, "a number of at least 1"),
    "chance": (0, 1000, "a number from 0 to 1000"),
    "copy": (1, 9, "a number from 1 to 9"),
}
# Behind these words stands a range: where it begins at the least, and what is expected of a range.
RANGES = {
    "ticks": (0, "a range of ticks"),
    "delay": (1, "a delay of at least 1"),
}
DIGITS = "0123456789"
MOST_DIGITS = 9


def parse_script(text):
    """Returns the list of the rules of a script."""
    return [_parse_rule(words) for words in _split_rules(text)]


def _split_rules(text):
    """Returns the words of each rule; a word is a tuple with its line and its column."""
    rules = []
    for line, row in enumerate(text.split("\n"), start=1):
        column = 1
        for part in row.partition("#")[0].split(";"):
            words = _split_words(part, line, column)
            if len(words) > 0:
                rules.append(words)
            column += len(part) + 1
    return rules


def _split_words(part, line, column):
    words = []
    for word in part.replace("\t", " ").split(" "):
        if word != "":
            words.append((word, line, column))
        column += len(word) + 1
    return words


def _parse_rule(words):
    choices = {}
    at = 0
    while at < len(words) and words[at][0] in CHOICES:
        value = _value_behind(words, at)
        if words[at][0] in choices:
            _refuse(words[at], "each choice once")
        choices[words[at][0]] = value
        at += 2
    if at == len(words):
        _refuse(words[-1], "a fault")
    amount, until = _parse_fault(words, at)
    return Rule(words[at][0], amount=amount, until=until, sender=choices.get("from"), target=choices.get("to"),
                ticks=choices.get("ticks"), nth=choices.get("nth"), chance=choices.get("chance"))


def _parse_fault(words, at):
    """Returns the two numbers of the fault with which the rule ends."""
    fault = words[at][0]
    if fault not in FAULTS:
        _refuse(words[at], "a choice or a fault")
    amount, until, behind = 0, 0, at + 1
    if fault == "copy":
        amount, behind = _value_behind(words, at), at + 2
    if fault == "delay":
        (amount, until), behind = _value_behind(words, at), at + 2
    if behind < len(words):
        _refuse(words[behind], "the end of the rule")
    return amount, until


def _value_behind(words, at):
    """Returns the number or the range that belongs to the word at this place."""
    word = words[at][0]
    if at + 1 == len(words):
        _refuse(words[at], "a number" if word in NUMBERS else "a range")
    return _number_of(word, words[at + 1]) if word in NUMBERS else _range_of(word, words[at + 1])


def _number_of(word, given):
    least, greatest, expected = NUMBERS[word]
    number = _read_number(given[0])
    if number is None or not least <= number <= greatest:
        _refuse(given, expected)
    return number


def _range_of(word, given):
    least, expected = RANGES[word]
    first, dots, last = given[0].partition("..")
    low = _read_number(first)
    high = low if dots == "" else _read_number(last)
    if low is None or high is None or low > high:
        _refuse(given, "a range of ticks")
    if low < least:
        _refuse(given, expected)
    return low, high


def _read_number(word):
    """Returns the number that the word is written as, or None."""
    if not 1 <= len(word) <= MOST_DIGITS or any([sign not in DIGITS for sign in word]):
        return None
    return int(word)


def _refuse(word, expected):
    raise InvalidScript(word[1], word[2], expected)
