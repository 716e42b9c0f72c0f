"""The console: a house that is spoken to by commands."""

from pacehouse.captioning import is_full
from pacehouse.errors import BadText, Broken, InvalidCommand, Mute, NoLag, OtherLetters
from pacehouse.house import MOST_LAG, House, is_name
from pacehouse.lateplans import least_lag
from pacehouse.rules import Rules
from pacehouse.values import ALPHABET, is_text

FIGURES = ("0", "1", "2", "3", "4", "5")
SIZES = ("1", "2", "3", "4", "5", "6")


def read_name(word):
    """The name that a word tells."""
    if not is_name(word):
        raise InvalidCommand()
    return word


def read_figure(word):
    """The number from 0 to 5 that a word tells."""
    if word not in FIGURES:
        raise InvalidCommand()
    return int(word)


def read_size(word):
    """The number from 1 to 6 that a word tells."""
    if word not in SIZES:
        raise InvalidCommand()
    return int(word)


def read_letters(word):
    """The string of letters that a word tells."""
    if word == "-":
        return ""
    if word == "" or not is_text(word, ALPHABET):
        raise InvalidCommand()
    return word


def read_rules(text):
    """The rules that a text tells with other signs in the place of line feeds."""
    try:
        return Rules.read(text.replace(";", "\n"))
    except BadText:
        raise InvalidCommand() from None


def told_word(text):
    """The word of an answer that tells a string of letters."""
    return "-" if text == "" else text


def run_found(house, parts):
    """found NAME TEXT"""
    name, rules = parts
    if name in house or not is_full(rules):
        return "no"
    house.found(name, rules)
    return "ok"


def run_bring(house, parts):
    """bring NAME TEXT"""
    name, rules = parts
    try:
        house.bring(name, rules)
    except (OtherLetters, Mute, Broken):
        return "no"
    return "ok"


def promised(house, name, promise):
    """Puts a promise to the others of a name."""
    try:
        house.add_promise(name, promise)
    except Broken:
        return "no"
    return "ok"


def run_lag(house, parts):
    """lag NAME N"""
    return promised(house, parts[0], ("lag", parts[1]))


def run_plain(house, parts):
    """plain NAME N"""
    return promised(house, parts[0], ("plain", parts[1]))


def run_window(house, parts):
    """window NAME N"""
    return promised(house, parts[0], ("window", parts[1]))


def run_least(house, parts):
    """least NAME"""
    lag = least_lag(house.in_use(parts[0]), MOST_LAG)
    return "!" if lag is None else str(lag)


def run_cast(house, parts):
    """cast NAME WORD"""
    name, speech = parts
    try:
        return told_word(house.cast(name, speech))
    except NoLag:
        return "!"


def run_right(house, parts):
    """right NAME WORD WORD"""
    name, speech, caption = parts
    return "yes" if house.in_use(name).is_right(speech, caption) else "no"


def run_drop(house, parts):
    """drop NAME"""
    house.drop(parts[0])
    return "ok"


def run_undo(house, parts):
    """undo"""
    house.undo()
    return "ok"


def run_redo(house, parts):
    """redo"""
    house.redo()
    return "ok"


def run_names(house, parts):
    """names"""
    return told_word(" ".join(house.names))


# What reads the parts of a command.
READERS = {"NAME": read_name, "FIGURE": read_figure, "SIZE": read_size, "WORD": read_letters, "TEXT": read_rules}
# For each first word of a command its further parts.
FORMS = {
    "found": ("NAME", "TEXT"),
    "bring": ("NAME", "TEXT"),
    "lag": ("NAME", "FIGURE"),
    "plain": ("NAME", "FIGURE"),
    "window": ("NAME", "SIZE"),
    "least": ("NAME",),
    "cast": ("NAME", "WORD"),
    "right": ("NAME", "WORD", "WORD"),
    "drop": ("NAME",),
    "undo": (),
    "redo": (),
    "names": (),
}
# For each first word of a command what runs it on a house, with its further parts.
ACTIONS = {
    "found": run_found,
    "bring": run_bring,
    "lag": run_lag,
    "plain": run_plain,
    "window": run_window,
    "least": run_least,
    "cast": run_cast,
    "right": run_right,
    "drop": run_drop,
    "undo": run_undo,
    "redo": run_redo,
    "names": run_names,
}


def words_of(command):
    """The words of any value that is a string without line feeds; the text of rules is one word."""
    if not isinstance(command, str) or "\n" in command:
        raise InvalidCommand()
    words = command.split(" ")
    if words[0] in ("found", "bring"):
        return [*words[:2], " ".join(words[2:])]
    return words


def parts_of(words):
    """What is told by the further words of a command."""
    if words[0] not in FORMS or len(words) != len(FORMS[words[0]]) + 1:
        raise InvalidCommand()
    parts = []
    for word, form in zip(words[1:], FORMS[words[0]]):
        reader = READERS[form]
        parts.append(reader(word))
    return parts


class Console:
    """Runs commands on a house of its own."""

    def __init__(self):
        self._house = House()

    def run(self, command):
        """The answer to any value that is a command."""
        words = words_of(command)
        parts = parts_of(words)
        action = ACTIONS[words[0]]
        return action(self._house, parts)
