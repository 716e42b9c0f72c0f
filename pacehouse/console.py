"""The console: a house that is spoken to by commands."""

from pacehouse.captioning import is_full
from pacehouse.errors import BadText, Broken, InvalidCommand, Mute, NoLag, OtherLetters
from pacehouse.house import MOST_LAG, House, is_name
from pacehouse.lateplans import least_lag
from pacehouse.rules import Rules
from pacehouse.values import ALPHABET, is_text

FIGURES = ("0", "1", "2", "3", "4", "5")
SIZES = ("1", "2", "3", "4", "5", "6")


def read_name(word):
    """The name that a word tells."""
    if not is_name(word):
        raise InvalidCommand()
    return word


def read_figure(word):
    """The number from 0 to 5 that a word tells."""
    if word not in FIGURES:
        raise InvalidCommand()
    return int(word)


def read_size(word):
    """The number from 1 to 6 that a word tells."""
    if word not in SIZES:
        raise InvalidCommand()
    return int(word)


def read_letters(word):
    """The string of letters that a word tells."""
    if word == "-":
        return ""
    if word == "" or not is_text(word, ALPHABET):
        raise InvalidCommand()
    return word


def read_rules(text):
    """The rules that a text tells with other signs in the place of line feeds."""
    try:
        return Rules.read(text.replace(";", "\n"))
    except BadText:
        raise InvalidCommand() from None


def told_word(text):
    """The word of an answer that tells a string of letters."""
    return "-" if text == "" else text


def run_found(house, parts):
    """found NAME TEXT"""
    name, rules = parts
    if name in house or not is_full(rules):
        return "no"
    house.found(name, rules)
    return "ok"


def run_bring(house, parts):
    """bring NAME TEXT"""
    name, rules = parts
    try:
        house.bring(name, rules)
    except (OtherLetters, Mute, Broken):
        return "no"
    return "ok"


def promised(house, name, promise):
    """Puts a promise to the others of a name."""
    try:
        house.add_promise(name, promise)
    except Broken:
        return "no"
    return "ok"


def run_lag(house, parts):
    """lag NAME N"""
    return promised(house, parts[0], ("lag", parts[1]))


def run_plain(house, parts):
    """plain NAME N"""
    return promised(house, parts[0], ("plain", parts[1]))


def run_window(house, parts):
    """window NAME N"""
    return promised(house, parts[0], ("window", parts[1]))


def run_least(house, parts):
    """least NAME"""
    lag = least_lag(house.in_use(parts[0]), MOST_LAG)
    return "!" if lag is None else str(lag)


def run_cast(house, parts):
    """cast NAME WORD"""
    name, speech = parts
    try:
        return told_word(house.cast(name, speech))
    except NoLag:
        return "!"


def run_right(house, parts):
    """right NAME WORD WORD"""
    name, speech, caption = parts
    return "yes" if house.in_use(name).is_right(speech, caption) else "no"


def run_drop(house, parts):
    """drop NAME"""
    house.drop(parts[0])
    return "ok"


def run_undo(house, parts):
    """undo"""
    house.undo()
    return "ok"


def run_redo(house, parts):
    """redo"""
    house.redo()
    return "ok"


def run_names(house, parts):
    """names"""
    return told_word(" ".join(house.names))


# For each first word of a command what reads its further parts, and what runs it with them.
COMMANDS = {
    "found": ((read_name, read_rules), run_found),
    "bring": ((read_name, read_rules), run_bring),
    "lag": ((read_name, read_figure), run_lag),
    "plain": ((read_name, read_figure), run_plain),
    "window": ((read_name, read_size), run_window),
    "least": ((read_name,), run_least),
    "cast": ((read_name, read_letters), run_cast),
    "right": ((read_name, read_letters, read_letters), run_right),
    "drop": ((read_name,), run_drop),
    "undo": ((), run_undo),
    "redo": ((), run_redo),
    "names": ((), run_names),
}


def words_of(command):
    """The words of any value that is a string without line feeds; the text of rules is one word."""
    if not isinstance(command, str) or "\n" in command:
        raise InvalidCommand()
    words = command.split(" ")
    if words[0] in ("found", "bring"):
        return [*words[:2], " ".join(words[2:])]
    return words


class Console:
    """Runs commands on a house of its own."""

    def __init__(self):
        self._house = House()

    def run(self, command):
        """The answer to any value that is a command."""
        words = words_of(command)
        if words[0] not in COMMANDS:
            raise InvalidCommand()
        readers, action = COMMANDS[words[0]]
        if len(words) != len(readers) + 1:
            raise InvalidCommand()
        parts = []
        for place, reader in enumerate(readers):
            parts.append(reader(words[place + 1]))
        return action(self._house, parts)
