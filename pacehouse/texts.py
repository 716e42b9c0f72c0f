"""Texts of rules, written and read."""

from pacehouse.errors import BadText
from pacehouse.values import are_letters, is_letter

MOST_STATES = 999


def text_lines(heard, written, rows):
    """The lines of the text of rules."""
    lines = [f"rules {heard} {written} {len(rows)}"]
    for state, row in enumerate(rows):
        for h, c, after in row:
            lines.append(f"move {state} {h} {c} {after}")
    return lines


def read_text(text):
    """The heard letters, the written ones and the rows that a text tells."""
    if not isinstance(text, str):
        raise BadText(-1)
    lines = text.split("\n")
    head = read_head(lines[0])
    if head is None:
        raise BadText(0)
    heard, written, many = head
    rows = [[] for _ in range(many)]
    last = (-1, "", "")
    for at in range(1, len(lines)):
        move = read_move(lines[at], heard, written, many)
        if move is None or move[:3] <= last:
            raise BadText(at)
        last = move[:3]
        rows[move[0]].append(move[1:])
    return heard, written, tuple([tuple(row) for row in rows])


def read_head(line):
    """The heard letters, the written ones and the number of states of a first line; None if it is none."""
    words = line.split(" ")
    if len(words) != 4 or words[0] != "rules":
        return None
    many = read_number(words[3])
    if not are_letters(words[1]) or not are_letters(words[2]) or many is None or many == 0:
        return None
    return words[1], words[2], many


def read_move(line, heard, written, many):
    """The move (state, h, c, state) of a further line; None if it is none."""
    words = line.split(" ")
    if len(words) != 5 or words[0] != "move":
        return None
    if not is_letter(words[2], heard) or not is_letter(words[3], written):
        return None
    state = read_number(words[1])
    after = read_number(words[4])
    if state is None or after is None or state >= many or after >= many:
        return None
    return state, words[2], words[3], after


def read_number(word):
    """The number from 0 to MOST_STATES that a word tells as Python writes it; None if it tells none."""
    # The length comes first: Python reads no integers of very many figures.
    if len(word) > 3 or not word.isascii() or not word.isdigit():
        return None
    number = int(word)
    if str(number) != word:
        return None
    return number
