"""Rules: which captions are right for which speech."""

from pacehouse.errors import BadRules, OtherLetters
from pacehouse.tables import joined_rows, least_rows
from pacehouse.texts import MOST_STATES, read_text, text_lines
from pacehouse.values import are_letters, is_index, is_letter, is_tuple_of


def is_row(thing, heard, written, many):
    """Whether a value is a row of moves for rules with these letters and so many states."""
    if not isinstance(thing, tuple):
        return False
    last = ("", "")
    for move in thing:
        if not is_move(move, heard, written, many) or move[:2] <= last:
            return False
        last = move[:2]
    return True


def is_move(thing, heard, written, many):
    """Whether a value is a move (h, c, state)."""
    if not is_tuple_of(thing, 3):
        return False
    return is_letter(thing[0], heard) and is_letter(thing[1], written) and is_index(thing[2], many)


def state_behind(row, letter, sign):
    """The state to which a row leads by a heard and a written letter, or None."""
    for h, c, after in row:
        if h == letter and c == sign:
            return after
    return None


def check_same_letters(one, other):
    """Raises OtherLetters for two rules that do not have the same letters."""
    if one.heard != other.heard or one.written != other.written:
        raise OtherLetters()


class Rules:
    """Heard letters, written letters, and a row of moves (h, c, state) for each state."""

    def __init__(self, heard, written, rows):
        if not are_letters(heard):
            raise BadRules("heard")
        if not are_letters(written):
            raise BadRules("written")
        if not isinstance(rows, tuple) or not 1 <= len(rows) <= MOST_STATES:
            raise BadRules("rows")
        for state, row in enumerate(rows):
            if not is_row(row, heard, written, len(rows)):
                raise BadRules(state)
        self.heard = heard
        self.written = written
        self.rows = rows

    @classmethod
    def read(cls, text):
        """The rules that a text tells."""
        heard, written, rows = read_text(text)
        return cls(heard, written, rows)

    def __len__(self):
        return len(self.rows)

    def __eq__(self, other):
        return (isinstance(other, Rules) and self.heard == other.heard and self.written == other.written
                and self.rows == other.rows)

    def __str__(self):
        return "\n".join(text_lines(self.heard, self.written, self.rows))

    def led(self, state, speech, caption):
        """The state to which a caption leads a speech on from a state, or None."""
        if len(speech) != len(caption):
            return None
        here = state
        for letter, sign in zip(speech, caption):
            here = state_behind(self.rows[here], letter, sign)
            if here is None:
                return None
        return here

    def is_right(self, speech, caption):
        """Whether two values are a right pair."""
        if not isinstance(speech, str) or not isinstance(caption, str):
            return False
        return self.led(0, speech, caption) is not None

    def least(self):
        """The rules with the same right pairs and as few states as any."""
        return Rules(self.heard, self.written, least_rows(self.rows))

    def __and__(self, other):
        check_same_letters(self, other)
        return Rules(self.heard, self.written, least_rows(joined_rows(self.rows, other.rows, True)))

    def __or__(self, other):
        check_same_letters(self, other)
        return Rules(self.heard, self.written, least_rows(joined_rows(self.rows, other.rows, False)))

    def flipped(self):
        """The least rules that have heard and written letters exchanged."""
        rows = [tuple(sorted([(c, h, after) for h, c, after in row])) for row in self.rows]
        return Rules(self.written, self.heard, least_rows(tuple(rows)))

    def respelled(self, heard, written):
        """The rules with other letters in the place of their own ones, first for first."""
        ears = dict(zip(self.heard, heard))
        pens = dict(zip(self.written, written))
        rows = [tuple(sorted([(ears[h], pens[c], after) for h, c, after in row])) for row in self.rows]
        return Rules("".join(sorted(heard)), "".join(sorted(written)), tuple(rows))
