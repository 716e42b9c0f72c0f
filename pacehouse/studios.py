"""Studios: captions that are written while speech is heard."""

from pacehouse.captioning import first_caption
from pacehouse.errors import BadPiece, NoLag, NothingToUndo
from pacehouse.lateplans import judge_lag, signs_table, written_on

# What was heard, what is written, the stand, and what is written to the waiting letters if the speech ends.
FIRST_MOMENT = ("", "", (0, ""), "")


def check_speech(rules, thing):
    """Raises BadPiece for any value that is no string of heard letters."""
    if not isinstance(thing, str):
        raise BadPiece(-1)
    for place, letter in enumerate(thing):
        if letter not in rules.heard:
            raise BadPiece(place)


def moment_behind(rules, table, moment, piece):
    """The moment behind one at which a piece is heard."""
    spoken, written, stand, _ = moment
    state, waiting, signs = written_on(rules, table, stand, piece)
    return (spoken + piece, written + signs, (state, waiting), first_caption(rules, state, waiting))


class Studio:
    """Writes the caption of one speech by a plan of a lag."""

    def __init__(self, rules, lag):
        kind, cells = judge_lag(rules, lag)
        if kind != "plan":
            raise NoLag(lag)
        self.rules = rules
        self.lag = lag
        self._signs = signs_table(cells)
        self._moments = []

    def hear(self, piece):
        """Hears a piece, and tells the signs that are written now and were not."""
        check_speech(self.rules, piece)
        ahead = self._now()
        self._moments.append(moment_behind(self.rules, self._signs, ahead, piece))
        return self.written_now[len(ahead[1]):]

    def undo(self):
        """Takes the last piece back."""
        if len(self._moments) == 0:
            raise NothingToUndo()
        self._moments.pop()

    def end(self):
        """The signs that are written to the waiting letters if the speech ends here."""
        return self._now()[3]

    @property
    def spoken(self):
        """All that was heard."""
        return self._now()[0]

    @property
    def written_now(self):
        """What is written for good."""
        return self._now()[1]

    @property
    def waits(self):
        """The waiting letters."""
        return self._now()[2][1]

    @property
    def shown_now(self):
        """What is shown: a right caption of all that was heard."""
        return self._now()[1] + self._now()[3]

    def __len__(self):
        return len(self._moments)

    def _now(self):
        if len(self._moments) == 0:
            return FIRST_MOMENT
        return self._moments[-1]
