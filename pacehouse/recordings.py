"""Recordings: pairs that are changed anywhere, and what they tell."""

from pacehouse.errors import BadPlace, NothingToUndo
from pacehouse.inner import inner_pairs
from pacehouse.needrows import least_worth, need_rows
from pacehouse.pieces import check_pair, piece_of
from pacehouse.rules import state_behind
from pacehouse.values import is_index
from pacehouse.windows import leads_from_any


def states_along(rules, speech, caption):
    """For each place of a pair, and its end, the state to which the signs ahead of it lead from 0, or None."""
    states = [0]
    for letter, sign in zip(speech, caption):
        state = states[-1]
        states.append(None if state is None else state_behind(rules.rows[state], letter, sign))
    return states


def check_stretch(start, end, many):
    """Raises BadPlace for values that are not two places of a pair of so many signs, the first one not behind."""
    if not is_index(start, many + 1):
        raise BadPlace(start)
    if not is_index(end, many + 1) or end < start:
        raise BadPlace(end)


def still_alike(old, new, behind):
    """The greatest number, at most so many behind, such that the states so many places ahead of both ends are equal.

    0 if there is none.
    """
    for many in range(behind, 0, -1):
        if old[len(old) - 1 - many] == new[len(new) - 1 - many]:
            return many
    return 0


class Recording:
    """Rules and a pair, which can be changed."""

    def __init__(self, rules, speech, caption):
        check_pair(rules, speech, caption)
        self.rules = rules
        self._speech = speech
        self._caption = caption
        self._states = states_along(rules, speech, caption)
        self._past = []

    @property
    def pair_now(self):
        """The speech and the caption."""
        return (self._speech, self._caption)

    @property
    def right_until(self):
        """The greatest place up to which the recording is right."""
        return len([state for state in self._states if state is not None]) - 1

    @property
    def need_now(self):
        """The need of the pair, or None if its speech has no right caption."""
        return least_worth(need_rows(self.rules, self._speech, self._caption)[-1])

    def __len__(self):
        return len(self._speech)

    def state_at(self, place):
        """The state to which the signs ahead of a place lead, or None."""
        check_stretch(place, place, len(self._speech))
        return self._states[place]

    def stretch(self, start, end):
        """The piece of the signs from one place to another one."""
        check_stretch(start, end, len(self._speech))
        return piece_of(self.rules, self._speech[start:end], self._caption[start:end])

    def stops(self, k):
        """The ascending tuple of the places of all windows of k signs that are not let by."""
        inner = list(inner_pairs(self.rules))
        found = []
        for place in range(len(self._speech) - k + 1):
            states = [0] if place == 0 else inner
            if not leads_from_any(self.rules, states, self._speech[place:place + k], self._caption[place:place + k]):
                found.append(place)
        return tuple(found)

    def change(self, start, end, speech, caption):
        """Puts another pair in the place of some signs, and tells how many signs at the end stand as they stood."""
        check_stretch(start, end, len(self._speech))
        check_pair(self.rules, speech, caption)
        old = self._states
        behind = len(self._speech) - end
        self._past.append((self._speech, self._caption))
        self._put(self._speech[:start] + speech + self._speech[end:],
                  self._caption[:start] + caption + self._caption[end:])
        return still_alike(old, self._states, behind)

    def undo(self):
        """Takes the last change back that is not taken back."""
        if len(self._past) == 0:
            raise NothingToUndo()
        speech, caption = self._past.pop()
        self._put(speech, caption)

    def _put(self, speech, caption):
        self._speech = speech
        self._caption = caption
        self._states = states_along(self.rules, speech, caption)
