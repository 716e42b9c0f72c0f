"""The house: rules under names, with promises that each edition keeps."""

from pacehouse.cappedlists import first_back
from pacehouse.captioning import check_full
from pacehouse.enough import judge_enough
from pacehouse.errors import (
    BadName, BadPlace, BadPromise, BadRules, Broken, NoLag, NoName, NothingToRedo, NothingToUndo)
from pacehouse.exact import judge_size
from pacehouse.lateplans import judge_lag, least_lag
from pacehouse.orders import most_taken
from pacehouse.rules import Rules, check_same_letters
from pacehouse.studios import Studio, check_speech
from pacehouse.values import ALPHABET, is_from_one, is_index, is_number, is_text, is_tuple_of
from pacehouse.windows import let_by

LONGEST_NAME = 8
MOST_LAG = 5
# Of the papers of a lag, a window and exchanges those that tell that a promise is not kept.
AGAINST = ("baffle", "wrong", "needs")


def is_promise(thing):
    """Whether any value is a promise."""
    if is_tuple_of(thing, 3) and thing[0] == "mends":
        return is_from_one(thing[1]) and is_number(thing[2])
    if is_tuple_of(thing, 2) and thing[0] == "window":
        return is_from_one(thing[1])
    return is_tuple_of(thing, 2) and thing[0] in ("lag", "plain") and is_number(thing[1])


def is_name(thing):
    """Whether any value is a word of one to eight letters."""
    return is_text(thing, ALPHABET) and 1 <= len(thing) <= LONGEST_NAME


def keeps(rules, promise):
    """Whether full rules keep a promise."""
    check_full(rules)
    return paper_against(rules, promise) is None


def first_broken(rules, promises):
    """The first of some promises that full rules do not keep, with a paper that they do not; or None."""
    check_full(rules)
    for promise in promises:
        paper = paper_against(rules, promise)
        if paper is not None:
            return promise, paper
    return None


def paper_against(rules, promise):
    """A paper that full rules do not keep a promise, or None if they do."""
    if promise[0] == "plain":
        return plain_against(rules, promise[1])
    if promise[0] == "lag":
        paper = judge_lag(rules, promise[1])
    elif promise[0] == "window":
        paper = judge_size(rules, promise[1])
    else:
        paper = judge_enough(rules, let_by(rules, promise[1]), promise[2])
    return paper if paper[0] in AGAINST else None


def plain_against(rules, number):
    """A paper that the plain captioner takes back more than a number of signs at once, or None if it does not."""
    ring, most = most_taken(rules)
    if ring is not None:
        return ("ring", *ring)
    return ("back", first_back(rules, number)) if most > number else None


def check_kept(rules, promises):
    """Raises Mute for rules that are not full, then Broken with the first promise that they do not keep."""
    broken = first_broken(rules, promises)
    if broken is not None:
        raise Broken(broken[0], broken[1])


def check_promises(promises):
    """Raises BadPromise for any value that is no tuple of promises."""
    if not isinstance(promises, tuple):
        raise BadPromise(promises)
    for promise in promises:
        if not is_promise(promise):
            raise BadPromise(promise)


class House:
    """Full rules under names, with promises; changes can be taken back and made again."""

    def __init__(self):
        # For each name its editions and its promises. What is kept here is never changed, but put anew.
        self._kept = {}
        self._past = ()
        self._future = ()
        self._entries = ()

    @property
    def names(self):
        """The ascending tuple of the names."""
        return tuple(sorted(list(self._kept)))

    @property
    def log(self):
        """The tuple of all entries (name, speech, caption)."""
        return self._entries

    def __len__(self):
        return len(self._kept)

    def __contains__(self, name):
        return isinstance(name, str) and name in self._kept

    def editions(self, name):
        """The tuple of the editions under a name."""
        return self._under(name)[0]

    def in_use(self, name):
        """The edition in use under a name."""
        return self._under(name)[0][-1]

    def promises(self, name):
        """The tuple of the promises under a name."""
        return self._under(name)[1]

    def found(self, name, rules, promises=()):
        """Begins a name with one edition and its promises."""
        if not is_name(name) or name in self:
            raise BadName(name)
        if not isinstance(rules, Rules):
            raise BadRules("rules")
        check_promises(promises)
        check_kept(rules, promises)
        self._put(name, (rules,), promises)

    def add_promise(self, name, promise):
        """Puts a further promise behind the others."""
        editions, promises = self._under(name)
        check_promises((promise,))
        check_kept(editions[-1], (promise,))
        self._put(name, editions, (*promises, promise))

    def bring(self, name, rules):
        """Brings in the next edition, if it passes the gate."""
        editions, promises = self._under(name)
        if not isinstance(rules, Rules):
            raise BadRules("rules")
        check_same_letters(rules, editions[-1])
        check_kept(rules, promises)
        self._put(name, (*editions, rules), promises)

    def drop(self, name):
        """Takes a name out."""
        self._under(name)
        self._change({kept: self._kept[kept] for kept in self._kept if kept != name})

    def undo(self):
        """Takes the last change back that is not taken back."""
        if len(self._past) == 0:
            raise NothingToUndo()
        self._future = (*self._future, self._kept)
        self._kept = self._past[-1]
        self._past = self._past[:-1]

    def redo(self):
        """Makes the change again that was taken back last."""
        if len(self._future) == 0:
            raise NothingToRedo()
        self._past = (*self._past, self._kept)
        self._kept = self._future[-1]
        self._future = self._future[:-1]

    def tried(self, action):
        """What a function returns that is called with the house; then the house is as it was."""
        kept, past, future, entries = self._kept, self._past, self._future, self._entries
        try:
            return action(self)
        finally:
            self._kept, self._past, self._future, self._entries = kept, past, future, entries

    def cast(self, name, speech):
        """The caption of a whole speech by a studio of the least lag, which is put into the log."""
        rules = self.in_use(name)
        check_speech(rules, speech)
        lag = least_lag(rules, MOST_LAG)
        if lag is None:
            raise NoLag(MOST_LAG)
        studio = Studio(rules, lag)
        caption = studio.hear(speech) + studio.end()
        self._entries = (*self._entries, (name, speech, caption))
        return caption

    def stands(self, place):
        """Whether the entry at an index of the log is right by an edition in use."""
        if not is_index(place, len(self._entries)):
            raise BadPlace(place)
        name, speech, caption = self._entries[place]
        return name in self and self.in_use(name).is_right(speech, caption)

    def studio(self, name, lag):
        """A new studio of the edition in use."""
        return Studio(self.in_use(name), lag)

    def _under(self, name):
        if name not in self:
            raise NoName(name)
        return self._kept[name]

    def _put(self, name, editions, promises):
        kept = {known: self._kept[known] for known in self._kept}
        kept[name] = (editions, promises)
        self._change(kept)

    def _change(self, kept):
        self._past = (*self._past, self._kept)
        self._future = ()
        self._kept = kept
