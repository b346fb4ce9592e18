"""Desks keep lots and purses under names, with promises that hold after each change; their changes are told as logs."""

from mintlots.checks import is_between, is_number, is_purse, is_small
from mintlots.counters import Moment, Trial, moment_ahead
from mintlots.errors import (
    Broken, InUse, InvalidLog, InvalidName, InvalidNumber, InvalidText, InvalidWish, NotAThing, NotPossible,
    UnknownName, WrongName, WrongValue,
)
from mintlots.lengths import least, most
from mintlots.limits import MOST_PIECES
from mintlots.lots import Lot, divisor, is_paid, is_within, last_missed, pay_alike
from mintlots.naming import is_stand, is_won
from mintlots.payments import count_payments
from mintlots.pots import reach
from mintlots.purses import as_text, from_text, is_full, ways_held

LETTERS = "abcdefghijklmnopqrstuvwxyz"

# So many letters a name has at most; the document does not name this limit among the limits.
MOST_LETTERS = 8

# What each wish asks for behind its word.
WISHES = {
    "pays": ("small",), "misses": ("small",), "ways": ("small", "number"), "least": ("small", "number"),
    "most": ("small", "number"), "last": ("number",), "won": (),
    "holds": ("small", "number"), "full": ("number",),
}

PURSE_WISHES = ("holds", "full")


def is_name(value):
    """Whether it is a name for a thing."""
    return isinstance(value, str) and 1 <= len(value) <= MOST_LETTERS and all([letter in LETTERS for letter in value])


def is_wish(value):
    """Whether it is a wish for a lot or for a purse."""
    if not isinstance(value, tuple) or len(value) == 0 or not isinstance(value[0], str):
        return False
    kinds = WISHES.get(value[0])
    if kinds is None or len(value) != len(kinds) + 1:
        return False
    return all([is_small(number) if kind == "small" else is_number(number) for kind, number in zip(kinds, value[1:])])


def is_promise(value):
    """Whether it is a promise, whatever the names in it are, but for lists and dicts."""
    if not isinstance(value, tuple):
        return False
    if len(value) == 2:
        return are_named(value) and is_wish(value[1])
    if len(value) not in (3, 4) or not isinstance(value[0], str) or not are_named(value):
        return False
    if len(value) == 4:
        return value[0] == "reach" and is_number(value[3])
    return value[0] in ("within", "alike")


def names_in(promise):
    """The names in a promise: the first element of a pair, else the two behind the word."""
    return promise[:1] if len(promise) == 2 else promise[1:3]


def are_named(promise):
    """Whether what stands in the places of names can be a name at all."""
    return not any([isinstance(name, (list, dict)) for name in names_in(promise)])


def pays(lot, amount):
    """Whether a lot pays a sum."""
    return is_paid(lot, amount)


def misses(lot, amount):
    """Whether a lot misses a sum."""
    return not is_paid(lot, amount)


def has_ways(lot, amount, number):
    """Whether a lot pays a sum in just so many ways."""
    return count_payments(lot, amount) == number


def has_least(lot, amount, number):
    """Whether this is the least length of a sum that a lot pays."""
    return least(lot, amount) == number


def has_most(lot, amount, number):
    """Whether this is the greatest length of a sum that a lot pays."""
    return most(lot, amount) == number


def has_last(lot, number):
    """Whether this is the greatest sum that a lot misses, 0 if it misses none."""
    return divisor(lot) == 1 and (last_missed(lot) or 0) == number


def is_won_stand(lot):
    """Whether a lot is a stand that is won."""
    return is_stand(lot) and is_won(lot)


def holds_sum(purse, amount, number):
    """Whether a purse holds a sum in just so many ways."""
    return ways_held(purse, amount) == number


def is_full_against(purse, number):
    """Whether a purse is full against a number, of any size."""
    # No purse has enough pieces to lose more.
    return number < MOST_PIECES and is_full(purse, number)


WISHED = {
    "pays": pays, "misses": misses, "ways": has_ways, "least": has_least, "most": has_most, "last": has_last,
    "won": is_won_stand, "holds": holds_sum, "full": is_full_against,
}


def wish_holds(thing, wish):
    """Whether a wish holds for a thing."""
    word, *numbers = wish
    if isinstance(thing, Lot) == (word in PURSE_WISHES):
        return False
    check = WISHED[word]
    return check(thing, *numbers)


def promise_holds(things, promise):
    """Whether a promise holds for the things with these names."""
    if len(promise) == 2:
        return wish_holds(things[promise[0]], promise[1])
    one = things[promise[1]]
    other = things[promise[2]]
    if promise[0] == "reach":
        if isinstance(one, Lot) or isinstance(other, Lot) or len(one) + len(other) > MOST_PIECES:
            return False
        return reach(one, other) >= promise[3]
    if not isinstance(one, Lot) or not isinstance(other, Lot):
        return False
    return is_within(one, other) if promise[0] == "within" else pay_alike(one, other)


def first_with(promises, name):
    """The index of the first promise that has a name, None if there is none."""
    for at, promise in enumerate(promises):
        if name in names_in(promise):
            return at
    return None


def check_promises(things, promises, name):
    """Broken with the first promise that does not hold, of those that have a name."""
    for at, promise in enumerate(promises):
        if name in names_in(promise) and not promise_holds(things, promise):
            raise Broken(at)


def text_of(thing):
    """The text of a thing, as it stands in a log."""
    return f"lot {thing}" if isinstance(thing, Lot) else f"purse {as_text(thing)}"


def thing_in(text):
    """The thing with this text; InvalidText for anything else."""
    if not isinstance(text, str):
        raise InvalidText(text)
    kind, _, rest = text.partition(" ")
    if kind == "lot":
        return Lot.read(rest)
    if kind == "purse":
        return from_text(rest)
    raise InvalidText(text)


class Condition:
    """What a desk has, and the change that led to it; nothing of it is changed later."""

    def __init__(self, things, kept, deed):
        self.things = things
        self.kept = kept
        self.deed = deed


class Desk:
    """Things under names, and promises that hold for them."""

    def __init__(self):
        self._moment = Moment(Condition({}, (), None), None)

    @property
    def names(self):
        """The ascending tuple of the names."""
        return tuple(sorted(self._moment.state.things))

    @property
    def promises(self):
        """The tuple of the promises."""
        return self._moment.state.kept

    @property
    def changes(self):
        """How many changes can be taken back."""
        return self._moment.number

    @property
    def log(self):
        """The tuple of the changes that have not been taken back."""
        found = []
        moment = self._moment
        while moment.ahead is not None:
            found.append(moment.state.deed)
            moment = moment.ahead
        return tuple(reversed(found))

    def __len__(self):
        return len(self._moment.state.things)

    def __bool__(self):
        # A desk is true, though its length may be 0.
        return True

    def _go_on(self, things, promises, deed):
        self._moment = Moment(Condition(things, promises, deed), self._moment)

    def _check_known(self, name):
        # What is no string may be of a kind that can't be looked for among the names.
        if not isinstance(name, str) or name not in self._moment.state.things:
            raise UnknownName(name)

    def put(self, name, thing):
        """Puts a thing under a name, also in the place of another one."""
        if not is_name(name):
            raise InvalidName(name)
        if not isinstance(thing, Lot) and not is_purse(thing):
            raise NotAThing(thing)
        things = dict(self._moment.state.things)
        things[name] = thing
        check_promises(things, self.promises, name)
        self._go_on(things, self.promises, ("put", name, text_of(thing)))

    def named(self, name):
        """The thing with this name."""
        self._check_known(name)
        return self._moment.state.things[name]

    def drop(self, name):
        """Takes a name away."""
        self._check_known(name)
        at = first_with(self.promises, name)
        if at is not None:
            raise InUse(at)
        things = dict(self._moment.state.things)
        del things[name]
        self._go_on(things, self.promises, ("drop", name))

    def promise(self, wish):
        """Puts a promise behind the others."""
        if not is_promise(wish):
            raise InvalidWish(wish)
        for name in names_in(wish):
            self._check_known(name)
        if not promise_holds(self._moment.state.things, wish):
            raise Broken(len(self.promises))
        self._go_on(self._moment.state.things, self.promises + (wish,), ("promise", wish))

    def lift(self, index):
        """Takes a promise away."""
        if not is_between(index, 0, len(self.promises) - 1):
            raise InvalidNumber(index)
        left = self.promises[:index] + self.promises[index + 1:]
        self._go_on(self._moment.state.things, left, ("lift", index))

    def undo(self):
        """Takes the last change back that has not been taken back."""
        self._moment = moment_ahead(self._moment)

    def trial(self):
        """For a `with` statement that takes all back if its rows end with an exception."""
        return Trial(self)

    def tried(self, action):
        """What a function returns that is called with the desk in such a statement."""
        with self.trial() as desk:
            return action(desk)


def play_put(desk, name, text):
    """Puts the thing with a text under a name."""
    desk.put(name, thing_in(text))


def play_drop(desk, name):
    """Takes a name away."""
    desk.drop(name)


def play_promise(desk, wish):
    """Puts a promise behind the others."""
    desk.promise(wish)


def play_lift(desk, index):
    """Takes a promise away."""
    desk.lift(index)


DEEDS = {"put": play_put, "drop": play_drop, "promise": play_promise, "lift": play_lift}


def is_deed(value):
    """Whether it is the tuple of a change, whatever stands behind its word."""
    if not isinstance(value, tuple) or len(value) < 2 or not isinstance(value[0], str) or value[0] not in DEEDS:
        return False
    return len(value) == (3 if value[0] == "put" else 2)


def play(desk, deed):
    """Does the change at a desk that a tuple tells."""
    word, *told = deed
    action = DEEDS[word]
    action(desk, *told)


def played(log):
    """The desk to which the changes of a log lead."""
    if not isinstance(log, tuple):
        raise InvalidLog(None)
    desk = Desk()
    for at, deed in enumerate(log):
        if not is_deed(deed):
            raise InvalidLog(at)
        try:
            play(desk, deed)
        except (WrongValue, WrongName, NotPossible):
            raise InvalidLog(at) from None
    return desk
