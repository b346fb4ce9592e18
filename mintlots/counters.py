"""Counters, at which two purses change hands, and what takes changes back."""

from mintlots.checks import check_number, is_integer
from mintlots.errors import NoSuchPiece, NothingToUndo
from mintlots.limits import MOST_PIECE
from mintlots.pots import behind, check_both, check_together, deal_for, left_without


class Moment:
    """A state, and the moment ahead of it; neither ever changes, so whoever has a moment has all ahead of it."""

    def __init__(self, state, ahead):
        self.state = state
        self.ahead = ahead
        self.number = 0 if ahead is None else ahead.number + 1


def moment_ahead(moment):
    """The moment ahead of the last change; NothingToUndo if there was none."""
    if moment.ahead is None:
        raise NothingToUndo()
    return moment.ahead


class Trial:
    """What stands in a `with` statement; if its rows end with an exception all is as it was when they began."""

    def __init__(self, holder):
        self._holder = holder
        self._began = None

    def __enter__(self):
        # The same trial may stand in several statements, one within the other; so what began is kept in a row.
        self._began = Moment(self._holder._moment, self._began)
        return self._holder

    def __exit__(self, kind, value, trace):
        if kind is not None:
            self._holder._moment = self._began.state
        self._began = self._began.ahead


class Counter:
    """Two purses, a buyer's and a seller's, that change hands."""

    def __init__(self, buyer, seller):
        check_both(buyer, seller)
        check_together(buyer, seller)
        self._moment = Moment((buyer, seller), None)

    @property
    def buyer(self):
        """The buyer's purse."""
        return self._moment.state[0]

    @property
    def seller(self):
        """The seller's purse."""
        return self._moment.state[1]

    @property
    def changes(self):
        """How many changes can be taken back."""
        return self._moment.number

    def _become(self, purses):
        self._moment = Moment(purses, self._moment)

    def settle(self, deal):
        """Does a deal."""
        self._become(behind(self.buyer, self.seller, deal))

    def pay(self, price):
        """Does a deal with the fewest pieces that settles a price."""
        self.settle(deal_for(self.buyer, self.seller, price))

    def swap(self):
        """Lets buyer and seller change places."""
        self._become((self.seller, self.buyer))

    def put(self, piece):
        """Gives the buyer a piece more."""
        check_number(piece, 1, MOST_PIECE)
        purse = tuple(sorted(self.buyer + (piece,)))
        check_together(purse, self.seller)
        self._become((purse, self.seller))

    def lose(self, piece):
        """Takes one of the buyer's pieces away."""
        if not is_integer(piece) or piece not in self.buyer:
            raise NoSuchPiece(piece)
        self._become((tuple(left_without(self.buyer, (piece,))), self.seller))

    def undo(self):
        """Takes the last change back that has not been taken back."""
        self._moment = moment_ahead(self._moment)

    def trial(self):
        """For a `with` statement that takes all back if its rows end with an exception."""
        return Trial(self)

    def tried(self, action):
        """What a function returns that is called with the counter in such a statement."""
        with self.trial() as counter:
            return action(counter)
