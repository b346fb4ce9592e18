"""A counter by lines: each command is a line, and its answer is a text."""

from mintlots.counters import Counter
from mintlots.errors import InvalidCommand, InvalidText
from mintlots.lengths import least, most
from mintlots.lots import Lot, missed
from mintlots.naming import good_names, is_won
from mintlots.payments import count_payments
from mintlots.pots import deal_for, pot, prices, reach, ways_to_settle
from mintlots.purses import as_text, from_text, held, is_full

DONE = "ok"
NOTHING = "none"

# So many digits a number has at most; the document does not name this limit among the limits.
MOST_DIGITS = 5

# What each command has behind its first word.
COMMANDS = {
    "pay": ("price",), "settle": ("purse", "purse"), "swap": (), "put": ("number",), "lose": ("number",), "undo": (),
    "buyer": (), "seller": (), "pot": (), "reach": (), "ways": ("price",), "deal": ("price",), "full": ("number",),
    "prices": (), "held": (),
    "least": ("number", "lot"), "most": ("number", "lot"), "payments": ("number", "lot"), "missed": ("lot",),
    "won": ("lot",), "good": ("lot",),
}


def read_number(word):
    """The number that a word tells just as Python shows it, None for any other word and for what is too long."""
    if not word.isdecimal() or len(word) > MOST_DIGITS:
        return None
    number = int(word)
    return number if str(number) == word else None


def read_price(word):
    """The number that a word tells, or its opposite behind a `-`; None for anything else."""
    if not word.startswith("-"):
        return read_number(word)
    number = read_number(word[1:])
    return -number if number else None


def read_purse(word):
    """The purse with this text, None for anything else."""
    try:
        return from_text(word)
    except InvalidText:
        return None


def read_lot(word):
    """The lot with this text, commas in the place of spaces; None for anything else."""
    try:
        return Lot.read(word.replace(",", " "))
    except InvalidText:
        return None


READ = {"price": read_price, "number": read_number, "purse": read_purse, "lot": read_lot}


def read_word(kind, word):
    """What a word of a command tells, None if it is not of its kind."""
    reader = READ[kind]
    return reader(word)


def in_line(numbers):
    """The text of some numbers, or of none."""
    return " ".join([str(number) for number in numbers]) if numbers else NOTHING


def yes_or_no(answer):
    """The text of True or False."""
    return "yes" if answer else "no"


def number_or_none(number):
    """The text of a number, or of None."""
    return NOTHING if number is None else str(number)


def do_pay(counter, price):
    """Pays a price."""
    counter.pay(price)
    return DONE


def do_settle(counter, handed, back):
    """Does a deal."""
    counter.settle((handed, back))
    return DONE


def do_swap(counter):
    """Lets buyer and seller change places."""
    counter.swap()
    return DONE


def do_put(counter, piece):
    """Gives the buyer a piece more."""
    counter.put(piece)
    return DONE


def do_lose(counter, piece):
    """Takes one of the buyer's pieces away."""
    counter.lose(piece)
    return DONE


def do_undo(counter):
    """Takes the last change back."""
    counter.undo()
    return DONE


def tell_buyer(counter):
    """The buyer's purse."""
    return as_text(counter.buyer)


def tell_seller(counter):
    """The seller's purse."""
    return as_text(counter.seller)


def tell_pot(counter):
    """The purse of all pieces."""
    return as_text(pot(counter.buyer, counter.seller))


def tell_reach(counter):
    """Up to where all prices are settled."""
    return str(reach(counter.buyer, counter.seller))


def tell_ways(counter, price):
    """How many deals settle a price."""
    return str(ways_to_settle(counter.buyer, counter.seller, price))


def tell_deal(counter, price):
    """A deal with the fewest pieces that settles a price."""
    handed, back = deal_for(counter.buyer, counter.seller, price)
    return f"{as_text(handed)} {as_text(back)}"


def tell_full(counter, lost):
    """Whether the pot is full against a number."""
    return yes_or_no(is_full(pot(counter.buyer, counter.seller), lost))


def tell_prices(counter):
    """All prices that are settled."""
    return in_line(prices(counter.buyer, counter.seller))


def tell_held(counter):
    """The sums that the buyer holds."""
    return in_line(held(counter.buyer))


def tell_least(_, amount, lot):
    """The least length of a sum."""
    return number_or_none(least(lot, amount))


def tell_most(_, amount, lot):
    """The greatest length of a sum."""
    return number_or_none(most(lot, amount))


def tell_payments(_, amount, lot):
    """How many payments of a sum there are."""
    return str(count_payments(lot, amount))


def tell_missed(_, lot):
    """The sums that a lot misses."""
    return in_line(missed(lot))


def tell_won(_, stand):
    """Whether a stand is won."""
    return yes_or_no(is_won(stand))


def tell_good(_, stand):
    """The good names at a stand."""
    return in_line(good_names(stand))


ANSWERS = {
    "pay": do_pay, "settle": do_settle, "swap": do_swap, "put": do_put, "lose": do_lose, "undo": do_undo,
    "buyer": tell_buyer, "seller": tell_seller, "pot": tell_pot, "reach": tell_reach, "ways": tell_ways,
    "deal": tell_deal, "full": tell_full, "prices": tell_prices, "held": tell_held, "least": tell_least,
    "most": tell_most, "payments": tell_payments, "missed": tell_missed, "won": tell_won, "good": tell_good,
}


def read_command(command):
    """The list of what the words of a command tell behind the first one, None for what is no command."""
    word, *others = command.split(" ")
    kinds = COMMANDS.get(word)
    if kinds is None or len(others) != len(kinds):
        return None
    told = [read_word(kind, other) for kind, other in zip(kinds, others)]
    return None if any([part is None for part in told]) else told


class Console:
    """A counter by lines."""

    def __init__(self, buyer, seller):
        self._counter = Counter(buyer, seller)

    @property
    def counter(self):
        """The counter at which the commands are done."""
        return self._counter

    def say(self, command):
        """Does a command and returns its answer."""
        told = read_command(command) if isinstance(command, str) else None
        if told is None:
            raise InvalidCommand(command)
        answer = ANSWERS[command.split(" ")[0]]
        return answer(self._counter, *told)
