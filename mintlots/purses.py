"""Purses of a few pieces: what they hold, and which hold all sums whichever pieces are lost."""

from mintlots.checks import check_amount, check_lost, check_number, check_purse, is_purse
from mintlots.errors import InvalidText, NotFull, TooMany
from mintlots.limits import MOST_AMOUNT, MOST_LISTED, MOST_PIECE, MOST_PIECES

# The greatest whole for which full purses are counted; the document does not name it among the limits.
MOST_WHOLE = 200


def as_text(purse):
    """The text of a purse."""
    check_purse(purse)
    return "+".join([str(piece) for piece in purse]) if purse else "-"


def piece_in(word):
    """The number that a word tells just as Python shows it, 0 for any other word and for what is too long."""
    number = int(word) if word.isdecimal() and len(word) <= len(str(MOST_PIECE)) else 0
    return number if str(number) == word else 0


def from_text(text):
    """The purse with this text."""
    if not isinstance(text, str):
        raise InvalidText(text)
    if text == "-":
        return ()
    purse = tuple([piece_in(word) for word in text.split("+")])
    if not is_purse(purse):
        raise InvalidText(text)
    return purse


def put_pieces(ways, piece, many):
    """In how many ways sums are held with so many pieces more that are all alike."""
    grown = {}
    for total, number in ways.items():
        for times in range(many + 1):
            then = total + times * piece
            grown[then] = grown.get(then, 0) + number
    return grown


def ways_by_sum(purse):
    """For each sum that a purse holds in how many ways it does."""
    ways = {0: 1}
    for piece in sorted(set(purse)):
        ways = put_pieces(ways, piece, purse.count(piece))
    return ways


def held(purse):
    """The ascending tuple of all sums that a purse holds."""
    check_purse(purse)
    return tuple(sorted(ways_by_sum(purse)))


def ways_held(purse, amount):
    """In how many ways a purse holds a sum."""
    check_purse(purse)
    check_amount(amount)
    return ways_by_sum(purse).get(amount, 0)


def without_last(pieces, lost):
    """What pieces but so many of the last ones come to."""
    return sum(pieces[:max(0, len(pieces) - lost)])


def first_too_great(purse, lost):
    """The index of the first piece that keeps a purse from being full, None if there is none."""
    for at, piece in enumerate(purse):
        if piece > 1 + without_last(purse[:at], lost):
            return at
    return None


def is_full(purse, lost):
    """Whether a purse holds all sums up to what is left, whichever so many pieces are lost."""
    check_purse(purse)
    check_lost(lost)
    return len(purse) > lost and first_too_great(purse, lost) is None


def gap(purse, lost):
    """A purse of so many of the pieces and a sum that is not held without them, None if there is none."""
    check_purse(purse)
    check_lost(lost)
    if len(purse) <= lost:
        raise NotFull(purse)
    at = first_too_great(purse, lost)
    if at is None:
        return None
    start = max(0, at - lost)
    # Where not enough pieces stand ahead, the others are taken behind: the piece itself must be left.
    missing = purse[start:at] + purse[at + 1:at + 1 + lost - (at - start)]
    return missing, 1 + sum(purse[:start])


def next_best(purse, lost):
    """The greatest piece that can stand behind the pieces of a purse so that it is full."""
    return min(MOST_PIECE, 1 + without_last(purse, lost))


def best_from(purse, pieces, lost):
    """The purse of so many pieces that begins with the given ones and goes on with the greatest ones that can stand."""
    grown = purse
    while len(grown) < pieces:
        grown = grown + (next_best(grown, lost),)
    return grown


def check_pieces(pieces):
    """InvalidNumber for what is no number of pieces that a purse can have, if it has any."""
    check_number(pieces, 1, MOST_PIECES)


def best_whole(pieces, lost):
    """The greatest whole of a full purse of so many pieces, None if there is none."""
    purse = best_purse(pieces, lost)
    return None if purse is None else sum(purse)


def best_purse(pieces, lost):
    """The full purse of so many pieces with the greatest whole, None if there is none."""
    check_pieces(pieces)
    check_lost(lost)
    return best_from((), pieces, lost) if pieces > lost else None


def fewest_pieces(whole, lost):
    """The fewest pieces of a full purse with this whole, None if there is none."""
    check_number(whole, 1, MOST_AMOUNT)
    check_lost(lost)
    if whole <= lost:
        return None
    for pieces in range(lost + 1, MOST_PIECES + 1):
        if best_whole(pieces, lost) >= whole:
            return pieces
    return None


def put_next(ends, whole, left, lost):
    """How many full beginnings with one piece more than before, and `left` still to come, have which end and sum.

    The end of a purse is as many of its last pieces as matter for the next one.
    """
    grown = {}
    for (end, total), number in ends.items():
        low = end[-1] if end else 1
        # Against 0 no piece counts as lost; the last one is kept as none behind it may be less.
        counted = total - sum(end) if lost > 0 else total
        for piece in range(low, min(1 + counted, (whole - total) // (left + 1)) + 1):
            key = ((end + (piece,))[-max(1, lost):], total + piece)
            grown[key] = grown.get(key, 0) + number
    return grown


def number_of_full(whole, pieces, lost):
    """How many purses of so many pieces with this whole are full."""
    ends = {((), 0): 1}
    for left in range(pieces - 1, -1, -1):
        ends = put_next(ends, whole, left, lost)
    return sum([number for (_, total), number in ends.items() if total == whole])


def check_counted(whole, pieces, lost):
    """The errors of the arguments by which full purses are counted."""
    check_number(whole, 1, MOST_WHOLE)
    check_pieces(pieces)
    check_lost(lost)


def count_full(whole, pieces, lost):
    """How many purses of so many pieces with this whole are full."""
    check_counted(whole, pieces, lost)
    return number_of_full(whole, pieces, lost) if pieces > lost else 0


def can_end(purse, whole, pieces, lost):
    """Whether a full beginning leads to a full purse of so many pieces with this whole."""
    # Between the wholes that are reached by the least and by the greatest pieces behind it all can be reached.
    return sum(purse) + (pieces - len(purse)) * purse[-1] <= whole <= sum(best_from(purse, pieces, lost))


def longer_beginnings(purse, whole, pieces, lost):
    """The beginnings of full purses of so many pieces with this whole that have one piece more than a given one."""
    low = purse[-1] if purse else 1
    grown = [purse + (piece,) for piece in range(low, next_best(purse, lost) + 1)]
    return [longer for longer in grown if can_end(longer, whole, pieces, lost)]


def full_purses(whole, pieces, lost):
    """The ascending tuple of the full purses of so many pieces with this whole."""
    number = count_full(whole, pieces, lost)
    if number > MOST_LISTED:
        raise TooMany(number)
    if pieces <= lost:
        return ()
    found = [()]
    for _ in range(pieces):
        found = [longer for purse in found for longer in longer_beginnings(purse, whole, pieces, lost)]
    return tuple(found)


def may_come(purse, lost):
    """The greatest piece that can be put to a full purse so that it stays full."""
    if not is_full(purse, lost):
        raise NotFull(purse)
    if len(purse) == MOST_PIECES:
        raise TooMany(len(purse) + 1)
    return next_best(purse, lost)
