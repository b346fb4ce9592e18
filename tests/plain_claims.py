"""Slow and plain answers about claims: whether they are claims, hold, and have right papers; and changed values."""

import random
import re

from tests import plain, plain_purses, plain_stands

TOP = 10 ** 30


def whole(value, low=None, high=None):
    return type(value) is int and (low is None or value >= low) and (high is None or value <= high)


def whole_tuple(value, length=None):
    return type(value) is tuple and all(whole(one) for one in value) and length in (None, len(value))


def rising(value):
    return all(one < other for one, other in zip(value, value[1:]))


def same(one, other):
    """Whether both are the same, kind by kind; to Python True would be 1."""
    if type(one) is not type(other):
        return False
    if type(one) is tuple:
        return len(one) == len(other) and all(map(same, one, other))
    return one == other


def coins_in(text):
    """The coins of a lot's text, None for anything else."""
    if type(text) is not str or not re.fullmatch(r"[1-9][0-9]?( [1-9][0-9]?)*", text):
        return None
    coins = tuple(map(int, text.split(" ")))
    return coins if rising(coins) and len(coins) <= 15 and coins[-1] <= 60 else None


def is_purse(value):
    return (whole_tuple(value) and len(value) <= 12 and list(value) == sorted(value)
            and all(1 <= piece <= 1000 for piece in value))


def is_telling(value):
    if type(value) is not tuple or len(value) not in (2, 3) or not whole(value[1], 1, 40) or type(value[0]) is not str:
        return False
    words = ("paid", "missed") if len(value) == 2 else ("ways", "least", "most")
    return value[0] in words and (len(value) == 2 or whole(value[2], 0))


def is_view(value):
    return type(value) is tuple and len(value) <= 12 and all(map(is_telling, value))


FORMS = {
    "paid": "lot great", "missed": "lot great", "last": "lot step", "ways": "lot small number",
    "least": "lot step number", "most": "lot step number", "great least": "lot great number",
    "great most": "lot great number", "behind": "lot lot step any", "settled": "lot price number",
    "full": "purse lost", "not full": "purse lost", "price": "purse purse any", "no price": "purse purse any",
    "lost": "lot", "won": "lot", "quiet": "lot", "fits": "view lot", "sure": "view small word", "kept": "lot sums lot",
}

IS = {
    "lot": lambda value: coins_in(value) is not None, "great": lambda value: whole(value, 0, TOP),
    "step": lambda value: whole(value, 0, 4000), "small": lambda value: whole(value, 0, 400),
    "number": lambda value: whole(value, 0), "any": whole, "price": lambda value: whole(value, -TOP, TOP),
    "purse": is_purse, "lost": lambda value: whole(value, 0, 11), "view": is_view,
    "word": lambda value: type(value) is str and value in ("paid", "missed"),
    "sums": lambda value: whole_tuple(value) and len(value) <= 12 and rising(value) and all(0 <= one <= 400 for one in value),
}


def is_claim(claim):
    if type(claim) is not tuple or not claim or type(claim[0]) is not str or claim[0] not in FORMS:
        return False
    kinds = FORMS[claim[0]].split()
    return len(claim) == len(kinds) + 1 and all(IS[kind](value) for kind, value in zip(kinds, claim[1:]))


def length(coins, amount, kind):
    """The least (0) or greatest (1) length of a sum of any size, None if it is missed."""
    low = 3600 + coins[-1]
    coin = coins[0] if kind else coins[-1]
    many = max(0, (amount - low) // coin)
    table = plain.lengths_tables(coins, 4000)[kind]
    return None if table[amount - many * coin] is None else many + table[amount - many * coin]


def is_stand(coins):
    return plain.common_divisor(coins) == 1 and len(plain.missed_of(coins)) <= 14


def sure_word(tellings, amount):
    """What is sure of a sum by all that fit; "open" also if nothing fits."""
    answers = {plain.pays(coins, amount) for coins in plain_stands.fitting(tellings)}
    return "open" if len(answers) != 1 else "paid" if True in answers else "missed"


def is_kept(coins, amounts, some):
    def serves(left):
        return bool(left) and all(plain.pays(left, amount) for amount in amounts)
    without = [tuple(other for other in some if other != coin) for coin in some]
    return set(some) <= set(coins) and serves(some) and not any(map(serves, without))


def claim_holds(claim):
    """Whether a claim (but for "settled", which only a deal can show) is true."""
    word, *told = claim
    coins = coins_in(told[0]) if type(told[0]) is str else None
    if word in ("paid", "missed"):
        return plain.pays(coins, told[1]) == (word == "paid")
    if word == "last":
        return plain.common_divisor(coins) == 1 and max(plain.missed_of(coins), default=None) == told[1]
    if word == "ways":
        return plain.number_of_payments(coins, told[1]) == told[2]
    if word.split()[-1] in ("least", "most"):
        return length(coins, told[1], ("least", "most").index(word.split()[-1])) == told[2]
    if word == "behind":
        both = [length(coins_in(text), told[2], 0) for text in told[:2]]
        return None not in both and both[0] - both[1] == told[3]
    if word in ("full", "not full"):
        return len(told[0]) > told[1] and plain_purses.full(told[0], told[1]) == (word == "full")
    if word in ("price", "no price"):
        return len(told[0] + told[1]) <= 12 and (told[2] in plain_purses.all_prices(*told[:2])) == (word == "price")
    if word in ("lost", "won"):
        return is_stand(coins) and plain_stands.wins(plain.missed_of(coins)) == (word == "won")
    if word == "quiet":
        sums = plain.missed_of(coins) if is_stand(coins) else ()
        return sums not in ((), (1,)) and all(sums[-1] not in plain_stands.behind(sums, name) for name in sums[:-1])
    if word == "fits":
        return coins_in(told[1]) in plain_stands.fitting(told[0])
    if word == "sure":
        simple = all(telling[0] in ("paid", "missed") for telling in told[0])
        return simple and told[1] > 0 and sure_word(told[0], told[1]) == told[2]
    return word == "settled" or is_kept(coins, told[1], coins_in(told[2]))


def pays_just(coins, payment, amount):
    return (whole_tuple(payment, len(coins)) and all(many >= 0 for many in payment)
            and plain.sum_of(coins, payment) == amount)


def is_table(coins, coin, table):
    return whole(coin) and coin in coins and same(table, plain.least_sums_of(coins, coin))


def is_length_paper(coins, amount, number, kind, paper):
    if type(paper) is not tuple or len(paper) != 2 or not pays_just(coins, paper[0], amount):
        return False
    table = plain.lengths_tables(coins, 4000)[kind][:amount + 1]
    return sum(paper[0]) == number and same(paper[1], tuple(table))


def is_great_paper(coins, amount, number, kind, paper):
    coin = coins[0] if kind else coins[-1]
    if type(paper) is not tuple or len(paper) != 2 or not pays_just(coins, paper[0], amount):
        return False
    bounds = paper[1]
    if sum(paper[0]) != number or not whole_tuple(bounds, coin) or bounds[0] != 0:
        return False
    for rest in range(coin):
        for one in coins:
            if bounds[(rest + one) % coin] > bounds[rest] + (one - coin if kind else coin - one):
                return False
    bound = bounds[amount % coin]
    return coin * (number + 1) > amount - bound if kind else coin * (number - 1) < amount + bound


def is_lost_paper(paper):
    """Whether all stands of a paper are shown to be lost; then the sums that they miss."""
    if type(paper) is not tuple or not all(whole_tuple(coins) and coins and rising(coins) for coins in paper):
        return None
    if not rising(paper) or not all(1 < coins[0] and coins[-1] <= 60 and len(coins) <= 15 for coins in paper):
        return None
    if not all(plain.lean_of(coins) == coins and is_stand(coins) for coins in paper):
        return None
    known = [plain.missed_of(coins) for coins in paper]
    for sums in known:
        for name in sums[1:]:
            then = plain_stands.behind(sums, name)
            if not any(plain_stands.behind(then, further) in known for further in then):
                return None
    return known


def is_sure_paper(tellings, amount, word, paper):
    if type(paper) is not tuple or len(paper) != 2 or not whole_tuple(paper[0]) or not rising(paper[0]):
        return False
    told = {other for kind, other in tellings if kind == "paid"} | set(range(12, 24))
    if word == "paid":
        return set(paper[0]) <= told and pays_just(paper[0], paper[1], amount)
    missed = [other for kind, other in tellings if kind == "missed"]
    return (amount in paper[0] and set(paper[0]) <= told | {amount}
            and any(pays_just(paper[0], paper[1], other) for other in missed))


def is_kept_paper(amounts, some, paper):
    if type(paper) is not tuple or len(paper) != len(some):
        return False
    if len(some) == 1:
        return same(paper, ((),))
    for coin, part in zip(some, paper):
        left = tuple(other for other in some if other != coin)
        if type(part) is not tuple or len(part) != 3 or not whole(part[0]) or part[0] not in amounts:
            return False
        if not is_table(left, part[1], part[2]) or plain.pays(left, part[0]):
            return False
    return True


def is_way_paper(coins, amount, paper):
    rows = tuple(tuple(plain.number_of_payments(coins[:at], one) for one in range(amount + 1))
                 for at in range(1, len(coins) + 1))
    return same(paper, rows)


def is_last_paper(coins, paper):
    if type(paper) is not tuple or len(paper) != 3 or not is_table(coins, *paper[:2]) or type(paper[2]) is not tuple:
        return False
    return len(paper[2]) == paper[0] and all(pays_just(coins, one, least) for one, least in zip(paper[2], paper[1]))


def is_purse_paper(word, told, paper):
    if word in ("full", "no price"):
        return same(paper, ())
    if type(paper) is not tuple or len(paper) != 2 or not is_purse(paper[0]):
        return False
    if word == "price":
        if not is_purse(paper[1]) or not all(map(plain_purses.has, told[:2], paper)):
            return False
        return sum(paper[0]) - sum(paper[1]) == told[2]
    if len(paper[0]) != told[1] or not plain_purses.has(told[0], paper[0]):
        return False
    left = plain_purses.without(told[0], paper[0])
    return whole(paper[1], 0, sum(left)) and paper[1] not in plain_purses.wholes(left)


def is_right(claim, paper):
    """Whether it is a true claim with a right paper, just as the document tells."""
    if not is_claim(claim) or not claim_holds(claim):
        return False
    word, *told = claim
    coins = coins_in(told[0]) if type(told[0]) is str else None
    if word == "paid":
        return pays_just(coins, paper, told[1])
    if word == "missed":
        return type(paper) is tuple and len(paper) == 2 and is_table(coins, *paper)
    if word == "last":
        return is_last_paper(coins, paper)
    if word == "ways":
        return is_way_paper(coins, told[1], paper)
    if word in ("least", "most"):
        return is_length_paper(coins, told[1], told[2], ("least", "most").index(word), paper)
    if word in ("great least", "great most"):
        return is_great_paper(coins, told[1], told[2], ("great least", "great most").index(word), paper)
    if word == "behind":
        return type(paper) is tuple and len(paper) == 2 and all(
            is_length_paper(coins_in(text), told[2], length(coins_in(text), told[2], 0), 0, one)
            for text, one in zip(told, paper))
    if word == "settled":
        if type(paper) is not tuple or len(paper) != 2:
            return False
        if not all(whole_tuple(one, len(coins)) and all(many >= 0 for many in one) for one in paper):
            return False
        return plain.sum_of(coins, paper[0]) - plain.sum_of(coins, paper[1]) == told[1] and sum(map(sum, paper)) == told[2]
    if word in ("full", "not full", "price", "no price"):
        return is_purse_paper(word, told, paper)
    if word in ("lost", "won"):
        known = is_lost_paper(paper)
        sums = plain.missed_of(coins)
        if known is None or word == "lost":
            return known is not None and sums in known
        return sums == () or any(plain_stands.behind(sums, name) in known for name in sums)
    if word in ("quiet", "fits"):
        return same(paper, ())
    if word == "sure":
        return is_sure_paper(*told, paper)
    return is_kept_paper(told[1], coins_in(told[2]), paper)


def others(value):
    """Values that may stand in the place of one."""
    if type(value) is int:
        return [value + 1, value - 1, -value, value + 60, None, bool(value), str(value), (value,), [value], 10 ** 40]
    if type(value) is str:
        return [value + " ", " " + value, value + " 60", value[:-1], value[1:], value.upper(), "paid", "missed", "won",
                "least", "", None, 0, (value,), [value], value.encode(), tuple(value)]
    if type(value) is tuple:
        return [None, list(value), (value,), len(value), str(value), dict.fromkeys("a"), value + value]
    return [0, False, True, "", (), [None], -1]


def changed(value, source, most=8):
    """Values that differ from one in one place only; of long tuples some places, the same ones each time."""
    for other in others(value):
        yield other
    if type(value) is not tuple:
        return
    yield value + (0,)
    yield value + (None,)
    yield value + ((),)
    places = range(len(value)) if len(value) <= most else sorted(source.sample(range(len(value)), most))
    for at in places:
        yield value[:at] + value[at + 1:]
        yield value[:at] + value[at:at + 1] + value[at:]
        if at:
            yield value[:at - 1] + (value[at], value[at - 1]) + value[at + 1:]
        for other in changed(value[at], source, most):
            yield value[:at] + (other,) + value[at + 1:]


def some_source(seed):
    return random.Random(seed)
