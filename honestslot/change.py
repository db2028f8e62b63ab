"""What can be paid with the coins at hand, and which coins pay a credit back."""

from honestslot.amounts import greatest
from honestslot.amounts import holds
from honestslot.amounts import only_nothing
from honestslot.amounts import with_kind


def tails(value, count, limit):
    """For each kind the amounts that it and the kinds behind it can pay; at the end those of no kind."""
    result = [only_nothing(limit)]
    for kind in range(len(value) - 1, -1, -1):
        result.append(with_kind(result[-1], value[kind], count[kind]))
    result.reverse()
    return result


def payable(value, count, limit):
    """The set of the amounts up to limit of which there is a payment."""
    return tails(value, count, limit)[0]


def most_coins(tail, value, count, amount):
    """Of one kind as many coins as can be, so that the tail still pays the rest of the amount."""
    coins = min(count, amount // value)
    while not holds(tail, amount - coins * value):
        coins -= 1
    return coins


def payment_back(value, count, credit):
    """Of each kind how many coins pay the greatest amount up to the credit.

    The first kind that is in any payment of what is still to be paid is always next. A kind that is in
    none does not come back while the amount is paid down: so it is most of kind 0, then most of kind 1,
    and so on, and the coins go out in this order.
    """
    behind = tails(value, count, credit)
    rest = greatest(behind[0], credit)
    result = []
    for kind in range(len(value)):
        coins = most_coins(behind[kind + 1], value[kind], count[kind], rest)
        result.append(coins)
        rest -= coins * value[kind]
    return result
