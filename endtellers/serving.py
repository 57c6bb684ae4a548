"""Which rows tellers serve: what is told of them settles."""

from endtellers.errors import NotFair
from endtellers.keeping import keeps_ends, straying
from endtellers.polynomials import cleared
from endtellers.quotients import plain_pair, whole_pair
from endtellers.tellers import check_teller, is_fair, plain
from endtellers.wholes import common_divisor, common_multiple, multiple, times, undelayed


def over(teller, other):
    """The one teller over the other one, the delay of the other one left out of this."""
    check_teller(teller)
    check_teller(other)
    tops, unders = whole_pair(teller)
    other_tops, other_unders = whole_pair(other)
    return plain_pair(times(tops, other_unders), times(unders, undelayed(other_tops)))


def serves_all(teller, other):
    """Whether the teller serves, at the same ends, all rows that the other one serves."""
    return keeps_ends(over(teller, other))


def serve_alike(teller, other):
    """Whether each of both serves, at the same ends, all rows that the other one serves."""
    return serves_all(teller, other) and serves_all(other, teller)


def stray(teller, other):
    """A pair (ROW, END) of a row that the other one serves at the end, and the teller does not; None."""
    strays_at = straying(over(teller, other))
    if strays_at is None:
        return None
    # The row is the one of which the other teller, but for its delay, tells the pulse, or the ones 1 / (1 - z).
    tops, unders = whole_pair(other)
    tops = undelayed(tops)
    if strays_at == "pulse":
        return plain_pair(unders, tops), (0, 1)
    return plain_pair(unders, times(tops, [1, -1])), (1, 1)


def fair_numbers(teller, other):
    """The whole numbers of TOP and UNDER of the one plain form, and of those of the other, each but for a factor."""
    check_teller(teller)
    check_teller(other)
    if not is_fair(teller) or not is_fair(other):
        raise NotFair()
    return [cleared(polynomial)[0] for polynomial in plain(teller) + plain(other)]


def made_fair(tops, unders):
    """The plain teller of the quotient without its delay, times the number that makes it fair."""
    tops = undelayed(tops)
    return plain_pair(multiple(tops, sum(unders)), multiple(unders, sum(tops)))


def both(teller, other):
    """The fair teller that serves just the rows that both fair tellers serve."""
    # P and Q have no common part, nor have R and S: that of P S and R Q is that of P and R times that of Q and S.
    tops, unders, other_tops, other_unders = fair_numbers(teller, other)
    return made_fair(common_divisor(tops, other_tops), common_multiple(unders, other_unders))


def either(teller, other):
    """The fair teller that serves what either fair teller serves, and no more than each such teller does."""
    # Likewise P S R Q over this common part and Q S is the least product of P and R over the common part of Q and S.
    tops, unders, other_tops, other_unders = fair_numbers(teller, other)
    return made_fair(common_multiple(tops, other_tops), common_divisor(unders, other_unders))
