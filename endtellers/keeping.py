"""Which tellers lead all settling rows to rows that settle, at the same ends, or by the same share."""

from endtellers.discs import is_free
from endtellers.ratios import ONE, check_share
from endtellers.tellers import check_teller, is_fair, plain


def keeps_settling(teller):
    """Whether of all rows that settle the told row does, too."""
    return is_free(plain(teller)[1], ONE)


def keeps_ends(teller):
    """Whether of all rows that settle the told row settles at the same end."""
    return straying(teller) is None


def keeps_share(teller, fraction):
    """Whether of all rows that settle by this share the told row does, too, at whatever end."""
    check_teller(teller)
    check_share(fraction)
    share, whole = fraction
    return is_free(plain(teller)[1], (whole, share))


def straying(teller):
    """The row, pulse or ones, of which a row is told that does not settle at 0, or at 1; None if it keeps ends."""
    if not keeps_settling(teller):
        return "pulse"
    if not is_fair(teller):
        return "ones"
    return None
