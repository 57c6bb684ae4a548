"""Which tellers lead all settling rows to rows that settle, at the same ends, or by the same share."""

from endtellers.discs import disc_counts
from endtellers.ratios import check_share
from endtellers.tellers import check_teller, is_fair, plain


def is_free(teller, fraction):
    """Whether no zero of the plain form's UNDER has a size up to the fraction."""
    _, under = plain(teller)
    below, just, _ = disc_counts(under, fraction)
    return below + just == 0


def keeps_settling(teller):
    """Whether of all rows that settle the told row does, too."""
    return is_free(teller, (1, 1))


def keeps_ends(teller):
    """Whether of all rows that settle the told row settles at the same end."""
    return straying(teller) is None


def keeps_share(teller, fraction):
    """Whether of all rows that settle by this share the told row does, too, at whatever end."""
    check_teller(teller)
    check_share(fraction)
    share, whole = fraction
    return is_free(teller, (whole, share))


def straying(teller):
    """The row, pulse or ones, of which a row is told that does not settle at 0, or at 1; None if it keeps ends."""
    if not keeps_settling(teller):
        return "pulse"
    if not is_fair(teller):
        return "ones"
    return None
