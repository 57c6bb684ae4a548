"""Checks that functions refuse what is wrong, by position and by name."""

from endtellers.errors import InvalidTeller
from tests.making import WRONG_TELLERS


def check_given(case, kind, value, call, *arguments, **named):
    """The call raises an error of this kind, which keeps this very value."""
    with case.assertRaises(kind) as caught:
        call(*arguments, **named)
    case.assertIs(type(caught.exception), kind)
    case.assertIs(caught.exception.given, value)


def check_index(case, kind, index, call, *arguments, **named):
    """The call raises an error of this kind, which keeps this index."""
    with case.assertRaises(kind) as caught:
        call(*arguments, **named)
    case.assertIs(type(caught.exception), kind)
    case.assertIs(type(caught.exception.index), type(index))
    case.assertEqual(caught.exception.index, index)


def check_teller_refused(case, call, *further):
    """What is no teller is refused, ahead of what is further wrong."""
    for value in WRONG_TELLERS:
        check_given(case, InvalidTeller, value, call, value, *further)
        if not further:
            check_given(case, InvalidTeller, value, call, teller=value)


def check_tellers_refused(case, call, right, *further):
    """What is no teller is refused, the first one ahead of the other one, and both ahead of what is further wrong."""
    for value in WRONG_TELLERS:
        for other in (right, None, ()):
            check_given(case, InvalidTeller, value, call, value, other, *further)
        check_given(case, InvalidTeller, value, call, right, value, *further)
        if not further:
            check_given(case, InvalidTeller, value, call, other=value, teller=right)
            check_given(case, InvalidTeller, value, call, other=None, teller=value)
