"""Checks that functions refuse what is wrong, by position and by name."""

from endtellers.errors import InvalidTeller
from tests.making import WRONG_TELLERS


def check_given(case, kind, value, call, *arguments, **named):
    """The call raises an error of this kind, which keeps this very value."""
    with case.assertRaises(kind) as caught:
        call(*arguments, **named)
    case.assertIs(type(caught.exception), kind)
    case.assertIs(caught.exception.given, value)


def check_index(case, kind, index, call, *arguments, **named):
    """The call raises an error of this kind, which keeps this index."""
    with case.assertRaises(kind) as caught:
        call(*arguments, **named)
    case.assertIs(type(caught.exception), kind)
    case.assertIs(type(caught.exception.index), type(index))
    case.assertEqual(caught.exception.index, index)


def check_teller_refused(case, call, *further):
    """What is no teller is refused, ahead of what is further wrong."""
    for value in WRONG_TELLERS:
        check_given(case, InvalidTeller, value, call, value, *further)
        if not further:
            check_given(case, InvalidTeller, value, call, teller=value)


def check_tellers_refused(case, call, right, *further):
    """What is no teller is refused, the first one ahead of the other one, and both ahead of what is further wrong."""
    for value in WRONG_TELLERS:
        for other in (right, None, ()):
            check_given(case, InvalidTeller, value, call, value, other, *further)
        check_given(case, InvalidTeller, value, call, right, value, *further)
        if not further:
            check_given(case, InvalidTeller, value, call, other=value, teller=right)
            check_given(case, InvalidTeller, value, call, other=None, teller=value)


def given(kind, values):
    """For check_refused: each value is refused by an error of this kind that keeps it."""
    return [(value, kind, "given", value) for value in values]


def indexed(kind, pairs):
    """For check_refused: each value is refused by an error of this kind that keeps the index beside the value."""
    return [(value, kind, "index", index) for value, index in pairs]


def check_refused(case, call, names, rights, wrongs):
    """The first wrong argument is refused, whether those behind it are right or wrong, by position and by name."""
    for at in range(len(names)):
        for value, kind, attribute, kept in wrongs[at]:
            further = wrongs[at + 1:]
            for tail in (rights[at + 1:], [wrong[0][0] for wrong in further], [wrong[-1][0] for wrong in further]):
                arguments = [*rights[:at], value, *tail]
                with case.assertRaises(kind) as caught:
                    call(*arguments)
                check_kept(case, caught.exception, kind, attribute, kept)
                with case.assertRaises(kind) as caught:
                    call(**dict(reversed(list(zip(names, arguments)))))
                check_kept(case, caught.exception, kind, attribute, kept)
    call(*rights)
    call(**dict(reversed(list(zip(names, rights)))))


def check_kept(case, error, kind, attribute, kept):
    """The error is of just this kind and keeps just this."""
    case.assertIs(type(error), kind)
    case.assertEqual(list(vars(error)), [attribute])
    found = vars(error)[attribute]
    if attribute == "index" and kept is not None:
        case.assertEqual((type(found), found), (int, kept))
    else:
        case.assertIs(found, kept)
