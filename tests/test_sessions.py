"""The sessions that the interface shows: they are one, in order, and names stay told."""

import doctest
import pathlib
import unittest

from endtellers import errors

README = pathlib.Path(__file__).resolve().parent.parent / "README.md"

SESSIONS = [
    ('polynomials', r'''
>>> from endtellers.polynomials import common_part, is_polynomial, product, value_at
>>> nil, half, one, two, less = (0, 1), (1, 2), (1, 1), (2, 1), (-1, 1)
>>> [is_polynomial((one, two)), is_polynomial(()), is_polynomial((one, nil)), value_at((one, two), half), product((one, one), (one, less)), common_part((less, nil, one), (one, one)), common_part((one,), (nil, two))]
[True, False, False, (2, 1), ((1, 1), (0, 1), (-1, 1)), ((1, 1), (1, 1)), ((1, 1),)]
'''),
    ('discs', r'''
>>> from endtellers.discs import disc_counts, least_size, often_on
>>> [disc_counts((one, nil, one), one), disc_counts((two, (-5, 1), two), one), disc_counts((nil, nil, one, one), one), disc_counts((one,), half), disc_counts((one, nil, one), two)]
[(0, 2, 0), (1, 0, 1), (2, 1, 0), (0, 0, 0), (2, 0, 0)]
>>> [least_size((two, one), 10), least_size((one, nil, one), 3), least_size((two, nil, one), 10), least_size((nil, one), 5), often_on((one, two, one), one), often_on((one, (-2, 1), one), one), often_on((one, nil, two, nil, one), one)]
[(20, True), (3, True), (14, False), (0, True), 2, 0, 2]
'''),
    ('tellers', r'''
>>> from endtellers.tellers import are_alike, behind, is_fair, is_teller, mixed, plain, told, weights_of
>>> means, fade, lag = ((half, half), (one,)), ((half,), (one, (-1, 2))), ((nil, one), (one,))
>>> [is_teller(means), is_teller(((one,), (nil, one))), is_teller(((), (one,))), plain(((one, one), (two, two))), are_alike(means, ((one, one), (two,))), is_fair(means), is_fair(((one,), (one, less)))]
[True, False, False, (((1, 2),), ((1, 1),)), True, True, False]
>>> [behind(means, fade), mixed(means, lag, half), mixed(lag, lag, two), told(fade, (one, one, nil)), told(lag, (one, two)), weights_of(fade, 3)]
[(((1, 4), (1, 4)), ((1, 1), (-1, 2))), (((1, 4), (3, 4)), ((1, 1),)), (((0, 1), (1, 1)), ((1, 1),)), ((1, 2), (3, 4), (3, 8)), ((0, 1), (1, 1)), ((1, 2), (1, 4), (1, 8))]
'''),
    ('keeping', r'''
>>> from endtellers.keeping import keeps_ends, keeps_settling, keeps_share, straying
>>> sums, double = ((one,), (one, less)), ((two,), (one,))
>>> [keeps_settling(fade), keeps_settling(sums), keeps_settling(double), keeps_ends(fade), keeps_ends(double), straying(sums), straying(double), straying(fade)]
[True, False, True, True, False, 'pulse', 'ones', None]
>>> [keeps_share(fade, (2, 3)), keeps_share(fade, half), keeps_share(means, half)]
[True, False, True]
'''),
    ('serving', r'''
>>> from endtellers.serving import both, either, serve_alike, serves_all, stray
>>> threes = (((1, 3), (1, 3), (1, 3)), (one,))
>>> [serves_all(means, lag), serves_all(lag, means), serves_all(threes, means), serves_all(behind(means, threes), means), serve_alike(fade, lag), serve_alike(means, behind(means, fade))]
[True, False, False, True, True, True]
>>> [stray(means, lag), stray(lag, means) is None, both(means, threes), either(means, threes), both(means, means)]
[None, False, (((1, 1),), ((1, 1),)), (((1, 6), (1, 3), (1, 3), (1, 6)), ((1, 1),)), (((1, 2), (1, 2)), ((1, 1),))]
>>> both(means, sums)
raises NotFair()
'''),
    ('rows', r'''
>>> from endtellers.rows import are_same_rows, end_of, is_row, led_row, numbers_of, plain_row, row_sum, row_times, served_end, settles_by, steps_of, sums_of
>>> turn = ((one,), (one, one))
>>> ones, near, climb, twice = ((one,), (one, less)), ((two, (-3, 2)), (one, (-3, 2), half)), ((one,), (one, (-2, 1), one)), ((one,), (one, less, (1, 4)))
>>> [is_row(near), is_row(((), (one,))), is_row(((one,), (nil, one))), numbers_of(near, 4), numbers_of(turn, 3), plain_row(((one, one), (one, nil, less)))]
[True, True, False, ((2, 1), (3, 2), (5, 4), (9, 8)), ((1, 1), (-1, 1), (1, 1)), (((1, 1),), ((1, 1), (-1, 1)))]
>>> [are_same_rows(ones, ((one, one), (one, nil, less))), are_same_rows(ones, turn), row_sum(ones, turn), row_times(turn, nil), led_row(means, turn), sums_of(turn), steps_of(ones)]
[True, False, (((2, 1),), ((1, 1), (0, 1), (-1, 1))), ((), ((1, 1),)), (((1, 2),), ((1, 1),)), (((1, 1),), ((1, 1), (0, 1), (-1, 1))), (((1, 1),), ((1, 1),))]
>>> [end_of(near), end_of(turn), end_of(climb), end_of(twice), served_end(means, turn), served_end(means, climb)]
[(1, 1), None, None, (0, 1), (0, 1), None]
>>> [settles_by(near, half), settles_by(near, (1, 3)), settles_by(twice, half), settles_by(twice, (2, 3)), settles_by(turn, half)]
[True, False, False, True, False]
>>> settles_by(near, one)
raises InvalidFraction(given=(1, 1))
'''),
    ('means', r'''
>>> from endtellers.means import abel_end, cesaro_means, cesaro_order, euler_end, euler_row
>>> wild, dear = ((one,), (one, two)), ((one,), (one, two, one))
>>> [cesaro_order(near), cesaro_order(turn), cesaro_order(dear), cesaro_order(climb), cesaro_order(wild)]
[0, 1, 2, None, None]
>>> [cesaro_means(turn, 0, 2), cesaro_means(turn, 1, 4), cesaro_means(turn, 2, 3)]
[((1, 1), (-1, 1)), ((1, 1), (0, 1), (1, 3), (0, 1)), ((1, 1), (1, 3), (1, 3))]
>>> [abel_end(turn), abel_end(sums_of(turn)), abel_end(climb), abel_end(near)]
[(0, 1), (1, 2), None, (1, 1)]
>>> [euler_row(turn, one), euler_row(wild, one), euler_row(near, nil) == near, euler_end(wild, one), euler_end(wild, half), euler_end(sums_of(turn), one)]
[(((1, 1),), ((1, 1),)), (((1, 1),), ((1, 1), (1, 2))), True, (0, 1), None, (1, 2)]
>>> euler_row(turn, less)
raises InvalidFraction(given=(-1, 1))
'''),
    ('moments', r'''
>>> from endtellers.moments import alternating_place, alternating_within, best_alternating, best_weights, error_within, least_alternating, least_error, worst_place
>>> [best_weights(1, half), best_weights(2, half), best_weights(3, half), least_error(1, half), least_error(2, half), least_error(3, half)]
[((1, 1),), ((-1, 3), (4, 3)), ((1, 17), (-16, 17), (32, 17)), (1, 1), (1, 3), (1, 17)]
>>> [error_within((less, two), half, one), error_within((less, two), half, half), error_within(best_weights(3, half), half, (1, 17)), worst_place((less, two), half, one), worst_place((nil, one), half, (2, 5))[0] > 0]
[True, False, True, None, True]
>>> [best_alternating(1), best_alternating(2), least_alternating(1), least_alternating(2), alternating_within((one, (-1, 2)), (1, 8)), alternating_within((one, (-1, 2)), (1, 10))]
[((2, 3),), ((16, 17), (-8, 17)), (1, 3), (1, 17), True, False]
>>> [alternating_place((one, (-1, 2)), (1, 8)), alternating_place(best_alternating(2), (1, 17)), 0 < alternating_place((one, (-1, 2)), (1, 10))[0]]
[None, None, True]
>>> error_within((one, one), half, one)
raises InvalidWeights(index=None)
'''),
    ('weights', r'''
>>> from endtellers.weights import blind_row, calm_weights, do_tell, fewest_numbers, hiding_row, calmest_size, lifting_row, mean_weights, richardson, size_of_weights, step_kinds, telling_weights
>>> one, half, less, quarter = (1, 1), (1, 2), (-1, 1), (1, 4)
>>> fading, slant, flat = ((one, half, quarter),), ((one, half),), ((one, one),)
>>> [telling_weights(2, slant), telling_weights(2, flat), blind_row(2, flat), blind_row(2, slant), telling_weights(1, ()), fewest_numbers(3, fading), fewest_numbers(2, flat)]
[((-1, 1), (2, 1)), None, ((1, 1),), None, ((1, 1),), 2, None]
>>> [calmest_size(3, fading), calm_weights(3, fading), hiding_row(3, fading), calmest_size(2, slant), do_tell(3, fading, ((-1, 1), (2, 1), (0, 1)))]
[(5, 3), ((-1, 3), (0, 1), (4, 3)), ((5, 3), ((-8, 3),)), (3, 1), True]
>>> [mean_weights(2, ((one, less),)), lifting_row(2, ((one, less),)), mean_weights(2, slant), lifting_row(2, slant)[0][0] > 0, size_of_weights((half, (-3, 2), (2, 1)))]
[((1, 2), (1, 2)), None, None, True, (4, 1)]
>>> [richardson((one, half)), richardson((one, half, quarter)), step_kinds((one, half), 2)]
[((-1, 1), (2, 1)), ((1, 3), (-2, 1), (8, 3)), (((1, 1), (1, 2)), ((1, 1), (1, 4)))]
>>> calmest_size(2, flat)
raises NotTelling()
'''),
    ('shanks', r'''
>>> from endtellers.shanks import cell, ends_left, row_end, row_order, shanks_table, told_end, twin_ends
>>> two, three, fall = (2, 1), (3, 1), ((2, 1), (3, 2), (5, 4))
>>> [cell(fall, 1, 0), cell((one, two, three), 1, 0), cell((one, one, two), 1, 0), shanks_table(fall)]
[(1, 1), None, (1, 1), (((2, 1), (3, 2), (5, 4)), ((1, 1),))]
>>> [ends_left(fall, 1), told_end(fall, 1), ends_left(fall[:2], 1), ends_left((one, one), 1), told_end((one, two, (4, 1)), 1), ends_left((one, two, three), 1), ends_left((one, one, two), 1)]
['one', (1, 1), 'many', 'one', (0, 1), 'none', 'none']
>>> turn, steady, climb = ((one,), (one, one)), ((one,), (one, less)), ((one,), (one, (-2, 1), one))
>>> [row_order(turn), row_end(turn), row_order(steady), row_end(steady), row_order(climb), row_end(climb), row_order(((one,), (one,)))]
[1, (0, 1), 0, (1, 1), None, None, 1]
>>> first, second = twin_ends(fall[:2], 1)
>>> [row_end(first) == row_end(second), twin_ends(fall, 1), ends_left((one, two), 2)]
[False, None, 'many']
'''),
    ('certificates', r'''
>>> from endtellers.certificates import certify_counts, certify_ends, certify_keeping, certify_means, certify_row, certify_serving, certify_size, certify_telling
>>> from endtellers.checker import accepts
>>> sums, lag = ((one,), (one, less)), ((nil, one), (one,))
>>> [certify_counts((one, nil, one), one), certify_keeping(fade)[0][0], certify_keeping(sums)[0][0], certify_serving(means, lag)[1], certify_serving(lag, means)[0][0]]
[(('counts', ((1, 1), (0, 1), (1, 1)), (1, 1), (0, 2, 0)), ()), 'keeps ends', 'strays', (), 'lacks']
>>> [certify_row(near)[0][2], certify_row(turn)[0], certify_means(turn)[0][2], certify_telling(2, flat)[0][0], certify_size(2, slant)[0][3], certify_ends((one, one), 1)[0][3]]
[(1, 1), ('endless', (((1, 1),), ((1, 1), (1, 1)))), 1, 'blind', (3, 1), (1, 1)]
>>> [accepts(("strays", sums), "ones"), accepts(("strays", sums), ()), accepts(("lacks", lag, means), (turn, nil)), accepts(("lacks", means, lag), (turn, nil)), accepts(("means", turn, 0), ())]
[True, False, True, False, False]
>>> [accepts(("blind", 2, flat), (one,)), accepts(("telling", 2, slant), (less, two)), accepts(("least size", 2, slant, three), ((less, two), (three, ((-4, 1),)))), accepts(("beyond", (less, two), half, half), nil), accepts(("one end", (one, one), 1, one), ())]
[True, True, True, True, True]
'''),
]


def steps_of(session):
    """Each line that is typed, and what is shown for it."""
    steps = []
    for line in session.strip().splitlines():
        if line.startswith(">>> "):
            steps.append([line[4:], ""])
        else:
            steps[-1][1] += line
    return steps


class Sessions(unittest.TestCase):
    def test_in_order(self):
        names = {}
        for module, session in SESSIONS:
            for typed, shown in steps_of(session):
                with self.subTest(module=module, typed=typed):
                    self.run_step(names, typed, shown)

    def test_readme(self):
        text = README.read_text(encoding="utf-8").replace("```", "")
        examples = doctest.DocTestParser().get_doctest(text, {}, "README.md", None, 0)
        found = doctest.DocTestRunner(verbose=False).run(examples)
        self.assertEqual(found.failed, 0)
        self.assertGreater(found.attempted, 20)

    def run_step(self, names, typed, shown):
        """What is typed shows what the session tells; an error is shown by its class and what it keeps."""
        if shown.startswith("raises "):
            expected = eval(shown[len("raises "):], vars(errors))
            with self.assertRaises(type(expected)) as caught:
                eval(typed, names)
            self.assertEqual(vars(caught.exception), vars(expected))
        elif shown:
            self.assertEqual(repr(eval(typed, names)), shown)
        else:
            exec(typed, names)


if __name__ == "__main__":
    unittest.main()
