"""The functions that the interface lists, each with right arguments by name, in the order of its signature."""

from endtellers import (
    certificates, checker, discs, keeping, means, moments, polynomials, rows, serving, shanks, tellers, weights,
)

nil, half, one, two, less = (0, 1), (1, 2), (1, 1), (2, 1), (-1, 1)
some, more = (one, two), (one, (3, 1), two)
mean, fade = ((half, half), (one,)), ((half,), (one, (-1, 2)))
near, turn = ((two, (-3, 2)), (one, (-3, 2), half)), ((one,), (one, one))
fall, kinds, best = (two, (3, 2), (5, 4)), ((one, half, (1, 4)),), (less, two)
of_kinds = {"number": 3, "kinds": kinds}

LISTED = {
    polynomials: {
        "is_polynomial": {"value": some}, "value_at": {"polynomial": some, "fraction": half},
        "product": {"polynomial": some, "other": more}, "common_part": {"polynomial": some, "other": more},
    },
    discs: {
        "disc_counts": {"polynomial": more, "fraction": half}, "least_size": {"polynomial": more, "many": 10},
        "often_on": {"polynomial": more, "fraction": half},
    },
    tellers: {
        "is_teller": {"value": fade}, "plain": {"teller": fade}, "are_alike": {"teller": fade, "other": mean},
        "is_fair": {"teller": fade}, "behind": {"teller": fade, "other": mean},
        "mixed": {"teller": fade, "other": mean, "fraction": half}, "told": {"teller": fade, "numbers": fall},
        "weights_of": {"teller": fade, "number": 5},
    },
    keeping: {
        "keeps_settling": {"teller": fade}, "keeps_ends": {"teller": fade},
        "keeps_share": {"teller": fade, "fraction": half}, "straying": {"teller": fade},
    },
    serving: {
        name: {"teller": fade, "other": mean} for name in ("serves_all", "serve_alike", "stray", "both", "either")
    },
    rows: {
        "is_row": {"value": near}, "plain_row": {"row": near}, "numbers_of": {"row": near, "number": 5},
        "are_same_rows": {"row": near, "other": turn}, "row_sum": {"row": near, "other": turn},
        "row_times": {"row": near, "fraction": half}, "led_row": {"teller": mean, "row": near},
        "sums_of": {"row": near}, "steps_of": {"row": near}, "end_of": {"row": near},
        "settles_by": {"row": near, "fraction": half}, "served_end": {"teller": mean, "row": turn},
    },
    means: {
        "cesaro_means": {"row": near, "order": 2, "number": 5}, "cesaro_order": {"row": turn},
        "abel_end": {"row": turn}, "euler_row": {"row": turn, "fraction": half},
        "euler_end": {"row": turn, "fraction": half},
    },
    moments: {
        "error_within": {"weights": best, "top": half, "fraction": one},
        "worst_place": {"weights": best, "top": half, "fraction": half}, "best_weights": {"number": 3, "top": half},
        "least_error": {"number": 3, "top": half}, "alternating_within": {"weights": best, "fraction": half},
        "alternating_place": {"weights": best, "fraction": half}, "best_alternating": {"number": 3},
        "least_alternating": {"number": 3},
    },
    weights: {
        "size_of_weights": {"weights": best}, "do_tell": {**of_kinds, "weights": (nil, less, two)},
        "telling_weights": of_kinds, "blind_row": of_kinds, "fewest_numbers": of_kinds, "calmest_size": of_kinds,
        "calm_weights": of_kinds, "hiding_row": of_kinds, "mean_weights": of_kinds, "lifting_row": of_kinds,
        "richardson": {"steps": (one, half)}, "step_kinds": {"steps": (one, half), "many": 2},
    },
    shanks: {
        "cell": {"numbers": fall, "order": 1, "index": 0}, "shanks_table": {"numbers": fall},
        "ends_left": {"numbers": fall, "order": 1}, "told_end": {"numbers": fall, "order": 1},
        "twin_ends": {"numbers": fall, "order": 2}, "row_order": {"row": near}, "row_end": {"row": near},
    },
    checker: {"accepts": {"claim": ("ends", near, one), "paper": ()}},
    certificates: {
        "certify_counts": {"polynomial": more, "fraction": half}, "certify_keeping": {"teller": fade},
        "certify_serving": {"teller": fade, "other": mean}, "certify_row": {"row": near},
        "certify_means": {"row": turn}, "certify_within": {"weights": best, "top": half, "fraction": half},
        "certify_alternating": {"weights": best, "fraction": half}, "certify_telling": of_kinds,
        "certify_size": of_kinds, "certify_ends": {"numbers": fall, "order": 2},
    },
}
