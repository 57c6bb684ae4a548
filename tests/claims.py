"""Claims that are so, each with papers that are right, papers that are wrong, and claims that it excludes."""

from tests.making import NOTHING, Odd, made_of, nested, polynomial

nil, half, one, two, three, less, quarter = (0, 1), (1, 2), (1, 1), (2, 1), (3, 1), (-1, 1), (1, 4)
GREAT = 10 ** 399
means, fade, lag = ((half, half), (one,)), ((half,), (one, (-1, 2))), ((nil, one), (one,))
sums, double, wild = ((one,), (one, less)), ((two,), (one,)), ((one,), (one, two))
plainly, threes = ((one,), (one,)), (((1, 3), (1, 3), (1, 3)), (one,))
later_threes = ((nil, one, one, one), (three,))
turn, ones, climb = ((one,), (one, one)), ((one,), (one, less)), ((one,), (one, (-2, 1), one))
near, nought = ((two, (-3, 2)), (one, (-3, 2), half)), ((), (one,))
nine = (polynomial(1), made_of(*[[1, 1]] * 9))
fall, first = ((2, 1), (3, 2), (5, 4)), ((2, 1), (3, 2))
fading, slant, flat = ((one, half, quarter),), ((one, half),), ((one, one),)
parts = ((one, nil), (nil, half), (one, half))
crossing = ((one, less), (nil, nil))
best = ((1, 17), (-16, 17), (32, 17))
# Rows of the order 1 that begin with 2, 3 / 2, their ends 0 and 3 / 2; one of the order 2, and one of none.
to_nought, to_last = ((two,), (one, (-3, 4))), ((two, (-1, 2)), (one, less))
of_two, of_none = (polynomial(2, "3/2"), polynomial(1)), (polynomial(2, "-5/2"), polynomial(1, -2, 1))

SO = [
    (("counts", (one, nil, one), one, (0, 2, 0)), [()], [],
     [("counts", (one, nil, one), one, (2, 0, 0)), ("counts", (one, nil, one), one, (0, 1, 1))]),
    (("counts", (two, (-5, 1), two), one, (1, 0, 1)), [()], [],
     [("counts", (two, (-5, 1), two), one, counts)
      for counts in [(True, 0, 1), [1, 0, 1], (1, 0, 1, 0), (1, 0), (1, None, 1), (1, (0, 1), 1), 101, (1, 1, 1)]]),
    (("counts", (one,), (GREAT, 1), (0, 0, 0)), [()], [],
     [("counts", (one,), nil, (0, 0, 0)), ("counts", (one,), less, (0, 0, 0)), ("counts", (), one, (0, 0, 0)),
      ("counts", (one,), one, (False, 0, 0)), ("counts", (one,), (2, 2), (0, 0, 0))]),
    (("keeps ends", fade), [()], [], [("strays", fade)]),
    (("keeps ends", ((one, one), (two,))), [()], [], [("strays", ((one, one), (two,)))]),
    (("keeps ends", ((one, less), (one, less))), [()], [], [("strays", ((one, less), (one, less)))]),
    (("strays", sums), ["pulse", "ones"], ["pulse ", "one", "none", b"ones", ("ones",)], [("keeps ends", sums)]),
    (("strays", wild), ["pulse", "ones"], [], [("keeps ends", wild)]),
    (("strays", double), ["ones"], ["pulse"], [("keeps ends", double)]),
    (("strays", ((one, less), (one,))), ["ones"], ["pulse"], [("keeps ends", ((one, less), (one,)))]),
    (("serves all", means, lag), [()], [(turn, nil)], [("lacks", means, lag)]),
    (("serves all", threes, later_threes), [()], [], [("lacks", threes, later_threes)]),
    (("lacks", lag, means), [(turn, nil), (((two,), (one, one)), nil), (((one, two), made_of([1, 1], [1, 2])), nil)],
     [(turn, (False, 1)), (turn, Odd()), (Odd(), nil), ((Odd(), Odd()), nil), (turn, one), (turn,), (turn, nil, nil),
      [turn, nil], (turn, (0, 2)), (turn, 0), (turn, None), (near, one),
      (climb, nil), (climb, None), (((one,), (nil, one)), nil), (nil, turn), (None, nil), turn, nil],
     [("serves all", lag, means)]),
    (("lacks", double, plainly), [(ones, one), (near, one)], [(near, two), (nought, nil), (plainly, nil), (turn, nil)],
     [("serves all", double, plainly)]),
    (("lacks", sums, plainly), [(plainly, nil), (ones, one), (((nil, nil, three), (one,)), nil)],
     [(nought, nil), (((one, less), (one,)), nil)], [("serves all", sums, plainly)]),
    (("ends", near, one), [()], [],
     [("endless", near), ("ends", near, nil), ("ends", near, (2, 2)), ("ends", near, 1), ("ends", near, None),
      ("ends", near, (True, 1)), ("ends", near, (1, True))]),
    (("ends", nought, nil), [()], [], [("endless", nought), ("ends", nought, one), ("ends", nought, ())]),
    (("endless", turn), [()], [], [("ends", turn, nil), ("ends", turn, None), ("ends", turn, one)]),
    (("endless", climb), [()], [], [("ends", climb, None), ("ends", climb, (GREAT, 1))]),
    (("means", turn, 1), [()], [],
     [("means", turn, 0), ("means", turn, 2), ("means", turn, True), ("no means", turn), ("means", turn, None)]),
    (("means", near, 0), [()], [], [("means", near, False), ("means", near, 1), ("no means", near),
                                    ("means", near, -1)]),
    (("means", nine, 9), [()], [], [("no means", nine), ("means", nine, 8), ("means", nine, (9, 1))]),
    (("no means", climb), [()], [], [("means", climb, 0), ("means", climb, 2), ("means", climb, None)]),
    (("no means", wild), [()], [], [("means", wild, 1), ("means", wild, None)]),
    (("within", (less, two), half, one), [()], [nil, half], [("beyond", (less, two), half, one)]),
    (("within", best, half, (1, 17)), [()], [nil, half, quarter], [("beyond", best, half, (1, 17))]),
    (("beyond", (less, two), half, half), [nil, (1, 100), (6, 25)],
     [quarter, half, (1, 3), (-1, 100), two, one, (0, 2), (2, 200), (nil,), 0, [0, 1]],
     [("within", (less, two), half, half)]),
    (("beyond", (nil, one), half, (2, 5)), [half, (9, 20), (41, 100)], [(2, 5), nil, (51, 100), one, (-9, 20)],
     [("within", (nil, one), half, (2, 5))]),
    (("beyond", (one,), half, nil), [nil, half, quarter, (1, GREAT)], [one, (-1, GREAT), (51, 100)],
     [("within", (one,), half, nil)]),
    (("alternating within", (one, (-1, 2)), (1, 8)), [()], [half], [("alternating beyond", (one, (-1, 2)), (1, 8))]),
    (("alternating within", (nil,), one), [()], [half, one], [("alternating beyond", (nil,), one)]),
    (("alternating beyond", (one, (-1, 2)), (1, 10)), [half, (2, 5), (3, 5)],
     [nil, one, (1, 10), (-1, 2), two, (2, 4), (half,), 1], [("alternating within", (one, (-1, 2)), (1, 10))]),
    (("alternating beyond", (two, two), one), [one, half, quarter], [nil, (5, 4), less],
     [("alternating within", (two, two), one)]),
    (("alternating beyond", (nil,), half), [nil, one, half], [(-1, 2), (-1, GREAT), (3, 2), (GREAT + 1, GREAT)],
     [("alternating within", (nil,), half)]),
    (("telling", 2, slant), [(less, two)], [(two, less), (less, (2, True)), (less, Odd()), (less, two, nil), (less,),
                                            [less, two], (-1, 2), (less, (4, 2))],
     [("blind", 2, slant)]),
    (("telling", 3, fading), [(less, two, nil), ((-1, 3), nil, (4, 3)), (nil, less, two)],
     [(one, nil, nil), (nil,) * 3],
     [("blind", 3, fading)]),
    (("telling", 1, ()), [(one,)], [(two,), (one, nil), one], [("blind", 1, ())]),
    (("telling", 2, ((nil, nil),) * 6), [(one, nil), (half, half), (two, less)], [(nil, nil), (nil,) * 6],
     [("blind", 2, ((nil, nil),) * 6)]),
    (("blind", 2, flat), [(one,)], [(nil,), (two,), (one, nil), one, [one], ((2, 2),), (1,), ((True, 1),), (Odd(),)],
     [("telling", 2, flat)]),
    (("blind", 2, parts), [(one, two, nil), (two, three, less), (nil, one, one)],
     [(one, one, nil), (one, two), (one, two, nil, nil), (one, two, 0), (nil, nil, nil), ((1, 1), (2, 1), (0, 2))],
     [("telling", 2, parts)]),
    (("least size", 2, slant, three), [((less, two), (three, ((-4, 1),)))],
     [((three, ((-4, 1),)), (less, two)), ((less, two), (two, ((-4, 1),))), ((less, two), (three, (less,))),
      ((less, two), (three, ())), ((less, two), (three, ((-4, 1), nil))), ((less, two), three), ((less, two),),
      ((two, less), (three, ((-4, 1),))), ((less, two), ((6, 2), ((-4, 1),))), ((less, two), [three, ((-4, 1),)]),
      ((less, two), (three, ((-4, 1),)), ()), ((less, two), (three, [(-4, 1)])), ([less, two], (three, ((-4, 1),)))],
     [("least size", 2, slant, two), ("least size", 2, slant, one), ("least size", 2, slant, (5, 1)),
      ("least size", 2, slant, 3), ("least size", 2, slant, (6, 2)), ("blind", 2, slant)]),
    (("least size", 3, fading, (5, 3)), [(((-1, 3), nil, (4, 3)), ((5, 3), ((-8, 3),)))],
     [((less, two, nil), ((5, 3), ((-8, 3),))), (((-1, 3), nil, (4, 3)), ((5, 3), ((-2, 1),))),
      ((less, two, nil), (three, ((-8, 3),)))],
     [("least size", 3, fading, three), ("least size", 3, fading, one)]),
    (("least size", 2, (), one), [((one, nil), (one, ())), ((half, half), (one, ()))],
     [((two, less), (one, ())), ((one, nil), ((True, 1), ())), (((True, 1), nil), (one, ())), ((one, nil), (Odd(), ())),
      (Odd(), (one, ())), ((one, nil), Odd()), ((Odd(), nil), (one, ()))],
     [("least size", 2, (), two), ("least size", 2, (), (True, 1)), ("least size", True, (), one),
      ("least size", 2, (), three), ("least size", 2, (), half)]),
    (("least size", 2, crossing, one), [((half, half), (one, (nil, nil))), ((half, half), (one, (nil, (GREAT, 7))))],
     [((half, half), (one, (one, nil))), ((half, half), (one, (nil,)))], [("least size", 2, crossing, half)]),
    (("one end", (one, one), 1, one), [()], [(ones, ones)],
     [("no end", (one, one), 1), ("many ends", (one, one), 1), ("one end", (one, one), 1, nil),
      ("one end", (one, one), 1, None), ("one end", (one, one), 1, (True, 1)), ("one end", (one, one), True, one),
      ("one end", (one, one), 1, 1)]),
    (("one end", fall, 1, one), [()], [], [("one end", fall, 1, two), ("no end", fall, 1), ("many ends", fall, 1)]),
    (("no end", (one, one, two), 1), [()], [],
     [("one end", (one, one, two), 1, one), ("many ends", (one, one, two), 1), ("one end", (one, one, two), 1, None),
      ("no end", (one, one, two), True)]),
    (("many ends", first, 1), [(near, to_nought), (to_nought, near), (to_last, near), (to_nought, to_last)],
     [(near, near), (near,), (near, to_nought, to_last), [near, to_nought], (near, ones), (ones, near), (near, of_two),
      (of_two, near), (near, of_none), (of_none, near), (near, None), (None, near), near, (near, nought), (one, nil)],
     [("one end", first, 1, one), ("no end", first, 1), ("one end", first, 1, nil), ("one end", first, 1, None)]),
    (("many ends", first, 2), [(near, of_two), (of_two, to_last)], [(of_two, to_nought), (near, of_none)],
     [("one end", first, 2, one), ("no end", first, 2), ("one end", first, 2, nil)]),
]

# No claims, whatever paper stands beside them.
NO_CLAIMS = NOTHING + [
    (), 0, 1, True, "counts", ("counts",), ("",), ("keeps",), ("keeps ends ", fade), ("Keeps ends", fade),
    ("keeps_ends", fade), (b"keeps ends", fade), (None, fade), ([], fade), (("keeps ends",), fade), ("keeps ends",),
    (fade, "keeps ends"), ("keeps ends", fade, ()), ("tells", fade), ("serves", means, lag), ["keeps ends", fade],
    ("worst", (one,), half, one), ("keeps ends", [fade[0], fade[1]]), ("keeps ends", nested(13)),
    ("strays", nested(13)),
    ("within", (one, one), half, one), ("beyond", (one, one), half, half), ("beyond", (two,), half, one),
    ("within", (one,), one, one), ("within", (one,), nil, one), ("within", (one,), half, less),
    ("beyond", (one,), one, half), ("beyond", (one,), half, less), ("beyond", (one,), half, (-1, 2)),
    ("within", (nil,) * 9 + (one,), half, one), ("within", (), half, one), ("beyond", (nil,) * 9 + (one,), half, nil),
    ("alternating within", (), one), ("alternating within", (one,) * 10, (GREAT, 1)),
    ("alternating within", (one,), less), ("alternating beyond", (two,) * 10, one),
    ("alternating beyond", (two,), less),
    ("alternating beyond", (), nil), ("telling", 0, ()), ("telling", 11, ()), ("telling", True, ()),
    ("telling", 2, slant * 7), ("telling", 2, [slant[0]]), ("telling", 2, fading), ("telling", 3, slant),
    ("blind", 2, flat * 7), ("blind", 0, ()), ("blind", True, ((one,),)), ("blind", 11, ((one,) * 11,)),
    ("blind", 2, [(one, one)]), ("least size", 2, slant * 7, three), ("least size", True, (), one),
    ("least size", 0, (), one), ("least size", 11, (), one), ("least size", 2, flat, one), ("one end", (), 0, one),
    ("one end", (one,) * 14, 1, one), ("one end", (one,) * 13, 6, one), ("one end", (one, one), -1, one),
    ("one end", [one, one], 1, one), ("no end", (one, two) * 7, 0), ("no end", (), 0), ("no end", (one, two), -1),
    ("no end", (one, two), False), ("many ends", first, 6), ("many ends", (), 1), ("many ends", (one,) * 14, 5),
    ("many ends", first, True), ("many ends", [two, (3, 2)], 1), ("many ends", first, -1),
    ("ends", ((one,), (nil, one)), nil), ("endless", ((one,), (nil, one))), ("endless", ()), ("no means", ()),
    ("means", ((), ()), 0), ("strays", nought), ("keeps ends", nought), ("lacks", nought, means),
    ("lacks", lag, nought),
    ("serves all", means, nought), ("serves all", nought, nought), ("endless", turn, nil), ("no means", climb, 1),
]

# All papers of this file, right for some claims, and values that are papers for none.
PAPERS = [paper for _, rights, wrongs, _ in SO for paper in rights + wrongs] + NOTHING + [
    (), "pulse", "ones", 0, 1, True, False, ((),), [()], "", ((), ()), (nil, nil), (turn, turn), nested(13),
]
