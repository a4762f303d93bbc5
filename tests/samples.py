"""Houses that the tests use: pairs of a text and the fields that it writes."""

LEAST = ("good a member b", (("a",), (("b", ()),), (), (), ()))

USUAL = (
    "good wood good nail"
    " member ann has wood 2 member bob member cyd has nail 10 has wood 0"
    " talk ann cyd talk ann bob"
    " recipe box cost 1 times 4 needs cyd needs ann takes nail 3 takes wood 1"
    " recipe nail cost 0 times 1 gives nail 9999"
    " order desk pays 12 takes wood 2 order ann pays 9 takes nail 4 takes wood 0",
    (
        ("wood", "nail"),
        (("ann", ((0, 2),)), ("bob", ()), ("cyd", ((1, 10), (0, 0)))),
        ((0, 2), (0, 1)),
        (
            ("box", 1, 4, (2, 0), ((1, 3), (0, 1)), ()),
            ("nail", 0, 1, (), (), ((1, 9999),)),
        ),
        (("desk", 12, ((0, 2),)), ("ann", 9, ((1, 4), (0, 0)))),
    ),
)

GREATEST = (
    "good a good bbbbbbbb good z good zzzzzzzz"
    " member a has a 9999 has bbbbbbbb 0 has z 1 has zzzzzzzz 10"
    " member bbbbbbbb has zzzzzzzz 0 has z 9 has bbbbbbbb 99 has a 999"
    " member c member d has z 9999 member e"
    " talk a bbbbbbbb talk a c talk a d talk a e talk bbbbbbbb c"
    " talk bbbbbbbb d talk bbbbbbbb e talk c d talk c e talk d e"
    " recipe a cost 9999 times 4 needs e needs a"
    " takes a 1 takes bbbbbbbb 2 takes z 3 takes zzzzzzzz 4"
    " gives zzzzzzzz 5 gives z 6 gives bbbbbbbb 7 gives a 9999"
    " recipe bbbbbbbb cost 0 times 1"
    " recipe c cost 10 times 3 needs a takes z 0 gives z 0"
    " order a pays 9999 takes zzzzzzzz 1 takes z 2 takes bbbbbbbb 0 takes a 9999"
    " order bbbbbbbb pays 0 takes a 0 order z pays 1 takes z 1 order e pays 10 takes a 1",
    (
        ("a", "bbbbbbbb", "z", "zzzzzzzz"),
        (
            ("a", ((0, 9999), (1, 0), (2, 1), (3, 10))),
            ("bbbbbbbb", ((3, 0), (2, 9), (1, 99), (0, 999))),
            ("c", ()),
            ("d", ((2, 9999),)),
            ("e", ()),
        ),
        ((0, 1), (0, 2), (0, 3), (0, 4), (1, 2), (1, 3), (1, 4), (2, 3), (2, 4), (3, 4)),
        (
            ("a", 9999, 4, (4, 0), ((0, 1), (1, 2), (2, 3), (3, 4)), ((3, 5), (2, 6), (1, 7), (0, 9999))),
            ("bbbbbbbb", 0, 1, (), (), ()),
            ("c", 10, 3, (0,), ((2, 0),), ((2, 0),)),
        ),
        (
            ("a", 9999, ((3, 1), (2, 2), (1, 0), (0, 9999))),
            ("bbbbbbbb", 0, ((0, 0),)),
            ("z", 1, ((2, 1),)),
            ("e", 10, ((0, 1),)),
        ),
    ),
)

# A good, a member, a recipe and an order share a name.
SHARED = (
    "good x member x recipe x cost 0 times 2 needs x takes x 0 gives x 9999 order x pays 0 takes x 9999",
    (
        ("x",),
        (("x", ()),),
        (),
        (("x", 0, 2, (0,), ((0, 0),), ((0, 9999),)),),
        (("x", 0, ((0, 9999),)),),
    ),
)

# Talks stand in the order of the text, and the last of five members talks with the first one only.
TALKS = (
    "good g member a member b member c member d member e talk c d talk a e talk a c",
    (("g",), (("a", ()), ("b", ()), ("c", ()), ("d", ()), ("e", ())), ((2, 3), (0, 4), (0, 2)), (), ()),
)

SAMPLES = (LEAST, USUAL, GREATEST, SHARED, TALKS)
