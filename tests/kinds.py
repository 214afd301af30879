"""Values of many kinds, for the functions that answer for every value."""

ODD_VALUES = (
    True, False, None, 0, 1, -1, 7, 10 ** 70, 1.0, "", "a", "ann", "1", "7/8", b"ann", (), (1,), (1, 2), (2, 4), (0, 2),
    (True, 1), (1, True), (1, None), ("ann",), ("ann", "bob"), (1, 2, 3), (1, "2"), ((1, 2),), ((1, 2), (3, 4)),
    [], [1, 2], ["ann"], [()], {}, {1: 2}, set(), object(), ((),), (None, None, None), (0, None, None), [0, None, None],
)
