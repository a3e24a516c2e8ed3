"""What can't be a part of a picture, or a picture, of a machine of two letters and three rooms."""

NO_FOURS = (None, 0, True, "four", [], (), ((0, 0), (None,) * 3, (0,) * 3), [(0, 0), (None,) * 3, (0,) * 3, ()],
            ((0, 0), (None,) * 3, (0,) * 3, (), ()))
NO_PARTS = {
    0: (None, 0, True, [0, 0], "00", (0, -1), (-1, 0), (0, 100), (100, 0), (0, True), (False, 0), (0, None), (0, "0"),
        (0, (0,)), (0, [])),
    1: (None, 0, True, [None] * 3, "---", (None, None, 3), (3, None, None), (None, -1, None), (None, True, None),
        (None, None, False), (0, 0, "0"), ((), None, None), (None, [], None), (40, 0, 0)),
    2: (None, 0, True, [0] * 3, "000", (0, 0, -1), (-1, 0, 0), (0, 10000, 0), (0, 0, 10000), (0, 0, None), (None, 0, 0),
        (0, True, 0), (0, 0, "0"), ((), 0, 0), ([], 0, 0)),
    3: (None, 0, True, [], [(0, 0)], "", (None,) * 4001, ((0, 0),) * 4001, (0,), (None, "--"), ((),), ((0,),),
        ((0, 0, 0),), ([0, 0],), ((0, 0), [0, 0]), ((3, 0),), (None, None, (3, None)), ((-1, 0),), ((None, 0),),
        ((None, None),), ((True, 0),), ((False, 0),), (("0", 0),), ((0, 3),), ((0, -1),), ((0, True),), ((0, False),),
        ((0, "0"),), ((0, (0,)),), ((0, 0), None, (2, 40)), (None, (0, 0), True), (None, False), ((0, []),)),
}
# Such as can't be for this machine only.
OTHER_COUNTS = {0: ((), (0,), (0, 0, 0)), 1: ((), (None,) * 2, (None,) * 4), 2: ((), (0,) * 2, (0,) * 4)}
# One that can be.
PARTS = ((0, 1), (None, 0, None), (0, 2, 4), ((0, 1), None, None, (1, None)))


def with_part(part, worth, parts=PARTS):
    return tuple(worth if at == part else one for at, one in enumerate(parts))
