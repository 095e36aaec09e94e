import copy
import unittest

from regpress.codes import moves, run_code
from regpress.errors import BadPans, BadProgram, PressError, Stuck
from regpress.programs import run
from rows import BLOCK_SPOTS, END, HUGE, NAME_SPOTS, STUCK_ROWS, TOP


def told(deeds, pans=2, inputs=()):
    return run_code([(deeds, END)], pans, list(inputs), 1000)[0]


def place_code(spot, place, pans):
    deed, end = NAME_SPOTS[spot](place)
    return [([("set", 0, 5), ("set", pans - 1, 7), deed], end), ([], END)]


def block_code(spot, number, blocks):
    start = ([("set", 0, 0), ("set", 1, 1)], BLOCK_SPOTS[spot](number))
    return [start] + [([], END)] * (blocks - 2) + [([("set", 1, 9), ("tell", 1)], END)]


def stuck_code(row):
    deed, end = STUCK_ROWS[row]
    return [([("set", 0, 1), ("move", 5, 0)] + ([] if deed is None else [deed]), end)]


# In two pans: what goes round is on the shelf while the other pan is wanted.
def countdown(start):
    return [
        ([("set", 0, start), ("move", 40, 0), ("set", 1, 1), ("move", 41, 1)], ("go", 1)),
        (
            [("move", 0, 40), ("tell", 0), ("move", 1, 41), ("op", "minus", 0, 0, 1), ("move", 40, 0), ("move", 1, 40)],
            ("if", 1, 1, 2),
        ),
        ([("move", 1, 40), ("tell", 1)], END),
    ]


class CodeTest(unittest.TestCase):
    def assert_bad(self, code, pans=2, inputs=(4, 5), most=1000):
        with self.assertRaises(BadProgram):
            run_code(code, pans, list(inputs), most)

    def assert_bad_pans(self, code, pans, most=1000):
        with self.assertRaises(BadPans):
            run_code(code, pans, [], most)

    def assert_stuck(self, deeds, pans=2):
        with self.assertRaises(Stuck):
            run_code([(deeds, END)], pans, [], 1000)


class TestPans(CodeTest):
    def test_how_many_pans(self):
        for pans in (2, 3, 15, 16):
            with self.subTest(pans=pans):
                self.assertEqual(run_code([([], END)], pans, [], 1), ([], 1))
        for pans in (1, 17, 0, -1, -2, 18, 60, HUGE, -HUGE):
            with self.subTest(pans=pans):
                self.assert_bad_pans([([], END)], pans)

    def test_bad_pans_ahead_of_bad_program(self):
        wrong = [
            [], [([], END)] * 13, [([("set", 0, 0)] * 401, END)], [([("tell", 60)], END)], [([], ("go", 1))],
            [([("move", 20, 21)], END)], [([("move", 60, 0)], END)], [([("op", "over", 0, 0, 0)], END)],
            [([("input", 0, -1)], END)],
        ]
        for code in wrong:
            for pans in (1, 17, 0, -1):
                with self.subTest(code=code, pans=pans):
                    self.assert_bad_pans(code, pans)
            with self.subTest(code=code):
                self.assert_bad(code)

    def test_bad_pans_whatever_is_asked_for(self):
        self.assert_bad_pans([([], END)], 1, most=0)
        self.assert_bad_pans([([("tell", 0)], END)], 17)


class TestWhatCodeIs(CodeTest):
    def test_number_of_blocks(self):
        for blocks in (1, 2, 12):
            with self.subTest(blocks=blocks):
                self.assertEqual(run_code([([], END)] * blocks, 2, [], 5), ([], 1))
        for blocks in (0, 13, 20):
            with self.subTest(blocks=blocks):
                self.assert_bad([([], END)] * blocks)

    def test_number_of_deeds(self):
        for deeds in (31, 399, 400):
            with self.subTest(deeds=deeds):
                self.assertEqual(run_code([([("set", 0, 1)] * deeds, END)], 2, [], 1000), ([], deeds + 1))
                self.assertEqual(run_code([([("move", 0, 2)] * deeds, END)], 2, [], 1000), ([], 1))
        for deeds in (401, 402, 500):
            with self.subTest(deeds=deeds):
                self.assert_bad([([("set", 0, 1)] * deeds, END)])
                self.assert_bad([([("move", 0, 2)] * deeds, END)])
                self.assert_bad([([], END), ([("set", 0, 1)] * deeds, END)])

    def test_moves_are_among_the_deeds_of_a_block(self):
        full = [("set", 0, 1)] * 200 + [("move", 2, 0)] * 200
        self.assertEqual(run_code([(full, END)], 2, [], 1000), ([], 201))
        self.assert_bad([(full + [("move", 2, 0)], END)])
        self.assert_bad([(full + [("set", 0, 1)], END)])

    def test_pans_at_each_spot(self):
        for spot in NAME_SPOTS:
            for pans in (2, 3, 15, 16):
                for place in (0, pans - 1):
                    with self.subTest(spot=spot, pans=pans, place=place):
                        self.assertEqual(run_code(place_code(spot, place, pans), pans, [4], 5)[1], 5)

    def test_the_shelf_at_each_spot(self):
        for spot in NAME_SPOTS:
            for pans in (2, 3, 15, 16):
                for place in (pans, pans + 1, 23, 24, 59):
                    with self.subTest(spot=spot, pans=pans, place=place):
                        self.assert_bad(place_code(spot, place, pans), pans)

    def test_places_that_are_none_at_each_spot(self):
        for spot in NAME_SPOTS:
            for place in (-1, 60, HUGE, -HUGE):
                with self.subTest(spot=spot, place=place):
                    self.assert_bad(place_code(spot, place, 2))
                    self.assert_bad(place_code(spot, place, 16), 16)

    def test_places_of_moves(self):
        for place in (0, 1, 2, 15, 16, 23, 24, 59):
            with self.subTest(place=place):
                self.assertEqual(told([("set", 0, 8), ("move", place, 0), ("move", 1, place), ("tell", 1)]), [8])
        for place in (-1, 60, 61, -60, HUGE, -HUGE):
            with self.subTest(place=place):
                self.assert_bad([([("move", place, 0)], END)])
                self.assert_bad([([("move", 0, place)], END)])
                self.assert_bad([([("move", place, 59)], END)])
                self.assert_bad([([("move", 59, place)], END)])

    def test_moves_from_shelf_to_shelf(self):
        for p, q in ((2, 3), (3, 2), (2, 2), (59, 59), (59, 58), (2, 59), (59, 2)):
            with self.subTest(p=p, q=q):
                self.assert_bad([([("move", p, q)], END)])
                self.assert_bad([([], END), ([("set", 0, 1), ("move", p, q)], END)])
        self.assert_bad([([("move", 16, 17)], END)], 16)
        self.assert_bad([([("move", 59, 16)], END)], 16)

    def test_what_lies_on_the_shelf_hangs_on_the_pans(self):
        code = [([("set", 0, 6), ("move", 3, 0), ("move", 2, 3), ("move", 1, 2), ("tell", 1)], END)]
        self.assert_bad(code, 2)
        for pans in (3, 4, 16):
            with self.subTest(pans=pans):
                self.assertEqual(run_code(code, pans, [], 3), ([6], 3))

    def test_moves_from_pan_to_pan(self):
        self.assertEqual(told([("set", 0, 6), ("move", 15, 0), ("tell", 15)], 16), [6])

    def test_block_numbers_at_each_spot(self):
        for spot in BLOCK_SPOTS:
            for blocks in (2, 3, 12):
                with self.subTest(spot=spot, blocks=blocks):
                    self.assertEqual(run_code(block_code(spot, blocks - 1, blocks), 2, [], 6), ([9], 6))
                for number in (-1, blocks, blocks + 1, HUGE, -HUGE):
                    with self.subTest(spot=spot, blocks=blocks, number=number):
                        self.assert_bad(block_code(spot, number, blocks))

    def test_numbers_of_inputs(self):
        self.assertEqual(told([("input", 1, 1), ("tell", 1)], inputs=[4, 5]), [5])
        for number in (-1, -HUGE):
            with self.subTest(number=number):
                self.assert_bad([([("input", 0, number)], END)])

    def test_words_deeds_and_ends_that_are_none(self):
        wrong = [
            ("op", "divide", 0, 0, 0), ("op", "move", 0, 0, 0), ("shift", 0, 0), ("end",), ("go", 0), (),
            ("set", 0), ("tell", 0, 0), ("move", 0), ("move", 0, 0, 0), ("move",),
        ]
        for deed in wrong:
            with self.subTest(deed=deed):
                self.assert_bad([([("set", 0, 1), deed], END)])
        for end in (("move", 0, 0), ("stop",), (), ("go",), ("if", 0, 0), ("end", 0)):
            with self.subTest(end=end):
                self.assert_bad([([("set", 0, 1)], end)])

    def test_what_no_run_would_come_to(self):
        wrong = [
            ([("tell", 2)], END), ([("move", 60, 0)], END), ([("move", 2, 3)], END), ([], ("if", 2, 0, 0)),
            ([], ("go", 2)), ([("input", 0, -1)], END), ([("op", "over", 0, 0, 0)], END),
        ]
        for block in wrong:
            for most in (1000, 0, -1):
                with self.subTest(block=block, most=most):
                    self.assert_bad([([], END), block], most=most)
        self.assert_bad([([("tell", 0)], END), wrong[0]])


class TestMoves(CodeTest):
    def test_a_move_takes_the_value_along(self):
        deeds = [("set", 0, 3), ("move", 1, 0), ("tell", 1), ("tell", 0)]
        self.assertEqual(told(deeds), [3, 3])

    def test_a_move_is_from_the_last_to_the_first(self):
        self.assertEqual(told([("set", 0, 3), ("set", 1, 4), ("move", 0, 1), ("tell", 0), ("tell", 1)]), [4, 4])

    def test_a_moved_value_stays_when_its_first_place_changes(self):
        self.assertEqual(told([("set", 0, 3), ("move", 9, 0), ("set", 0, 4), ("move", 1, 9), ("tell", 1)]), [3])

    def test_a_move_of_0(self):
        self.assertEqual(told([("set", 0, 0), ("move", 9, 0), ("move", 1, 9), ("tell", 1)]), [0])

    def test_a_move_from_a_place_with_no_value(self):
        self.assertEqual(told([("move", 0, 1), ("move", 0, 9), ("move", 9, 0)]), [])
        for empty in (1, 2, 59):
            with self.subTest(empty=empty):
                self.assert_stuck([("set", 0, 3), ("move", 0, empty), ("tell", 0)])
        self.assert_stuck([("set", 0, 3), ("move", 9, 0), ("move", 9, 1), ("move", 0, 9), ("tell", 0)])

    def test_a_place_without_a_value_may_get_one_again(self):
        self.assertEqual(told([("set", 0, 3), ("move", 0, 1), ("set", 0, 4), ("tell", 0)]), [4])
        self.assertEqual(told([("set", 0, 3), ("move", 9, 0), ("move", 0, 1), ("move", 0, 9), ("tell", 0)]), [3])

    def test_a_move_of_a_pan_to_itself(self):
        self.assertEqual(told([("set", 0, 3), ("move", 0, 0), ("tell", 0)]), [3])
        self.assertEqual(told([("move", 0, 0)]), [])
        self.assert_stuck([("move", 0, 0), ("tell", 0)])


class TestRunCode(CodeTest):
    def test_code_without_moves_runs_like_a_program(self):
        blocks = [
            ([("input", 0, 0), ("input", 1, 1), ("op", "minus", 2, 0, 1), ("tell", 2)], ("if", 2, 1, 2)),
            ([("set", 3, -7), ("op", "times", 2, 2, 3), ("tell", 2)], ("go", 2)),
            ([("op", "plus", 2, 0, 1), ("tell", 2)], END),
        ]
        for inputs in ([3, 4], [4, 4], [-1, TOP], [HUGE, -HUGE]):
            for most in range(-1, 15):
                with self.subTest(inputs=inputs, most=most):
                    self.assertEqual(run_code(blocks, 4, inputs, most), run(blocks, inputs, most))

    def test_values_are_made_round(self):
        for number, value in ((-1, TOP), (TOP, TOP), (TOP + 1, 0), (HUGE, HUGE % 1000003)):
            with self.subTest(number=number):
                self.assertEqual(told([("set", 0, number), ("tell", 0)]), [value])
                self.assertEqual(told([("input", 0, 0), ("tell", 0)], inputs=[number]), [value])
        deeds = [("set", 0, TOP), ("set", 1, 2), ("op", "plus", 1, 0, 1), ("tell", 1), ("op", "times", 0, 0, 0)]
        self.assertEqual(told(deeds + [("tell", 0), ("op", "minus", 1, 1, 0), ("op", "minus", 1, 1, 0), ("tell", 1)]),
                         [1, 1, TOP])

    def test_stuck(self):
        for row in STUCK_ROWS:
            with self.subTest(row=row):
                with self.assertRaises(Stuck):
                    run_code(stuck_code(row), 2, [], 2)
                self.assertIsNone(run_code(stuck_code(row), 2, [], 1))

    def test_moves_do_not_count(self):
        code = countdown(3)
        answer = ([3, 2, 1, 0], 14)
        for most in (14, 15, 1000, HUGE):
            with self.subTest(most=most):
                self.assertEqual(run_code(code, 2, [], most), answer)
        for most in range(-2, 14):
            with self.subTest(most=most):
                self.assertIsNone(run_code(code, 2, [], most))

    def test_moves_where_no_more_deeds_are_left_to_do(self):
        many = [("move", 9, 0), ("move", 1, 9)] * 20
        self.assertEqual(run_code([(many, END)], 2, [], 1), ([], 1))
        self.assertEqual(run_code([([("set", 0, 5), ("tell", 0)] + many, END)], 2, [], 3), ([5], 3))
        self.assertEqual(run_code([([("set", 0, 5)] + many + [("tell", 1)], END)], 2, [], 3), ([5], 3))
        self.assertIsNone(run_code([([("set", 0, 5)] + many + [("tell", 1)], END)], 2, [], 2))
        self.assertIsNone(run_code([([("set", 0, 5)] + many, END)], 2, [], 1))

    def test_moves_ahead_of_what_is_not_looked_at(self):
        for most in (0, -1, -HUGE):
            with self.subTest(most=most):
                self.assertIsNone(run_code([([("move", 0, 1)], END)], 2, [], most))
                self.assertIsNone(run_code([([("move", 0, 1), ("tell", 0)], END)], 2, [], most))
                self.assertIsNone(run_code([([("move", 0, 1)], ("if", 0, 0, 0))], 2, [], most))

    def test_never_ends(self):
        never = [
            [([("move", 0, 1)], ("go", 0))],
            [([("set", 0, 1), ("move", 9, 0), ("tell", 0)], ("go", 0))],
            [([("set", 0, 1)], ("go", 1)), ([("move", 1, 0), ("move", 0, 9), ("move", 9, 1)], ("go", 1))],
        ]
        for code in never:
            for most in (0, 1, 2, 7, 1000, HUGE):
                with self.subTest(code=code, most=most):
                    self.assertIsNone(run_code(code, 2, [], most))

    def test_what_is_on_the_shelf_counts_for_whether_a_run_ends(self):
        code = [
            ([("set", 0, 1), ("move", 9, 0), ("move", 8, 0), ("set", 0, 0), ("move", 7, 0)], ("go", 1)),
            ([("move", 1, 9), ("move", 0, 8), ("move", 9, 0), ("move", 0, 7), ("move", 8, 0), ("move", 0, 3)],
             ("if", 1, 1, 2)),
            ([("tell", 1)], END),
        ]
        self.assertEqual(run_code(code, 2, [], HUGE), ([0], 8))

    def test_interface_names_and_kinds(self):
        pair = run_code(code=[([("set", 0, 1), ("tell", 0)], END)], pans=2, inputs=[], most=3)
        self.assertEqual(pair, ([1], 3))
        self.assertIs(type(pair), tuple)
        self.assertEqual([type(part) for part in pair], [list, int])


class TestHowManyMoves(unittest.TestCase):
    def test_none(self):
        self.assertEqual(moves([([], END)]), 0)
        self.assertEqual(moves([([("set", 0, 1), ("tell", 0)], ("go", 1)), ([], END)]), 0)

    def test_some(self):
        self.assertEqual(moves([([("move", 0, 0)], END)]), 1)
        self.assertEqual(moves(code=countdown(3)), 7)

    def test_the_same_move_again(self):
        self.assertEqual(moves([([("move", 9, 0)] * 400, END)] * 12), 4800)

    def test_moves_that_no_run_would_come_to(self):
        self.assertEqual(moves([([], END), ([("move", 0, 9), ("set", 1, 1), ("move", 9, 0)], END)]), 2)

    def test_code_stays_as_it_was(self):
        code = countdown(3)
        before = copy.deepcopy(code)
        moves(code)
        self.assertEqual(code, before)


class TestNothingIsChangedOrKept(unittest.TestCase):
    def test_handed_in_stays_as_it_was(self):
        fair = ([("input", 0, 0), ("move", 9, 0), ("input", 1, 1), ("op", "plus", 0, 0, 1), ("tell", 0)], END)
        for code, pans, most in (
            ([fair], 2, 100), ([fair], 2, 2), ([fair], 1, 100), ([([("move", 9, 0), ("tell", 0)], END)], 2, 100),
            ([fair, ([("move", 9, 9)], END)], 2, 100),
        ):
            inputs = [-5, 2000000]
            before = copy.deepcopy((code, inputs))
            with self.subTest(code=code, pans=pans, most=most):
                try:
                    run_code(code, pans, inputs, most)
                except PressError:
                    pass
                self.assertEqual((code, inputs), before)

    def test_told_is_a_new_list_each_time(self):
        code = [([("input", 0, 0), ("tell", 0)], END)]
        inputs = [7]
        first = run_code(code, 2, inputs, 100)
        second = run_code(code, 2, inputs, 100)
        self.assertIsNot(first[0], second[0])
        first[0].append(99)
        self.assertEqual(second, ([7], 3))
        self.assertEqual(run_code(code, 2, inputs, 100), ([7], 3))
        self.assertEqual(inputs, [7])

    def test_nothing_is_kept_from_run_to_run(self):
        run_code([([("set", 0, 5), ("move", 9, 0)], END)], 2, [], 100)
        with self.assertRaises(Stuck):
            run_code([([("move", 0, 9), ("tell", 0)], END)], 2, [], 100)
        code = [([("input", 0, 0), ("tell", 0)], END)]
        inputs = [7]
        run_code(code, 2, inputs, 100)
        inputs[0] = 8
        code[0][0].append(("tell", 0))
        self.assertEqual(run_code(code, 2, inputs, 100), ([8, 8], 4))


if __name__ == "__main__":
    unittest.main()
