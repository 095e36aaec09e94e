import copy
import unittest

from regpress.errors import BadPans, BadProgram, PressError, Stuck
from regpress.programs import run
from rows import BLOCK_SPOTS, END, HUGE, NAME_SPOTS, STUCK_ROWS, TOP


def told(deeds, inputs=()):
    return run([(deeds, END)], list(inputs), 1000)[0]


def put(word, a, b):
    return told([("set", 0, a), ("set", 1, b), ("op", word, 2, 0, 1), ("tell", 2)])


def name_program(spot, name):
    deed, end = NAME_SPOTS[spot](name)
    return [([("set", 0, 5), ("set", 23, 7), deed], end), ([], END)]


def block_program(spot, number, blocks):
    start = ([("set", 0, 0), ("set", 1, 1)], BLOCK_SPOTS[spot](number))
    return [start] + [([], END)] * (blocks - 2) + [([("set", 2, 9), ("tell", 2)], END)]


def stuck_program(row):
    deed, end = STUCK_ROWS[row]
    return [([("set", 0, 1)] + ([] if deed is None else [deed]), end)]


def countdown(start):
    return [
        ([("set", 0, start), ("set", 1, 1)], ("go", 1)),
        ([("tell", 0), ("op", "minus", 0, 0, 1)], ("if", 0, 1, 2)),
        ([("tell", 0)], END),
    ]


class ProgramTest(unittest.TestCase):
    def assert_bad(self, blocks, inputs=(4, 5), most=1000):
        with self.assertRaises(BadProgram):
            run(blocks, list(inputs), most)


class TestWhatAProgramIs(ProgramTest):
    def test_number_of_blocks(self):
        for blocks in (1, 2, 11, 12):
            with self.subTest(blocks=blocks):
                self.assertEqual(run([([], END)] * blocks, [], 5), ([], 1))
        for blocks in (0, 13, 14, 20, 25):
            with self.subTest(blocks=blocks):
                self.assert_bad([([], END)] * blocks)

    def test_twelve_blocks_are_all_run(self):
        blocks = [([("set", 0, n), ("tell", 0)], ("go", n + 1)) for n in range(11)]
        blocks.append(([("set", 0, 11), ("tell", 0)], END))
        self.assertEqual(run(blocks, [], 100), (list(range(12)), 36))

    def test_number_of_deeds(self):
        deed = ("set", 0, 1)
        for deeds in (0, 1, 29, 30):
            with self.subTest(deeds=deeds):
                self.assertEqual(run([([deed] * deeds, END)], [], 100), ([], deeds + 1))
                self.assertEqual(run([([], END), ([deed] * deeds, END)], [], 100), ([], 1))
        for deeds in (31, 32, 400, 500):
            with self.subTest(deeds=deeds):
                self.assert_bad([([deed] * deeds, END)])
                self.assert_bad([([], END), ([deed] * deeds, END)])

    def test_names_at_each_spot(self):
        for spot in NAME_SPOTS:
            for name in (0, 23):
                with self.subTest(spot=spot, name=name):
                    self.assertEqual(run(name_program(spot, name), [4], 5)[1], 5)
            for name in (-1, 24, -24, 59, 60, HUGE, -HUGE):
                with self.subTest(spot=spot, name=name):
                    self.assert_bad(name_program(spot, name))

    def test_each_name_has_its_own_value(self):
        blocks = [
            ([("set", v, 100 + v) for v in range(24)], ("go", 1)),
            ([("tell", v) for v in range(24)], END),
        ]
        self.assertEqual(run(blocks, [], 100), ([100 + v for v in range(24)], 50))

    def test_block_numbers_at_each_spot(self):
        for spot in BLOCK_SPOTS:
            for blocks in (2, 3, 12):
                with self.subTest(spot=spot, blocks=blocks):
                    self.assertEqual(run(block_program(spot, blocks - 1, blocks), [], 6), ([9], 6))
                for number in (-1, blocks, blocks + 1, -blocks, HUGE, -HUGE):
                    with self.subTest(spot=spot, blocks=blocks, number=number):
                        self.assert_bad(block_program(spot, number, blocks))

    def test_block_numbers_that_are_not_gone_to(self):
        for number in (-1, 2):
            with self.subTest(number=number):
                self.assert_bad([([("set", 0, 0)], ("if", 0, number, 1)), ([], END)])
                self.assert_bad([([("set", 0, 1)], ("if", 0, 1, number)), ([], END)])

    def test_the_only_block_can_go_to_itself_alone(self):
        self.assertIsNone(run([([], ("go", 0))], [], 5))
        self.assert_bad([([], ("go", 1))])
        self.assert_bad([([], ("go", -1))])

    def test_numbers_of_inputs(self):
        self.assertEqual(told([("input", 0, 0), ("tell", 0)], [4, 5]), [4])
        for number in (-1, -2, -HUGE):
            with self.subTest(number=number):
                self.assert_bad([([("input", 0, number)], END)])

    def test_words_that_are_none(self):
        for word in ("divide", "", "Plus", "plus ", "set", "op", "move"):
            with self.subTest(word=word):
                self.assert_bad([([("set", 0, 1), ("op", word, 0, 0, 0)], END)])

    def test_deeds_that_are_none(self):
        wrong = [
            ("add", 0, 1), ("move", 0, 0), ("end",), ("go", 0), ("if", 0, 0, 0), (),
            ("set", 0), ("set", 0, 1, 2), ("input", 0), ("input", 0, 0, 0),
            ("op", "plus", 0, 0), ("op", "plus", 0, 0, 0, 0), ("tell",), ("tell", 0, 0),
        ]
        for deed in wrong:
            with self.subTest(deed=deed):
                self.assert_bad([([("set", 0, 1), deed], END)])

    def test_ends_that_are_none(self):
        wrong = [
            ("stop",), ("tell", 0), ("set", 0, 1), ("move", 0, 0), (),
            ("go",), ("go", 0, 0), ("if", 0, 0), ("if", 0, 0, 0, 0), ("end", 0),
        ]
        for end in wrong:
            with self.subTest(end=end):
                self.assert_bad([([("set", 0, 1)], end)])

    def test_what_no_run_would_come_to(self):
        wrong = [
            ([("tell", 24)], END), ([("set", -1, 0)], END), ([("op", "over", 0, 0, 0)], END),
            ([("input", 0, -1)], END), ([], ("go", 3)), ([], ("if", 0, -1, 0)), ([], ("if", 0, 0, 2)),
            ([("set", 0, 0)] * 31, END),
        ]
        for block in wrong:
            with self.subTest(block=block):
                self.assert_bad([([], END), block])

    def test_what_is_none_is_refused_ahead_of_all_else(self):
        wrong = [([("tell", 0)], ("go", 5))]
        for most in (0, -1, 1, HUGE):
            with self.subTest(most=most):
                self.assert_bad(wrong, most=most)
        self.assert_bad([([("input", 0, 3)], ("go", 5))], inputs=())
        self.assert_bad([], most=0)

    def test_it_is_bad_program_and_no_other(self):
        with self.assertRaises(PressError) as caught:
            run([], [], 5)
        self.assertNotIsInstance(caught.exception, (BadPans, Stuck))


class TestRun(ProgramTest):
    def test_nothing_but_an_end(self):
        self.assertEqual(run([([], END)], [], 1), ([], 1))

    def test_all_deeds_and_ends_count(self):
        blocks = [
            ([("input", 0, 0), ("input", 1, 1), ("op", "plus", 2, 0, 1), ("tell", 2)], ("if", 2, 2, 1)),
            ([("set", 3, 50), ("tell", 3)], ("go", 2)),
            ([("op", "times", 2, 2, 2), ("tell", 2)], END),
        ]
        self.assertEqual(run(blocks, [3, 4], 100), ([7, 49], 8))
        self.assertEqual(run(blocks, [0, 0], 100), ([0, 50, 0], 11))

    def test_interface_names(self):
        self.assertEqual(run(blocks=[([], END)], inputs=[], most=1), ([], 1))

    def test_kinds_of_what_is_told(self):
        pair = run([([("set", 0, 1), ("tell", 0)], END)], [], 5)
        self.assertIs(type(pair), tuple)
        self.assertEqual([type(part) for part in pair], [list, int])

    def test_values_by_set(self):
        for number, value in (
            (0, 0), (1, 1), (TOP, TOP), (TOP + 1, 0), (TOP + 2, 1), (-1, TOP), (-TOP, 1), (-TOP - 1, 0),
            (-TOP - 2, TOP), (HUGE, HUGE % 1000003), (-HUGE, -HUGE % 1000003),
        ):
            with self.subTest(number=number):
                self.assertEqual(told([("set", 0, number), ("tell", 0)]), [value])
                self.assertEqual(told([("input", 0, 0), ("tell", 0)], [number]), [value])

    def test_values_by_op(self):
        self.assertEqual(put("plus", 3, 4), [7])
        self.assertEqual(put("plus", TOP, 0), [TOP])
        self.assertEqual(put("plus", TOP, 1), [0])
        self.assertEqual(put("plus", TOP, TOP), [TOP - 1])
        self.assertEqual(put("minus", 7, 4), [3])
        self.assertEqual(put("minus", 4, 4), [0])
        self.assertEqual(put("minus", 4, 7), [TOP - 2])
        self.assertEqual(put("minus", 0, 1), [TOP])
        self.assertEqual(put("minus", 0, TOP), [1])
        self.assertEqual(put("times", 6, 7), [42])
        self.assertEqual(put("times", 0, TOP), [0])
        self.assertEqual(put("times", TOP, TOP), [1])
        self.assertEqual(put("times", 1000, 1001), [997])

    def test_op_on_one_name(self):
        self.assertEqual(told([("set", 0, 5), ("op", "plus", 0, 0, 0), ("tell", 0)]), [10])
        self.assertEqual(told([("set", 0, 5), ("op", "minus", 0, 0, 0), ("tell", 0)]), [0])

    def test_op_leaves_what_it_reads(self):
        deeds = [("set", 0, 8), ("set", 1, 3), ("op", "minus", 2, 0, 1), ("tell", 0), ("tell", 1), ("tell", 2)]
        self.assertEqual(told(deeds), [8, 3, 5])

    def test_if_asks_for_the_value(self):
        for number, value in ((0, 20), (1, 10), (TOP, 10), (TOP + 1, 20), (-TOP - 1, 20), (-1, 10)):
            with self.subTest(number=number):
                blocks = [
                    ([("set", 0, number)], ("if", 0, 1, 2)),
                    ([("set", 1, 10), ("tell", 1)], END),
                    ([("set", 1, 20), ("tell", 1)], END),
                ]
                self.assertEqual(run(blocks, [], 5), ([value], 5))

    def test_inputs_by_number(self):
        deeds = [("input", 0, 2), ("tell", 0), ("input", 0, 0), ("tell", 0), ("input", 0, 0), ("tell", 0)]
        self.assertEqual(told(deeds, [7, 8, 9]), [9, 7, 7])

    def test_inputs_that_are_not_there(self):
        for inputs, number in (([], 0), ([4], 1), ([4, 5], 2), ([4, 5], HUGE)):
            with self.subTest(inputs=inputs, number=number):
                with self.assertRaises(Stuck):
                    run([([("input", 0, number)], END)], inputs, 100)

    def test_names_read_without_a_value(self):
        for row in STUCK_ROWS:
            for most in (2, 3, HUGE):
                with self.subTest(row=row, most=most):
                    with self.assertRaises(Stuck):
                        run(stuck_program(row), [], most)

    def test_op_that_reads_what_it_gives(self):
        with self.assertRaises(Stuck):
            told([("op", "plus", 0, 0, 0)])

    def test_stuck_where_both_ways_are_one(self):
        with self.assertRaises(Stuck):
            run([([], ("if", 0, 1, 1)), ([], END)], [], 100)

    def test_value_given_on_one_way_alone(self):
        blocks = [
            ([("input", 0, 0)], ("if", 0, 1, 2)),
            ([("set", 1, 6)], ("go", 2)),
            ([("tell", 1)], END),
        ]
        self.assertEqual(run(blocks, [1], 100), ([6], 6))
        with self.assertRaises(Stuck):
            run(blocks, [0], 100)

    def test_stuck_is_no_other_refusal(self):
        with self.assertRaises(PressError) as caught:
            told([("tell", 0)])
        self.assertIs(type(caught.exception), Stuck)


class TestHowMany(ProgramTest):
    def test_as_many_as_asked_for(self):
        blocks = countdown(3)
        answer = ([3, 2, 1, 0], 14)
        for most in (14, 15, 1000, HUGE):
            with self.subTest(most=most):
                self.assertEqual(run(blocks, [], most), answer)
        for most in range(-2, 14):
            with self.subTest(most=most):
                self.assertIsNone(run(blocks, [], most))

    def test_an_end_is_one_more(self):
        self.assertIsNone(run([([("set", 0, 1)], END)], [], 1))
        self.assertEqual(run([([("set", 0, 1)], END)], [], 2), ([], 2))
        self.assertIsNone(run([([], ("go", 1)), ([], END)], [], 1))

    def test_one_more_is_not_looked_at(self):
        for row in STUCK_ROWS:
            with self.subTest(row=row):
                self.assertIsNone(run(stuck_program(row), [], 1))

    def test_nothing_asked_for(self):
        for most in (0, -1, -5, -HUGE):
            with self.subTest(most=most):
                self.assertIsNone(run([([], END)], [], most))
                self.assertIsNone(run([([("tell", 0)], END)], [], most))
                self.assertIsNone(run([([("input", 0, 0)], END)], [], most))
                self.assertIsNone(run([([], ("if", 0, 0, 0))], [], most))

    def test_goes_round_and_ends(self):
        for start in (1, 2, 5, 100):
            with self.subTest(start=start):
                self.assertEqual(run(countdown(start), [], 1000), (list(range(start, -1, -1)), 3 * start + 5))

    def test_goes_round_all_values_and_ends(self):
        blocks = [
            ([("set", 0, 0), ("set", 1, 1)], ("go", 1)),
            ([("op", "minus", 0, 0, 1)], ("if", 0, 1, 2)),
            ([("tell", 0)], END),
        ]
        self.assertEqual(run(blocks, [], HUGE), ([0], 3 + 2 * 1000003 + 2))

    def test_comes_to_a_block_again_with_one_other_value(self):
        blocks = [
            ([], ("go", 1)),
            ([], ("go", 2)),
            ([("set", 0, 0)], ("go", 3)),
            ([], ("if", 0, 5, 4)),
            ([("set", 0, 1)], ("go", 3)),
            ([("tell", 0)], END),
        ]
        self.assertEqual(run(blocks, [], HUGE), ([1], 10))

    def test_comes_to_a_block_again_with_one_name_more(self):
        blocks = [
            ([("input", 0, 0)], ("go", 1)),
            ([], ("if", 0, 2, 3)),
            ([("set", 1, 1), ("op", "minus", 0, 0, 1)], ("go", 1)),
            ([("tell", 1)], END),
        ]
        self.assertEqual(run(blocks, [2], HUGE), ([1], 13))

    def test_never_ends(self):
        never = [
            [([], ("go", 0))],
            [([("set", 0, 1), ("tell", 0)], ("go", 0))],
            [([("set", 0, 0)], ("if", 0, 1, 0)), ([], END)],
            [([], ("go", 1)), ([], ("go", 2)), ([], ("go", 1))],
            [([("set", 0, 1), ("set", 1, 2)], ("go", 1)), ([("op", "times", 0, 0, 1), ("tell", 0)], ("go", 1))],
        ]
        for blocks in never:
            for most in (0, 1, 2, 3, 7, 1000, HUGE):
                with self.subTest(blocks=blocks, most=most):
                    self.assertIsNone(run(blocks, [], most))

    def test_stuck_after_many_rounds(self):
        blocks = countdown(50)
        blocks[2] = ([("tell", 5)], END)
        with self.assertRaises(Stuck):
            run(blocks, [], 154)
        self.assertIsNone(run(blocks, [], 153))


class TestNothingIsChangedOrKept(ProgramTest):
    def test_handed_in_stays_as_it_was(self):
        told_all = ([("input", 0, 0), ("input", 1, 1), ("op", "plus", 0, 0, 1), ("tell", 0)], END)
        for blocks, most in (
            ([told_all], 100), ([told_all], 2), ([([("tell", 3)], END)], 100), ([told_all, ([], ("go", 9))], 100),
        ):
            inputs = [-5, 2000000]
            before = copy.deepcopy((blocks, inputs))
            with self.subTest(blocks=blocks, most=most):
                try:
                    run(blocks, inputs, most)
                except PressError:
                    pass
                self.assertEqual((blocks, inputs), before)

    def test_told_is_a_new_list_each_time(self):
        blocks = [([("input", 0, 0), ("tell", 0)], END)]
        inputs = [7]
        first = run(blocks, inputs, 100)
        second = run(blocks, inputs, 100)
        self.assertIsNot(first[0], second[0])
        self.assertIsNot(first[0], inputs)
        first[0].append(99)
        self.assertEqual(second, ([7], 3))
        self.assertEqual(run(blocks, inputs, 100), ([7], 3))
        self.assertEqual(inputs, [7])

    def test_nothing_is_told_is_a_new_list_too(self):
        first = run([([], END)], [], 1)
        first[0].append(1)
        self.assertEqual(run([([], END)], [], 1), ([], 1))

    def test_nothing_is_kept_from_run_to_run(self):
        blocks = [([("input", 0, 0), ("tell", 0)], END)]
        inputs = [7]
        run(blocks, inputs, 100)
        inputs[0] = 8
        self.assertEqual(run(blocks, inputs, 100), ([8], 3))
        blocks[0][0].append(("tell", 0))
        self.assertEqual(run(blocks, inputs, 100), ([8, 8], 4))
        with self.assertRaises(Stuck):
            run([([("tell", 0)], END)], inputs, 100)


if __name__ == "__main__":
    unittest.main()
