import copy
import unittest

from makers import made_program, names_of
from regpress.errors import BadPans, BadProgram, PressError, Stuck
from regpress.lives import living
from rows import BLOCK_SPOTS, END, HUGE, NAME_SPOTS


# One name at a time, along the ways, ahead: another road than the one that the program takes.
def is_wanted(blocks, number, name):
    seen = set()
    ahead = [number]
    while ahead:
        at = ahead.pop()
        if at in seen:
            continue
        seen.add(at)
        deeds, end = blocks[at]
        found = first_use(deeds + [end], name)
        if found == "read":
            return True
        if found is None:
            ahead.extend({"go": end[1:2], "if": end[2:4], "end": ()}[end[0]])
    return False


def first_use(rows, name):
    for row in rows:
        if name in {"op": row[3:], "tell": row[1:], "if": row[1:2]}.get(row[0], ()):
            return "read"
        if name in {"set": row[1:2], "input": row[1:2], "op": row[2:3]}.get(row[0], ()):
            return "given"
    return None


class TestLiving(unittest.TestCase):
    def assert_bad(self, blocks):
        with self.assertRaises(BadProgram):
            living(blocks)

    def test_nothing_is_wanted(self):
        self.assertEqual(living([([], END)]), [[]])
        self.assertEqual(living([([], END)] * 12), [[]] * 12)
        self.assertEqual(living([([("set", 0, 1), ("input", 1, 0)], ("go", 1)), ([], END)]), [[], []])

    def test_each_kind_of_read(self):
        for rows, end, names in (
            ([("tell", 3)], END, [3]),
            ([("op", "plus", 1, 2, 3)], END, [2, 3]),
            ([("op", "plus", 1, 3, 2)], END, [2, 3]),
            ([("op", "times", 1, 2, 2)], END, [2]),
            ([], ("if", 5, 0, 0), [5]),
            ([("set", 1, 4)], END, []),
            ([("input", 1, 4)], END, []),
            ([], ("go", 0), []),
        ):
            with self.subTest(rows=rows, end=end):
                self.assertEqual(living([(rows, end)]), [names])

    def test_each_kind_of_giving(self):
        for deed in (("set", 3, 1), ("input", 3, 0), ("op", "plus", 3, 4, 4)):
            with self.subTest(deed=deed):
                self.assertNotIn(3, living([([deed, ("tell", 3)], END)])[0])
                self.assertNotIn(3, living([([deed], ("if", 3, 0, 0))])[0])
                self.assertIn(3, living([([("tell", 3), deed], END)])[0])

    def test_numbers_and_inputs_and_blocks_are_no_names(self):
        self.assertEqual(living([([("set", 1, 7), ("input", 2, 9)], ("go", 0))]), [[]])
        self.assertEqual(living([([], ("if", 5, 1, 2)), ([], END), ([], END)]), [[5], [], []])

    def test_read_and_given_in_the_same_deed(self):
        self.assertEqual(living([([("op", "plus", 2, 2, 2)], END)]), [[2]])
        self.assertEqual(living([([("op", "plus", 2, 2, 3)], END)]), [[2, 3]])
        self.assertEqual(living([([("op", "plus", 2, 3, 2)], END)]), [[2, 3]])
        self.assertEqual(living([([("set", 2, 1), ("op", "plus", 2, 2, 2)], END)]), [[]])
        self.assertEqual(living([([("op", "plus", 2, 3, 3), ("tell", 2)], END)]), [[3]])

    def test_a_name_read_in_an_end(self):
        self.assertEqual(living([([], ("if", 23, 1, 1)), ([], END)]), [[23], []])
        self.assertEqual(living([([("set", 23, 0)], ("if", 23, 1, 1)), ([], END)]), [[], []])
        self.assertEqual(living([([], ("go", 1)), ([], ("if", 7, 2, 2)), ([], END)]), [[7], [7], []])

    def test_blocks_in_a_row(self):
        blocks = [
            ([("set", 0, 1)], ("go", 1)),
            ([("set", 1, 2)], ("go", 2)),
            ([("op", "plus", 2, 0, 1)], ("go", 3)),
            ([("tell", 2), ("tell", 0)], END),
        ]
        self.assertEqual(living(blocks), [[], [0], [0, 1], [0, 2]])

    def test_blocks_in_a_long_row_either_way_round(self):
        on = [([], ("go", n + 1)) for n in range(11)] + [([("tell", 9)], END)]
        self.assertEqual(living(on), [[9]] * 12)
        back = [([("tell", 9)], END)] + [([], ("go", n)) for n in range(11)]
        self.assertEqual(living(back), [[9]] * 12)

    def test_branches(self):
        blocks = [
            ([("input", 0, 0)], ("if", 0, 1, 2)),
            ([("tell", 4)], ("go", 3)),
            ([("set", 5, 1), ("tell", 6)], ("go", 3)),
            ([("tell", 5)], END),
        ]
        self.assertEqual(living(blocks), [[4, 5, 6], [4, 5], [6], [5]])

    def test_wanted_on_one_way_is_wanted(self):
        for ends in (("if", 0, 1, 2), ("if", 0, 2, 1)):
            blocks = [([("set", 0, 0)], ends), ([("tell", 8)], END), ([("set", 8, 1), ("tell", 8)], END)]
            with self.subTest(ends=ends):
                self.assertEqual(living(blocks), [[8], [8], []])

    def test_given_on_both_ways_is_not_wanted(self):
        blocks = [
            ([("set", 0, 0)], ("if", 0, 1, 2)),
            ([("set", 1, 1)], ("go", 3)),
            ([("set", 1, 2)], ("go", 3)),
            ([("tell", 1)], END),
        ]
        self.assertEqual(living(blocks), [[], [], [], [1]])

    def test_blocks_that_go_round(self):
        blocks = [
            ([("set", 0, 9), ("set", 1, 1)], ("go", 1)),
            ([("op", "minus", 0, 0, 1)], ("if", 0, 2, 3)),
            ([], ("go", 1)),
            ([("tell", 2)], END),
        ]
        self.assertEqual(living(blocks), [[2], [0, 1, 2], [0, 1, 2], [2]])

    def test_wanted_only_the_next_time_round(self):
        blocks = [
            ([("set", 0, 1)], ("go", 1)),
            ([], ("go", 2)),
            ([("tell", 0)], ("go", 3)),
            ([("set", 1, 2)], ("if", 1, 1, 4)),
            ([], END),
        ]
        self.assertEqual(living(blocks), [[], [0], [0], [0], []])

    def test_a_block_that_goes_to_itself(self):
        self.assertEqual(living([([("tell", 3), ("set", 4, 1)], ("go", 0))]), [[3]])
        self.assertEqual(living([([("set", 3, 1), ("tell", 3)], ("go", 0))]), [[]])
        self.assertEqual(living([([("set", 4, 1)], ("go", 1)), ([], ("if", 4, 1, 1))]), [[], [4]])

    def test_rounds_that_never_read(self):
        self.assertEqual(living([([], ("go", 1)), ([("set", 1, 1)], ("go", 0))]), [[], []])

    def test_blocks_that_are_never_come_to(self):
        blocks = [
            ([], END),
            ([("tell", 5)], ("go", 2)),
            ([("tell", 6), ("set", 5, 1)], ("go", 1)),
            ([], ("go", 1)),
        ]
        self.assertEqual(living(blocks), [[], [5, 6], [6], [5, 6]])

    def test_a_way_from_a_block_that_is_never_come_to(self):
        self.assertEqual(living([([("set", 1, 1)], ("go", 2)), ([], ("go", 2)), ([("tell", 1)], END)]), [[], [1], [1]])

    def test_a_way_that_no_value_would_take_is_a_way(self):
        blocks = [([("set", 0, 1)], ("if", 0, 1, 2)), ([], END), ([("tell", 7)], END)]
        self.assertEqual(living(blocks), [[7], [], [7]])

    def test_the_lists_rise(self):
        deeds = [("tell", v) for v in (23, 2, 11, 0, 10, 9, 22, 1, 11)]
        self.assertEqual(living([(deeds, END)]), [[0, 1, 2, 9, 10, 11, 22, 23]])
        blocks = [([("tell", 12)], ("if", 3, 1, 2)), ([("tell", 20)], END), ([("tell", 1)], END)]
        self.assertEqual(living(blocks), [[1, 3, 12, 20], [20], [1]])
        everything = [([("tell", v) for v in reversed(range(24))], END)]
        self.assertEqual(living(everything), [list(range(24))])

    def test_made_up_programs(self):
        for seed in range(400):
            blocks = made_program(seed, names=4 + seed % 3, blocks=6)
            names = sorted(names_of(blocks))
            wanted = [[v for v in names if is_wanted(blocks, n, v)] for n in range(len(blocks))]
            with self.subTest(seed=seed):
                self.assertEqual(living(blocks), wanted)

    def test_kinds_and_interface_names(self):
        lists = living(blocks=[([("tell", 1)], ("go", 1)), ([], END)])
        self.assertIs(type(lists), list)
        self.assertEqual([type(names) for names in lists], [list, list])
        self.assertIs(type(lists[0][0]), int)

    def test_number_of_blocks_and_deeds(self):
        for wrong in ([], [([], END)] * 13, [([], END)] * 20, [([("set", 0, 1)] * 31, END)],
                      [([], END), ([("set", 0, 1)] * 500, END)]):
            with self.subTest(blocks=len(wrong)):
                self.assert_bad(wrong)
        self.assertEqual(living([([("tell", 0)] * 30, END)] * 12), [[0]] * 12)

    def test_names_that_are_none(self):
        for spot, made in NAME_SPOTS.items():
            for name in (-1, 24, HUGE, -HUGE):
                deed, end = made(name)
                with self.subTest(spot=spot, name=name):
                    self.assert_bad([([deed], end), ([], END)])
            with self.subTest(spot=spot):
                deed, end = made(23)
                self.assertEqual(len(living([([deed], end), ([], END)])), 2)

    def test_blocks_that_are_none(self):
        for spot, made in BLOCK_SPOTS.items():
            for number in (-1, 2, HUGE, -HUGE):
                with self.subTest(spot=spot, number=number):
                    self.assert_bad([([], made(number)), ([], END)])
                    self.assert_bad([([], END), ([], made(number))])

    def test_words_inputs_deeds_and_ends_that_are_none(self):
        for deed in (("op", "over", 0, 0, 0), ("input", 0, -1), ("move", 0, 0), ("shift", 0), ("set", 0), ()):
            with self.subTest(deed=deed):
                self.assert_bad([([deed], END)])
        for end in (("stop",), ("go",), ("tell", 0), ()):
            with self.subTest(end=end):
                self.assert_bad([([], end)])

    def test_it_is_bad_program_and_no_other(self):
        with self.assertRaises(PressError) as caught:
            living([])
        self.assertNotIsInstance(caught.exception, (BadPans, Stuck))


class TestNothingIsChangedOrKept(unittest.TestCase):
    def test_handed_in_stays_as_it_was(self):
        for seed in range(20):
            blocks = made_program(seed)
            before = copy.deepcopy(blocks)
            living(blocks)
            with self.subTest(seed=seed):
                self.assertEqual(blocks, before)

    def test_lists_are_new_ones(self):
        blocks = [([("tell", 1)], ("go", 1)), ([], ("go", 2)), ([("tell", 1)], END)]
        first = living(blocks)
        for names in first:
            names.append(20)
        first.append([])
        self.assertEqual(first[:3], [[1, 20]] * 3)
        self.assertEqual(living(blocks), [[1], [1], [1]])

    def test_nothing_is_kept(self):
        blocks = [([("tell", 1)], END)]
        self.assertEqual(living(blocks), [[1]])
        blocks[0][0].append(("tell", 0))
        self.assertEqual(living(blocks), [[0, 1]])


if __name__ == "__main__":
    unittest.main()
