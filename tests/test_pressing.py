import copy
import unittest

from makers import answer, fair_program, made_program, names_of, tells_the_same
from regpress.codes import moves, run_code
from regpress.errors import BadPans, BadProgram, PressError, Stuck
from regpress.lives import living
from regpress.looking import passes
from regpress.pressing import pressed
from regpress.programs import run
from rows import BLOCK_SPOTS, END, HUGE, NAME_SPOTS

ALL_PANS = range(2, 17)


# As large as a program can be: each deed reads two names that lie on the shelf and gives a third one.
def large_program():
    first = [("input", v, v % 3) for v in range(24)] + [("op", "plus", 0, 22, 23)] * 6
    blocks = [(first, ("if", 5, 1, 11))]
    for number in range(1, 11):
        deeds = [
            ("op", ("plus", "minus", "times")[n % 3], (n + number) % 24, (7 * n + 1) % 24, (5 * n + number) % 24)
            for n in range(30)
        ]
        blocks.append((deeds, ("if", number, number + 1, 11)))
    blocks.append(([("tell", n % 24) for n in range(30)], ("if", 23, 1, 11)))
    return blocks


def sum_of_squares():
    return [
        ([("input", 0, 0), ("set", 1, 1), ("set", 2, 0)], ("go", 1)),
        ([("op", "times", 3, 0, 0), ("op", "plus", 2, 2, 3), ("op", "minus", 0, 0, 1)], ("if", 0, 1, 2)),
        ([("tell", 2), ("tell", 0)], END),
    ]


class PressingTest(unittest.TestCase):
    # What code is, said once more: so it does not hang on the program's own word.
    def assert_code(self, code, pans):
        self.assertIs(type(code), list)
        self.assertTrue(1 <= len(code) <= 12)
        for block in code:
            self.assertIs(type(block), tuple)
            deeds, end = block
            self.assertIs(type(deeds), list)
            self.assertLessEqual(len(deeds), 400)
            for deed in deeds:
                self.assert_places(deed, pans)
            self.assertIs(type(end), tuple)
            if end[0] == "if":
                self.assertIn(end[1], range(pans))

    def assert_places(self, deed, pans):
        self.assertIs(type(deed), tuple)
        if deed[0] == "move":
            self.assertEqual(len(deed), 3)
            self.assertIn(deed[1], range(60))
            self.assertIn(deed[2], range(60))
            self.assertLess(min(deed[1:]), pans)
        else:
            for place in {"set": deed[1:2], "input": deed[1:2], "op": deed[2:], "tell": deed[1:]}[deed[0]]:
                self.assertIn(place, range(pans))

    def assert_pressed(self, blocks, pans):
        before = copy.deepcopy(blocks)
        code = pressed(blocks, pans)
        self.assertEqual(blocks, before)
        self.assert_code(code, pans)
        self.assertIs(passes(blocks, code, pans), True)
        self.assertTrue(tells_the_same(blocks, code, pans))
        if len(names_of(blocks)) <= pans:
            self.assertEqual(moves(code), 0)
        return code


class TestPressed(PressingTest):
    def test_nothing(self):
        self.assertEqual(pressed([([], END)], 2), [([], END)])
        self.assertEqual(pressed([([], ("go", 0))] * 12, 16), [([], ("go", 0))] * 12)

    def test_fewer_names_than_pans(self):
        for names in ((0,), (23,), (5, 9)):
            deeds = [("set", v, 10 + v) for v in names] + [("tell", v) for v in names]
            for pans in (3, 16):
                with self.subTest(names=names, pans=pans):
                    code = self.assert_pressed([(deeds, END)], pans)
                    self.assertEqual([len(block[0]) for block in code], [len(deeds)])

    def test_as_many_names_as_pans(self):
        for pans in ALL_PANS:
            names = [23 - v for v in range(pans)]
            deeds = [("set", v, 10 + v) for v in names]
            blocks = [(deeds, ("go", 1)), ([("tell", v) for v in names[:12]], ("if", names[-1], 2, 2)), ([], END)]
            with self.subTest(pans=pans):
                self.assertEqual(moves(self.assert_pressed(blocks, pans)), 0)

    def test_one_name_more_than_pans(self):
        for pans in ALL_PANS:
            names = list(range(pans + 1))
            blocks = [
                ([("input", v, v % 3) for v in names], ("go", 1)),
                ([("op", "plus", v, v, names[-1 - v]) for v in names], ("go", 2)),
                ([("tell", v) for v in names], END),
            ]
            with self.subTest(pans=pans):
                self.assert_pressed(blocks, pans)

    def test_what_all_the_moves_are_for(self):
        deeds = [("set", 0, 1), ("set", 1, 2), ("set", 2, 3), ("tell", 0), ("tell", 1), ("tell", 2)]
        self.assertGreater(moves(self.assert_pressed([(deeds, END)], 2)), 0)
        self.assertEqual(moves(self.assert_pressed([(deeds, END)], 3)), 0)

    def test_names_that_stand_in_one_kind_of_row_alone(self):
        for blocks in (
            [([("set", 3, 1), ("input", 4, 0), ("op", "plus", 5, 3, 4)], END)],
            [([("set", 3, 1), ("set", 4, 1), ("set", 5, 1)], ("if", 5, 1, 1)), ([("tell", 4)], ("if", 3, 1, 1))],
        ):
            for pans in (2, 3, 4):
                with self.subTest(blocks=blocks, pans=pans):
                    self.assert_pressed(blocks, pans)

    def test_names_in_blocks_that_are_never_come_to(self):
        blocks = [
            ([("set", 0, 1), ("tell", 0)], ("go", 2)),
            ([("tell", 20), ("op", "plus", 21, 22, 23)], ("if", 19, 0, 2)),
            ([("tell", 0)], END),
        ]
        for pans in ALL_PANS:
            with self.subTest(pans=pans):
                self.assert_pressed(blocks, pans)

    def test_each_way_of_reading_and_giving_in_an_op(self):
        start = [("set", v, v + 3) for v in range(5)]
        for v in range(5):
            for a in range(5):
                for b in range(5):
                    deeds = start + [("op", "minus", v, a, b)] + [("tell", n) for n in range(5)]
                    for pans in (2, 3, 4, 5):
                        with self.subTest(v=v, a=a, b=b, pans=pans):
                            code = pressed([(deeds, END)], pans)
                            self.assertIs(passes([(deeds, END)], code, pans), True)
                            self.assertEqual(run_code(code, pans, [], 20), run([(deeds, END)], [], 20))

    def test_all_names_in_all_pans(self):
        blocks = [
            ([("set", v, 100 + v) for v in range(24)], ("go", 1)),
            ([("tell", v) for v in range(24)], END),
        ]
        for pans in ALL_PANS:
            with self.subTest(pans=pans):
                code = self.assert_pressed(blocks, pans)
                self.assertEqual(run_code(code, pans, [], 100), ([100 + v for v in range(24)], 50))

    def test_as_large_as_can_be(self):
        blocks = large_program()
        self.assertEqual([len(deeds) for deeds, end in blocks], [30] * 12)
        self.assertEqual(names_of(blocks), set(range(24)))
        for pans in ALL_PANS:
            with self.subTest(pans=pans):
                code = self.assert_pressed(blocks, pans)
                for most in (400, 2000):
                    self.assertEqual(
                        answer(run_code, code, pans, [4, 5, 6], most), answer(run, blocks, [4, 5, 6], most)
                    )

    def test_ways_that_go_round(self):
        blocks = sum_of_squares()
        for pans in (2, 3, 4, 5, 16):
            with self.subTest(pans=pans):
                code = self.assert_pressed(blocks, pans)
                for number in (1, 2, 10):
                    wanted = sum(n * n for n in range(number + 1))
                    self.assertEqual(run_code(code, pans, [number], 1000)[0], [wanted, 0])
                self.assertIsNone(run_code(code, pans, [10], 46))
                self.assertEqual(run_code(code, pans, [10], 47), ([385, 0], 47))

    def test_ways_that_go_round_to_block_0(self):
        blocks = [
            ([("input", 0, 0), ("set", 1, 0), ("op", "plus", 2, 0, 1), ("tell", 2)], ("if", 2, 0, 1)),
            ([("tell", 1)], ("if", 0, 0, 2)),
            ([], END),
        ]
        for pans in (2, 3, 16):
            with self.subTest(pans=pans):
                self.assert_pressed(blocks, pans)

    def test_stuck_for_want_of_an_input(self):
        blocks = [([("input", 0, 0), ("tell", 0), ("input", 1, 1), ("input", 2, 2), ("tell", 1), ("tell", 2)], END)]
        code = self.assert_pressed(blocks, 2)
        with self.assertRaises(Stuck):
            run_code(code, 2, [4], 10)
        self.assertIsNone(run_code(code, 2, [4], 2))

    def test_made_up_programs(self):
        for seed in range(60):
            names = 1 + seed % 24
            blocks = fair_program(seed, names=names, blocks=1 + seed % 12, deeds=30)
            for pans in (2, 3, 8, 16, min(16, max(2, names))):
                with self.subTest(seed=seed, pans=pans):
                    self.assert_pressed(blocks, pans)

    def test_made_up_programs_that_want_or_do_not_want_a_name(self):
        found = {True: 0, False: 0}
        for seed in range(500):
            blocks = made_program(seed, names=5, blocks=4, deeds=4)
            wanted = living(blocks)[0] != []
            found[wanted] += 1
            for pans in (2, 4):
                with self.subTest(seed=seed, pans=pans):
                    if wanted:
                        with self.assertRaises(BadProgram):
                            pressed(blocks, pans)
                    else:
                        self.assert_pressed(blocks, pans)
        self.assertGreater(min(found.values()), 30)

    def test_interface_names(self):
        self.assertEqual(pressed(blocks=[([], END)], pans=2), [([], END)])


class TestRefusals(PressingTest):
    def assert_bad(self, blocks, pans=2):
        with self.assertRaises(BadProgram):
            pressed(blocks, pans)

    def test_how_many_pans(self):
        for blocks in ([([], END)], sum_of_squares(), large_program()):
            for pans in (1, 17, 0, -1, -2, 18, 60, HUGE, -HUGE):
                with self.subTest(pans=pans):
                    with self.assertRaises(BadPans):
                        pressed(blocks, pans)
            for pans in (2, 16):
                with self.subTest(pans=pans):
                    self.assert_pressed(blocks, pans)

    def test_what_is_no_program(self):
        wrong = [
            [], [([], END)] * 13, [([], END)] * 20, [([("set", 0, 1)] * 31, END)], [([("set", 0, 1)] * 500, END)],
            [([("op", "over", 0, 0, 0)], END)], [([("input", 0, -1)], END)], [([("move", 0, 0)], END)],
            [([("shift", 0)], END)], [([], ("stop",))], [([], END), ([("set", 24, 1)], END)],
        ]
        for blocks in wrong:
            for pans in (2, 16, 1, 17, 0, HUGE):
                with self.subTest(blocks=blocks, pans=pans):
                    self.assert_bad(blocks, pans)

    def test_names_and_blocks_that_are_none(self):
        start = [("set", 0, 1)]
        for spot, made in NAME_SPOTS.items():
            for name in (-1, 24, HUGE, -HUGE):
                deed, end = made(name)
                with self.subTest(spot=spot, name=name):
                    self.assert_bad([(start + [deed], end), ([], END)])
            with self.subTest(spot=spot):
                deed, end = made(23)
                self.assert_pressed([(start + [("set", 23, 1), deed], end), ([], END)], 2)
        for spot, made in BLOCK_SPOTS.items():
            for number in (-1, 2, HUGE, -HUGE):
                with self.subTest(spot=spot, number=number):
                    self.assert_bad([(start + [("set", 1, 1)], made(number)), ([], END)])

    def wanting(self):
        return [
            [([("tell", 0)], END)],
            [([("op", "plus", 1, 0, 0)], END)],
            [([("set", 1, 1), ("op", "plus", 0, 1, 0)], END)],
            [([("op", "plus", 0, 0, 0)], END)],
            [([], ("if", 23, 0, 0))],
            [([], ("go", 1)), ([("tell", 4)], END)],
            [([("set", 0, 1)], ("if", 0, 1, 2)), ([("set", 1, 1)], ("go", 2)), ([("tell", 1)], END)],
            [([("set", 0, 1)], ("if", 0, 1, 2)), ([], END), ([("tell", 1)], END)],
            [([("set", 0, 1)], ("if", 0, 1, 2)), ([("set", 1, 1)], ("go", 0)), ([("tell", 1)], END)],
        ]

    def test_a_name_wanted_at_the_beginning_of_block_0(self):
        for blocks in self.wanting():
            for pans in (2, 3, 16):
                with self.subTest(blocks=blocks, pans=pans):
                    self.assert_bad(blocks, pans)

    def test_a_wanted_name_ahead_of_wrong_pans(self):
        for blocks in self.wanting():
            for pans in (1, 17, 0, -HUGE):
                with self.subTest(blocks=blocks, pans=pans):
                    self.assert_bad(blocks, pans)

    def test_a_name_wanted_elsewhere_alone(self):
        blocks = [([("set", 0, 1)], ("go", 1)), ([("tell", 0)], END), ([("tell", 7)], ("go", 0))]
        self.assertEqual(living(blocks), [[], [0], [7]])
        self.assert_pressed(blocks, 2)

    def test_it_is_one_refusal_and_no_other(self):
        with self.assertRaises(PressError) as caught:
            pressed([([("tell", 0)], END)], 2)
        self.assertNotIsInstance(caught.exception, (BadPans, Stuck))


class TestNothingIsChangedOrKept(PressingTest):
    def test_handed_in_stays_as_it_was(self):
        for blocks in (sum_of_squares(), large_program(), [([("tell", 0)], END)], [([], ("go", 3))]):
            for pans in (1, 2, 4, 16):
                before = copy.deepcopy(blocks)
                with self.subTest(blocks=len(blocks), pans=pans):
                    try:
                        pressed(blocks, pans)
                    except PressError:
                        pass
                    self.assertEqual(blocks, before)

    def test_lists_are_new_ones(self):
        for pans in (2, 4):
            blocks = sum_of_squares()
            first = pressed(blocks, pans)
            wanted = copy.deepcopy(first)
            with self.subTest(pans=pans):
                for block in first:
                    block[0].append(("tell", 0))
                first.pop()
                self.assertEqual(blocks, sum_of_squares())
                self.assertEqual(pressed(blocks, pans), wanted)

    def test_blocks_that_are_one_list_become_several(self):
        deeds = []
        code = pressed([(deeds, ("go", 1)), (deeds, END)], 2)
        code[0][0].append(("set", 0, 1))
        self.assertEqual(code[1], ([], END))
        self.assertEqual(deeds, [])

    def test_the_code_stays_when_the_program_changes(self):
        blocks = sum_of_squares()
        code = pressed(blocks, 4)
        before = copy.deepcopy(code)
        blocks[0][0].clear()
        blocks.pop()
        self.assertEqual(code, before)


if __name__ == "__main__":
    unittest.main()
