import copy
import random
import unittest

from makers import fair_program, made_program, names_of, tells_the_same
from regpress.codes import run_code
from regpress.errors import BadPans, BadProgram, PressError
from regpress.looking import passes
from regpress.pressing import pressed
from regpress.programs import run
from rows import END, HUGE

NO_PROGRAM = [
    [], [([], END)] * 13, [([("set", 0, 1)] * 31, END)], [([("set", 24, 1)], END)], [([("set", -1, 1)], END)],
    [([], ("go", 1))], [([("op", "over", 0, 0, 0)], END)], [([("input", 0, -1)], END)], [([("move", 0, 1)], END)],
    [([], ("if", 24, 0, 0))],
]
NO_CODE = [
    [], [([], END)] * 13, [([("set", 0, 1)] * 401, END)], [([("move", 0, 1)] * 401, END)], [([("set", 60, 1)], END)],
    [([("set", 2, 1)], END)], [([], ("if", 2, 0, 0))], [([("move", 2, 3)], END)], [([("move", 60, 0)], END)],
    [([("move", 0, -1)], END)], [([], ("go", 1))], [([("op", "over", 0, 0, 0)], END)], [([("input", 0, -1)], END)],
]


def in_places(row, where):
    spots = {"set": (1,), "input": (1,), "op": (2, 3, 4), "tell": (1,), "if": (1,)}.get(row[0], ())
    return tuple(where[part] if spot in spots else part for spot, part in enumerate(row))


def code_in_places(blocks, where):
    return [([in_places(deed, where) for deed in deeds], in_places(end, where)) for deeds, end in blocks]


# Each way is walked by itself and never laid together with another: another road than the one that the looker takes.
# Both must have the same shape.
def right_on_all_ways(blocks, code):
    seen = set()
    ahead = [(0, ())]
    while ahead:
        number, start = ahead.pop()
        if (number, start) in seen:
            continue
        seen.add((number, start))
        held = dict(start)
        rows = blocks[number][0] + [blocks[number][1]]
        for code_row in code[number][0] + [code[number][1]]:
            if code_row[0] == "move":
                held[code_row[1]] = held.get(code_row[2])
            elif not walked(rows.pop(0), code_row, held):
                return False
        end = blocks[number][1]
        state = tuple(sorted((place, name) for place, name in held.items() if name is not None))
        ahead.extend((block, state) for block in {"go": end[1:], "if": end[2:], "end": ()}[end[0]])
    return True


def walked(row, code_row, held):
    read = {"op": slice(3, 5), "tell": slice(1, 2), "if": slice(1, 2)}.get(row[0], slice(0, 0))
    if any(held.get(place) != name for name, place in zip(row[read], code_row[read])):
        return False
    given = {"op": slice(2, 3), "set": slice(1, 2), "input": slice(1, 2)}.get(row[0], slice(0, 0))
    for name, place in zip(row[given], code_row[given]):
        for other in held:
            held[other] = None if held[other] == name else held[other]
        held[place] = name
    return True


class LookingTest(unittest.TestCase):
    def assert_by(self, blocks, code, pans=2):
        self.assertIs(passes(blocks, code, pans), True)

    def assert_not_by(self, blocks, code, pans=2):
        self.assertIs(passes(blocks, code, pans), False)

    # One block of deeds, and its end.
    def assert_deeds(self, wanted, deeds, code_deeds, pans=2, end=END):
        self.assertIs(passes([(deeds, end)], [(code_deeds, end)], pans), wanted)


class TestShape(LookingTest):
    def test_nothing(self):
        self.assert_by([([], END)], [([], END)])
        self.assert_by([([], END)] * 12, [([], END)] * 12)
        self.assert_by([([], ("go", 0))], [([], ("go", 0))])

    def test_the_same(self):
        blocks = [
            ([("input", 0, 1), ("set", 1, -5), ("op", "minus", 0, 0, 1), ("tell", 0)], ("if", 0, 1, 2)),
            ([("tell", 1)], ("go", 2)),
            ([], END),
        ]
        self.assert_by(blocks, blocks)
        self.assert_by(blocks, code_in_places(blocks, {0: 1, 1: 0}))
        self.assert_by(blocks, code_in_places(blocks, {0: 15, 1: 7}), 16)

    def test_names_and_places_may_be_others(self):
        deeds = [("set", 23, 4), ("input", 17, 0), ("op", "times", 9, 23, 17), ("tell", 9)]
        blocks = [(deeds, ("if", 17, 0, 0))]
        self.assert_by(blocks, code_in_places(blocks, {23: 0, 17: 1, 9: 2}), 3)
        self.assert_deeds(True, deeds, [("set", 1, 4), ("input", 0, 0), ("op", "times", 1, 1, 0), ("tell", 1)])

    def test_moves_anywhere(self):
        blocks = [([("set", 0, 4), ("tell", 0)], ("go", 1)), ([], END)]
        move = ("move", 40, 1)
        for at in range(3):
            deeds = list(blocks[0][0])
            deeds.insert(at, move)
            with self.subTest(at=at):
                self.assert_by(blocks, [(deeds, ("go", 1)), ([], END)])
        self.assert_by(blocks, [([("set", 0, 4), ("tell", 0)], ("go", 1)), ([move] * 400, END)])
        self.assert_by(blocks, [([move] * 398 + blocks[0][0], ("go", 1)), ([], END)])

    def test_a_block_more_or_less(self):
        blocks = [([], ("go", 1)), ([], END)]
        self.assert_not_by(blocks, blocks + [([], END)])
        self.assert_not_by(blocks + [([], END)], blocks)
        self.assert_not_by([([], END)], [([], END)] * 12)
        self.assert_not_by([([], END)] * 12, [([], END)])

    def test_a_deed_more_or_less(self):
        deeds = [("set", 0, 1), ("tell", 0)]
        self.assert_deeds(False, deeds, deeds + [("tell", 0)])
        self.assert_deeds(False, deeds, [("set", 1, 1)] + deeds)
        self.assert_deeds(False, deeds, deeds[:1])
        self.assert_deeds(False, deeds, [])
        self.assert_deeds(False, [], deeds)
        self.assert_deeds(False, deeds, [("set", 0, 1), ("move", 1, 0)])
        self.assert_not_by([(deeds, ("go", 1)), ([], END)], [(deeds[:1], ("go", 1)), (deeds[1:], END)])

    def test_deeds_in_another_order(self):
        deeds = [("set", 0, 1), ("set", 1, 2)]
        self.assert_deeds(True, deeds, deeds)
        self.assert_deeds(False, deeds, [deeds[1], deeds[0]])
        self.assert_deeds(False, deeds, [("set", 0, 2), ("set", 1, 1)])

    def test_another_kind(self):
        rows = [("set", 0, 0), ("input", 0, 0), ("op", "plus", 0, 0, 0), ("tell", 0)]
        start = [("set", 0, 1)]
        for one in rows:
            for other in rows:
                with self.subTest(one=one, other=other):
                    self.assert_deeds(one == other, start + [one], start + [other])

    def test_another_word(self):
        start = [("set", 0, 1)]
        for one in ("plus", "minus", "times"):
            for other in ("plus", "minus", "times"):
                with self.subTest(one=one, other=other):
                    self.assert_deeds(
                        one == other, start + [("op", one, 0, 0, 0)], start + [("op", other, 0, 0, 0)]
                    )

    def test_another_number(self):
        for one, other in ((0, 1), (0, -1), (5, -5), (HUGE, HUGE - 1), (0, 1000003), (-1, 1000002)):
            with self.subTest(one=one, other=other):
                self.assert_deeds(False, [("set", 0, one)], [("set", 0, other)])
                self.assert_deeds(False, [("set", 0, other)], [("set", 0, one)])
                self.assert_deeds(True, [("set", 0, one)], [("set", 1, one)])

    def test_another_input(self):
        for one, other in ((0, 1), (1, 0), (5, HUGE)):
            with self.subTest(one=one, other=other):
                self.assert_deeds(False, [("input", 0, one)], [("input", 0, other)])
                self.assert_deeds(True, [("input", 0, one)], [("input", 1, one)])

    def test_another_end(self):
        ends = [END, ("go", 0), ("go", 1), ("go", 2), ("if", 0, 1, 2), ("if", 0, 2, 1), ("if", 0, 1, 1)]
        rest = [([], END), ([], END)]
        for one in ends:
            for other in ends:
                with self.subTest(one=one, other=other):
                    blocks = [([("set", 0, 1)], one)] + rest
                    code = [([("set", 0, 1)], other)] + rest
                    self.assertIs(passes(blocks, code, 2), one == other)

    def test_another_shape_where_it_cannot_be_come_to(self):
        blocks = [([], END), ([("set", 0, 1)], ("go", 0))]
        self.assert_by(blocks, blocks)
        for block in (([], ("go", 0)), ([("set", 0, 2)], ("go", 0)), ([("set", 0, 1)], END), ([("tell", 0)], END)):
            with self.subTest(block=block):
                self.assert_not_by(blocks, [blocks[0], block])

    def test_what_an_op_reads_in_another_order(self):
        start = [("set", 0, 7), ("set", 1, 2)]
        for word in ("plus", "minus", "times"):
            with self.subTest(word=word):
                self.assert_deeds(True, start + [("op", word, 0, 0, 1)], start + [("op", word, 0, 0, 1)])
                self.assert_deeds(False, start + [("op", word, 0, 0, 1)], start + [("op", word, 0, 1, 0)])


class TestWhatIsHeld(LookingTest):
    def test_at_the_beginning_no_place_holds_any(self):
        for row, end in ((("tell", 0), END), (("op", "plus", 0, 0, 0), END), (None, ("if", 0, 0, 0))):
            blocks = [([] if row is None else [row], end)]
            with self.subTest(row=row, end=end):
                self.assert_not_by(blocks, blocks)

    def test_each_kind_of_giving_is_held_in_its_place(self):
        for deed in (("set", 5, 1), ("input", 5, 0), ("op", "plus", 5, 6, 6)):
            start = [("set", 6, 1), deed]
            for place in (0, 1, 2):
                with self.subTest(deed=deed, place=place):
                    code = [in_places(row, {5: 1, 6: 0}) for row in start]
                    self.assert_deeds(place == 1, start + [("tell", 5)], code + [("tell", place)], 3)

    def test_each_read_is_looked_at(self):
        start = [("set", 0, 1), ("set", 1, 2)]
        for wrong in (("op", "plus", 0, 1, 1), ("op", "plus", 0, 0, 0), ("op", "plus", 0, 2, 1)):
            with self.subTest(wrong=wrong):
                self.assert_deeds(False, start + [("op", "plus", 0, 0, 1)], start + [wrong], 3)
        self.assert_deeds(False, start + [("tell", 0)], start + [("tell", 1)])
        self.assert_not_by([(start, ("if", 0, 0, 0))], [(start, ("if", 1, 0, 0))])
        self.assert_by([(start, ("if", 0, 0, 0))], [(start, ("if", 0, 0, 0))])

    def test_the_same_value_is_not_the_same_name(self):
        self.assert_deeds(False, [("set", 0, 3), ("set", 1, 3), ("tell", 0)], [("set", 0, 3), ("set", 1, 3), ("tell", 1)])

    def test_a_place_holds_what_was_given_last_alone(self):
        deeds = [("set", 4, 1), ("set", 5, 2)]
        code = [("set", 0, 1), ("set", 0, 2)]
        self.assert_deeds(True, deeds + [("tell", 5)], code + [("tell", 0)])
        self.assert_deeds(False, deeds + [("tell", 4)], code + [("tell", 0)])

    def test_no_other_place_holds_a_name_that_is_given_anew(self):
        deeds = [("set", 4, 1), ("set", 4, 2), ("tell", 4)]
        self.assert_deeds(True, deeds, [("set", 0, 1), ("set", 1, 2), ("tell", 1)])
        self.assert_deeds(False, deeds, [("set", 0, 1), ("set", 1, 2), ("tell", 0)])
        self.assert_deeds(
            False, deeds, [("set", 0, 1), ("move", 9, 0), ("move", 8, 0), ("set", 1, 2), ("move", 0, 9), ("tell", 0)]
        )
        self.assert_deeds(
            False, deeds, [("set", 0, 1), ("move", 9, 0), ("move", 8, 0), ("set", 1, 2), ("move", 0, 8), ("tell", 0)]
        )

    def test_given_anew_in_the_same_place(self):
        deeds = [("set", 4, 1), ("set", 4, 2), ("tell", 4)]
        self.assert_deeds(True, deeds, [("set", 0, 1), ("set", 0, 2), ("tell", 0)])
        self.assert_deeds(
            False, deeds, [("set", 0, 1), ("move", 1, 0), ("set", 0, 2), ("tell", 1)]
        )

    def test_an_op_reads_ahead_of_giving(self):
        deeds = [("set", 4, 1), ("op", "plus", 4, 4, 4), ("tell", 4)]
        self.assert_deeds(True, deeds, [("set", 0, 1), ("op", "plus", 0, 0, 0), ("tell", 0)])
        self.assert_deeds(True, deeds, [("set", 0, 1), ("op", "plus", 1, 0, 0), ("tell", 1)])
        self.assert_deeds(False, deeds, [("set", 0, 1), ("op", "plus", 1, 0, 0), ("tell", 0)])
        self.assert_deeds(False, deeds, [("set", 0, 1), ("op", "plus", 0, 0, 1), ("tell", 0)])

    def test_a_move_brings_what_is_held(self):
        deeds = [("set", 4, 1), ("tell", 4)]
        for way in ([("move", 1, 0)], [("move", 9, 0), ("move", 1, 9)], [("move", 59, 0), ("move", 1, 59)]):
            with self.subTest(way=way):
                self.assert_deeds(True, deeds, [("set", 0, 1)] + way + [("tell", 1)])
                self.assert_deeds(True, deeds, [("set", 0, 1)] + way + [("tell", 0)])

    def test_a_move_leaves_nothing_else(self):
        deeds = [("set", 4, 1), ("set", 5, 2)]
        code = [("set", 0, 1), ("set", 1, 2)]
        self.assert_deeds(True, deeds + [("tell", 5)], code + [("move", 0, 1), ("tell", 0)])
        self.assert_deeds(False, deeds + [("tell", 4)], code + [("move", 0, 1), ("tell", 0)])
        self.assert_deeds(True, deeds + [("tell", 4)], code + [("move", 1, 0), ("tell", 1)])

    def test_a_move_to_where_it_came_from(self):
        deeds = [("set", 4, 1), ("tell", 4)]
        self.assert_deeds(True, deeds, [("set", 0, 1), ("move", 0, 0), ("tell", 0)])
        self.assert_deeds(False, deeds, [("set", 0, 1), ("move", 1, 1), ("tell", 1)])

    def test_a_move_from_a_place_that_holds_nothing(self):
        deeds = [("set", 4, 1), ("tell", 4)]
        for empty in (1, 2, 59):
            with self.subTest(empty=empty):
                self.assert_deeds(False, deeds, [("set", 0, 1), ("move", 0, empty), ("tell", 0)])
                self.assert_deeds(
                    True, deeds, [("move", 0, empty), ("set", 0, 1), ("tell", 0)] + [("move", 0, empty)]
                )
        self.assert_deeds(
            False, deeds, [("set", 0, 1), ("move", 9, 0), ("move", 9, 1), ("move", 0, 9), ("tell", 0)]
        )
        self.assert_deeds(
            True, deeds, [("set", 0, 1), ("move", 9, 0), ("move", 0, 1), ("move", 0, 9), ("tell", 0)]
        )

    def test_a_move_from_a_place_whose_name_was_given_anew(self):
        deeds = [("set", 4, 1), ("set", 4, 2), ("tell", 4)]
        code = [("set", 0, 1), ("move", 9, 0), ("set", 0, 2), ("move", 0, 9), ("tell", 0)]
        self.assert_deeds(False, deeds, code)

    def test_moves_at_the_very_end_of_a_block(self):
        blocks = [([("set", 4, 1), ("set", 5, 2)], ("if", 4, 1, 1)), ([("tell", 5)], END)]
        start = [("set", 0, 1), ("move", 9, 0), ("set", 0, 2), ("move", 8, 0)]
        after = ([("move", 1, 8), ("tell", 1)], END)
        self.assert_by(blocks, [(start + [("move", 0, 9)], ("if", 0, 1, 1)), after])
        self.assert_not_by(blocks, [(start, ("if", 0, 1, 1)), after])


class TestWays(LookingTest):
    def branch(self, first, second, last=(("tell", 1),)):
        return [
            ([("input", 0, 0), ("set", 1, 5), ("move", 9, 1)], ("if", 0, 1, 2)),
            (list(first), ("go", 3)),
            (list(second), ("go", 3)),
            (list(last), END),
        ]

    def without_moves(self, code):
        return [([deed for deed in deeds if deed[0] != "move"], end) for deeds, end in code]

    def assert_branch(self, wanted, code, pans=2):
        self.assertIs(passes(self.without_moves(self.branch([], [])), code, pans), wanted)

    def test_held_at_the_end_of_both_ways(self):
        self.assert_branch(True, self.branch([], []))
        both = [("move", 1, 0), ("move", 0, 9)]
        self.assert_branch(True, self.branch(both, both, [("tell", 0)]))

    def test_held_on_one_way_alone(self):
        lost = [("move", 1, 0)]
        gained = [("move", 0, 9)]
        self.assert_branch(False, self.branch(lost, []))
        self.assert_branch(False, self.branch([], lost))
        self.assert_branch(False, self.branch(gained, [], [("tell", 0)]))
        self.assert_branch(False, self.branch([], gained, [("tell", 0)]))
        self.assert_branch(True, self.branch(gained, gained, [("tell", 0)]))

    def test_held_on_both_ways_in_different_places(self):
        moved = [("move", 0, 9), ("move", 1, 20)]
        self.assert_branch(False, self.branch(moved, [], [("tell", 0)]))
        self.assert_branch(False, self.branch(moved, [], [("tell", 1)]))
        self.assert_branch(True, self.branch(moved, [], [("move", 0, 9), ("tell", 0)]))

    def test_given_on_one_way_alone(self):
        blocks = [([("set", 0, 1)], ("if", 0, 1, 2)), ([("set", 1, 6)], ("go", 2)), ([("tell", 1)], END)]
        self.assert_not_by(blocks, blocks)
        blocks[0][0].append(("set", 1, 7))
        self.assert_by(blocks, blocks)

    def test_given_on_both_ways_in_different_places(self):
        def given(first, second, last):
            ends = ([("set", 0, 1)], ("if", 0, 1, 2))
            return [ends, ([("set", first, 6)], ("go", 3)), ([("set", second, 7)], ("go", 3)), ([("tell", last)], END)]

        self.assert_by(given(5, 5, 5), given(1, 1, 1), 3)
        for last in (1, 2):
            with self.subTest(last=last):
                self.assert_not_by(given(5, 5, 5), given(1, 2, last), 3)

    def test_both_ways_of_an_if_to_one_block(self):
        blocks = [([("set", 0, 1)], ("if", 0, 1, 1)), ([("tell", 0)], END)]
        self.assert_by(blocks, blocks)
        self.assert_not_by(blocks, [blocks[0], ([("tell", 1)], END)])

    def test_a_way_that_no_value_would_take_is_a_way(self):
        for value in (0, 1):
            blocks = [([("set", 0, value)], ("if", 0, 1, 2)), ([("tell", 0)], END), ([("tell", 0)], END)]
            for wrong in (1, 2):
                code = list(blocks)
                code[wrong] = ([("tell", 1)], END)
                with self.subTest(value=value, wrong=wrong):
                    self.assert_by(blocks, blocks)
                    self.assert_not_by(blocks, code)

    def test_ways_that_go_round_to_block_0(self):
        blocks = [([("set", 0, 1), ("tell", 0)], ("if", 0, 0, 1)), ([], END)]
        self.assert_by(blocks, blocks)
        late = [([("tell", 0), ("set", 0, 1)], ("if", 0, 0, 1)), ([], END)]
        self.assert_not_by(late, late)

    def test_the_beginning_is_a_way_to_block_0(self):
        blocks = [([], ("if", 5, 1, 1)), ([("set", 5, 1)], ("go", 0))]
        self.assert_not_by(blocks, code_in_places(blocks, {5: 0}))
        blocks = [([("input", 4, 0)], ("if", 4, 1, 2)), ([("set", 5, 1)], ("go", 0)), ([("tell", 5)], END)]
        self.assert_not_by(blocks, code_in_places(blocks, {4: 0, 5: 1}))

    def test_what_is_held_all_the_way_round(self):
        blocks = [
            ([("set", 7, 9), ("set", 8, 1)], ("go", 1)),
            ([("op", "minus", 7, 7, 8), ("tell", 7)], ("if", 7, 1, 2)),
            ([("tell", 8)], END),
        ]
        self.assert_by(blocks, code_in_places(blocks, {7: 0, 8: 1}))
        start = ([("set", 0, 9), ("set", 1, 1)], ("go", 1))
        round_deeds = [("op", "minus", 0, 0, 1), ("tell", 0)]
        last = ([("tell", 1)], END)
        self.assert_by(blocks, [start, (round_deeds + [("move", 9, 1)], ("if", 0, 1, 2)), last])
        self.assert_not_by(blocks, [start, (round_deeds + [("move", 1, 0)], ("if", 0, 1, 2)), last])
        self.assert_not_by(blocks, [start, (round_deeds + [("move", 1, 9)], ("if", 0, 1, 2)), last])
        self.assert_by(
            blocks, [start, (round_deeds + [("move", 9, 1), ("move", 1, 0), ("move", 1, 9)], ("if", 0, 1, 2)), last]
        )

    def test_lost_only_when_the_way_has_gone_round(self):
        blocks = [
            ([("set", 0, 3), ("set", 1, 1)], ("go", 1)),
            ([("tell", 0)], ("go", 2)),
            ([], ("if", 1, 1, 3)),
            ([], END),
        ]
        self.assert_by(blocks, blocks)
        for spoilt in (1, 2):
            code = copy.deepcopy(blocks)
            code[spoilt][0].append(("move", 0, 1))
            with self.subTest(spoilt=spoilt):
                self.assert_not_by(blocks, code)

    def test_given_anew_when_the_way_has_gone_round(self):
        blocks = [
            ([("set", 0, 3)], ("go", 1)),
            ([("tell", 0), ("op", "minus", 0, 0, 0)], ("if", 0, 1, 2)),
            ([], END),
        ]
        start = [("set", 0, 3), ("move", 9, 0)]
        op = ("op", "minus", 0, 0, 0)
        self.assert_not_by(blocks, [(start, ("go", 1)), ([("move", 1, 9), ("tell", 1), op], ("if", 0, 1, 2)), ([], END)])
        self.assert_by(
            blocks,
            [(start, ("go", 1)), ([("move", 1, 9), ("tell", 1), op, ("move", 9, 0)], ("if", 0, 1, 2)), ([], END)],
        )

    # Each time round one place more is lost: the looker must go on until nothing changes any more.
    def test_lost_after_many_rounds(self):
        places = list(range(2, 60))
        start = [("set", 0, 3), ("set", 1, 1)] + [("move", place, 0) for place in places]
        shift = []
        for place in places[:-1]:
            shift += [("move", 0, place + 1), ("move", place, 0)]
        blocks = [
            ([("set", 0, 3), ("set", 1, 1)], ("go", 1)), ([("tell", 0)], ("if", 1, 1, 2)), ([("tell", 0)], END),
        ]

        def shifting(lost):
            turn = [("move", 0, 2), ("tell", 0)] + shift + lost
            return [(start, ("go", 1)), (turn, ("if", 1, 1, 2)), ([("move", 0, 2), ("tell", 0)], END)]

        self.assert_by(blocks, shifting([]))
        self.assert_not_by(blocks, shifting([("move", 59, 1)]))

    def test_rounds_that_change_places(self):
        blocks = [
            ([("set", 0, 3), ("set", 1, 3)], ("go", 1)), ([("tell", 0)], ("if", 1, 1, 2)), ([], END),
        ]
        swap = [("move", 9, 0), ("move", 0, 1), ("move", 1, 9)]
        self.assert_not_by(blocks, [blocks[0], ([("tell", 0)] + swap, ("if", 0, 1, 2)), ([], END)])
        self.assert_by(blocks, [blocks[0], ([("tell", 0)] + swap + swap, ("if", 1, 1, 2)), ([], END)])

    def test_rounds_without_an_end(self):
        blocks = [([("set", 0, 1)], ("go", 1)), ([("tell", 0)], ("go", 2)), ([], ("go", 1))]
        self.assert_by(blocks, blocks)
        self.assert_not_by(blocks, [blocks[0], blocks[1], ([("move", 0, 1)], ("go", 1))])


class TestWhatCannotBeComeTo(LookingTest):
    def test_reads_there_are_not_looked_at(self):
        blocks = [([("set", 0, 1)], ("go", 2)), ([("tell", 0), ("op", "plus", 3, 4, 5)], ("if", 6, 0, 2)), ([], END)]
        for place in (0, 1):
            code = [blocks[0], ([("tell", place), ("op", "plus", 0, place, 1)], ("if", place, 0, 2)), ([], END)]
            with self.subTest(place=place):
                self.assert_by(blocks, code)

    def test_blocks_that_lead_round_among_themselves(self):
        blocks = [([], END), ([("tell", 0)], ("go", 2)), ([("tell", 1)], ("if", 2, 1, 1))]
        self.assert_by(blocks, code_in_places(blocks, {0: 0, 1: 0, 2: 1}))

    def test_what_they_lead_to_loses_nothing(self):
        blocks = [([("set", 0, 1)], ("go", 2)), ([("set", 0, 2)], ("go", 2)), ([("tell", 0)], END)]
        for deeds in ([("set", 0, 2)], [("set", 1, 2)], [("set", 1, 2), ("move", 0, 9)]):
            with self.subTest(deeds=deeds):
                self.assert_by(blocks, [blocks[0], (deeds, ("go", 2)), blocks[2]])

    def test_what_they_lead_to_gains_nothing(self):
        blocks = [([("set", 1, 1)], ("go", 2)), ([("set", 0, 2)], ("go", 2)), ([("tell", 0)], END)]
        self.assert_not_by(blocks, blocks)

    def test_they_lead_to_block_0(self):
        blocks = [([("tell", 0)], END), ([("set", 0, 2)], ("go", 0))]
        self.assert_not_by(blocks, blocks)
        blocks = [([("set", 0, 1), ("tell", 0)], END), ([("tell", 5)], ("go", 0))]
        self.assert_by(blocks, [blocks[0], ([("tell", 1)], ("go", 0))])

    def test_come_to_by_a_long_way(self):
        blocks = [([], ("go", 11))] + [([], END)] + [([], ("go", n - 1)) for n in range(2, 12)]
        blocks[0] = ([("set", 0, 1)], ("go", 11))
        blocks[1] = ([("tell", 0)], END)
        self.assert_by(blocks, blocks)
        self.assert_not_by(blocks, [blocks[0], ([("tell", 1)], END)] + blocks[2:])


class TestRefusals(LookingTest):
    def assert_bad(self, blocks, code, pans):
        with self.assertRaises(BadProgram):
            passes(blocks, code, pans)

    def assert_bad_pans(self, blocks, code, pans):
        with self.assertRaises(BadPans):
            passes(blocks, code, pans)

    def test_how_many_pans(self):
        for pans in (2, 3, 15, 16):
            deeds = [("set", pans - 1, 1), ("tell", pans - 1)]
            with self.subTest(pans=pans):
                self.assert_by([(deeds, END)], [(deeds, END)], pans)
                self.assert_not_by([(deeds, END)], [([deeds[0], ("tell", 0)], END)], pans)
        for pans in (1, 17, 0, -1, 60, HUGE, -HUGE):
            with self.subTest(pans=pans):
                self.assert_bad_pans([([], END)], [([], END)], pans)

    def test_what_is_no_program(self):
        for blocks in NO_PROGRAM:
            for code in [blocks, [([], END)]]:
                with self.subTest(blocks=blocks):
                    self.assert_bad(blocks, code, 2)
                    self.assert_bad(blocks, code, 16)

    def test_what_is_no_code(self):
        for code in NO_CODE:
            for blocks in ([([], END)], [([("set", 0, 1)], END)], [([], ("if", 0, 0, 0))]):
                with self.subTest(blocks=blocks, code=code):
                    self.assert_bad(blocks, code, 2)

    def test_what_is_no_code_hangs_on_the_pans(self):
        blocks = [([("set", 5, 1), ("tell", 5)], END)]
        code = [([("set", 5, 1), ("tell", 5)], END)]
        self.assert_bad(blocks, code, 5)
        self.assert_by(blocks, code, 6)

    def test_what_is_no_code_where_it_cannot_be_come_to(self):
        blocks = [([], END), ([], END)]
        for block in (([("tell", 2)], END), ([("move", 2, 3)], END), ([], ("go", 2))):
            with self.subTest(block=block):
                self.assert_bad(blocks, [([], END), block], 2)

    def test_no_program_ahead_of_wrong_pans_and_no_code(self):
        for blocks in NO_PROGRAM:
            for pans in (1, 17, 0, HUGE):
                for code in ([([], END)], []):
                    with self.subTest(blocks=blocks, pans=pans, code=code):
                        self.assert_bad(blocks, code, pans)

    def test_wrong_pans_ahead_of_no_code(self):
        for code in NO_CODE:
            for pans in (1, 17, 0, -HUGE):
                with self.subTest(code=code, pans=pans):
                    self.assert_bad_pans([([], END)], code, pans)

    def test_refused_ahead_of_another_shape(self):
        self.assert_bad_pans([([], END)], [([], ("go", 0))], 1)
        self.assert_bad([([], END)], [([], END), ([("tell", 2)], END)], 2)
        self.assert_bad([([("tell", 0)], END)], [([("tell", 0)], ("go", 1))], 2)

    def test_a_wanted_name_is_no_refusal(self):
        self.assert_not_by([([("tell", 0)], END)], [([("tell", 0)], END)])

    def test_interface_names(self):
        self.assertIs(passes(blocks=[([], END)], code=[([], END)], pans=2), True)


class TestMadeUp(LookingTest):
    def spoilt(self, code, chance, pans):
        code = copy.deepcopy(code)
        deeds = chance.choice(code)[0]
        at = chance.randint(0, len(deeds))
        kind = chance.choice(("more", "less", "other"))
        if kind == "more" or at == len(deeds):
            pan = chance.randrange(pans)
            place = chance.randrange(pans + 3)
            deeds.insert(at, chance.choice((("move", pan, place), ("move", place, pan))))
        elif kind == "less" and deeds[at][0] == "move":
            deeds.pop(at)
        else:
            spots = {"set": (1,), "input": (1,), "op": (2, 3, 4), "tell": (1,), "move": (1,)}[deeds[at][0]]
            spot = chance.choice(spots)
            deeds[at] = deeds[at][:spot] + (chance.randrange(pans),) + deeds[at][spot + 1:]
        return code

    # What is let by by the looker is what is right on each way; and it tells what the program tells.
    def assert_right(self, blocks, code, pans):
        wanted = right_on_all_ways(blocks, code)
        self.assertIs(passes(blocks, code, pans), wanted)
        if wanted:
            self.assertTrue(tells_the_same(blocks, code, pans))
        return wanted

    def test_pressed_and_spoilt(self):
        found = {True: 0, False: 0}
        for seed in range(250):
            chance = random.Random(seed)
            blocks = fair_program(seed, names=3, blocks=3, deeds=5)
            code = pressed(blocks, 2)
            self.assert_right(blocks, code, 2)
            for turn in range(4):
                code = self.spoilt(code, chance, 2)
                with self.subTest(seed=seed, turn=turn):
                    found[self.assert_right(blocks, code, 2)] += 1
        self.assertGreater(min(found.values()), 100)

    def test_names_in_places_by_chance(self):
        found = {True: 0, False: 0}
        for seed in range(800):
            chance = random.Random(seed)
            if seed % 2:
                blocks = made_program(seed, names=3, blocks=5, deeds=2)
            else:
                blocks = fair_program(seed, names=3, blocks=5, deeds=4)
            names = sorted(names_of(blocks))
            where = {name: chance.randrange(3) for name in names}
            if seed % 3:
                where = dict(zip(names, chance.sample(range(3), len(names))))
            with self.subTest(seed=seed):
                found[self.assert_right(blocks, code_in_places(blocks, where), 3)] += 1
        self.assertGreater(min(found.values()), 100)

    def test_not_let_by_though_it_tells_the_same(self):
        deeds = [("set", 0, 3), ("set", 1, 3), ("tell", 0)]
        code = [([("set", 0, 3), ("set", 1, 3), ("tell", 1)], END)]
        self.assertEqual(run([(deeds, END)], [], 10), run_code(code, 2, [], 10))
        self.assert_not_by([(deeds, END)], code)


class TestNothingIsChangedOrKept(LookingTest):
    def test_handed_in_stays_as_it_was(self):
        for seed in range(20):
            blocks = fair_program(seed, names=5, blocks=4, deeds=8)
            for code in (pressed(blocks, 2), [([], END)], [([("move", 9, 9)], END)]):
                before = copy.deepcopy((blocks, code))
                with self.subTest(seed=seed):
                    try:
                        passes(blocks, code, 2)
                    except PressError:
                        pass
                    self.assertEqual((blocks, code), before)

    def test_nothing_is_kept(self):
        blocks = [([("set", 0, 1), ("tell", 0)], END)]
        code = [([("set", 1, 1), ("tell", 1)], END)]
        self.assert_by(blocks, code)
        code[0][0][1] = ("tell", 0)
        self.assert_not_by(blocks, code)
        code[0][0][0] = ("set", 0, 1)
        self.assert_by(blocks, code)
        blocks[0][0].append(("tell", 0))
        self.assert_not_by(blocks, code)


if __name__ == "__main__":
    unittest.main()
