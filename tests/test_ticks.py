"""Point 5: what a tick is, what each step does, and when a robot is blocked."""

import unittest

from shelfbots.machine import boxes, cells, holding, trace
from tests.helpers import EXAMPLE, plan_of


def words(plan, many):
    """Returns what both robots do in the first ticks, as two lists of words."""
    done = list(trace(plan, 0, many - 1))
    return [row[1] for row in done], [row[2] for row in done]


def after(plan, tick):
    """Returns all that can be seen after a tick."""
    return cells(plan, tick), boxes(plan, tick), holding(plan, tick)


class TwoOrders(unittest.TestCase):
    """Tests that hold for either robot, with the other one out of the way in a corner."""

    def check(self, shelf, cell, steps, expected, other=(0, "wait;")):
        """Checks the words of a robot, whichever number it has."""
        many = len(expected)
        self.assertEqual(words(plan_of(shelf, (cell, steps), other), many)[0], expected)
        self.assertEqual(words(plan_of(shelf, other, (cell, steps)), many)[1], expected)

    def check_end(self, shelf, cell, steps, tick, end, other=(0, "wait;")):
        """Checks the cell, the boxes and the load of a robot after a tick, whichever number it has."""
        end_cell, end_boxes, is_holding = end
        plan = plan_of(shelf, (cell, steps), other)
        self.assertEqual(after(plan, tick), ((end_cell, other[0]), end_boxes, [0] if is_holding else []))
        plan = plan_of(shelf, other, (cell, steps))
        self.assertEqual(after(plan, tick), ((other[0], end_cell), end_boxes, [1] if is_holding else []))


class Moves(TwoOrders):

    def test_left_and_right(self):
        steps = "right; right; left; right; left; left;"
        self.check("0 0 0 0", 1, steps, ["right", "right", "left", "right", "left", "left", "right"])
        for tick, cell in enumerate((2, 3, 2, 3, 2, 1, 2)):
            self.check_end("0 0 0 0", 1, steps, tick, (cell, [0, 0, 0, 0], False))

    def test_no_cell_to_the_right(self):
        self.check("0 0 0", 2, "right; wait;", ["blocked"] * 5)
        self.check_end("0 0 0", 2, "right; wait;", 4, (2, [0, 0, 0], False))

    def test_no_cell_to_the_left(self):
        self.check("0 0 0", 0, "left; wait;", ["blocked"] * 5, (2, "wait;"))
        self.check_end("0 0 0", 0, "left; wait;", 4, (0, [0, 0, 0], False), (2, "wait;"))

    def test_ends_of_the_longest_shelf(self):
        shelf = "0 0 0 0 0 0 0 0 0 0 0 0"
        self.check(shelf, 10, "right;", ["right", "blocked", "blocked"])
        self.check(shelf, 1, "left;", ["left", "blocked", "blocked"], (11, "wait;"))

    def test_other_robot_in_the_cell(self):
        self.check("0 0 0", 1, "left; wait;", ["blocked"] * 5)
        self.check("0 0 0", 1, "right; wait;", ["blocked"] * 5, (2, "wait;"))
        self.check_end("0 0 0", 1, "left; wait;", 4, (1, [0, 0, 0], False))
        self.check_end("0 0 0", 1, "right; wait;", 4, (1, [0, 0, 0], False), (2, "wait;"))

    def test_boxes_do_not_block(self):
        self.check("3 3 3", 1, "right; left;", ["right", "left", "right", "left"])

    def test_loaded_robots_move(self):
        self.check("0 0 1", 2, "pick; left; right; wait;", ["pick", "left", "right", "wait"])
        self.check_end("0 0 1", 2, "pick; left; wait;", 1, (1, [0, 0, 0], True))


class Boxes(TwoOrders):

    def test_pick(self):
        self.check("0 0 3", 2, "pick; wait;", ["pick", "wait", "blocked", "blocked"])
        self.check_end("0 0 3", 2, "pick; wait;", 0, (2, [0, 0, 2], True))
        self.check_end("0 0 3", 2, "pick; wait;", 3, (2, [0, 0, 2], True))

    def test_pick_the_last_box(self):
        self.check("0 0 1", 2, "pick; wait;", ["pick", "wait", "blocked", "blocked"])
        self.check_end("0 0 1", 2, "pick; wait;", 0, (2, [0, 0, 0], True))

    def test_pick_without_a_box_in_the_cell(self):
        self.check("3 3 0", 2, "pick; wait;", ["blocked"] * 4)
        self.check_end("3 3 0", 2, "pick; wait;", 3, (2, [3, 3, 0], False))

    def test_put(self):
        self.check("0 2 1", 2, "pick; left; put; wait; right; wait; wait;",
                   ["pick", "left", "put", "wait", "right", "wait", "wait", "blocked"])
        self.check_end("0 2 1", 2, "pick; left; put; wait; right;", 1, (1, [0, 2, 0], True))
        self.check_end("0 2 1", 2, "pick; left; put; wait; right;", 2, (1, [0, 3, 0], False))

    def test_put_back(self):
        self.check("0 0 3", 2, "pick; put;", ["pick", "put", "pick", "put", "pick"])
        self.check_end("0 0 3", 2, "pick; put;", 1, (2, [0, 0, 3], False))

    def test_put_without_a_box_in_the_hand(self):
        self.check("0 0 1", 2, "put; wait;", ["blocked"] * 4)
        self.check_end("0 0 1", 2, "put; wait;", 3, (2, [0, 0, 1], False))
        self.check("0 0 1", 2, "pick; put; put;", ["pick", "put", "blocked", "blocked"])

    def test_put_with_three_boxes_in_the_cell(self):
        self.check("0 3 1", 2, "pick; left; put; wait;", ["pick", "left", "blocked", "blocked", "blocked"])
        self.check_end("0 3 1", 2, "pick; left; put; wait;", 4, (1, [0, 3, 0], True))

    def test_cells_fill_and_become_empty(self):
        steps = "a: pick; left; put; right; goto a;"
        self.check("0 0 3", 2, steps, ["pick", "left", "put", "right", "goto"] * 3 + ["blocked"] * 3)
        self.check_end("0 0 3", 2, steps, 14, (2, [0, 3, 0], False))
        self.check("0 1 3", 2, steps, ["pick", "left", "put", "right", "goto"] * 2 + ["pick", "left"] + ["blocked"] * 3)
        self.check_end("0 1 3", 2, steps, 20, (1, [0, 3, 0], True))


class Jumps(TwoOrders):

    def test_wait(self):
        self.check("1 1 1", 2, "wait; wait; left;", ["wait", "wait", "left", "wait", "wait", "blocked"])
        self.check_end("1 1 1", 2, "wait;", 5, (2, [1, 1, 1], False))

    def test_goto(self):
        self.check("0 0 0 0", 2, "goto b; a: right; goto c; b: left; goto a; c: wait; goto c;",
                   ["goto", "left", "goto", "right", "goto", "wait", "goto", "wait", "goto"])

    def test_goto_itself(self):
        self.check("0 0 0", 2, "wait; a: goto a; left;", ["wait", "goto", "goto", "goto"])

    def test_empty(self):
        self.check("1 1 0", 2, "empty a; left; a: wait;", ["empty", "wait", "empty", "wait"])
        self.check("1 1 0 1", 2, "empty a; left; a: right;", ["empty", "right", "empty", "left", "right", "empty"])

    def test_empty_with_boxes_in_the_cell(self):
        for number in (1, 2, 3):
            self.check(f"0 0 {number}", 2, "empty a; left; a: wait;", ["empty", "left", "wait", "empty"])

    def test_empty_is_about_the_cell_not_the_hand(self):
        self.check("0 0 1", 2, "pick; empty a; left; a: wait; put;", ["pick", "empty", "wait", "put"])
        self.check("0 0 2", 2, "pick; empty a; left; a: wait; put;", ["pick", "empty", "left", "wait", "put"])

    def test_empty_is_about_the_own_cell(self):
        self.check("2 0 0", 2, "empty a; left; a: wait;", ["empty", "wait"])
        self.check("0 0 2", 2, "empty a; left; a: wait;", ["empty", "left"])

    def test_held(self):
        self.check("0 0 1", 2, "pick; held a; left; a: wait; put;", ["pick", "held", "wait", "put"])

    def test_held_without_a_box(self):
        self.check("0 0 1", 2, "held a; left; a: wait;", ["held", "left", "wait"])
        self.check("0 0 1", 2, "pick; put; held a; left; a: wait;", ["pick", "put", "held", "left", "wait"])

    def test_held_is_about_the_robot_itself(self):
        self.check("1 0 1", 2, "wait; held a; left; a: wait;", ["wait", "held", "left"], (0, "pick; wait; wait;"))
        self.check("1 0 1", 2, "pick; held a; left; a: wait;", ["pick", "held", "wait"])

    def test_jumps_change_nothing_else(self):
        for steps in ("a: goto a;", "a: empty a;", "a: held a;"):
            self.check_end("1 2 3", 2, steps, 7, (2, [1, 2, 3], False))
            self.check_end("1 2 0", 2, steps, 7, (2, [1, 2, 0], False))

    def test_step_0_after_the_last_one(self):
        self.check("0 0 0", 2, "left; right;", ["left", "right", "left", "right", "left"])
        self.check("0 0 0", 2, "wait;", ["wait", "wait", "wait"])
        self.check("0 0 1", 2, "left; a: right; empty a;", ["left", "right", "empty", "left", "right", "empty"])
        self.check("0 0 1", 2, "left; a: right; held a;", ["left", "right", "held", "left", "right", "held"])

    def test_jump_from_the_last_step(self):
        self.check("0 0 0", 2, "left; a: wait; goto a;", ["left", "wait", "goto", "wait", "goto"])

    def test_jump_to_step_0(self):
        self.check("0 0 0", 2, "a: left; right; goto a; wait;", ["left", "right", "goto", "left", "right", "goto"])


class BothRobots(unittest.TestCase):

    def test_beginning(self):
        plan = plan_of("1 2 3 0", (2, "a: wait; goto a;"), (1, "wait;"))
        self.assertEqual(after(plan, 0), ((2, 1), [1, 2, 3, 0], []))

    def test_robot_1_goes_where_robot_0_was(self):
        plan = plan_of("0 0 0", (1, "right; wait; left; wait;"), (0, "right; wait; left; wait;"))
        self.assertEqual(words(plan, 2), (["right", "wait"], ["right", "wait"]))
        self.assertEqual(cells(plan, 0), (2, 1))

    def test_robot_0_cannot_go_where_robot_1_still_is(self):
        plan = plan_of("0 0 0", (0, "right; wait;"), (1, "right; wait;"))
        self.assertEqual(words(plan, 4), (["blocked", "right", "wait", "blocked"],
                                          ["right", "wait", "blocked", "blocked"]))
        self.assertEqual(cells(plan, 0), (0, 2))
        self.assertEqual(cells(plan, 1), (1, 2))

    def test_robot_0_comes_first_to_a_cell_between(self):
        plan = plan_of("0 0 0", (0, "right; left;"), (2, "left; right;"))
        self.assertEqual(words(plan, 4), (["right", "left", "blocked", "right"],
                                          ["blocked", "left", "right", "blocked"]))
        self.assertEqual([cells(plan, tick) for tick in range(4)], [(1, 2), (0, 1), (0, 2), (1, 2)])

    def test_blocked_robots_try_the_same_step_again(self):
        plan = plan_of("0 0 0 0", (0, "right; wait; left;"), (1, "wait; wait; right; right; wait; wait; wait;"))
        self.assertEqual(words(plan, 6), (["blocked", "blocked", "blocked", "right", "wait", "left"],
                                          ["wait", "wait", "right", "right", "wait", "wait"]))

    def test_robots_do_not_pass_or_swap(self):
        plan = plan_of("0 0 0 0", (1, "right;"), (2, "left;"))
        self.assertEqual(words(plan, 3), (["blocked"] * 3, ["blocked"] * 3))
        self.assertEqual(after(plan, 2), ((1, 2), [0, 0, 0, 0], []))

    def test_pick_takes_the_box_of_the_other_robot(self):
        plan = plan_of("1 0 0", (0, "pick; right; put; left; wait; wait;"), (2, "wait; wait; wait; left; pick;"))
        self.assertEqual(words(plan, 6)[1], ["wait", "wait", "wait", "left", "pick", "wait"])
        self.assertEqual(after(plan, 4), ((0, 1), [0, 0, 0], [1]))

    def test_put_where_the_other_robot_made_room(self):
        plan = plan_of("0 3 1", (1, "pick; left; left;"), (2, "pick; wait; left; put; wait;"))
        self.assertEqual(words(plan, 5), (["pick", "left", "blocked", "blocked", "blocked"],
                                          ["pick", "wait", "left", "put", "wait"]))
        self.assertEqual(after(plan, 2), ((0, 1), [0, 2, 0], [0, 1]))
        self.assertEqual(after(plan, 3), ((0, 1), [0, 3, 0], [0]))

    def test_both_hold_boxes(self):
        plan = plan_of("1 0 1", (0, "pick; wait; put; wait;"), (2, "wait; pick; put; wait;"))
        self.assertEqual([holding(plan, tick) for tick in range(4)], [[0], [0, 1], [], []])

    def test_either_robot_may_stand_on_the_left(self):
        plan = plan_of("0 0 0", (2, "left; right;"), (0, "right; left;"))
        self.assertEqual(words(plan, 4), (["left", "right", "blocked", "left"],
                                          ["blocked", "right", "left", "blocked"]))
        self.assertEqual([cells(plan, tick) for tick in range(4)], [(1, 0), (2, 1), (2, 0), (1, 0)])

    def test_example(self):
        self.assertEqual(words(EXAMPLE, 6), (["pick", "right", "put", "left", "blocked", "blocked"], ["wait"] * 6))
        self.assertEqual([after(EXAMPLE, tick) for tick in range(5)],
                         [((0, 2), [0, 0, 0], [0]), ((1, 2), [0, 0, 0], [0]), ((1, 2), [0, 1, 0], []),
                          ((0, 2), [0, 1, 0], []), ((0, 2), [0, 1, 0], [])])


if __name__ == "__main__":
    unittest.main()
