"""Point 10: Camera."""

import inspect
import itertools
import random
import unittest

from shelfbots import watching
from shelfbots.machine import cells, find_cycle
from shelfbots.watching import Camera
from tests.helpers import (
    EXAMPLE, FAR_TOO_LONG, JUST_IN_TIME, JUST_TOO_LONG, LAST_TICK, NOT_INTEGERS_NOT_STRINGS, NOT_TICKS,
    OTHER_STARTS_TOO_LONG, fault_of, plan_of,
)
from tests.slow import random_plan, text_of, with_starts

# Both robots stay where they are.
RESTING = plan_of("0 0 0 0", (0, "wait;"), (3, "a: goto a;"))
# The robots go to the other end and back, if they are not blocked.
CIRCLES = plan_of("0 1 0 2 0", (0, "right; right; left; left;"), (4, "pick; left; put; right;"))


def told(camera, *ticks):
    """Returns all that a camera tells, with the possible cells after some ticks."""
    return camera.starts, camera.history, [camera.possible(tick) for tick in ticks]


class ByTexts:
    """Finds out what a camera should tell, by the texts of the plan with all starts."""

    def __init__(self, plan, cell):
        self.cell = cell
        self.texts = {pair: text_of(with_starts(plan, *pair))
                      for pair in itertools.permutations(range(len(plan[0])), 2)}
        self.history = []

    def starts_with(self, observations):
        return [pair for pair, text in self.texts.items()
                if all((self.cell in cells(text, tick)) == is_there for tick, is_there in observations)]

    def see(self, tick, is_there):
        """Returns the number of possible starts, or None if none would remain."""
        many = len(self.starts_with([*self.history, (tick, is_there)]))
        if many:
            self.history.append((tick, is_there))
        return many or None

    def told(self, *ticks):
        starts = self.starts_with(self.history)
        return starts, self.history, [sorted({cell for start in starts for cell in cells(self.texts[start], tick)})
                                      for tick in ticks]


class Examples(unittest.TestCase):

    def test_see(self):
        camera = Camera(EXAMPLE, 1)
        self.assertEqual(camera.see(0, False), 2)
        self.assertEqual(camera.starts, [(0, 2), (2, 0)])
        self.assertEqual(camera.history, [(0, False)])

    def test_see_from(self):
        camera = Camera(EXAMPLE, 1)
        self.assertEqual(camera.see_from(0, False, True), 1)
        self.assertEqual(told(camera, 0, 1), ([(0, 2)], [(0, False), (1, True)], [[0, 2], [1, 2]]))

    def test_possible(self):
        self.assertEqual(Camera(EXAMPLE, 1).possible(0), [0, 1, 2])


class Beginning(unittest.TestCase):

    def test_all_pairs_of_different_cells(self):
        self.assertEqual(Camera(EXAMPLE, 0).starts, [(0, 1), (0, 2), (1, 0), (1, 2), (2, 0), (2, 1)])
        camera = Camera(plan_of("0 0 0 0 0 0 0 0 0 0 0 0", (3, "wait;"), (7, "left; right;")), 11)
        self.assertEqual(camera.starts, list(itertools.permutations(range(12), 2)))
        self.assertEqual(camera.history, [])

    def test_starts_of_the_plan_do_not_matter(self):
        for first, second in itertools.permutations(range(4), 2):
            camera = Camera(plan_of("0 0 0 0", (first, "wait;"), (second, "a: goto a;")), 2)
            self.assertEqual(camera.see(0, True), 6)
            self.assertEqual(camera.starts, [(0, 2), (1, 2), (2, 0), (2, 1), (2, 3), (3, 2)])

    def test_kinds_of_results(self):
        camera = Camera(EXAMPLE, 1)
        self.assertIs(type(camera.see(0, True)), int)
        self.assertIs(type(camera.see_from(1)), int)
        for value, kinds in ((camera.starts, [int, int]), (camera.history, [int, bool])):
            self.assertEqual((type(value), type(value[0]), [type(part) for part in value[0]]), (list, tuple, kinds))
        self.assertEqual((type(camera.possible(0)), type(camera.possible(0)[0])), (list, int))

    def test_cells_that_are_none(self):
        for cell in (*NOT_INTEGERS_NOT_STRINGS, -1, -3, 3, 4, 11, LAST_TICK, -LAST_TICK, "", "0", "cell"):
            self.assertEqual(fault_of(Camera, EXAMPLE, cell), ("InvalidNumber",))
        for cell in range(3):
            self.assertIsNone(fault_of(Camera, EXAMPLE, cell))
        self.assertIsNone(fault_of(Camera, RESTING, 3))
        self.assertEqual(fault_of(Camera, RESTING, 4), ("InvalidNumber",))

    def test_order_of_errors(self):
        for cell in (0, 3, None, True):
            self.assertEqual(fault_of(Camera, "shelf ?", cell), ("SyntaxFault", 0, 6))
            self.assertEqual(fault_of(Camera, None, cell), ("SyntaxFault", 0, 0))
            # The starts of the plan do not matter, but they must be allowed.
            self.assertEqual(fault_of(Camera, "shelf 0 0 0; robot 1 { wait; } robot 1 { wait; }", cell),
                             ("CheckFault", "same", 0, 37))
            self.assertEqual(fault_of(Camera, "shelf 0 0 0; robot 3 { wait; } robot 1 { wait; }", cell),
                             ("CheckFault", "start", 0, 19))
        for cell in (True, -1, 12, "0", None):
            self.assertEqual(fault_of(Camera, JUST_TOO_LONG, cell), ("InvalidNumber",))

    def test_too_long(self):
        for plan in (JUST_TOO_LONG, FAR_TOO_LONG):
            self.assertEqual(fault_of(Camera, plan, 0), ("TooLong",))
        # By the starts of the plan itself, it would repeat early.
        self.assertEqual(find_cycle(OTHER_STARTS_TOO_LONG), (37, 315))
        self.assertEqual(fault_of(Camera, OTHER_STARTS_TOO_LONG, 0), ("TooLong",))
        # All starts of this one repeat early, though some of them just in time.
        self.assertEqual(len(Camera(JUST_IN_TIME, 0).starts), 132)


class See(unittest.TestCase):

    def test_where_robots_rest(self):
        camera = Camera(RESTING, 0)
        self.assertEqual(camera.see(5, False), 6)
        self.assertEqual(told(camera, 0), ([(1, 2), (1, 3), (2, 1), (2, 3), (3, 1), (3, 2)], [(5, False)], [[1, 2, 3]]))
        other = Camera(RESTING, 0)
        self.assertEqual(other.see(LAST_TICK, True), 6)
        self.assertEqual(told(other, 7), ([(0, 1), (0, 2), (0, 3), (1, 0), (2, 0), (3, 0)], [(LAST_TICK, True)],
                                          [[0, 1, 2, 3]]))

    def test_robots_are_seen_after_the_tick(self):
        camera = Camera(plan_of("0 0 0 0 0", (0, "right; a: wait; goto a;"), (4, "wait;")), 1)
        # From (0, 1), robot 0 is blocked, and robot 1 stays in the cell.
        self.assertEqual(camera.see(0, True), 8)
        self.assertEqual(camera.starts, [(0, 1), (0, 2), (0, 3), (0, 4), (1, 2), (2, 1), (3, 1), (4, 1)])

    def test_observations_that_tell_nothing_new(self):
        camera = Camera(RESTING, 2)
        for many in range(1, 4):
            self.assertEqual(camera.see(9, True), 6)
            self.assertEqual(camera.history, [(9, True)] * many)

    def test_order_of_ticks_is_free(self):
        camera = Camera(RESTING, 2)
        camera.see(9, True)
        camera.see(3, True)
        camera.see(LAST_TICK, True)
        camera.see(0, True)
        self.assertEqual(camera.history, [(9, True), (3, True), (LAST_TICK, True), (0, True)])

    def test_contradiction(self):
        camera = Camera(EXAMPLE, 1)
        camera.see_from(0, False, True)
        before = told(camera, 0, 1, 2, LAST_TICK)
        for tick, is_there in ((0, True), (1, False), (2, False), (3, True), (LAST_TICK, True)):
            for _ in range(2):
                self.assertEqual(fault_of(camera.see, tick, is_there), ("Contradiction",))
                self.assertEqual(told(camera, 0, 1, 2, LAST_TICK), before)
        self.assertEqual(camera.see(3, False), 1)
        self.assertEqual(camera.history, [(0, False), (1, True), (3, False)])

    def test_contradiction_of_the_first_observation(self):
        # Behind tick 1, both robots are in the cells 1 and 2, wherever they started.
        both_right = plan_of("0 0 0", (0, "right;"), (2, "right;"))
        for cell, impossible in ((0, True), (1, False), (2, False)):
            camera = Camera(both_right, cell)
            before = told(camera, 0, 1)
            for tick in (1, 2, LAST_TICK):
                self.assertEqual(fault_of(camera.see, tick, impossible), ("Contradiction",))
                self.assertEqual(fault_of(camera.see_from, tick - 1, not impossible, impossible), ("Contradiction",))
                self.assertEqual(told(camera, 0, 1), before)
            self.assertEqual(camera.see(1, not impossible), 6)
            self.assertEqual(told(camera, 0, 1), (before[0], [(1, not impossible)], [[0, 1, 2], [1, 2]]))

    def test_invalid_ticks(self):
        camera = Camera(EXAMPLE, 1)
        for tick in NOT_TICKS:
            for is_there in (True, False):
                self.assertEqual(fault_of(camera.see, tick, is_there), ("InvalidTick",))
            self.assertEqual(fault_of(camera.possible, tick), ("InvalidTick",))
        self.assertEqual(told(camera, 0), (list(itertools.permutations(range(3), 2)), [], [[0, 1, 2]]))
        self.assertIsNone(fault_of(camera.possible, LAST_TICK))
        self.assertIsNone(fault_of(camera.see, LAST_TICK, False))

    def test_invalid_tick_before_contradiction(self):
        camera = Camera(RESTING, 0)
        camera.see(0, True)
        for tick in (LAST_TICK + 1, -1, False, None):
            self.assertEqual(fault_of(camera.see, tick, False), ("InvalidTick",))
            self.assertEqual(fault_of(camera.see_from, tick, False), ("InvalidTick",))
        self.assertEqual(camera.history, [(0, True)])


class SeeFrom(unittest.TestCase):

    def test_same_as_one_by_one(self):
        for answers in itertools.product((True, False), repeat=4):
            for first in (0, 1, 2, 1000, LAST_TICK - 3):
                together, single = Camera(CIRCLES, 2), Camera(CIRCLES, 2)
                faults = [fault_of(single.see, tick, answer) for tick, answer in enumerate(answers, first)]
                if any(faults):
                    self.assertEqual(fault_of(together.see_from, first, *answers), ("Contradiction",))
                    self.assertEqual(told(together, 0, first), told(Camera(CIRCLES, 2), 0, first))
                else:
                    self.assertEqual(together.see_from(first, *answers), len(single.starts))
                    self.assertEqual(told(together, 0, first), told(single, 0, first))
                    self.assertEqual(together.history, list(enumerate(answers, first)))

    def test_no_answers(self):
        camera = Camera(EXAMPLE, 1)
        self.assertEqual(camera.see_from(0), 6)
        self.assertEqual(camera.see_from(LAST_TICK), 6)
        camera.see(0, False)
        self.assertEqual(camera.see_from(5), 2)
        self.assertEqual(camera.history, [(0, False)])

    def test_invalid_first_tick(self):
        camera = Camera(EXAMPLE, 1)
        for tick in NOT_TICKS:
            for answers in ((), (True,), (False, True)):
                self.assertEqual(fault_of(camera.see_from, tick, *answers), ("InvalidTick",))
        self.assertEqual(told(camera), (list(itertools.permutations(range(3), 2)), [], []))

    def test_a_later_one_beyond_the_last_tick(self):
        camera = Camera(RESTING, 1)
        camera.see(3, True)
        before = told(camera, 0)
        for many in range(1, 5):
            for extra in range(1, 4):
                self.assertEqual(fault_of(camera.see_from, LAST_TICK - many + 1, *[True] * (many + extra)),
                                 ("InvalidTick",))
                self.assertEqual(told(camera, 0), before)
        self.assertEqual(camera.see_from(LAST_TICK - 3, True, True, True, True), 6)
        self.assertEqual(camera.history, [(3, True), *[(LAST_TICK - 3 + more, True) for more in range(4)]])

    def test_a_later_one_impossible(self):
        camera = Camera(RESTING, 1)
        before = told(camera, 0)
        for many in range(1, 6):
            for answer in (True, False):
                self.assertEqual(fault_of(camera.see_from, 7, *[answer] * many, not answer), ("Contradiction",))
                self.assertEqual(fault_of(camera.see_from, 7, *[answer] * many, not answer, answer),
                                 ("Contradiction",))
                self.assertEqual(told(camera, 0), before)
        self.assertEqual(camera.see_from(7, True, True), 6)
        self.assertEqual(camera.history, [(7, True), (8, True)])

    def test_first_error_counts(self):
        # The observations are made one after another, so the first one that cannot be accepted tells the error.
        camera = Camera(RESTING, 1)
        camera.see(3, True)
        self.assertEqual(fault_of(camera.see_from, LAST_TICK, False, True), ("Contradiction",))
        self.assertEqual(fault_of(camera.see_from, LAST_TICK, True, False), ("InvalidTick",))
        self.assertEqual(camera.history, [(3, True)])


class Lists(unittest.TestCase):

    def test_are_new(self):
        camera = Camera(EXAMPLE, 1)
        camera.see(0, False)
        for read, expected in ((lambda: camera.starts, [(0, 2), (2, 0)]), (lambda: camera.history, [(0, False)]),
                               (lambda: camera.possible(1), [0, 1, 2])):
            first, second = read(), read()
            self.assertIsNot(first, second)
            self.assertEqual(first, expected)
            first.append(9)
            first[0] = 7
            self.assertEqual(second, expected)
            second.clear()
            self.assertEqual(read(), expected)
        self.assertEqual(camera.see(1, True), 1)
        self.assertEqual(told(camera, 1), ([(0, 2)], [(0, False), (1, True)], [[1, 2]]))

    def test_do_not_change_later(self):
        camera = Camera(EXAMPLE, 1)
        lists = told(camera, 0)
        camera.see_from(0, False, True)
        self.assertEqual(lists, (list(itertools.permutations(range(3), 2)), [], [[0, 1, 2]]))

    def test_cameras_do_not_influence_each_other(self):
        cameras = [Camera(EXAMPLE, cell) for cell in (1, 1, 0)]
        cameras[0].see_from(0, False, True)
        self.assertEqual([len(camera.starts) for camera in cameras], [1, 6, 6])
        self.assertEqual([camera.history for camera in cameras], [[(0, False), (1, True)], [], []])
        cameras[1].see(0, True)
        self.assertEqual([len(camera.starts) for camera in cameras], [1, 4, 6])


class AsTheTextsTell(unittest.TestCase):

    def ticks(self, choice):
        return choice.choice((0, 1, 2, 3, 4, 7, 20, 21, 1000, LAST_TICK - 1, LAST_TICK))

    def test_by_all_starts(self):
        for seed in range(30):
            plan = random_plan(seed)
            choice = random.Random(seed)
            cell = choice.randrange(len(plan[0]))
            camera, expected = Camera(text_of(plan), cell), ByTexts(plan, cell)
            for _ in range(8):
                tick, is_there = self.ticks(choice), choice.choice((True, False))
                with self.subTest(seed=seed, tick=tick, is_there=is_there):
                    many = expected.see(tick, is_there)
                    if many is None:
                        self.assertEqual(fault_of(camera.see, tick, is_there), ("Contradiction",))
                    else:
                        self.assertEqual(camera.see(tick, is_there), many)
                    self.assertEqual(told(camera, 0, 3, tick, LAST_TICK), expected.told(0, 3, tick, LAST_TICK))

    def test_what_happens_is_never_a_contradiction(self):
        for seed in range(30):
            plan = random_plan(seed)
            boxes, robots = plan
            text = text_of(plan)
            for cell in range(len(boxes)):
                camera = Camera(text, cell)
                camera.see_from(0, *[cell in cells(text, tick) for tick in range(25)])
                camera.see(LAST_TICK, cell in cells(text, LAST_TICK))
                self.assertIn((robots[0][0], robots[1][0]), camera.starts)
                self.assertLessEqual(set(cells(text, 12)), set(camera.possible(12)))

    def test_several_ways_and_orders(self):
        for seed in range(12):
            plan = random_plan(seed)
            text = text_of(plan)
            cell = seed % len(plan[0])
            facts = [(tick, cell in cells(text, tick)) for tick in range(6)]
            together = Camera(text, cell)
            many = together.see_from(0, *[answer for _, answer in facts])
            in_parts = Camera(text, cell)
            in_parts.see_from(0, *[answer for _, answer in facts[:2]])
            in_parts.see(*facts[2])
            self.assertEqual(in_parts.see_from(3, *[answer for _, answer in facts[3:]]), many)
            self.assertEqual(told(in_parts, 0, 9), told(together, 0, 9))
            for order in itertools.islice(itertools.permutations(facts), 0, 720, 61):
                camera = Camera(text, cell)
                self.assertEqual([camera.see(tick, answer) for tick, answer in order][-1], many)
                self.assertEqual(camera.history, list(order))
                self.assertEqual(camera.starts, together.starts)
                self.assertEqual(camera.possible(9), together.possible(9))


class Interface(unittest.TestCase):

    def test_names_and_arguments(self):
        self.assertEqual(Camera.__module__, "shelfbots.watching")
        self.assertIs(watching.Camera, Camera)
        self.assertEqual(list(inspect.signature(Camera).parameters), ["plan", "cell"])
        for name, arguments in (("see", ["self", "tick", "is_there"]), ("see_from", ["self", "first", "answers"]),
                                ("possible", ["self", "tick"])):
            self.assertEqual(list(inspect.signature(vars(Camera)[name]).parameters), arguments)
        for name in ("starts", "history"):
            self.assertIsInstance(vars(Camera)[name], property)
        self.assertEqual(inspect.signature(Camera.see_from).parameters["answers"].kind,
                         inspect.Parameter.VAR_POSITIONAL)


if __name__ == "__main__":
    unittest.main()
