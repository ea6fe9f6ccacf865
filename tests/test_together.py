"""Points 1, 2, 4, 6, 10 to 13: what several modules tell of the same plans."""

import random
import unittest

from shelfbots.comparison import first_difference, first_error
from shelfbots.encoding import decode, encode
from shelfbots.formatter import count_steps, format_plan
from shelfbots.locks import count_blocked, count_done, lock_tick, stuck_from, stuck_robots, unused_steps
from shelfbots.machine import boxes, cells, find_cycle, holding, trace
from shelfbots.planning import free_starts, plan_waits
from shelfbots.stage import Stage
from shelfbots.watching import Camera
from tests.helpers import EXAMPLE, LAST_TICK, fault_of, stage_told
from tests.slow import World, random_plan, text_of, tight_text_of

PLANS = [random_plan(seed) for seed in range(100, 120)]


def texts_of(plan):
    """Returns several texts of a plan."""
    return [
        text_of(plan), text_of(plan, gap="\n"), text_of(plan, gap="  \n\n "), "\n  " + text_of(plan) + " \n",
        tight_text_of(plan), tight_text_of(plan, has_all_labels=True), text_of(plan, letter="zzzzzzz"),
        text_of(plan, letter="left", has_all_labels=True), tight_text_of(plan, letter="sho", has_all_labels=True),
    ]


def told_of(text):
    """Returns what all modules tell of a plan."""
    stage = Stage(text)
    camera = Camera(text, 1)
    return [
        format_plan(text), count_steps(text), encode(text), find_cycle(text), list(trace(text, 0, 99)),
        [(cells(text, tick), boxes(text, tick), holding(text, tick)) for tick in (0, 5, LAST_TICK)],
        lock_tick(text), stuck_robots(text), free_starts(text), plan_waits(text, 1),
        [(stuck_from(text, robot), unused_steps(text, robot), count_blocked(text, robot, 77),
          count_done(text, robot, "wait", LAST_TICK)) for robot in (0, 1)],
        stage.step(30), stage_told(stage), camera.see(3, 1 in cells(text, 3)), camera.starts, camera.possible(4),
    ]


class Texts(unittest.TestCase):

    def test_of_one_plan(self):
        for plan in PLANS:
            texts = texts_of(plan)
            # Some are equal if no step is a jump.
            self.assertGreaterEqual(len(set(texts)), 7)
            expected = told_of(texts[0])
            code = expected[2]
            for text in texts:
                with self.subTest(text=text):
                    self.assertEqual(told_of(text), expected)
                    self.assertEqual(decode(encode(text)), expected[0])
                    self.assertIsNone(first_difference(text, texts[0]))
                    self.assertEqual(encode(format_plan(text)), code)
            # The canonical text tells the same as well.
            self.assertEqual(told_of(decode(code)), expected)

    def test_labels_that_no_jump_names(self):
        plain = "shelf 1 0 0; robot 0 { pick; right; put; left; } robot 2 { wait; }"
        labelled = "shelf 1 0 0; robot 0 { a: pick; b: right; put; sa: left; } robot 2 { a: wait; }"
        self.assertEqual(format_plan(labelled), format_plan(plain))
        self.assertEqual(encode(labelled), encode(plain))
        self.assertEqual(count_steps(labelled), (4, 1))
        self.assertEqual(Stage(labelled).step(20), Stage(plain).step(20))

    def test_labels_of_the_other_robot(self):
        text = "shelf 0 0 0; robot 0 { a: wait; b: goto a; } robot 1 { b: wait; wait; a: empty b; }"
        self.assertEqual(encode(text)[7:10], [4, 5, 0])
        self.assertEqual(format_plan(text).split("\n")[4:],
                         ["}", "robot 1 {", "  sa: wait;", "  wait;", "  empty sa;", "}"])


class StagesAndPlans(unittest.TestCase):

    def test_stage_as_the_plan(self):
        for plan in PLANS:
            text = text_of(plan)
            stage = Stage(text)
            world = World(plan)
            for tick in range(60):
                words = stage.step(1)
                self.assertEqual(words, [world.tick()])
                self.assertEqual(words, [row[1:] for row in trace(text, tick, tick)])
                loaded = holding(text, tick)
                self.assertEqual((stage.places, stage.shelf_boxes, stage.held, stage.blocked),
                                 (cells(text, tick), boxes(text, tick), (0 in loaded, 1 in loaded),
                                  (count_blocked(text, 0, tick + 1), count_blocked(text, 1, tick + 1))))

    def test_log_of_a_stage(self):
        for plan in PLANS:
            stage = Stage(text_of(plan))
            self.assertIsNone(first_error(text_of(plan), stage.step(3) + stage.step(0) + stage.step(497)))

    def test_unchanged_plan_behind_a_changed_stage(self):
        text = EXAMPLE
        stage = Stage(text)
        stage.batch([("add", 1), ("add", 1), ("jump", 0, 2), ("step", 9)])
        self.assertEqual(boxes(text, LAST_TICK), [0, 1, 0])
        self.assertEqual(Stage(text).step(9), [row[1:] for row in trace(text, 0, 8)])


class SameQuestions(unittest.TestCase):

    def questions(self):
        """Returns functions without arguments, each of which asks something."""
        stage = Stage(EXAMPLE)
        stage.batch([("step", 3), ("add", 1), ("undo",)])
        camera = Camera(EXAMPLE, 1)
        camera.see(0, False)
        questions = [
            lambda: stage.passed, lambda: stage.places, lambda: stage.shelf_boxes, lambda: stage.held,
            lambda: stage.blocked, lambda: stage.operations, lambda: fault_of(stage.step, 501),
            lambda: fault_of(stage.take, 2), lambda: fault_of(stage.restore, "x"), lambda: fault_of(stage.save, ""),
            lambda: fault_of(stage.batch, [("redo",), ("take", 2)]), lambda: stage_told(stage),
            lambda: camera.starts, lambda: camera.history, lambda: camera.possible(1),
            lambda: camera.possible(LAST_TICK),
            lambda: fault_of(camera.see, -1, True), lambda: fault_of(camera.see_from, 1, True, True, False, True),
            lambda: camera.see_from(0), lambda: encode(EXAMPLE), lambda: decode(encode(EXAMPLE)),
            lambda: fault_of(decode, [83, 2]), lambda: fault_of(Camera, EXAMPLE, 3), lambda: fault_of(Stage, "shelf"),
            lambda: stage_told(Stage.replay(EXAMPLE, [("step", 4)])), lambda: Camera(EXAMPLE, 0).see(0, True),
        ]
        for plan in (EXAMPLE, text_of(PLANS[0]), text_of(PLANS[1])):
            questions.append(lambda text=plan: told_of(text))
        return questions

    def test_in_any_order(self):
        questions = self.questions()
        answers = [ask() for ask in questions]
        choice = random.Random(0)
        for _ in range(6):
            for at in choice.sample(range(len(questions)), len(questions)):
                self.assertEqual(questions[at](), answers[at], at)

    def test_lists_that_are_modified_in_between(self):
        questions = self.questions()
        answers = [ask() for ask in questions]
        for _ in range(2):
            for ask, expected in zip(questions, answers):
                answer = ask()
                self.assertEqual(answer, expected)
                if isinstance(answer, list):
                    for part in answer:
                        if isinstance(part, list):
                            part.clear()
                    answer.append(None)
                    answer[0] = None
        self.assertEqual([ask() for ask in questions], answers)


if __name__ == "__main__":
    unittest.main()
