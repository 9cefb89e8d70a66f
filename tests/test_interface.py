"""The interface: how calls and answers stand in their lists, and what the function leaves alone."""

import contextlib
import importlib
import inspect
import io
import pathlib
import subprocess
import sys
import unittest

import airmornings.ground
from airmornings.ground import answers
from tests.helper import begins, comes, flat, lands, stand
from tests.test_mornings import morning

MORNING = [0, 1, 20, 5, 1, 0, 1, 4, 2, 2, 3, 2, 0, 1, 3, 0, 2, 1, 0, 4, 0, 2, 100, 10, 50, 30, 4, 1, 0, 50, 10, 50, 10,
           5, 5, 7, 0, 20, 4, 0, 1, 10, 15, 15, 100, 7, 0, 21, 8, 0, 1, 6, 1, 6, 2,
           9, 10, 0, 5, 11, 3, 12, 0, 13, 14, 15, 0, 0, 99, 16]
ANSWERED = [1, 0, 1, 0, 1, 0, 1, 1, 1, 1, 4, 0, 1, 0, 0, 4, 1, 1, 2, 0, 5, 1, 2, 10, 2, 0, 5, 0, 2, 11, 0, 0, 2, 0, 0,
            4, 2, 1, 0, 0, 3, 1, 1, 2, 3, 1, 1, 0, 2, 1, 0, 2, 0, 0,
            2, 0, 0, 1, -4, 1, -2, 5, 1, 3, 2, 16, 21, 3, 2000, 1, 2000, 5, 2, 3, 1, 0, 1, 2, 0, 0,
            15, 3, 3, 1, 20, 5, 4, 1, 10, 0, 11, 0, 3, 0, 16, 21]


class Watched(list):
    """A list that says so when it's changed."""

    def refuse(self, *_, **__):
        raise AssertionError("what is handed in was changed")

    append = extend = insert = pop = remove = clear = sort = reverse = refuse
    __setitem__ = __delitem__ = __iadd__ = __imul__ = refuse


class TheForm(unittest.TestCase):

    def test_each_call_by_itself(self):
        for calls, answered in (
                ([0, 1, 0, 0], [1, 0]),
                ([1, 0, 0, 1], [1, 0]),
                ([2, 0, 0], [1, 0]),
                ([3, 0, 0, 1, 0], [1, -2]),
                ([4, 0, 0, 0, 0, 0, 1], [4, 0, 1, 0, 0]),
                ([5], [1, -4]),
                ([6, 0], [1, -2]),
                ([7, 0, 0], [1, -2]),
                ([8, 0, 0], [1, -2]),
                ([9], [2, 0, 0]),
                ([10, 0, 0], [1, -2]),
                ([11, 0], [1, -2]),
                ([12, 0], [1, -2]),
                ([13], [3, 0, 1, 0]),
                ([14], [2, 0, 0]),
                ([15, 0, 0, 1], [1, -2]),
                ([16], [8, 0, 3, 1, 0, 0, 0, 0, 0])):
            self.assertEqual(answered, answers(calls))

    def test_each_answer_with_its_lists(self):
        one = [2, 2, 0, 2, 2, 0, 0, 1, 9, 0, 2, 2, 0, 2, 2, 1, 3, 0, 0, 1, 0]
        begun = [1, 0, 1, 1, 1, 0, 1, 0, 1, 1, 1, 1]
        self.assertEqual(begun, answers(one))
        one = one + [4, 0, 1, 7, 3, 3, 10]
        begun = begun + [4, 0, 1, 0, 0]
        self.assertEqual(begun, answers(one))
        self.assertEqual(begun + [3, 1, 1, 0], answers(one + [8, 0, 1]))
        self.assertEqual(begun + [2, 0, 0], answers(one + [6, 0]))
        one = one + [5]
        begun = begun + [5, 0, 2, 3, 0, 0]
        self.assertEqual(begun, answers(one))
        self.assertEqual(begun + [2, 0, 0], answers(one + [7, 0, 50]))
        self.assertEqual(begun + [2, 1, 0], answers(one + [6, 0]))

    def test_each_question_with_its_lists(self):
        # Two at once, the one at the stand, the other on the field.
        calls = [0, 1, 9, 0, 2, 2, 0, 4, 0, 1, 50, 10, 99, 30, 4, 0, 1, 60, 10, 99, 30]
        answered = [1, 0, 1, 0, 4, 0, 1, 0, 0, 4, 1, 1, 1, 0]
        self.assertEqual(answered, answers(calls))
        for asked, told in (
                ([9], [6, 11, 4, 0, 10, 1, 11]),
                ([10, 1, 9], [1, 0]),
                ([10, 1, 10], [1, 1]),
                ([11, 0], [2, 10, 0]),
                ([11, 1], [3, 11, 1, 0]),
                ([12, 1], [5, 0, 3, 1, 11, 41]),
                ([13], [3, 540, 1, 450]),
                ([14], [4, 0, 2, 0, 0]),
                ([15, 0, 0, 10], [2, 0, 0]),
                ([15, 0, 0, 11], [3, 1, 1, 0]),
                ([16], [16, 2, 3, 1, 9, 0, 0, 2, 0, 1, 6, 0, 10, 40, 1, 11, 41])):
            self.assertEqual(answered + told, answers(calls + asked))
            self.assertEqual(answered + told + told, answers(calls + asked + asked))
        calls = calls + [5, 8, 0, 1]
        answered = answered + [5, 0, 2, 10, 0, 0, 3, 1, 1, 0]
        self.assertEqual(answered, answers(calls))
        for asked, told in (
                ([9], [4, 11, 2, 1, 11]),
                ([12, 0], [5, 1, 3, 1, 10, 40]),
                ([6, 0, 12, 0], [2, 1, 0, 1, 2]),
                ([14], [4, 1, 2, 1, 0]),
                ([16], [17, 2, 3, 1, 9, 0, 2, 0, 10, 1, 1, 6, 0, 10, 40, 1, 11, 41])):
            self.assertEqual(answered + told, answers(calls + asked))

    def test_those_that_were_moved_stand_behind_how_many_they_are(self):
        # Two at one stand, one behind the other; then it's shut.
        calls = [0, 1, 9, 0, 2, 2, 0, 4, 0, 0, 1, 0, 0, 10, 4, 0, 0, 1, 10, 10, 10]
        self.assertEqual([1, 0, 1, 0, 4, 0, 1, 0, 0, 4, 1, 1, 0, 0, 4, 2, 2, 0, 1], answers(calls + [8, 0, 1]))

    def test_who_was_moved_by_a_coming_and_a_going(self):
        opening = [0, 2, 10, 0, 1, 1, 0, 9, 2, 2, 0]
        calls = opening + [4, 0, 0, 1, 0, 1000, 10, 4, 0, 0, 2, 10, 1000, 10, 4, 1, 0, 1, 0, 0, 1]
        self.assertEqual([1, 0, 1, 0, 1, 0, 4, 0, 1, 0, 0, 4, 1, 1, 0, 0, 5, 2, 1, 0, 1, 0], answers(calls))
        calls = opening + [4, 1, 0, 1, 0, 0, 1, 4, 0, 0, 1, 0, 1000, 5, 4, 2, 0, 2, 1, 1, 5, 6, 0]
        self.assertEqual([1, 0, 1, 0, 1, 0, 4, 0, 1, 0, 0, 4, 1, 1, 0, 0, 4, 2, 1, 0, 0, 3, 0, 1, 1], answers(calls))

    def test_many_calls_one_behind_another(self):
        self.assertEqual(ANSWERED, answers(MORNING))

    def test_any_call_may_be_first(self):
        self.assertEqual([4, 0, 1, 0, 0, 5, 0, 2, 4, 0, 0], answers([4, 0, 0, 0, 4, 4, 1, 5]))

    def test_only_whole_numbers_are_given_back(self):
        for seed in range(5):
            answered = answers(flat(morning(seed)[0]))
            self.assertIs(list, type(answered))
            self.assertEqual({int}, {type(number) for number in answered})

    def test_nothing_below_none_is_answered_but_a_refusal_alone(self):
        for seed in range(20):
            answered = answers(flat(morning(seed)[0]))
            at = 0
            while at < len(answered):
                part = answered[at + 1:at + 1 + answered[at]]
                self.assertTrue(min(part) >= 0 or len(part) == 1)
                at += 1 + answered[at]
            self.assertEqual(len(answered), at)

    def test_the_one_argument_is_called_calls(self):
        self.assertEqual(["calls"], list(inspect.signature(airmornings.ground.answers).parameters))
        self.assertEqual([1, 0], airmornings.ground.answers(calls=[2, 0, 0]))


class WhatIsLeftAlone(unittest.TestCase):

    def test_the_list_is_the_same_behind_as_before(self):
        for seed in range(10):
            calls = flat(morning(seed)[0])
            kept = list(calls)
            answers(calls)
            self.assertEqual(kept, calls)

    def test_the_list_is_not_changed_for_a_while_either(self):
        for seed in range(10):
            calls = flat(morning(seed)[0])
            self.assertEqual(answers(calls), answers(Watched(calls)))

    def test_the_second_time_is_like_the_first(self):
        for seed in range(10):
            calls = flat(morning(seed)[0])
            once = answers(calls)
            self.assertEqual(once, answers(calls))
            self.assertEqual(ANSWERED, answers(MORNING))
            self.assertEqual(once, answers(calls))

    def test_what_is_given_back_is_the_callers_own(self):
        once = answers(MORNING)
        once.clear()
        self.assertEqual(ANSWERED, answers(MORNING))

    def test_nothing_is_kept_of_a_morning_before(self):
        answers(flat([begins(3, 1000, 40), stand(2, 5), comes(), comes(), lands()]))
        self.assertEqual([1, 0, 4, 0, 1, 1, 0], answers(flat([stand(2, 5), comes()])))

    def test_it_prints_nothing(self):
        out, err = io.StringIO(), io.StringIO()
        with contextlib.redirect_stdout(out), contextlib.redirect_stderr(err):
            answers(MORNING)
        self.assertEqual(("", ""), (out.getvalue(), err.getvalue()))

    def test_it_imports_nothing(self):
        before = sorted(sys.modules)
        answers(MORNING)
        self.assertEqual(before, sorted(sys.modules))

    def test_the_package_brings_nothing_of_others(self):
        # In a Python of its own, because the tests themselves have brought a great deal.
        told = ("import sys; before = set(sys.modules); import airmornings.ground; "
                "print(sorted(name for name in set(sys.modules) - before if name.split('.')[0] != 'airmornings'))")
        top = pathlib.Path(importlib.import_module("airmornings").__file__).parent.parent
        done = subprocess.run([sys.executable, "-B", "-c", told], cwd=top, capture_output=True, text=True, check=True)
        self.assertEqual("[]", done.stdout.strip())
