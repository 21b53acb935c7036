"""What the tests share that hold promise 2: nothing is modified or kept, and every list that is returned is new."""

from copy import deepcopy

from tests.plain import parts


class Kept:
    """It stands beside TestCase; `all_calls` returns all questions, a function and a list of what is passed each."""

    answered_by_yes_or_no = ()

    def test_what_is_passed_stays_as_it_is(self):
        for function, passed in self.all_calls():
            kept = deepcopy(passed)
            function(*passed)
            self.assertEqual(passed, kept, function.__name__)

    def test_the_same_call_has_the_same_answer(self):
        calls = self.all_calls()
        answers = [deepcopy(function(*passed)) for function, passed in calls]
        self.assertEqual([function(*passed) for function, passed in reversed(calls)], answers[::-1])

    def test_what_is_returned_is_of_plain_kinds(self):
        for function, passed in self.all_calls():
            for part in parts(function(*passed)):
                self.assertIn(type(part), (int, str, list, tuple, bool, type(None)), function.__name__)

    def test_only_answers_of_yes_and_no_are_booleans(self):
        for function, passed in self.all_calls():
            answer = function(*passed)
            if function in self.answered_by_yes_or_no:
                self.assertIs(type(answer), bool)
            else:
                self.assertNotIn(bool, [type(part) for part in parts(answer)])

    def test_no_list_is_returned_twice_or_stands_in_two_places(self):
        calls = self.all_calls()
        kept = [passed for _, passed in calls]
        kept += [function(*passed) for function, passed in calls for _ in range(2)]
        lists = [part for value in kept for part in parts(value) if isinstance(part, list)]
        self.assertEqual(len({id(each) for each in lists}), len(lists))

    def test_a_list_that_the_caller_changes_changes_no_later_answer(self):
        for function, passed in self.all_calls():
            answer = function(*passed)
            before = deepcopy(answer)
            for part in parts(answer):
                if isinstance(part, list):
                    part.reverse()
                    part.append((("RRR", 0), ("LLL", 0), "RL"))
                    part[0] = None
            self.assertEqual(function(*passed), before, function.__name__)
