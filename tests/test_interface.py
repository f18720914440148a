"""How calls stand in a list, how their answers stand in the list that is given back, and that nothing is kept."""

import unittest

from seatwave import ring
from seatwave.ring import answers
from tests.helper import (
    ADVANCE, CREATE, CYCLE, GET_RING, GET_SECTION, GET_STATE, GREATEST, MAX_STANDING, MIRROR, RING_AFTER, ROTATE,
    SET_ALL, SET_SECTION, SIT_DOWN, STAND_UP, START_WAVE, STEP, STEPS_UNTIL_QUIET, call_list, play, queries)

EVERY_CALL = call_list([
    (GET_RING,), (CREATE, 2), (CREATE, 5), (SET_SECTION, 4, 2), (SET_ALL, [0, 0, 0, 1, 2]), (SET_ALL, []),
    (SET_ALL, [65535] * 16), (STAND_UP, 0), (STAND_UP, GREATEST), (SIT_DOWN,), (START_WAVE, 1, 0), (STEP,),
    (ADVANCE, 40), (ROTATE, 12), (MIRROR,), (GET_RING,), (GET_SECTION, 0), (CREATE, 13), (GET_SECTION, 5),
    *queries(5), (SIT_DOWN,), *queries(5), (STAND_UP, 4), *queries(5)])


class GuardedList(list):
    """A list that refuses to be changed, even for a while."""

    def refuse(self, *arguments, **named):
        raise AssertionError("the list of calls is changed")

    append = extend = insert = pop = remove = clear = sort = reverse = refuse
    __setitem__ = __delitem__ = __iadd__ = __imul__ = refuse


class ListOfCalls(unittest.TestCase):
    def test_the_lists_number_by_number(self):
        calls = [0, 4, 1, 3, 2, 2, 4, 0, 0, 1, 0, 3, 0, 5, 10, 11, 1]
        self.assertEqual(answers(calls), [1, 0, 1, 0, 1, 0, 1, 2, 1, 2, 5, 4, 2, 1, 2, 1, 1, 1])

    def test_each_call_with_its_arguments(self):
        calls = [0, 6, 4, 2, 1, 6, 0, 7, 3, 8, 10, 9, 10]
        self.assertEqual(
            answers(calls), [1, 0, 1, 1, 1, 1, 1, 6, 1, 6, 7, 6, 1, 0, 0, 0, 0, 2, 1, 2, 7, 6, 0, 0, 0, 0, 0, 0])

    def test_each_query_with_its_arguments(self):
        calls = [0, 6, 4, 2, 0, 12, 3, 13, 14, 15, 16, 17, 18, 19, 20, 5, 21, 3, 22, 11, 1, 10]
        self.assertEqual(answers(calls), [
            1, 0, 1, 1, 7, 6, 0, 0, 0, 0, 2, 1, 2, 0, -1, 1, -33, 2, 0, 6, 2, 1, 2, 1, 0, 1, 1, 1, 1, 1, 3, 1, -33,
            3, 6, 0, 1, 1, 2, 7, 6, 0, 2, 1, 0, 0, 0])

    def test_each_query_of_a_quiet_ring(self):
        calls = [0, 3, 12, 40, 13, 14, 15, 16, 17, 18, 19, 20, 0, 21, 0, 22]
        self.assertEqual(answers(calls), [
            1, 0, 4, 3, 0, 0, 0, 2, 0, 0, 1, 0, 2, 0, 1, 1, 0, 1, 0, 1, 0, 1, 0, 1, -33, 1, 3, 3, 3, 0, 0])

    def test_a_winding_number_above_0_and_one_below(self):
        self.assertEqual(answers([0, 3, 2, 3, 0, 1, 2, 13, 8, 13]), [1, 0, 1, 0, 2, 0, 1, 1, 3, 2, 0, -1])

    def test_several_waves_number_by_number(self):
        calls = [0, 12, 2, 12, 2, 1, 0, 2, 1, 0, 2, 1, 0, 0, 1, 2, 16, 17]
        self.assertEqual(answers(calls), [1, 0, 1, 0, 4, 3, 1, 4, 7, 2, 1, 10])

    def test_a_refused_query_is_its_code_alone(self):
        calls = [22, 0, 3, 12, 41, 20, 3, 21, 3, 20, 0, 3, 0, 21, 0, 2, 3, 0, 1, 2, 14]
        self.assertEqual(answers(calls), [
            1, -11, 1, 0, 1, -22, 1, -2, 1, -2, 1, -33, 1, 1, 1, -17, 1, 0, 1, -33])

    def test_a_refusal_is_its_code_alone(self):
        self.assertEqual(answers([10, 0, 3, 11, 3, 6, 41, 3, 0, 3, 0]), [1, -11, 1, 0, 1, -2, 1, -22, 1, 1, 1, -17])

    def test_a_refused_set_all_is_read_to_its_end(self):
        for count in range(17):
            for element in (0, 5, 10, 65535):
                calls = [2, count] + [element] * count + [0, 7, 2, count] + [element] * count + [3, 1]
                code = 0 if count == 7 and element == 0 else -22
                self.assertEqual(answers(calls), [1, -11, 1, 0, 1, code, 1, 1], calls)

    def test_one_call(self):
        self.assertEqual(answers([0, 3]), [1, 0])
        self.assertEqual(answers([8]), [1, -11])

    def test_256_calls(self):
        calls = [(CREATE, 12), (START_WAVE, 0, 0)] + [(STEP,), (GET_RING,)] * 127
        answer = play(*calls)
        self.assertEqual(len(answer), 256)
        self.assertEqual(answer[2::2], [[1]] * 127)
        self.assertEqual(answer[-1], [12, 0, 0, 0, 0, 0, 0, 2, 1, 0, 0, 0, 0])

    def test_256_calls_that_look_ahead(self):
        look = [(RING_AFTER, 40), (CYCLE,), (MAX_STANDING,), (STEPS_UNTIL_QUIET,), (GET_STATE,)]
        answer = play((CREATE, 12), *look * 51)
        self.assertEqual(len(answer), 256)
        self.assertEqual(answer[1:], [[12] + [0] * 12, [0, 1], [0], [0], [12, 0, 0]] * 51)

    def test_answers_are_a_list_of_whole_numbers(self):
        given = answers(list(EVERY_CALL))
        self.assertIs(type(given), list)
        self.assertEqual({type(number) for number in given}, {int})


class NothingKept(unittest.TestCase):
    def test_the_list_of_calls_stays_as_it_was(self):
        calls = list(EVERY_CALL)
        answers(calls)
        self.assertEqual(calls, EVERY_CALL)

    def test_the_list_of_calls_is_not_changed_for_a_while_either(self):
        self.assertEqual(answers(GuardedList(EVERY_CALL)), answers(list(EVERY_CALL)))

    def test_the_same_list_is_answered_the_same_twice(self):
        calls = list(EVERY_CALL)
        first = ring.answers(calls)
        kept = list(first)
        second = ring.answers(calls)
        self.assertEqual(second, kept)
        self.assertIsNot(first, second)

    def test_what_is_given_back_may_be_changed(self):
        first = answers(list(EVERY_CALL))
        kept = list(first)
        first[:] = [7] * len(first)
        self.assertEqual(answers(list(EVERY_CALL)), kept)

    def test_a_session_begins_without_the_simulator_of_another(self):
        answers(call_list([(CREATE, 5), (STAND_UP, 0)]))
        self.assertEqual(answers([10]), [1, -11])
        self.assertEqual(answers([0, 5, 10]), [1, 0, 6, 5, 0, 0, 0, 0, 0])


if __name__ == "__main__":
    unittest.main()
