import contextlib
import io
import unittest

import versefeet.desk
from asks import next_call, scan_call, speak_call, way_call
from versefeet.desk import answers

SPEAK = speak_call("amata")
SCAN = scan_call("u,uu|uu,u", "tatata")
WAY = way_call(1, "u,uu|uu,u", "tatata")
NEXT = next_call(2, "uu", [0, 1], ["ta", "pa", "tapa"])

SPEAK_ANSWER = [65, 3, 0, 0, 6] + [0] * 61
SCAN_ANSWER = [1, 2]
WAY_ANSWER = [17, 0, 1, 1] + [0] * 14
NEXT_ANSWER = [3, 2, 1, 0]

REFUSED = [
    (speak_call(""), -22),
    (speak_call("t"), -71),
    (scan_call("", "ta"), -22),
    (scan_call("u", ""), -23),
    (scan_call("u", "t"), -71),
    (way_call(0, "", "ta"), -22),
    (way_call(0, "u", ""), -23),
    (way_call(0, "u", "t"), -71),
    (way_call(1, "u", "ta"), -2),
    (next_call(1, "", [], ["ta"]), -22),
    (next_call(1, "u", [], []), -23),
    (next_call(1, "u", [1], ["ta"]), -24),
]


class DeskTest(unittest.TestCase):
    def test_calls_as_they_are_written(self):
        self.assertEqual(answers([0, 0, 1, 2, 116, 97]), [65, 1, 6] + [0] * 63)
        self.assertEqual(answers([1, 0, 2, 3, 45, 44, 117, 2, 116, 97]), [1, 2])
        self.assertEqual(answers([2, 1, 1, 2, 3, 45, 44, 117, 2, 116, 97]), [17, 0, 1] + [0] * 15)
        self.assertEqual(answers([10, 1, 1, 4, 1, 117, 1, 0, 1, 97, 2, 116, 97]), [2, 1, 1])
        self.assertEqual(answers([10, 1, 1, 3, 1, 117, 1, 0, 1, 97]), [1, 0])

    def test_each_call_alone(self):
        self.assertEqual(answers(SPEAK), SPEAK_ANSWER)
        self.assertEqual(answers(SCAN), SCAN_ANSWER)
        self.assertEqual(answers(WAY), WAY_ANSWER)
        self.assertEqual(answers(NEXT), NEXT_ANSWER)

    def test_calls_of_all_parts_in_one_list(self):
        self.assertEqual(
            answers(SPEAK + NEXT + SCAN + WAY + NEXT + SPEAK),
            SPEAK_ANSWER + NEXT_ANSWER + SCAN_ANSWER + WAY_ANSWER + NEXT_ANSWER + SPEAK_ANSWER)

    def test_a_refusal_is_its_number_alone(self):
        for call, refusal in REFUSED:
            self.assertEqual(answers(call), [1, refusal], call)

    def test_a_refusal_changes_nothing(self):
        for call, refusal in REFUSED:
            self.assertEqual(
                answers(SPEAK + call + NEXT + call + WAY),
                SPEAK_ANSWER + [1, refusal] + NEXT_ANSWER + [1, refusal] + WAY_ANSWER, call)

    def test_no_row_is_0_alone(self):
        self.assertEqual(answers(next_call(2, "uuu", [], ["ta", "pa"])), [1, 0])

    # Long lists are not shown where they differ: that would take too long.
    def test_300_calls(self):
        expected = (SPEAK_ANSWER + SCAN_ANSWER + NEXT_ANSWER) * 100
        self.assertTrue(answers((SPEAK + SCAN + NEXT) * 100) == expected)

    def test_a_long_list(self):
        call = scan_call("|".join(["-,u,--,uu"] * 16), "ta " * 32)
        times = 30000 // len(call)
        self.assertTrue(answers(call * times) == answers(call) * times)

    def test_empty_lists(self):
        self.assertEqual(answers(scan_call("", "") + speak_call("") + next_call(0, "", [], [])), [1, -22] * 3)
        self.assertEqual(answers(next_call(1, "u", [], ["", "", ""]) + SCAN), [1, -23] + SCAN_ANSWER)


class KeptTest(unittest.TestCase):
    def test_what_is_handed_in_stays(self):
        for call in [SPEAK, SCAN, WAY, NEXT] + [refused[0] for refused in REFUSED]:
            handed = list(call)
            answers(handed)
            self.assertEqual(handed, call)

    def test_what_is_handed_in_is_not_changed_for_a_while(self):
        class Fixed(list):
            def refuse(self, *given):
                raise AssertionError("changed")

            __setitem__ = __delitem__ = __iadd__ = __imul__ = refuse
            append = extend = insert = pop = remove = clear = sort = reverse = refuse

        self.assertEqual(answers(Fixed(SPEAK + WAY + NEXT)), SPEAK_ANSWER + WAY_ANSWER + NEXT_ANSWER)

    def test_the_same_a_second_time(self):
        calls = SPEAK + NEXT + WAY + SCAN
        for call, refusal in REFUSED:
            calls = calls + call
        first = answers(calls)
        self.assertEqual(answers(calls), first)
        answers(SPEAK)
        self.assertEqual(answers(list(calls)), first)

    def test_answers_are_not_shared(self):
        first = answers(SPEAK)
        first[1] = 99
        first.append(1)
        self.assertEqual(answers(SPEAK), SPEAK_ANSWER)

    def test_answers_are_lists_of_whole_numbers(self):
        calls = SPEAK + NEXT + WAY + SCAN
        for call, refusal in REFUSED:
            calls = calls + call
        given = versefeet.desk.answers(calls)
        self.assertIs(type(given), list)
        self.assertEqual({type(number) for number in given}, {int})

    def test_nothing_is_printed(self):
        printed = io.StringIO()
        with contextlib.redirect_stdout(printed), contextlib.redirect_stderr(printed):
            answers(SPEAK + NEXT + WAY + SCAN)
        self.assertEqual(printed.getvalue(), "")


if __name__ == "__main__":
    unittest.main()
