"""netshares.shares.answers: how calls are handed in and answered."""

import builtins
import contextlib
import io
import unittest
from unittest import mock

from helper import (
    ack, begin, flat, flow, goes_by, hear, heard, last, message, of, reply, run, say, share_of, start, told, wish,
)
from netshares.shares import answers

EVERY_CALL = flat([
    start(10, 20), flow(3, 200), say(0), ack(0, 1), flow(1, 5), flow(2, 0), wish(0, 3), say(1), say(2), say(9),
    heard(message(1, 0, 2, 3)), ack(0, 7), ack(0, 2), wish(1, 201), wish(7, 1), flow(0, 1), start(), say(0),
    of(0), of(3), begin(3, 16), begin(3, 1), reply(3), share_of(3), hear(3, message(1, 1, 1, 5)), reply(3), share_of(3),
    hear(3, message(1, 0, 2, 3)), hear(3, message(1, 1, 1, 4)), begin(0, 0), hear(0, message(1, 0, 2, 3)), reply(0),
])


class Unchanging(list):
    """A list that fails when it is changed."""

    def refuse(self, *given, **named):
        raise AssertionError("what was handed in is changed")

    append = extend = insert = pop = remove = clear = sort = reverse = refuse
    __setitem__ = __delitem__ = __iadd__ = __imul__ = refuse


class Interface(unittest.TestCase):
    def test_count_ahead_of_each_answer(self):
        self.assertEqual(answers(start(10)), [1, 0])
        self.assertEqual(answers(flat([start(10), flow(1, 4), say(0)])), [1, 0, 1, 0, 17, *told(0, 1, 4)])

    def test_refusal_is_answered_alone(self):
        self.assertEqual(answers([0, 0, 0]), [1, -22])
        self.assertEqual(answers(flat([start(10), flow(1, 0), say(0), say(1)])), [1, 0, 1, 0, 1, -61, 1, -2])

    def test_calls_as_they_are_written(self):
        calls = [0, 0, 2, 10, 20, 1, 0, 3, 200, 2, 0, 0, 4, 3, 0, 1, 4, 0, 16, *[0] * 16, 1, 0, 2, 6]
        self.assertEqual(answers(calls), [1, 0, 1, 0, 1, 0, 1, -2, 1, -71, 1, 1])

    def test_calls_of_a_source_as_they_are_written(self):
        calls = [0, 0, 1, 9, 5, 0, 0, 6, 2, 7, 7, 2, 16, *[0] * 16, 8, 2, 9, 2, 6, 2, 16, 1, 0, 1, 7, 5, 0, 0, 9, 2]
        self.assertEqual(answers(calls), [1, 0, 1, -2, 1, 0, 1, -71, 1, -61, 1, 0, 1, -22, 1, 0, 4, 1, 7, 7, 7, 1, 0])

    def test_count_ahead_of_what_a_source_answers(self):
        calls = flat([begin(1, 4), hear(1, message(1, 4, 3, 200)), reply(1), share_of(1)])
        self.assertEqual(answers(calls), [1, 0, 1, 1, 17, *goes_by(4, 3, 200), 1, 200])

    def test_row_of_a_refused_start_is_passed_over(self):
        calls = [0, 0, 17, *[3] * 17, 0, 0, 60, *[65535] * 60, 0, 0, 0, 0, 0, 1, 7, 1, 0, 1, 7]
        self.assertEqual(answers(calls), [1, -22, 1, -22, 1, -22, 1, 0, 1, 0])

    def test_thousand_calls(self):
        calls = flat([start(*[200] * 16), *[flow(65535, 200)] * 16, *[wish(k % 16, k % 201) for k in range(983)]])
        self.assertEqual(len(answers(calls)), 2000)

    def test_thousand_calls_of_all_objects(self):
        begun = [start(*[200] * 16), *[flow(65535, 200)] * 16, *[begin(k, k) for k in range(4)]]
        calls = flat([*begun, *[of(k % 16) for k in range(500)], *[reply(k % 4) for k in range(479)]])
        self.assertEqual(len(answers(calls)), 2 * 21 + 5 * 500 + 2 * 479)

    def test_objects_are_new_at_the_beginning(self):
        used = [start(9), flow(1, 9), *[begin(k, 0) for k in range(4)], *[hear(k, message(1, 0, 7, 9)) for k in range(4)]]
        self.assertEqual(run(*used)[-4:], [[1]] * 4)
        self.assertEqual(last(start(5), of(0)), [-2])
        for source in range(4):
            answered = run(begin(source, 0), share_of(source), reply(source), hear(source, message(1, 0, 1, 3)))
            self.assertEqual(answered, [[0], [0], [-61], [1]])

    def test_handed_in_is_not_changed(self):
        before = list(EVERY_CALL)
        calls = Unchanging(EVERY_CALL)
        self.assertEqual(answers(calls), answers(before))
        self.assertEqual(list(calls), EVERY_CALL)
        self.assertEqual(before, EVERY_CALL)

    def test_same_again(self):
        first = answers(EVERY_CALL)
        answers(flat([start(200), *[flow(1, 200)] * 16]))
        self.assertEqual(answers(EVERY_CALL), first)

    def test_answered_list_is_not_kept(self):
        first = answers(EVERY_CALL)
        copy = list(first)
        first.clear()
        self.assertEqual(answers(EVERY_CALL), copy)

    def test_kinds(self):
        answered = answers(EVERY_CALL)
        self.assertIs(type(answered), list)
        self.assertEqual({type(value) for value in answered}, {int})

    def test_prints_reads_and_imports_nothing(self):
        forbidden = mock.Mock(side_effect=AssertionError("reaches outside"))
        out, err = io.StringIO(), io.StringIO()
        with contextlib.redirect_stdout(out), contextlib.redirect_stderr(err):
            with mock.patch.multiple(builtins, __import__=forbidden, open=forbidden, input=forbidden):
                answers(EVERY_CALL)
        self.assertEqual((out.getvalue(), err.getvalue()), ("", ""))


if __name__ == "__main__":
    unittest.main()
