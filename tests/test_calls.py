"""Points 1 to 6, call by call."""

import unittest

from helper import ack, checked, flow, heard, last, message, of, run, say, start, told, wish


class Start(unittest.TestCase):
    """Point 1."""

    def test_how_many_lines(self):
        self.assertEqual(run(start()), [[-22]])
        self.assertEqual(run(start(5)), [[0]])
        self.assertEqual(run(start(*[5] * 16)), [[0]])
        self.assertEqual(run(start(*[5] * 17)), [[-22]])
        self.assertEqual(run(start(*[5] * 60)), [[-22]])

    def test_room(self):
        self.assertEqual(run(start(0)), [[0]])
        self.assertEqual(run(start(200)), [[0]])
        self.assertEqual(run(start(201)), [[-22]])
        self.assertEqual(run(start(65535)), [[-22]])

    def test_room_of_any_line(self):
        for line in range(16):
            room = [200] * 16
            room[line] = 201
            self.assertEqual(run(start(*room)), [[-22]], line)

    def test_start_behind_a_refused_one(self):
        self.assertEqual(run(start(), start(201), start(9), flow(1, 9), say(0)), [[-22], [-22], [0], [0], told(0, 1, 9)])

    def test_refused_second_start_leaves_all(self):
        for refused in (start(), start(*[0] * 17), start(7, 201)):
            answered = run(start(9, 8), flow(1, 9), refused, say(0), ack(0, 1), flow(2, 200), say(1), flow(4, 1))
            expected = [[0], [0], [-22], told(0, 1, 9), [1], [1], told(1, 1, 8), [-22]]
            self.assertEqual(answered, expected)

    def test_second_start_is_a_net_without_flows(self):
        answered = run(start(9, 8), flow(3, 9), start(5), say(0), wish(0, 1), ack(0, 1), flow(2, 1), flow(1, 9), say(0))
        expected = [[0], [0], [0], [-2], [-2], [-71], [-22], [0], told(0, 1, 5)]
        self.assertEqual(answered, expected)


class NewFlow(unittest.TestCase):
    """Point 2."""

    def test_path_of_no_line(self):
        self.assertEqual(last(start(5), flow(0, 1)), [-22])

    def test_path_with_a_line_that_there_is_not(self):
        for lines in (1, 2, 15, 16):
            begun = start(*[5] * lines)
            every = 2 ** lines - 1
            self.assertEqual(last(begun, flow(every, 1)), [0])
            for path in (every + 1, every + 2, 2 ** 31, 2 ** 32 - 1, 2 ** 32 - 2):
                self.assertEqual(last(begun, flow(path, 1)), [-22], (lines, path))

    def test_most(self):
        self.assertEqual(run(start(200), flow(1, 0), flow(1, 200)), [[0], [0], [1]])
        self.assertEqual(last(start(200), flow(1, 201)), [-22])
        self.assertEqual(last(start(200), flow(1, 4294967295)), [-22])

    def test_numbers_and_the_seventeenth(self):
        answered = run(start(5), *[flow(1, 1)] * 17)
        self.assertEqual(answered, [[0], *[[k] for k in range(16)], [-28]])

    def test_which_refusal_comes_first(self):
        full = [start(5), *[flow(1, 1)] * 16]
        for refused in (flow(0, 1), flow(2, 1), flow(1, 201), flow(4294967295, 4294967295)):
            self.assertEqual(last(*full, refused), [-22])
        self.assertEqual(last(*full, flow(1, 200)), [-28])

    def test_refused_flow_leaves_all(self):
        answered = run(start(5), flow(0, 1), flow(2, 1), flow(1, 201), say(0), flow(1, 5), flow(1, 201), say(0), say(1))
        self.assertEqual(answered, [[0], [-22], [-22], [-22], [-2], [0], [-22], told(0, 1, 5), [-2]])

    def test_flow_without_place_leaves_all(self):
        full = [start(20), *[flow(1, 1)] * 16]
        self.assertEqual(run(*full, flow(1, 200), say(15), say(16))[-3:], [[-28], told(15, 1, 1), [-2]])
        self.assertEqual(last(*full, flow(1, 200), ack(0, 1), say(0)), told(0, 1, 1))

    def test_plans(self):
        self.assertEqual(last(start(200), flow(1, 200), say(0)), told(0, 1, 200))
        self.assertEqual(last(start(7, 9), flow(3, 8), say(0)), told(0, 1, 7))

    def test_plans_for_the_others_too(self):
        self.assertEqual(last(start(10), flow(1, 10), ack(0, 1), flow(1, 10), say(0)), told(0, 2, 5))


class Wish(unittest.TestCase):
    """Point 3."""

    def test_most(self):
        self.assertEqual(last(start(5), flow(1, 1), wish(0, 0)), [0])
        self.assertEqual(last(start(5), flow(1, 1), wish(0, 200)), [0])
        self.assertEqual(last(start(5), flow(1, 1), wish(0, 201)), [-22])
        self.assertEqual(last(start(5), flow(1, 1), wish(0, 4294967295)), [-22])

    def test_no_such_flow(self):
        self.assertEqual(last(start(5), wish(0, 1)), [-2])
        self.assertEqual(last(start(5), flow(1, 1), wish(1, 1)), [-2])
        self.assertEqual(last(start(5), flow(1, 1), wish(4294967295, 200)), [-2])
        self.assertEqual(last(start(5), *[flow(1, 1)] * 16, wish(16, 1)), [-2])

    def test_which_refusal_comes_first(self):
        self.assertEqual(last(start(5), wish(0, 201)), [-22])
        self.assertEqual(last(start(5), flow(1, 1), wish(7, 4294967295)), [-22])

    def test_less(self):
        self.assertEqual(last(start(9), flow(1, 9), ack(0, 1), wish(0, 4), say(0)), told(0, 2, 4))

    def test_none(self):
        self.assertEqual(last(start(9), flow(1, 9), ack(0, 1), wish(0, 0), say(0)), told(0, 2, 0))

    def test_more(self):
        self.assertEqual(last(start(9), flow(1, 4), ack(0, 1), wish(0, 7), say(0)), told(0, 2, 7))
        self.assertEqual(last(start(9), flow(1, 4), ack(0, 1), wish(0, 200), say(0)), told(0, 2, 9))

    def test_the_same(self):
        self.assertEqual(last(start(9), flow(1, 4), ack(0, 1), wish(0, 4), say(0)), told(0, 1, 4))

    def test_of_a_flow_that_waits(self):
        self.assertEqual(last(start(9), flow(1, 4), wish(0, 7), say(0)), told(0, 1, 4))
        self.assertEqual(last(start(9), flow(1, 4), wish(0, 7), ack(0, 1), say(0)), told(0, 2, 7))

    def test_refused_wish_leaves_all(self):
        begun = [start(9), flow(1, 4), ack(0, 1)]
        self.assertEqual(last(*begun, wish(0, 201), say(0)), told(0, 1, 4))
        self.assertEqual(last(*begun, wish(0, 201), flow(1, 9), say(1)), told(1, 1, 5))
        self.assertEqual(last(*begun, wish(1, 9), flow(1, 9), say(1)), told(1, 1, 5))


class Say(unittest.TestCase):
    """Point 4."""

    def test_no_such_flow(self):
        self.assertEqual(last(start(5), say(0)), [-2])
        self.assertEqual(last(start(5), flow(1, 1), say(1)), [-2])
        self.assertEqual(last(start(5), flow(1, 1), say(4294967295)), [-2])
        self.assertEqual(last(start(5), *[flow(1, 1)] * 16, say(16)), [-2])

    def test_told_nothing_yet(self):
        self.assertEqual(last(start(5), flow(1, 0), say(0)), [-61])
        self.assertEqual(last(start(0), flow(1, 200), say(0)), [-61])
        self.assertEqual(last(start(5), flow(1, 5), flow(1, 5), say(1)), [-61])

    def test_sixteen_bytes(self):
        self.assertEqual(
            last(start(200, 200, 100), flow(1, 0), flow(6, 200), say(1)),
            [0, 1, 1, 0, 0, 1, 0, 0, 0, 100, 0, 0, 0, 20, 145, 253, 195],
        )

    def test_last_flow(self):
        self.assertEqual(last(start(200), *[flow(1, 1)] * 16, say(15)), told(15, 1, 1))

    def test_later_message_has_the_next_number(self):
        begun = [start(9), flow(1, 4), ack(0, 1), wish(0, 5), ack(0, 2), wish(0, 3)]
        self.assertEqual(last(*begun, say(0)), told(0, 3, 3))

    def test_number_of_more_than_a_byte(self):
        calls = [start(9), flow(1, 1)]
        for number in range(1, 300):
            calls += [ack(0, number), wish(0, 1 + number % 2)]
        self.assertEqual(last(*calls, say(0)), told(0, 300, 2))

    def test_saying_changes_nothing(self):
        begun = [start(9), flow(1, 4)]
        self.assertEqual(run(*begun, say(0), say(0), ack(0, 1), say(0))[2:], [told(0, 1, 4)] * 2 + [[1], told(0, 1, 4)])

    def test_share_of_none_is_said(self):
        self.assertEqual(last(start(9), flow(1, 4), ack(0, 1), wish(0, 0), ack(0, 2), say(0)), told(0, 2, 0))


class Heard(unittest.TestCase):
    """Point 5."""

    def setUp(self):
        self.begun = [start(9), flow(1, 4)]
        self.row = [2, 0, 0, 0, 1, 0, 0, 0, 4, 0, 0, 0]

    def refused(self, wrong):
        """Refused, and all as it was: the flow waits still."""
        answered = run(*self.begun, heard(wrong), say(0), ack(0, 1))
        self.assertEqual(answered[2:], [[-71], told(0, 1, 4), [1]], wrong)

    def changed(self, at, value):
        row = list(self.row)
        row[at] = value
        return checked(row)

    def test_right(self):
        self.assertEqual(last(*self.begun, heard(checked(self.row))), [1])

    def test_check(self):
        for at in range(12, 16):
            wrong = checked(self.row)
            wrong[at] ^= 1
            self.refused(wrong)
        self.refused([*self.row, 0, 0, 0, 0])
        self.refused([0] * 16)
        self.refused([255] * 16)

    def test_check_with_its_high_byte_first(self):
        right = checked(self.row)
        self.refused(right[:12] + right[:11:-1])

    def test_kind(self):
        for kind in (0, 1, 3, 4, 255):
            self.refused(self.changed(0, kind))

    def test_its_own_message_come_back(self):
        self.refused(message(1, 0, 1, 4))

    def test_flow_that_there_is_not(self):
        for number in (1, 2, 15, 16, 17, 255):
            self.refused(self.changed(1, number))

    def test_flow_behind_the_sixteenth(self):
        full = [start(20), *[flow(1, 1)] * 16]
        self.assertEqual(run(*full, ack(16, 1), ack(15, 1))[-2:], [[-71], [1]])

    def test_what_is_told_as_none(self):
        for at in (2, 3):
            for value in (1, 128, 255):
                self.refused(self.changed(at, value))

    def test_number_none(self):
        self.refused(message(2, 0, 0, 4))

    def test_number_none_of_a_flow_that_was_told_nothing(self):
        self.assertEqual(last(start(9), flow(1, 0), ack(0, 0)), [-71])

    def test_share(self):
        self.refused(message(2, 0, 1, 201))
        for at in (9, 10, 11):
            self.refused(self.changed(at, 1))
        self.assertEqual(last(*self.begun, ack(0, 1, 200)), [1])

    def test_share_is_not_compared(self):
        for share in (0, 3, 4, 200):
            self.assertEqual(last(*self.begun, ack(0, 1, share)), [1])

    def test_wrong_message_of_a_flow_that_does_not_wait(self):
        self.assertEqual(last(*self.begun, ack(0, 1), heard(self.changed(0, 1))), [-71])
        self.assertEqual(last(*self.begun, ack(0, 1), heard(message(2, 0, 0, 4))), [-71])
        self.assertEqual(last(*self.begun, ack(0, 1), heard(message(2, 0, 2, 201))), [-71])

    def test_flow_that_does_not_wait(self):
        self.assertEqual(run(*self.begun, ack(0, 1), ack(0, 1))[2:], [[1], [0]])
        self.assertEqual(last(start(9), flow(1, 0), ack(0, 1)), [0])

    def test_another_number(self):
        for number in (2, 255, 257, 65537, 16777217, 4294967295):
            answered = run(*self.begun, ack(0, number), wish(0, 9), say(0), ack(0, 1))
            self.assertEqual(answered[2:], [[0], [0], told(0, 1, 4), [1]])

    def test_number_of_an_earlier_message(self):
        answered = run(*self.begun, ack(0, 1), wish(0, 9), ack(0, 1), wish(0, 1), say(0), ack(0, 2), say(0))
        self.assertEqual(answered[2:], [[1], [0], [0], [0], told(0, 2, 9), [1], told(0, 3, 1)])

    def test_another_flow_goes_on_waiting(self):
        begun = [start(9), flow(1, 4), flow(1, 4)]
        self.assertEqual(run(*begun, ack(1, 1), ack(1, 1), ack(0, 1))[3:], [[1], [0], [1]])

    def test_plans_when_it_was_heard(self):
        begun = [start(10), flow(1, 10), flow(1, 10)]
        self.assertEqual(last(*begun, say(0)), told(0, 1, 10))
        self.assertEqual(last(*begun, ack(0, 1), say(0)), told(0, 2, 5))
        self.assertEqual(last(*begun, ack(0, 1), say(1)), [-61])
        self.assertEqual(last(*begun, ack(0, 1), ack(0, 2), say(1)), told(1, 1, 5))


class Of(unittest.TestCase):
    """Point 6: whether it waits; then what it was told last, what's fair, what it may use."""

    def test_no_such_flow(self):
        for number in (0, 1, 15, 16, 4294967295):
            self.assertEqual(last(start(5), of(number)), [-2])
        for number in (1, 2, 16, 256, 4294967295):
            self.assertEqual(last(start(5), flow(1, 1), of(number)), [-2])
        self.assertEqual(run(start(20), *[flow(1, 1)] * 16, of(15), of(16))[-2:], [[1, 1, 1, 1], [-2]])

    def test_refused_flow_is_none(self):
        self.assertEqual(last(start(5), flow(0, 1), of(0)), [-2])

    def test_told_nothing(self):
        self.assertEqual(last(start(5), flow(1, 0), of(0)), [0, 0, 0, 0])
        self.assertEqual(last(start(0), flow(1, 200), of(0)), [0, 0, 0, 0])

    def test_told_nothing_though_something_is_fair(self):
        begun = [start(10), flow(1, 10), flow(1, 10)]
        self.assertEqual(run(*begun, of(0), of(1))[3:], [[1, 10, 5, 10], [0, 0, 5, 0]])

    def test_waits_till_it_was_heard(self):
        answered = run(start(200), flow(1, 200), of(0), ack(0, 2), of(0), ack(0, 1), of(0))
        self.assertEqual(answered[2:], [[1, 200, 200, 200], [0], [1, 200, 200, 200], [1], [0, 200, 200, 200]])

    def test_told_less_and_waits(self):
        begun = [start(10), flow(1, 8), ack(0, 1), wish(0, 3)]
        self.assertEqual(last(*begun, of(0)), [1, 3, 3, 8])
        self.assertEqual(last(*begun, ack(0, 2), of(0)), [0, 3, 3, 3])

    def test_told_more_and_waits(self):
        begun = [start(10), flow(1, 3), ack(0, 1), wish(0, 8)]
        self.assertEqual(last(*begun, of(0)), [1, 8, 8, 8])
        self.assertEqual(last(*begun, ack(0, 2), of(0)), [0, 8, 8, 8])

    def test_three_numbers_that_differ(self):
        begun = [start(10), flow(1, 8), ack(0, 1), wish(0, 3), wish(0, 5)]
        self.assertEqual(last(*begun, of(0)), [1, 3, 5, 8])
        self.assertEqual(run(*begun, ack(0, 2), of(0), ack(0, 3), of(0))[5:], [[1], [1, 5, 5, 5], [1], [0, 5, 5, 5]])

    def test_told_before_is_what_it_was_told_just_before(self):
        begun = [start(10), flow(1, 9), ack(0, 1), wish(0, 5), ack(0, 2), wish(0, 1)]
        self.assertEqual(last(*begun, of(0)), [1, 1, 1, 5])

    def test_fair_share_that_is_not_told_yet(self):
        begun = [start(10), flow(1, 6), flow(1, 200)]
        self.assertEqual(run(*begun, of(0), of(1))[3:], [[1, 6, 5, 6], [1, 4, 5, 4]])
        self.assertEqual(last(*begun, ack(1, 1), of(1)), [0, 4, 5, 4])
        settled = [*begun, ack(1, 1), ack(0, 1), ack(0, 2), ack(1, 2)]
        self.assertEqual(run(*settled, of(0), of(1))[7:], [[0, 5, 5, 5], [0, 5, 5, 5]])

    def test_fair_share_over_several_lines(self):
        answered = run(start(6, 4), flow(1, 200), flow(3, 200), flow(2, 200), of(0), of(1), of(2))
        self.assertEqual([answer[2] for answer in answered[4:]], [4, 2, 2])

    def test_asking_changes_nothing(self):
        begun = [start(10), flow(1, 8), ack(0, 1), wish(0, 3), wish(0, 5)]
        answered = run(*begun, of(0), of(0), of(1), of(0), say(0), ack(0, 2), say(0))
        self.assertEqual(answered[5:], [[1, 3, 5, 8], [1, 3, 5, 8], [-2], [1, 3, 5, 8], told(0, 2, 3), [1], told(0, 3, 5)])

    def test_refused_call_leaves_all(self):
        begun = [start(10), flow(1, 8), ack(0, 1), wish(0, 3), wish(0, 5)]
        wrong = heard(message(1, 0, 2, 3))
        for refused in (start(), start(201), flow(0, 1), flow(1, 201), wish(0, 201), wish(1, 1), say(1), wrong, of(1)):
            self.assertEqual(last(*begun, refused, of(0)), [1, 3, 5, 8])

    def test_second_start(self):
        self.assertEqual(run(start(9), flow(1, 9), start(5), of(0), flow(1, 9), of(0))[3:], [[-2], [0], [1, 5, 5, 5]])


if __name__ == "__main__":
    unittest.main()
