"""Points 7 to 10, call by call, and sources beside a net."""

import unittest

from helper import (
    ack, begin, checked, flow, goes_by, hear, heard, last, message, of, reply, run, say, share_of, start, told, wish,
)


class Start(unittest.TestCase):
    """Point 7."""

    def test_me(self):
        for me in range(16):
            self.assertEqual(run(begin(0, me)), [[0]])
        for me in (16, 17, 255, 256, 65536, 4294967295):
            self.assertEqual(run(begin(0, me)), [[-22]], me)

    def test_of_flow_me(self):
        for me in (0, 7, 15):
            for other in range(16):
                answered = last(begin(0, me), hear(0, message(1, other, 1, 9)))
                self.assertEqual(answered, [1] if other == me else [-71], (me, other))

    def test_heard_nothing(self):
        self.assertEqual(run(begin(0, 15), share_of(0), reply(0)), [[0], [0], [-61]])

    def test_start_behind_a_refused_one(self):
        answered = run(begin(2, 16), begin(2, 4294967295), begin(2, 15), hear(2, message(1, 15, 1, 6)), share_of(2))
        self.assertEqual(answered, [[-22], [-22], [0], [1], [6]])

    def test_refused_second_start_leaves_all(self):
        for me in (16, 19, 4294967295):
            begun = [begin(0, 3), hear(0, message(1, 3, 5, 9)), begin(0, me)]
            answered = run(*begun, share_of(0), reply(0), hear(0, message(1, 3, 5, 8)), hear(0, message(1, 3, 6, 7)))
            self.assertEqual(answered, [[0], [1], [-22], [9], goes_by(3, 5, 9), [0], [1]], me)

    def test_refused_second_start_of_a_source_that_heard_nothing(self):
        answered = run(begin(0, 3), begin(0, 16), share_of(0), reply(0), hear(0, message(1, 3, 1, 9)))
        self.assertEqual(answered, [[0], [-22], [0], [-61], [1]])

    def test_second_start_heard_nothing(self):
        begun = [begin(0, 3), hear(0, message(1, 3, 5, 9)), begin(0, 3)]
        answered = run(*begun, share_of(0), reply(0), hear(0, message(1, 3, 1, 4)), share_of(0), reply(0))
        self.assertEqual(answered, [[0], [1], [0], [0], [-61], [1], [4], goes_by(3, 1, 4)])

    def test_second_start_of_another_flow(self):
        begun = [begin(0, 3), hear(0, message(1, 3, 5, 9)), begin(0, 8)]
        answered = run(*begun, hear(0, message(1, 3, 6, 9)), hear(0, message(1, 8, 2, 4)), reply(0))
        self.assertEqual(answered, [[0], [1], [0], [-71], [1], goes_by(8, 2, 4)])


class Heard(unittest.TestCase):
    """Point 8."""

    def setUp(self):
        self.begun = [begin(1, 6), hear(1, message(1, 6, 5, 40))]
        self.row = [1, 6, 0, 0, 6, 0, 0, 0, 50, 0, 0, 0]

    def as_it_was(self, taken, answer):
        """Answered so, and all as it was: share and number, and which number is the next that's taken."""
        behind = [share_of(1), reply(1), hear(1, message(1, 6, 5, 41)), hear(1, message(1, 6, 6, 42)), share_of(1)]
        answered = run(*self.begun, hear(1, taken), *behind)
        self.assertEqual(answered, [[0], [1], answer, [40], goes_by(6, 5, 40), [0], [1], [42]], taken)

    def refused(self, wrong):
        self.as_it_was(wrong, [-71])
        answered = run(begin(1, 6), hear(1, wrong), share_of(1), reply(1), hear(1, message(1, 6, 1, 7)))
        self.assertEqual(answered, [[0], [-71], [0], [-61], [1]], wrong)

    def changed(self, at, value):
        row = list(self.row)
        row[at] = value
        return checked(row)

    def test_right(self):
        answered = run(*self.begun, hear(1, checked(self.row)), share_of(1), reply(1))
        self.assertEqual(answered[2:], [[1], [50], goes_by(6, 6, 50)])

    def test_check(self):
        for bit in range(128):
            wrong = checked(self.row)
            wrong[bit // 8] ^= 1 << bit % 8
            self.refused(wrong)
        self.refused([*self.row, 0, 0, 0, 0])
        self.refused([0] * 16)
        self.refused([255] * 16)

    def test_check_with_its_high_byte_first(self):
        right = checked(self.row)
        self.refused(right[:12] + right[:11:-1])

    def test_kind(self):
        for kind in (0, 2, 3, 129, 255):
            self.refused(self.changed(0, kind))

    def test_what_it_says_itself_come_back(self):
        self.refused(message(2, 6, 6, 50))

    def test_another_flow(self):
        for number in [*range(6), *range(7, 18), 22, 255]:
            self.refused(self.changed(1, number))

    def test_number_none(self):
        self.refused(message(1, 6, 0, 50))

    def test_share(self):
        for share in (201, 255, 256, 65536, 16777216, 4294967295):
            self.refused(message(1, 6, 6, share))
        self.assertEqual(run(*self.begun, hear(1, message(1, 6, 6, 200)), share_of(1))[2:], [[1], [200]])

    def test_what_is_told_as_none(self):
        for at in (2, 3):
            for value in (1, 128, 255):
                self.refused(self.changed(at, value))

    def test_wrong_message_with_a_number_that_is_not_greater(self):
        for number in (1, 4, 5):
            self.refused(message(2, 6, number, 40))
            self.refused(message(1, 7, number, 40))
            self.refused(message(1, 6, number, 201))

    def test_same_number(self):
        self.as_it_was(message(1, 6, 5, 40), [0])
        self.as_it_was(message(1, 6, 5, 0), [0])
        self.as_it_was(message(1, 6, 5, 200), [0])

    def test_lesser_number(self):
        for number in range(1, 5):
            self.as_it_was(message(1, 6, number, 200), [0])
            self.as_it_was(message(1, 6, number, 3), [0])

    def test_greater_number(self):
        for number in (6, 7, 255, 256, 257, 65536, 16777216, 2147483647, 2147483648, 4294967295):
            for share in (0, 39, 40, 41, 200):
                answered = run(*self.begun, hear(1, message(1, 6, number, share)), share_of(1), reply(1))
                self.assertEqual(answered[2:], [[1], [share], goes_by(6, number, share)])

    def test_first_number(self):
        for number in (1, 2, 4294967295):
            answered = run(begin(1, 6), hear(1, message(1, 6, number, 9)), share_of(1))
            self.assertEqual(answered, [[0], [1], [9]])

    def test_greater_is_not_told_by_one_byte_alone(self):
        for lesser, greater in ((255, 256), (0x1FF, 0x200), (0xFFFFFF, 0x1000000), (0x01FFFFFF, 0x02000000)):
            ahead, behind = message(1, 0, lesser, 3), message(1, 0, greater, 4)
            self.assertEqual(run(begin(0, 0), hear(0, ahead), hear(0, behind), share_of(0)), [[0], [1], [1], [4]])
            self.assertEqual(run(begin(0, 0), hear(0, behind), hear(0, ahead), share_of(0)), [[0], [1], [0], [4]])

    def test_nothing_is_greater_than_the_last_number(self):
        begun = [begin(1, 6), hear(1, message(1, 6, 4294967295, 9))]
        for number in (1, 2147483648, 4294967294, 4294967295):
            answered = run(*begun, hear(1, message(1, 6, number, 8)), share_of(1), reply(1))
            self.assertEqual(answered[2:], [[0], [9], goes_by(6, 4294967295, 9)])

    def test_share_of_none(self):
        answered = run(begin(0, 0), hear(0, message(1, 0, 1, 0)), reply(0), hear(0, message(1, 0, 1, 9)), share_of(0))
        self.assertEqual(answered, [[0], [1], goes_by(0, 1, 0), [0], [0]])


class Say(unittest.TestCase):
    """Point 9."""

    def test_heard_nothing_yet(self):
        for me in (0, 15):
            self.assertEqual(last(begin(0, me), reply(0)), [-61])

    def test_heard_nothing_that_was_taken(self):
        self.assertEqual(last(begin(0, 1), hear(0, message(1, 0, 1, 9)), hear(0, message(2, 1, 1, 9)), reply(0)), [-61])

    def test_sixteen_bytes(self):
        self.assertEqual(
            last(begin(0, 1), hear(0, [1, 1, 0, 0, 1, 0, 0, 0, 100, 0, 0, 0, 20, 145, 253, 195]), reply(0)),
            [0, 2, 1, 0, 0, 1, 0, 0, 0, 100, 0, 0, 0, 68, 237, 111, 144],
        )

    def test_each_byte_of_the_number(self):
        answered = last(begin(3, 15), hear(3, message(1, 15, 0x89ABCDEF, 200)), reply(3))
        self.assertEqual(answered[:13], [0, 2, 15, 0, 0, 0xEF, 0xCD, 0xAB, 0x89, 200, 0, 0, 0])
        self.assertEqual(answered[1:], checked(answered[1:13]))

    def test_what_it_goes_by_not_what_came_last(self):
        begun = [begin(0, 2), hear(0, message(1, 2, 9, 30)), hear(0, message(1, 2, 4, 70))]
        self.assertEqual(last(*begun, reply(0)), goes_by(2, 9, 30))

    def test_saying_changes_nothing(self):
        begun = [begin(0, 2), reply(0), hear(0, message(1, 2, 1, 30))]
        answered = run(*begun, reply(0), reply(0), share_of(0), hear(0, message(1, 2, 1, 20)), reply(0))
        self.assertEqual(answered[3:], [goes_by(2, 1, 30)] * 2 + [[30], [0], goes_by(2, 1, 30)])

    def test_net_takes_it(self):
        calls = [start(9), flow(1, 0), flow(1, 4), begin(0, 1)]
        sent = last(*calls, say(1))[1:]
        calls += [say(1), hear(0, sent)]
        word = last(*calls, reply(0))[1:]
        calls += [reply(0), heard(word)]
        answered = run(*calls, of(1), heard(word))
        self.assertEqual(answered[4:], [told(1, 1, 4), [1], goes_by(1, 1, 4), [1], [0, 4, 4, 4], [0]])


class Share(unittest.TestCase):
    """Point 10."""

    def test_none_at_first(self):
        for source in range(4):
            self.assertEqual(last(begin(source, 5), share_of(source)), [0])

    def test_behind_each_message(self):
        calls, expected = [begin(0, 5)], [[0]]
        for number, share in ((1, 7), (2, 200), (3, 0), (5, 12), (260, 1), (4294967295, 199)):
            calls += [hear(0, message(1, 5, number, share)), share_of(0), share_of(0)]
            expected += [[1], [share], [share]]
        self.assertEqual(run(*calls), expected)


class EachItsOwn(unittest.TestCase):
    """Sources 0 to 3 and the net, each with what is its own."""

    def test_four_sources(self):
        calls = [begin(k, 15 - k) for k in range(4)]
        calls += [hear(k, message(1, 15 - k, k + 1, 10 * k + 5)) for k in (2, 0, 3, 1)]
        answered = run(*calls, *[share_of(k) for k in range(4)], *[reply(k) for k in range(4)])
        self.assertEqual(answered[:8], [[0]] * 4 + [[1]] * 4)
        self.assertEqual(answered[8:12], [[5], [15], [25], [35]])
        self.assertEqual(answered[12:], [goes_by(15 - k, k + 1, 10 * k + 5) for k in range(4)])

    def test_one_hears_for_itself_alone(self):
        for source in range(4):
            calls = [*[begin(k, 6) for k in range(4)], hear(source, message(1, 6, 2, 9))]
            answered = run(*calls, *[share_of(k) for k in range(4)], *[reply(k) for k in range(4)])
            self.assertEqual(answered[5:9], [[9] if k == source else [0] for k in range(4)])
            self.assertEqual(answered[9:], [goes_by(6, 2, 9) if k == source else [-61] for k in range(4)])

    def test_same_me_for_two_sources(self):
        calls = [begin(0, 6), begin(3, 6), hear(0, message(1, 6, 2, 9)), hear(3, message(1, 6, 1, 8))]
        answered = run(*calls, share_of(0), share_of(3), hear(3, message(1, 6, 2, 9)), reply(3))
        self.assertEqual(answered, [[0], [0], [1], [1], [9], [8], [1], goes_by(6, 2, 9)])

    def test_start_of_one_leaves_the_others(self):
        calls = [*[begin(k, k) for k in range(4)], *[hear(k, message(1, k, 1, 20 + k)) for k in range(4)]]
        for source in range(4):
            answered = run(*calls, begin(source, 9), *[share_of(k) for k in range(4)])
            self.assertEqual(answered[9:], [[0] if k == source else [20 + k] for k in range(4)])

    def test_sources_without_a_net(self):
        answered = run(begin(0, 0), hear(0, message(1, 0, 77, 150)), share_of(0), reply(0))
        self.assertEqual(answered, [[0], [1], [150], goes_by(0, 77, 150)])

    def test_message_that_no_net_sent(self):
        answered = run(start(9), flow(1, 4), begin(0, 0), hear(0, message(1, 0, 30, 150)), share_of(0), of(0))
        self.assertEqual(answered[3:], [[1], [150], [1, 4, 4, 4]])

    def test_source_ahead_of_the_net(self):
        answered = run(begin(2, 0), share_of(2), start(9), flow(1, 4), hear(2, message(1, 0, 1, 4)), share_of(2))
        self.assertEqual(answered, [[0], [0], [0], [0], [1], [4]])

    def test_calls_of_both_kinds_in_turn(self):
        first, second, word = message(1, 0, 1, 10), message(1, 0, 2, 5), message(2, 0, 1, 10)
        calls_and_answers = [
            (begin(1, 1), [0]), (start(10), [0]), (begin(0, 0), [0]), (flow(1, 10), [0]), (say(0), [0, *first]),
            (hear(0, first), [1]), (hear(1, first), [-71]), (share_of(0), [10]), (of(0), [1, 10, 10, 10]),
            (reply(0), [0, *word]), (heard(word), [1]), (of(0), [0, 10, 10, 10]), (flow(1, 10), [1]),
            (say(0), [0, *second]), (say(1), [-61]), (share_of(0), [10]), (of(0), [1, 5, 5, 10]), (of(1), [0, 0, 5, 0]),
            (hear(0, second), [1]), (share_of(0), [5]), (hear(0, first), [0]), (share_of(0), [5]), (heard(word), [0]),
            (say(1), [-61]), (ack(0, 2, 5), [1]), (say(1), told(1, 1, 5)), (hear(1, message(1, 1, 1, 5)), [1]),
            (share_of(1), [5]), (reply(1), goes_by(1, 1, 5)), (of(1), [1, 5, 5, 5]), (ack(1, 1, 5), [1]),
            (of(1), [0, 5, 5, 5]),
        ]
        self.assertEqual(run(*[call for call, answer in calls_and_answers]), [answer for call, answer in calls_and_answers])

    def test_start_of_the_net_leaves_the_sources(self):
        begun = [start(9), flow(1, 4), begin(0, 0), hear(0, message(1, 0, 1, 4))]
        self.assertEqual(run(*begun, start(7), share_of(0), reply(0))[4:], [[0], [4], goes_by(0, 1, 4)])

    def test_start_of_a_source_leaves_the_net(self):
        begun = [begin(0, 0), start(9), flow(1, 8), ack(0, 1), wish(0, 3), wish(0, 5)]
        for me in (0, 1, 16):
            self.assertEqual(last(*begun, begin(0, me), of(0)), [1, 3, 5, 8])


if __name__ == "__main__":
    unittest.main()
