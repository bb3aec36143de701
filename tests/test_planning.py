"""Fair shares, and what is told when."""

import unittest

from helper import ack, flow, run, say, shares_in_the_end, start, told, told_now, wish
from netshares.shares import LAST_NUMBER, Net


class FairShares(unittest.TestCase):
    def fair(self, room, flows, expected):
        calls = [start(*room), *[flow(path, most) for path, most in flows]]
        self.assertEqual(shares_in_the_end(calls, len(flows)), expected)

    def test_one_flow(self):
        self.fair([9], [(1, 200)], [9])
        self.fair([9], [(1, 9)], [9])
        self.fair([9], [(1, 8)], [8])
        self.fair([9], [(1, 0)], [0])
        self.fair([0], [(1, 200)], [0])
        self.fair([200], [(1, 200)], [200])

    def test_least_room_on_the_path(self):
        self.fair([9, 4, 7], [(7, 200)], [4])
        self.fair([9, 4, 7], [(5, 200)], [7])
        self.fair([9, 0, 7], [(7, 200)], [0])

    def test_even(self):
        self.fair([9], [(1, 200)] * 3, [3, 3, 3])

    def test_unit_goes_to_the_earlier_flow(self):
        self.fair([10], [(1, 200)] * 3, [4, 3, 3])
        self.fair([11], [(1, 200)] * 3, [4, 4, 3])
        self.fair([2], [(1, 200)] * 3, [1, 1, 0])
        self.fair([7], [(1, 200)] * 2, [4, 3])

    def test_modest_wish_leaves_to_the_others(self):
        self.fair([10], [(1, 2), (1, 200), (1, 200)], [2, 4, 4])
        self.fair([10], [(1, 200), (1, 0), (1, 3)], [7, 0, 3])

    def test_flows_that_share_lines(self):
        self.fair([6, 10], [(3, 200), (1, 200), (2, 200)], [3, 3, 7])
        self.fair([6, 4], [(1, 200), (3, 200), (2, 200)], [4, 2, 2])
        self.fair([5, 5, 5], [(3, 200), (6, 200), (5, 200)], [3, 2, 2])

    def test_full_line_takes_no_unit_of_the_other_lines(self):
        self.fair([0, 6], [(3, 200), (2, 200)], [0, 6])
        self.fair([1, 9], [(1, 200), (3, 200), (2, 200)], [1, 0, 9])

    def test_last_line(self):
        self.fair([0] * 15 + [5], [(1 << 15, 200), (1 << 15, 200), (3 << 14, 200)], [3, 2, 0])

    def test_sixteen_flows(self):
        self.fair([200] * 16, [(1 << k, 200) for k in range(16)], [200] * 16)
        self.fair([200] * 16, [(65535, 200)] * 16, [13] * 8 + [12] * 8)


class Telling(unittest.TestCase):
    def test_down_comes_ahead_of_up(self):
        calls = [start(10), flow(1, 200), ack(0, 1)]
        self.assertEqual(told_now(calls, 0), (1, 10))
        calls += [flow(1, 200)]
        self.assertEqual([told_now(calls, 0), told_now(calls, 1)], [(2, 5), (0, 0)])
        calls += [ack(0, 2)]
        self.assertEqual([told_now(calls, 0), told_now(calls, 1)], [(2, 5), (1, 5)])

    def test_flow_that_waits_is_told_nothing(self):
        calls = [start(10), flow(1, 200), flow(1, 200), wish(0, 1), wish(0, 200), wish(0, 3)]
        self.assertEqual([told_now(calls, 0), told_now(calls, 1)], [(1, 10), (0, 0)])
        calls += [ack(0, 1)]
        self.assertEqual([told_now(calls, 0), told_now(calls, 1)], [(2, 3), (0, 0)])

    def test_flow_that_waits_may_use_what_it_had_before(self):
        calls = [start(10), flow(1, 8), ack(0, 1), wish(0, 3)]
        self.assertEqual(told_now(calls, 0), (2, 3))
        calls += [flow(1, 200)]
        self.assertEqual(told_now(calls, 1), (1, 2))

    def test_flow_that_waits_may_use_what_it_is_told(self):
        calls = [start(10), flow(1, 3), ack(0, 1), wish(0, 8)]
        self.assertEqual(told_now(calls, 0), (2, 8))
        calls += [flow(1, 200)]
        self.assertEqual(told_now(calls, 1), (1, 2))

    def test_flow_that_was_heard_may_use_no_more_than_it_was_told(self):
        calls = [start(10), flow(1, 8), ack(0, 1), wish(0, 3), ack(0, 2), flow(1, 200)]
        self.assertEqual(told_now(calls, 1), (1, 7))

    def test_before_is_what_it_was_told_just_before(self):
        calls = [start(10), flow(1, 9), ack(0, 1), wish(0, 5), ack(0, 2), wish(0, 1), flow(1, 200)]
        self.assertEqual([told_now(calls, 0), told_now(calls, 1)], [(3, 1), (1, 5)])

    def test_spare_in_part(self):
        calls = [start(10), flow(1, 6), flow(1, 200)]
        self.assertEqual([told_now(calls, 0), told_now(calls, 1)], [(1, 6), (1, 4)])
        calls += [ack(1, 1)]
        self.assertEqual([told_now(calls, 0), told_now(calls, 1)], [(1, 6), (1, 4)])
        calls += [ack(0, 1)]
        self.assertEqual([told_now(calls, 0), told_now(calls, 1)], [(2, 5), (1, 4)])
        calls += [ack(0, 2)]
        self.assertEqual([told_now(calls, 0), told_now(calls, 1)], [(2, 5), (2, 5)])

    def test_so_much_more_than_it_was_told(self):
        calls = [start(20), flow(1, 5), ack(0, 1), flow(1, 11), wish(0, 200)]
        self.assertEqual([told_now(calls, 0), told_now(calls, 1)], [(2, 9), (1, 11)])

    def test_not_above_the_fair_share(self):
        calls = [start(20), flow(1, 5), ack(0, 1), wish(0, 7)]
        self.assertEqual(told_now(calls, 0), (2, 7))

    def test_spare_is_the_least_of_the_lines(self):
        calls = [start(20, 12), flow(1, 14), flow(2, 9), flow(3, 200)]
        self.assertEqual([told_now(calls, k) for k in range(3)], [(1, 14), (1, 9), (1, 3)])
        calls = [start(20, 12), flow(1, 18), flow(2, 9), flow(3, 200)]
        self.assertEqual([told_now(calls, k) for k in range(3)], [(1, 18), (1, 9), (1, 2)])

    def test_other_lines_do_not_matter(self):
        calls = [start(5, 9), flow(1, 5), flow(2, 200)]
        self.assertEqual(told_now(calls, 1), (1, 9))

    def test_what_one_is_told_is_not_spare_for_the_next(self):
        calls = [start(10), flow(1, 10), flow(1, 3), flow(1, 3)]
        self.assertEqual([told_now(calls, k) for k in range(3)], [(1, 10), (0, 0), (0, 0)])
        calls += [wish(0, 5), ack(0, 1)]
        self.assertEqual([told_now(calls, k) for k in range(3)], [(2, 4), (0, 0), (0, 0)])
        calls += [ack(0, 2)]
        self.assertEqual([told_now(calls, k) for k in range(3)], [(2, 4), (1, 3), (1, 3)])

    def test_spare_goes_to_the_earlier_flow(self):
        calls = [start(10), flow(1, 10), ack(0, 1), flow(1, 10), flow(1, 10)]
        self.assertEqual([told_now(calls, k) for k in range(3)], [(2, 5), (0, 0), (0, 0)])
        calls += [ack(0, 2)]
        self.assertEqual([told_now(calls, k) for k in range(3)], [(3, 4), (1, 3), (1, 2)])

    def test_later_flow_goes_ahead_where_the_earlier_has_nothing_spare(self):
        calls = [start(6, 6), flow(1, 6), flow(2, 6), ack(1, 1), flow(3, 6), wish(1, 0), flow(2, 6)]
        self.assertEqual([told_now(calls, k) for k in range(4)], [(1, 6), (2, 3), (0, 0), (0, 0)])
        calls += [ack(1, 2)]
        self.assertEqual([told_now(calls, k) for k in range(4)], [(1, 6), (3, 0), (0, 0), (1, 3)])
        calls += [ack(0, 1), ack(0, 2)]
        self.assertEqual([told_now(calls, k) for k in range(4)], [(2, 3), (3, 0), (0, 0), (1, 3)])
        calls += [ack(1, 3)]
        self.assertEqual([told_now(calls, k) for k in range(4)], [(2, 3), (3, 0), (1, 3), (1, 3)])

    def test_all_that_come_down_are_told_at_once(self):
        calls = [start(12), flow(1, 6), flow(1, 6), ack(0, 1), ack(1, 1), flow(1, 200)]
        self.assertEqual([told_now(calls, k) for k in range(3)], [(2, 4), (2, 4), (0, 0)])
        calls += [ack(1, 2)]
        self.assertEqual([told_now(calls, k) for k in range(3)], [(2, 4), (2, 4), (1, 2)])
        calls += [ack(0, 2), ack(2, 1)]
        self.assertEqual([told_now(calls, k) for k in range(3)], [(2, 4), (2, 4), (2, 4)])

    def test_nothing_is_told_where_nothing_changed(self):
        answered = run(start(10), flow(1, 4), ack(0, 1), wish(0, 4), flow(1, 4), say(0))
        self.assertEqual(answered[-1], told(0, 1, 4))


class LastNumber(unittest.TestCase):
    """A number that no list of calls is long enough to come to."""

    def net_at(self, number):
        net = Net()
        net.sn_start([10])
        net.sn_flow(1, 5)
        net.flows[0].number = number
        net.flows[0].waits = False
        return net

    def test_last_number_is_told(self):
        net = self.net_at(LAST_NUMBER - 1)
        net.sn_wish(0, 3)
        self.assertEqual(net.sn_say(0), told(0, 4294967295, 3))

    def test_nothing_is_told_behind_it(self):
        for most in (3, 8):
            net = self.net_at(LAST_NUMBER)
            self.assertEqual(net.sn_wish(0, most), [0])
            self.assertEqual(net.sn_say(0), told(0, 4294967295, 5))

    def test_others_are_told_still(self):
        net = self.net_at(LAST_NUMBER)
        net.sn_wish(0, 0)
        net.sn_flow(1, 200)
        self.assertEqual(net.sn_say(1), told(1, 1, 5))


if __name__ == "__main__":
    unittest.main()
