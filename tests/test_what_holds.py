"""What holds over many calls: beside a plain retelling of the document, and with messages lost, doubled and late."""

import itertools
import random
import unittest

from helper import (
    ack, begin, checked, flat, flow, hear, heard, message, of, reply, run, say, share_of, start, told_now, wish,
)
from netshares.shares import answers


def parts(sent):
    """Kind, flow, number and share of a message; None if it isn't right."""
    row = bytes(sent)
    kind, f = row[:2]
    number, share = int.from_bytes(row[4:8], "little"), int.from_bytes(row[8:12], "little")
    right = checked(row[:12]) == list(row) and row[2:4] == b"\0\0" and number != 0 and share <= 200
    return (kind, f, number, share) if right and kind in (1, 2) and f < 16 else None


class Retold:
    """The net's side in the document's own order, with nothing made short."""

    def __init__(self):
        self.room, self.paths, self.wishes, self.told, self.before, self.numbers, self.waits = [], [], [], [], [], [], []

    def over(self, line):
        return [f for f in range(len(self.paths)) if self.paths[f] >> line & 1]

    def lines(self, f):
        return [line for line in range(16) if self.paths[f] >> line & 1]

    def fair(self):
        have = [0] * len(self.paths)
        while True:
            before = list(have)
            for f in range(len(have)):
                fits = all(sum(have[g] for g in self.over(line)) + 1 <= self.room[line] for line in self.lines(f))
                if have[f] < self.wishes[f] and fits:
                    have[f] += 1
            if have == before:
                return have

    def may_use(self, f):
        return max(self.told[f], self.before[f]) if self.waits[f] else self.told[f]

    def spare(self, f):
        return min(self.room[line] - sum(self.may_use(g) for g in self.over(line)) for line in self.lines(f))

    def tell(self, f, share):
        self.before[f], self.told[f], self.waits[f] = self.told[f], share, True
        self.numbers[f] += 1

    def plan(self):
        fair = self.fair()
        for f in range(len(fair)):
            if not self.waits[f] and self.told[f] > fair[f]:
                self.tell(f, fair[f])
        for f in range(len(fair)):
            if not self.waits[f] and self.told[f] < fair[f] and self.spare(f) > 0:
                self.tell(f, min(self.told[f] + self.spare(f), fair[f]))

    def call(self, call):
        return (self.start, self.flow, self.wish, self.say, self.heard, self.of)[call[0]](call[2:])

    def start(self, given):
        room = given[1:]
        if not 1 <= len(room) <= 16 or any(units > 200 for units in room):
            return [-22]
        self.__init__()
        self.room = room
        return [0]

    def flow(self, given):
        path, most = given
        if path == 0 or path >= 2 ** len(self.room) or most > 200:
            return [-22]
        if len(self.paths) == 16:
            return [-28]
        self.paths.append(path)
        self.wishes.append(most)
        for row in (self.told, self.before, self.numbers):
            row.append(0)
        self.waits.append(False)
        self.plan()
        return [len(self.paths) - 1]

    def wish(self, given):
        f, most = given
        if most > 200:
            return [-22]
        if f >= len(self.paths):
            return [-2]
        self.wishes[f] = most
        self.plan()
        return [0]

    def say(self, given):
        f = given[0]
        if f >= len(self.paths):
            return [-2]
        if self.numbers[f] == 0:
            return [-61]
        return [0, *message(1, f, self.numbers[f], self.told[f])]

    def heard(self, given):
        found = parts(given[1:])
        if found is None or found[1] >= len(self.paths) or found[0] != 2:
            return [-71]
        f, number = found[1:3]
        if not self.waits[f] or number != self.numbers[f]:
            return [0]
        self.waits[f] = False
        self.plan()
        return [1]

    def of(self, given):
        f = given[0]
        if f >= len(self.paths):
            return [-2]
        return [int(self.waits[f]), self.told[f], self.fair()[f], self.may_use(f)]


class RetoldSource:
    """A source, as the document tells of it: all that it heard, and of that the greatest number."""

    def __init__(self):
        self.me, self.took = None, [(0, 0)]

    def call(self, call):
        return (self.start, self.heard, self.say, lambda given: [max(self.took)[1]])[call[0] - 6](call[2:])

    def start(self, given):
        if given[0] > 15:
            return [-22]
        self.me, self.took = given[0], [(0, 0)]
        return [0]

    def heard(self, given):
        found = parts(given[1:])
        if found is None or found[0] != 1 or found[1] != self.me:
            return [-71]
        newer = found[2] > max(self.took)[0]
        if newer:
            self.took.append(found[2:])
        return [int(newer)]

    def say(self, given):
        return [0, *message(2, self.me, *max(self.took))] if len(self.took) > 1 else [-61]


class RetoldWhole:
    """One net and four sources; the calls that were made of them, and what each should answer."""

    def __init__(self):
        self.net, self.sources = Retold(), [RetoldSource() for _ in range(4)]
        self.calls, self.expected = [], []

    def ask(self, call):
        self.calls.append(call)
        self.expected.append(self.net.call(call) if call[0] < 6 else self.sources[call[1]].call(call))
        return self.expected[-1]


def some_room(chance):
    return [chance.choice((0, 1, chance.randrange(30), chance.randrange(201), 200)) for _ in range(chance.randint(1, 16))]


def some_call(chance, net):
    flows, lines = len(net.paths), len(net.room)
    f = chance.randrange(flows + 1) if chance.random() < 0.1 else chance.randrange(max(flows, 1))
    most = chance.choice((0, chance.randrange(20), chance.randrange(201), 200, 201))
    turn = chance.random()
    if turn < 0.2:
        return flow(chance.choice((chance.randrange(2 ** lines + 2), 1 << chance.randrange(lines), 2 ** lines - 1)), most)
    if turn < 0.4:
        return wish(f, most)
    if turn < 0.5:
        return say(f)
    if turn < 0.55:
        return of(f)
    if turn < 0.56:
        return start(*some_room(chance), *[201] * chance.randrange(2))
    number = net.numbers[f] if f < flows and chance.random() < 0.9 else chance.randrange(4)
    sent = message(chance.choice((2, 2, 2, 2, 2, 2, 2, 2, 1, 3)), f, number, chance.randrange(202))
    if chance.random() < 0.03:
        sent[chance.randrange(16)] ^= 1 << chance.randrange(8)
    return heard(sent)


def some_call_of_a_source(chance, source, told):
    k = chance.randrange(4)
    turn = chance.random()
    if source[k].me is None or turn < 0.03:
        return begin(k, chance.choice((0, 1, 2, chance.randrange(20)) if source[k].me is None else (k, 16, 4294967295)))
    if turn < 0.2:
        return reply(k)
    if turn < 0.4:
        return share_of(k)
    sent = message(
        chance.choice((1, 1, 1, 1, 1, 1, 1, 1, 2, 0)),
        source[k].me if chance.random() < 0.8 else chance.randrange(18),
        chance.choice((chance.randrange(6), chance.randrange(40), chance.randrange(2 ** 32))) % chance.choice((50, 2 ** 32)),
        chance.randrange(202),
    )
    if told and chance.random() < 0.5:
        sent = list(chance.choice(told))
    if chance.random() < 0.03:
        sent[chance.randrange(16)] ^= 1 << chance.randrange(8)
    return hear(k, sent)


class BesideTheDocument(unittest.TestCase):
    def test_same_answers_of_net_and_sources(self):
        for seed in range(60):
            chance = random.Random(500 + seed)
            whole, told, started, begun = RetoldWhole(), [], False, 0
            while len(whole.calls) < 200:
                if chance.random() < 0.5:
                    call = some_call_of_a_source(chance, whole.sources, told)
                else:
                    call = some_call(chance, whole.net) if started else start(*some_room(chance))
                    started = True
                answer = whole.ask(call)
                begun += call[0] == 6 and answer == [0]
                if call[0] in (3, 8) and answer[0] == 0:
                    told.append(answer[1:])
            self.assertEqual(run(*whole.calls), whole.expected, seed)
            self.assertGreaterEqual(begun, 4, seed)

    def test_same_answers(self):
        for seed in range(60):
            chance = random.Random(seed)
            net = Retold()
            calls, expected = [], []
            while len(calls) < 120:
                calls.append(some_call(chance, net) if calls else start(*some_room(chance)))
                expected.append(net.call(calls[-1]))
            self.assertEqual(run(*calls), expected, seed)


class Sources:
    """Sources that go by the greatest number they heard, and a net between that loses, doubles and delays."""

    def __init__(self, chance, room):
        self.chance, self.room, self.paths = chance, room, []
        self.calls = [start(*room)]
        self.shares, self.numbers, self.down, self.up = {}, {}, [], []

    def ask(self, call):
        self.calls.append(call)
        return run(*self.calls)[-1]

    def come(self, path, most):
        if self.ask(flow(path, most))[0] >= 0:
            self.shares[len(self.paths)] = self.numbers[len(self.paths)] = 0
            self.paths.append(path)

    def send_down(self, f):
        answer = run(*self.calls, say(f))[-1]
        if len(answer) == 17:
            self.down.append(answer[1:])

    def come_down(self, sent):
        f, number = sent[1], int.from_bytes(sent[4:8], "little")
        if number > self.numbers[f]:
            self.numbers[f], self.shares[f] = number, int.from_bytes(sent[8:12], "little")
        self.up.append(message(2, f, self.numbers[f], self.shares[f]))

    def step(self):
        turn = self.chance.random()
        lines, flows = len(self.room), len(self.paths)
        most = self.chance.choice((0, self.chance.randrange(12), 200))
        if flows == 0 or turn < 0.08:
            self.come(self.chance.randrange(1, 2 ** lines), most)
        elif turn < 0.2:
            self.ask(wish(self.chance.randrange(flows), most))
        elif turn < 0.5:
            self.send_down(self.chance.randrange(flows))
        elif turn < 0.75 and self.down:
            self.come_down(self.chance.choice(self.down[-12:]))
        elif self.up:
            self.ask(heard(self.chance.choice(self.up[-12:])))

    def too_much(self):
        return [
            line for line, units in enumerate(self.room)
            if sum(share for f, share in self.shares.items() if self.paths[f] >> line & 1) > units
        ]

    def quieten(self):
        """Now every message comes through, till the net's side has nothing more to tell."""
        while True:
            before = len(self.calls)
            for f in range(len(self.paths)):
                self.send_down(f)
                if self.down and self.down[-1][1] == f:
                    self.come_down(self.down[-1])
                    if run(*self.calls, heard(self.up[-1]))[-1] == [1]:
                        self.ask(heard(self.up[-1]))
            if len(self.calls) == before:
                return


class Between:
    """A net and sources that hear of one another by messages that are lost, doubled and late."""

    def __init__(self, chance, flows):
        self.chance, self.whole, self.flows = chance, RetoldWhole(), flows
        self.room = [chance.randrange(25) for _ in range(chance.randint(1, 4))]
        self.me = chance.sample(range(flows), min(flows, 4))
        self.down, self.up = [], []
        begun = [start(*self.room), *[begin(k, me) for k, me in enumerate(self.me)]]
        for call in chance.sample(begun, len(begun)):
            self.whole.ask(call)

    def send(self, call, air):
        answer = self.whole.ask(call)
        if len(answer) == 17:
            air.append(answer[1:])

    def step(self):
        turn, flows = self.chance.random(), len(self.whole.net.paths)
        most = self.chance.choice((0, self.chance.randrange(12), 200))
        if flows < self.flows and (flows == 0 or turn < 0.08):
            self.whole.ask(flow(self.chance.randrange(1, 2 ** len(self.room)), most))
        elif turn < 0.2:
            self.whole.ask(wish(self.chance.randrange(flows), most))
        elif turn < 0.4:
            self.send(say(self.chance.randrange(flows)), self.down)
        elif turn < 0.6 and self.down:
            sent = self.chance.choice(self.down[-12:])
            fitting = [k for k, me in enumerate(self.me) if me == sent[1]] or range(len(self.me))
            self.whole.ask(hear(self.chance.choice(fitting), sent))
        elif turn < 0.8:
            self.send(reply(self.chance.randrange(len(self.me))), self.up)
        elif self.up:
            self.whole.ask(heard(self.chance.choice(self.up[-12:])))

    def quieten(self):
        """Now every message comes through, till the net's side has nothing more to tell."""
        while any(self.whole.net.waits):
            for k, me in enumerate(self.me):
                if me < len(self.whole.net.waits) and self.whole.net.waits[me]:
                    self.whole.ask(hear(k, self.whole.ask(say(me))[1:]))
                    self.whole.ask(heard(self.whole.ask(reply(k))[1:]))

    def asked_all_along(self):
        """The calls, and behind each the shares of the sources that were begun by then."""
        calls, begun = [], []
        for call in self.whole.calls:
            calls.append(call)
            begun += [call[1]] if call[0] == 6 else []
            calls += [share_of(k) for k in begun]
        return calls


class NetAndSources(unittest.TestCase):
    """Told by what the program answers alone, call by call."""

    def follow(self, between, seed):
        """Never too much and newer alone, behind each call."""
        calls = between.asked_all_along()
        self.assertLessEqual(len(calls), 1000)
        paths, shares, newest = [], {}, {}
        for call, answer in zip(calls, run(*calls)):
            if call[0] == 1 and answer[0] >= 0:
                paths.append(call[2])
            elif call[0] == 6:
                newest[call[1]] = (0, 0)
            elif call[0] == 7:
                kind, f, number, share = parts(call[3:])
                if f == between.me[call[1]]:
                    newest[call[1]] = max(newest[call[1]], (number, share))
            elif call[0] == 9:
                shares[call[1]] = answer[0]
                self.assertEqual(answer, [newest[call[1]][1]], seed)
            for line, units in enumerate(between.room):
                over = [k for k in shares if between.me[k] < len(paths) and paths[between.me[k]] >> line & 1]
                self.assertLessEqual(sum(shares[k] for k in over), units, seed)
        return shares

    def test_never_too_much_and_fair_in_the_end(self):
        most = 0
        for seed in range(80):
            between = Between(random.Random(2000 + seed), 1 + seed % 4)
            for _ in range(120):
                between.step()
            between.quieten()
            self.assertEqual(run(*between.whole.calls), between.whole.expected, seed)
            shares = self.follow(between, seed)
            for k, me in enumerate(between.me):
                if me < len(between.whole.net.paths):
                    fair = run(*between.whole.calls, of(me))[-1][2]
                    self.assertEqual(run(*between.whole.calls, of(me))[-1], [0, fair, fair, fair], seed)
                    self.assertEqual(shares[k], fair, seed)
                    most = max(most, fair)
        self.assertGreater(most, 5)

    def test_never_too_much_beside_flows_whose_source_never_hears(self):
        for seed in range(40):
            between = Between(random.Random(3000 + seed), 8)
            for _ in range(180):
                between.step()
            self.assertEqual(run(*between.whole.calls), between.whole.expected, seed)
            self.follow(between, seed)

    def test_late_message_with_a_lesser_number_changes_nothing(self):
        early, late = message(1, 0, 1, 10), message(1, 0, 2, 5)
        calls = [start(10), begin(0, 0), begin(1, 1), flow(1, 10), hear(0, early), ack(0, 1, 10), flow(1, 10)]
        calls += [hear(0, late), ack(0, 2, 5), hear(1, message(1, 1, 1, 5)), hear(0, early), share_of(0), share_of(1)]
        self.assertEqual(run(*calls)[7:], [[1], [1], [1], [0], [5], [5]])

    def test_lost_message_leaves_the_others_waiting_for_room(self):
        calls = [start(10), begin(0, 0), begin(1, 1), flow(1, 10), hear(0, message(1, 0, 1, 10)), ack(0, 1, 10)]
        calls += [flow(1, 10), wish(0, 0), wish(1, 200), share_of(0), say(1), of(0), of(1)]
        self.assertEqual(run(*calls)[9:], [[10], [-61], [1, 5, 0, 10], [0, 0, 10, 0]])


class Fair(unittest.TestCase):
    def fits(self, room, paths, shares):
        return all(
            sum(share for path, share in zip(paths, shares) if path >> line & 1) <= units
            for line, units in enumerate(room)
        )

    def test_whoever_has_more_takes_it_from_one_that_has_no_more_than_one_unit_more(self):
        others = 0
        for seed in range(150):
            chance = random.Random(4000 + seed)
            room = [chance.randrange(7) for _ in range(chance.randint(1, 3))]
            flows = [(chance.randrange(1, 2 ** len(room)), chance.randrange(6)) for _ in range(chance.randint(1, 4))]
            paths = [path for path, most in flows]
            calls = [start(*room), *[flow(path, most) for path, most in flows], *[of(k) for k in range(len(flows))]]
            fair = [answer[2] for answer in run(*calls)[-len(flows):]]
            self.assertTrue(self.fits(room, paths, fair), seed)
            self.assertTrue(all(share <= most for share, (path, most) in zip(fair, flows)), seed)
            for shares in itertools.product(*[range(most + 1) for path, most in flows]):
                if not self.fits(room, paths, shares):
                    continue
                for had, has in zip(fair, shares):
                    taken = [a for a, b in zip(fair, shares) if b < a and a <= had + 1]
                    self.assertTrue(has <= had or taken, (seed, shares))
                    others += has > had
        self.assertGreater(others, 500)


class WhatHolds(unittest.TestCase):
    """With sources of the test's own, as many as there are flows."""

    def test_never_too_much_and_fair_in_the_end(self):
        for seed in range(25):
            chance = random.Random(1000 + seed)
            net = Sources(chance, [chance.randrange(25) for _ in range(chance.randint(1, 4))])
            for _ in range(150):
                net.step()
                self.assertEqual(net.too_much(), [], seed)
            net.quieten()
            self.assertEqual(net.too_much(), [], seed)
            retold = Retold()
            for call in net.calls:
                retold.call(call)
            self.assertEqual(list(net.shares.values()), retold.fair(), seed)
            self.assertEqual([told_now(net.calls, f)[1] for f in net.shares], retold.fair(), seed)

    def test_room_is_kept_though_nothing_is_heard(self):
        calls = [start(10), flow(1, 10), ack(0, 1), flow(1, 10), wish(0, 1), wish(1, 9), flow(1, 3), wish(0, 0)]
        self.assertEqual([told_now(calls, f) for f in range(3)], [(2, 5), (0, 0), (0, 0)])
        self.assertEqual(answers(flat(calls))[:2], [1, 0])


if __name__ == "__main__":
    unittest.main()
