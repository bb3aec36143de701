"""What holds over many calls: beside a plain retelling of the document, and with messages lost, doubled and late."""

import random
import unittest

from helper import ack, checked, flat, flow, heard, message, run, say, start, told_now, wish
from netshares.shares import answers


class Retold:
    """The net's side in the document's own order, with nothing made short."""

    def __init__(self):
        self.room, self.paths, self.wishes, self.told, self.before, self.numbers, self.waits = [], [], [], [], [], [], []

    def over(self, line):
        return [f for f in range(len(self.paths)) if self.paths[f] >> line & 1]

    def lines(self, f):
        return [line for line in range(16) if self.paths[f] >> line & 1]

    def fair(self):
        have = [0] * len(self.paths)
        while True:
            before = list(have)
            for f in range(len(have)):
                fits = all(sum(have[g] for g in self.over(line)) + 1 <= self.room[line] for line in self.lines(f))
                if have[f] < self.wishes[f] and fits:
                    have[f] += 1
            if have == before:
                return have

    def may_use(self, f):
        return max(self.told[f], self.before[f]) if self.waits[f] else self.told[f]

    def spare(self, f):
        return min(self.room[line] - sum(self.may_use(g) for g in self.over(line)) for line in self.lines(f))

    def tell(self, f, share):
        self.before[f], self.told[f], self.waits[f] = self.told[f], share, True
        self.numbers[f] += 1

    def plan(self):
        fair = self.fair()
        for f in range(len(fair)):
            if not self.waits[f] and self.told[f] > fair[f]:
                self.tell(f, fair[f])
        for f in range(len(fair)):
            if not self.waits[f] and self.told[f] < fair[f] and self.spare(f) > 0:
                self.tell(f, min(self.told[f] + self.spare(f), fair[f]))

    def call(self, call):
        return (self.start, self.flow, self.wish, self.say, self.heard)[call[0]](call[2:])

    def start(self, given):
        room = given[1:]
        if not 1 <= len(room) <= 16 or any(units > 200 for units in room):
            return [-22]
        self.__init__()
        self.room = room
        return [0]

    def flow(self, given):
        path, most = given
        if path == 0 or path >= 2 ** len(self.room) or most > 200:
            return [-22]
        if len(self.paths) == 16:
            return [-28]
        self.paths.append(path)
        self.wishes.append(most)
        for row in (self.told, self.before, self.numbers):
            row.append(0)
        self.waits.append(False)
        self.plan()
        return [len(self.paths) - 1]

    def wish(self, given):
        f, most = given
        if most > 200:
            return [-22]
        if f >= len(self.paths):
            return [-2]
        self.wishes[f] = most
        self.plan()
        return [0]

    def say(self, given):
        f = given[0]
        if f >= len(self.paths):
            return [-2]
        if self.numbers[f] == 0:
            return [-61]
        return [0, *message(1, f, self.numbers[f], self.told[f])]

    def heard(self, given):
        kind, f = given[1:3]
        row = bytes(given[1:])
        number, share = int.from_bytes(row[4:8], "little"), int.from_bytes(row[8:12], "little")
        right = checked(row[:12]) == list(row) and row[2:4] == b"\0\0" and number != 0 and share <= 200
        if not right or kind != 2 or f >= len(self.paths):
            return [-71]
        if not self.waits[f] or number != self.numbers[f]:
            return [0]
        self.waits[f] = False
        self.plan()
        return [1]


def some_room(chance):
    return [chance.choice((0, 1, chance.randrange(30), chance.randrange(201), 200)) for _ in range(chance.randint(1, 16))]


def some_call(chance, net):
    flows, lines = len(net.paths), len(net.room)
    f = chance.randrange(flows + 1) if chance.random() < 0.1 else chance.randrange(max(flows, 1))
    most = chance.choice((0, chance.randrange(20), chance.randrange(201), 200, 201))
    turn = chance.random()
    if turn < 0.2:
        return flow(chance.choice((chance.randrange(2 ** lines + 2), 1 << chance.randrange(lines), 2 ** lines - 1)), most)
    if turn < 0.4:
        return wish(f, most)
    if turn < 0.55:
        return say(f)
    if turn < 0.56:
        return start(*some_room(chance), *[201] * chance.randrange(2))
    number = net.numbers[f] if f < flows and chance.random() < 0.9 else chance.randrange(4)
    sent = message(chance.choice((2, 2, 2, 2, 2, 2, 2, 2, 1, 3)), f, number, chance.randrange(202))
    if chance.random() < 0.03:
        sent[chance.randrange(16)] ^= 1 << chance.randrange(8)
    return heard(sent)


class BesideTheDocument(unittest.TestCase):
    def test_same_answers(self):
        for seed in range(60):
            chance = random.Random(seed)
            net = Retold()
            calls, expected = [], []
            while len(calls) < 120:
                calls.append(some_call(chance, net) if calls else start(*some_room(chance)))
                expected.append(net.call(calls[-1]))
            self.assertEqual(run(*calls), expected, seed)


class Sources:
    """Sources that go by the greatest number they heard, and a net between that loses, doubles and delays."""

    def __init__(self, chance, room):
        self.chance, self.room, self.paths = chance, room, []
        self.calls = [start(*room)]
        self.shares, self.numbers, self.down, self.up = {}, {}, [], []

    def ask(self, call):
        self.calls.append(call)
        return run(*self.calls)[-1]

    def come(self, path, most):
        if self.ask(flow(path, most))[0] >= 0:
            self.shares[len(self.paths)] = self.numbers[len(self.paths)] = 0
            self.paths.append(path)

    def send_down(self, f):
        answer = run(*self.calls, say(f))[-1]
        if len(answer) == 17:
            self.down.append(answer[1:])

    def come_down(self, sent):
        f, number = sent[1], int.from_bytes(sent[4:8], "little")
        if number > self.numbers[f]:
            self.numbers[f], self.shares[f] = number, int.from_bytes(sent[8:12], "little")
        self.up.append(message(2, f, self.numbers[f], self.shares[f]))

    def step(self):
        turn = self.chance.random()
        lines, flows = len(self.room), len(self.paths)
        most = self.chance.choice((0, self.chance.randrange(12), 200))
        if flows == 0 or turn < 0.08:
            self.come(self.chance.randrange(1, 2 ** lines), most)
        elif turn < 0.2:
            self.ask(wish(self.chance.randrange(flows), most))
        elif turn < 0.5:
            self.send_down(self.chance.randrange(flows))
        elif turn < 0.75 and self.down:
            self.come_down(self.chance.choice(self.down[-12:]))
        elif self.up:
            self.ask(heard(self.chance.choice(self.up[-12:])))

    def too_much(self):
        return [
            line for line, units in enumerate(self.room)
            if sum(share for f, share in self.shares.items() if self.paths[f] >> line & 1) > units
        ]

    def quieten(self):
        """Now every message comes through, till the net's side has nothing more to tell."""
        while True:
            before = len(self.calls)
            for f in range(len(self.paths)):
                self.send_down(f)
                if self.down and self.down[-1][1] == f:
                    self.come_down(self.down[-1])
                    if run(*self.calls, heard(self.up[-1]))[-1] == [1]:
                        self.ask(heard(self.up[-1]))
            if len(self.calls) == before:
                return


class WhatHolds(unittest.TestCase):
    def test_never_too_much_and_fair_in_the_end(self):
        for seed in range(25):
            chance = random.Random(1000 + seed)
            net = Sources(chance, [chance.randrange(25) for _ in range(chance.randint(1, 4))])
            for _ in range(150):
                net.step()
                self.assertEqual(net.too_much(), [], seed)
            net.quieten()
            self.assertEqual(net.too_much(), [], seed)
            retold = Retold()
            for call in net.calls:
                retold.call(call)
            self.assertEqual(list(net.shares.values()), retold.fair(), seed)
            self.assertEqual([told_now(net.calls, f)[1] for f in net.shares], retold.fair(), seed)

    def test_room_is_kept_though_nothing_is_heard(self):
        calls = [start(10), flow(1, 10), ack(0, 1), flow(1, 10), wish(0, 1), wish(1, 9), flow(1, 3), wish(0, 0)]
        self.assertEqual([told_now(calls, f) for f in range(3)], [(2, 5), (0, 0), (0, 0)])
        self.assertEqual(answers(flat(calls))[:2], [1, 0])


if __name__ == "__main__":
    unittest.main()
