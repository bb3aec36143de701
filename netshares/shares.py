"""The net's side, who may have how much; the sources; and the messages between them.

All of it stands in this one file, since the interface asks that nothing is imported.
"""

SN_START = 0
SN_FLOW = 1
SN_WISH = 2
SN_SAY = 3
SN_HEARD = 4
SN_OF = 5
SS_START = 6
SS_HEARD = 7
SS_SAY = 8
SS_SHARE = 9

SOURCES = 4

INVALID = -22
NO_PLACE = -28
NO_SUCH_FLOW = -2
NOTHING_YET = -61
NOT_RIGHT = -71

MOST_LINES = 16
MOST_FLOWS = 16
MOST_UNITS = 200
LAST_NUMBER = 0xFFFFFFFF

TO_SOURCE = 1
FROM_SOURCE = 2

NUMBER_AT = 4
SHARE_AT = 8
CHECK_AT = 12

ALL_ONES = 0xFFFFFFFF
POLYNOMIAL = 0x82F63B78


def low_byte_first(number):
    """The four bytes of a number."""
    return [(number >> shift) & 255 for shift in (0, 8, 16, 24)]


def number_in(message, at):
    """The number whose four bytes begin at that place."""
    return message[at] | message[at + 1] << 8 | message[at + 2] << 16 | message[at + 3] << 24


def crc_32c(row):
    """CRC-32C of a row of bytes."""
    check = ALL_ONES
    for byte in row:
        check = check ^ byte
        for bit in range(8):
            low = check & 1
            check = check >> 1
            if low == 1:
                check = check ^ POLYNOMIAL
    return check ^ ALL_ONES


def message_of(kind, flow, number, share):
    """The 16 bytes of a message."""
    row = [kind, flow, 0, 0] + low_byte_first(number) + low_byte_first(share)
    return row + low_byte_first(crc_32c(row))


def is_right(message):
    """Whether a message is one that either side could have sent."""
    if number_in(message, CHECK_AT) != crc_32c(message[:CHECK_AT]):
        return False
    if message[0] not in (TO_SOURCE, FROM_SOURCE) or message[1] >= MOST_FLOWS:
        return False
    if message[2] != 0 or message[3] != 0:
        return False
    return number_in(message, NUMBER_AT) != 0 and number_in(message, SHARE_AT) <= MOST_UNITS


def lines_of(path):
    """The lines of a path, as a list of their numbers."""
    return [line for line in range(MOST_LINES) if (path >> line) & 1 == 1]


class Flow:
    """What the net's side has of a flow."""

    def __init__(self, path, wish):
        self.lines = lines_of(path)
        self.wish = wish
        self.told = 0
        self.told_before = 0
        self.number = 0
        self.waits = False

    def may_use(self):
        """The most that its source may go by, for all that's known."""
        # A lost message and one that was heard look the same from here, so either share must fit.
        if self.waits:
            return max(self.told, self.told_before)
        return self.told

    def can_be_told(self):
        """Whether another message may go to its source; behind the last number there's none to tell it by."""
        return not self.waits and self.number < LAST_NUMBER

    def tell(self, share):
        """Note that this share is told from now on."""
        self.told_before = self.told
        self.told = share
        self.number = self.number + 1
        self.waits = True


def has_room(left, lines):
    """Whether each of these lines has a unit left."""
    for line in lines:
        if left[line] == 0:
            return False
    return True


def give_round(left, flows, shares):
    """Give one round of units; whether anybody got one."""
    given = False
    for k in range(len(flows)):
        if shares[k] < flows[k].wish and has_room(left, flows[k].lines):
            shares[k] = shares[k] + 1
            for line in flows[k].lines:
                left[line] = left[line] - 1
            given = True
    return given


def fair_shares(room, flows):
    """The fair share of each flow, in order."""
    left = list(room)
    shares = [0 for flow in flows]
    while give_round(left, flows, shares):
        pass
    return shares


class Net:
    """The net's side; each call answers the list of its numbers."""

    def __init__(self):
        self.room = []
        self.flows = []

    def sn_start(self, room):
        """Begin anew, with these lines and no flows."""
        if len(room) < 1 or len(room) > MOST_LINES or max(room) > MOST_UNITS:
            return [INVALID]
        self.room = list(room)
        self.flows = []
        return [0]

    def sn_flow(self, path, most):
        """Take one more flow."""
        if path == 0 or path >> len(self.room) != 0 or most > MOST_UNITS:
            return [INVALID]
        if len(self.flows) == MOST_FLOWS:
            return [NO_PLACE]
        self.flows.append(Flow(path, most))
        self.plan()
        return [len(self.flows) - 1]

    def sn_wish(self, flow, most):
        """Change what a flow wishes for."""
        if most > MOST_UNITS:
            return [INVALID]
        if flow >= len(self.flows):
            return [NO_SUCH_FLOW]
        self.flows[flow].wish = most
        self.plan()
        return [0]

    def sn_say(self, flow):
        """The message that tells a source its share."""
        if flow >= len(self.flows):
            return [NO_SUCH_FLOW]
        asked = self.flows[flow]
        if asked.number == 0:
            return [NOTHING_YET]
        return [0] + message_of(TO_SOURCE, flow, asked.number, asked.told)

    def sn_heard(self, message):
        """Take a source's word that it heard."""
        if not is_right(message) or message[1] >= len(self.flows) or message[0] != FROM_SOURCE:
            return [NOT_RIGHT]
        flow = self.flows[message[1]]
        # The number alone tells which message was heard; the document doesn't ask for the share.
        if not flow.waits or number_in(message, NUMBER_AT) != flow.number:
            return [0]
        flow.waits = False
        self.plan()
        return [1]

    def sn_of(self, flow):
        """What a flow was told last, what's fair and what it may use, behind whether it waits."""
        if flow >= len(self.flows):
            return [NO_SUCH_FLOW]
        asked = self.flows[flow]
        fair = fair_shares(self.room, self.flows)
        return [1 if asked.waits else 0, asked.told, fair[flow], asked.may_use()]

    def plan(self):
        """Tell each flow its fair share, or so much of it as can be told by now."""
        fair = fair_shares(self.room, self.flows)
        for k in range(len(self.flows)):
            flow = self.flows[k]
            if flow.can_be_told() and flow.told > fair[k]:
                flow.tell(fair[k])
        for k in range(len(self.flows)):
            flow = self.flows[k]
            if flow.can_be_told() and flow.told < fair[k]:
                self.raise_towards(flow, fair[k])

    def raise_towards(self, flow, fair):
        """Tell a flow as much more as is spare for it, but not above its fair share."""
        spare = min([self.spare_on(line) for line in flow.lines])
        if spare > 0:
            flow.tell(min(flow.told + spare, fair))

    def spare_on(self, line):
        """A line's room less what all flows over it may use."""
        return self.room[line] - sum([flow.may_use() for flow in self.flows if line in flow.lines])


class Source:
    """A source; each call answers the list of its numbers."""

    def __init__(self):
        self.flow = 0
        self.number = 0
        self.share = 0

    def ss_start(self, me):
        """Begin anew, as the source of this flow."""
        if me >= MOST_FLOWS:
            return [INVALID]
        self.flow = me
        self.number = 0
        self.share = 0
        return [0]

    def ss_heard(self, message):
        """Take the net's word of its share."""
        if not is_right(message) or message[0] != TO_SOURCE or message[1] != self.flow:
            return [NOT_RIGHT]
        number = number_in(message, NUMBER_AT)
        # A late message tells of a share that the net's side may have given to others since.
        if number <= self.number:
            return [0]
        self.number = number
        self.share = number_in(message, SHARE_AT)
        return [1]

    def ss_say(self):
        """The message that tells the net's side what was heard."""
        if self.number == 0:
            return [NOTHING_YET]
        return [0] + message_of(FROM_SOURCE, self.flow, self.number, self.share)

    def ss_share(self):
        """The share that it goes by."""
        return [self.share]


def end_of_call(calls, at):
    """Where the call that begins there ends."""
    name = calls[at]
    if name in (SN_START, SN_HEARD, SS_HEARD):
        return at + 3 + calls[at + 2]
    if name in (SN_FLOW, SN_WISH):
        return at + 4
    if name in (SS_SAY, SS_SHARE):
        return at + 2
    return at + 3


def answer_of_net(net, call):
    """What one call of the net's side answers; its rows have their count ahead of them."""
    name = call[0]
    if name == SN_START:
        return net.sn_start(call[3:])
    if name == SN_FLOW:
        return net.sn_flow(call[2], call[3])
    if name == SN_WISH:
        return net.sn_wish(call[2], call[3])
    if name == SN_SAY:
        return net.sn_say(call[2])
    if name == SN_HEARD:
        return net.sn_heard(call[3:])
    return net.sn_of(call[2])


def answer_of_source(source, call):
    """What one call of a source answers; its rows have their count ahead of them."""
    name = call[0]
    if name == SS_START:
        return source.ss_start(call[2])
    if name == SS_HEARD:
        return source.ss_heard(call[3:])
    if name == SS_SAY:
        return source.ss_say()
    return source.ss_share()


def answer_of(net, sources, call):
    """What one call answers, asked of the object that it names."""
    if call[0] < SS_START:
        return answer_of_net(net, call)
    return answer_of_source(sources[call[1]], call)


def answers(calls):
    """What the calls answer, one behind another, each with how many numbers it answers ahead of it."""
    net = Net()
    sources = [Source() for k in range(SOURCES)]
    answered = []
    at = 0
    while at < len(calls):
        end = end_of_call(calls, at)
        answer = answer_of(net, sources, calls[at:end])
        answered.append(len(answer))
        answered.extend(answer)
        at = end
    return answered
