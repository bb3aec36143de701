"""What the tests share: calls as they are handed in, answers taken apart, and messages made without the program."""

from netshares.shares import answers


def start(*room):
    return [0, 0, len(room), *room]


def flow(path, most):
    return [1, 0, path, most]


def wish(number, most):
    return [2, 0, number, most]


def say(number):
    return [3, 0, number]


def heard(message):
    return [4, 0, len(message), *message]


def of(number):
    return [5, 0, number]


def begin(source, me):
    return [6, source, me]


def hear(source, message):
    return [7, source, len(message), *message]


def reply(source):
    return [8, source]


def share_of(source):
    return [9, source]


def turned(value, bits):
    return int(format(value, f"0{bits}b")[::-1], 2)


def check(row):
    """CRC-32C from the high bit, turned about: another way than the program's own."""
    value = 0xFFFFFFFF
    for byte in row:
        value ^= turned(byte, 8) << 24
        for _ in range(8):
            value = (value << 1) ^ (0x11EDC6F41 if value >> 31 else 0)
    return turned(value, 32) ^ 0xFFFFFFFF


def checked(row):
    """These 12 bytes, and a check that is right."""
    return [*row, *check(row).to_bytes(4, "little")]


def message(kind, number_of_flow, number, share):
    return checked([kind, number_of_flow, 0, 0, *number.to_bytes(4, "little"), *share.to_bytes(4, "little")])


def ack(number_of_flow, number, share=0):
    """The call by which a source's word comes in that it heard the message with this number."""
    return heard(message(2, number_of_flow, number, share))


def told(number_of_flow, number, share):
    """What sn_say answers for a flow that was told this share last."""
    return [0, *message(1, number_of_flow, number, share)]


def goes_by(number_of_flow, number, share):
    """What ss_say answers of a source that goes by this message."""
    return [0, *message(2, number_of_flow, number, share)]


def flat(calls):
    return [value for call in calls for value in call]


def apart(answered):
    """The answers, each a list of its own."""
    found = []
    at = 0
    while at < len(answered):
        end = at + 1 + answered[at]
        assert end <= len(answered), "an answer is cut short"
        found.append(answered[at + 1:end])
        at = end
    return found


def run(*calls):
    found = apart(answers(flat(calls)))
    assert len(found) == len(calls), "not one answer for each call"
    return found


def last(*calls):
    return run(*calls)[-1]


def told_now(calls, number_of_flow):
    """Number and share of what a flow was told last; (0, 0) if nothing."""
    answer = last(*calls, say(number_of_flow))
    if answer == [-61]:
        return (0, 0)
    return (int.from_bytes(answer[5:9], "little"), int.from_bytes(answer[9:13], "little"))


def settled(calls, flows):
    """The calls, and behind them words of all sources that they heard, till nobody waits any more."""
    calls = list(calls)
    while True:
        round_of_acks = [ack(k, told_now(calls, k)[0]) for k in range(flows) if told_now(calls, k)[0] > 0]
        replies = run(*calls, *round_of_acks)[len(calls):]
        if all(reply == [0] for reply in replies):
            return calls
        calls += round_of_acks


def shares_in_the_end(calls, flows):
    calls = settled(calls, flows)
    return [told_now(calls, k)[1] for k in range(flows)]
