"""Builds lines of calls, asks them, and shows what there is behind them.

told tells it through answers alone. world_after keeps the object that a line of calls leaves, so that a message can be
handed over that no line brings about; switch_of, knows_of, controller_of, bag_of and counts_of ask that object.
"""

from policyturn.answering import answer_call
from policyturn.messages import DROP, FLIP, GONE, HAVE, HELLO, ROW, TURNED, Message
from policyturn.reading import read_calls
from policyturn.rollout import Session, answers

LEAST = -(2 ** 63)
GREATEST = 2 ** 63 - 1
TIME_END = 2 ** 62

RULE = [-1, 5, 9, 1]


def begin(n=2, cap=99, life=10, room=9):
    return [0, n, cap, life, room]


def publish(*rules):
    return publish_numbers([number for rule in rules for number in rule])


def publish_numbers(numbers):
    return [1, len(numbers)] + list(numbers)


def work():
    return [2]


def tick(n):
    return [3, n]


def deliver(k):
    return [4, k]


def lose(k):
    return [5, k]


def double(k):
    return [6, k]


def flow(m=5000):
    return [7, m]


def restart(x):
    return [8, x]


def hello(x):
    return [9, x]


def crash():
    return [10]


def enter(key, *route):
    return [11, key, len(route)] + list(route)


def hop(k=0):
    return [12, k]


def policy(v, x, key):
    return [13, v, x, key]


def switch(x):
    return [14, x]


def knows(x):
    return [15, x]


def controller():
    return [16]


def bag():
    return [17]


def packets():
    return [18]


def counts():
    return [19]


def turn():
    """The calls that roll a published version out on a net that loses nothing."""
    return [work(), flow(), work(), flow()]


def line(calls):
    """The list to hand in, held to what the document says of a line."""
    numbers = [number for call in calls for number in call]
    assert 1 <= len(calls) <= 400, len(calls)
    assert len(numbers) <= 16000, len(numbers)
    assert calls.count(bag()) <= 15 and calls.count(packets()) <= 60
    return numbers


def ask(calls):
    """The answer to each call, cut apart by the counts that stand before them."""
    told = answers(line(calls))
    cut = []
    at = 0
    while at < len(told):
        size = told[at]
        cut.append(told[at + 1:at + 1 + size])
        at += 1 + size
    assert at == len(told)
    assert len(cut) == len(calls), (cut, calls)
    for number in told:
        assert type(number) is int, told
    return cut


def last(calls):
    return ask(calls)[-1]


def tells(n):
    """The calls that tell all there is with n switches, by name."""
    named = {f"switch {x}": switch(x) for x in range(n)}
    named.update({f"knows {x}": knows(x) for x in range(n)})
    named.update({"controller": controller(), "bag": bag(), "packets": packets(), "counts": counts()})
    return named


def told(calls):
    """What the calls 14 to 19 tell after these calls, by name."""
    begun = [call for call, answer in zip(calls, ask(calls)) if call[0] == 0 and answer == [0]]
    named = tells(begun[-1][1])
    return dict(zip(named, ask(calls + list(named.values()))[len(calls):]))


def cut_in_messages(size, numbers):
    """The numbers that bag tells, cut apart: a row has its rule where its total isn't 0."""
    cut = []
    at = 0
    while at < len(numbers):
        width = {ROW: 6, HELLO: 3}.get(numbers[at], 4)
        if numbers[at] == ROW and numbers[at + 5] != 0:
            width += 4
        cut.append(numbers[at:at + width])
        at += width
    assert at == len(numbers) and len(cut) == size, numbers
    return cut


def messages_after(calls):
    answer = last(calls + [bag()])
    assert answer[0] == 0, answer
    return cut_in_messages(answer[1], answer[2:])


def bag_size(calls):
    """How many messages are in the bag after these calls, as answers tells it: flow can't be asked, it fills it."""
    return ask(list(calls) + [lose(0)] * (399 - len(calls)))[len(calls):].count([0])


def world_after(calls):
    session = Session()
    for call in read_calls(line(calls)):
        session.answer(call)
    return session.world


def asked(world, call):
    answer = answer_call(world, call[0], call[1:])
    assert answer[0] == 0, answer
    return answer[1:]


def switch_of(world, x):
    return asked(world, switch(x))


def knows_of(world, x):
    return asked(world, knows(x))


def controller_of(world):
    return asked(world, controller())


def counts_of(world):
    return asked(world, counts())


def bag_of(world):
    numbers = asked(world, bag())
    return cut_in_messages(numbers[0], numbers[1:])


def all_of(world):
    """Everything that is kept, in one value that two worlds can be compared by: no call tells its first entry, nor
    the rules themselves."""
    if world is None:
        return None
    places = range(len(world.switches))
    return [
        [world.cap, world.life, world.room, world.book, counts_of(world)],
        [switch_of(world, x) for x in places],
        [sorted((v, sorted(part.came.items())) for v, part in world.switches[x].parts.items()) for x in places],
        [knows_of(world, x) for x in places],
        [controller_of(world), [list(rules) for rules in world.controller.published]],
        bag_of(world),
        asked(world, packets()),
    ]


def row_message(x, start, version, place=0, total=0, rule=None):
    return Message(ROW, x, start, version, place, total, rule)


def flip_message(x, start, version):
    return Message(FLIP, x, start, version)


def drop_message(x, start, version):
    return Message(DROP, x, start, version)


def hello_message(x, start):
    return Message(HELLO, x, start)


def have_message(x, start, version):
    return Message(HAVE, x, start, version)


def turned_message(x, start, version):
    return Message(TURNED, x, start, version)


def gone_message(x, start, version):
    return Message(GONE, x, start, version)
