"""Builds lines of calls, asks them, and shows what there is behind them.

The calls that tell a switch, what the controller knows, the bag and the counts are not there yet:
switch_of, knows_of, controller_of, bag_of and counts_of read the same numbers, in the same order,
from the objects that keep them.
"""

from policyturn.messages import DROP, FLIP, GONE, HAVE, HELLO, ROW, TURNED, Message
from policyturn.reading import read_calls
from policyturn.rollout import Session, answers

LEAST = -(2 ** 63)
GREATEST = 2 ** 63 - 1
TIME_END = 2 ** 62

RULE = [-1, 5, 9, 1]


def begin(n=2, cap=99, life=10, room=9):
    return [0, n, cap, life, room]


def publish(*rules):
    return publish_numbers([number for rule in rules for number in rule])


def publish_numbers(numbers):
    return [1, len(numbers)] + list(numbers)


def work():
    return [2]


def tick(n):
    return [3, n]


def deliver(k):
    return [4, k]


def lose(k):
    return [5, k]


def double(k):
    return [6, k]


def flow(m=5000):
    return [7, m]


def restart(x):
    return [8, x]


def hello(x):
    return [9, x]


def turn():
    """The calls that roll a published version out on a net that loses nothing."""
    return [work(), flow(), work(), flow()]


def line(calls):
    return [number for call in calls for number in call]


def ask(calls):
    """The answer to each call, cut apart by the counts that stand before them."""
    told = answers(line(calls))
    cut = []
    at = 0
    while at < len(told):
        size = told[at]
        cut.append(told[at + 1:at + 1 + size])
        at += 1 + size
    assert at == len(told)
    assert len(cut) == len(calls), (cut, calls)
    for number in told:
        assert type(number) is int, told
    return cut


def last(calls):
    return ask(calls)[-1]


def bag_size(calls):
    """How many messages are in the bag after these calls, as answers tells it: flow can't be asked, it fills it."""
    return ask(list(calls) + [lose(0)] * (399 - len(calls)))[len(calls):].count([0])


def world_after(calls):
    session = Session()
    for call in read_calls(line(calls)):
        session.answer(call)
    return session.world


def message_numbers(message):
    numbers = [message.kind, message.x, message.start]
    if message.kind == ROW:
        numbers += [message.version, message.place, message.total]
        numbers += list(message.rule) if message.rule is not None else []
    elif message.kind != HELLO:
        numbers.append(message.version)
    return numbers


def bag_of(world):
    return [message_numbers(message) for message in world.bag]


def switch_of(world, x):
    switch = world.switches[x]
    told = [switch.start, switch.current, switch.floor, len(switch.parts)]
    for version in sorted(switch.parts):
        part = switch.parts[version]
        told += [version, part.total, len(part.came)]
    return told


def knows_of(world, x):
    memory = world.controller.memories[x]
    have = sorted(memory.have)
    gone = sorted(memory.gone)
    return [world.controller.starts[x], memory.turned, len(have)] + have + [len(gone)] + gone


def controller_of(world):
    controller = world.controller
    told = [controller.in_force, int(controller.pending), controller.target(), len(controller.retired)]
    for version, time in controller.retired:
        told += [version, time]
    return told


def counts_of(world):
    return [world.now, world.lost] + world.counts


def all_of(world):
    """Everything that is kept, in one value that two worlds can be compared by."""
    if world is None:
        return None
    places = range(len(world.switches))
    return [
        [world.cap, world.life, world.room, world.book, counts_of(world)],
        [switch_of(world, x) for x in places],
        [sorted((v, sorted(part.came.items())) for v, part in world.switches[x].parts.items()) for x in places],
        [knows_of(world, x) for x in places],
        [controller_of(world), [list(rules) for rules in world.controller.published]],
        bag_of(world),
        list(world.packets),
    ]


def row_message(x, start, version, place=0, total=0, rule=None):
    return Message(ROW, x, start, version, place, total, rule)


def flip_message(x, start, version):
    return Message(FLIP, x, start, version)


def drop_message(x, start, version):
    return Message(DROP, x, start, version)


def hello_message(x, start):
    return Message(HELLO, x, start)


def have_message(x, start, version):
    return Message(HAVE, x, start, version)


def turned_message(x, start, version):
    return Message(TURNED, x, start, version)


def gone_message(x, start, version):
    return Message(GONE, x, start, version)
