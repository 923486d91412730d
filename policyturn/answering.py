"""The calls on a world that has begun: each gives back the numbers that it answers."""

from policyturn.faring import enter, hop
from policyturn.handing import hand_over
from policyturn.messages import DROP, FLIP, HELLO, ROW, Message
from policyturn.rules import ALL_SWITCHES, is_key
from policyturn.telling import tell
from policyturn.world import Switch

ENTER = 11
HOP = 12

# 2^62
LAST_TIME = 4611686018427387904
MOST_RULE_NUMBERS = 64
MOST_FLOW = 5000


def begin_is_right(n, cap, life, room):
    return 1 <= n <= 16 and 1 <= cap <= 4096 and 1 <= life <= 1000000 and 1 <= room <= 256


def rule_is_right(world, rule):
    if rule[0] != ALL_SWITCHES and not world.has_switch(rule[0]):
        return False
    return is_key(rule[1]) and is_key(rule[2]) and rule[1] <= rule[2] and 0 <= rule[3] <= 1


def cut_in_rules(numbers):
    return [tuple(numbers[at:at + 4]) for at in range(0, len(numbers), 4)]


def rules_are_right(world, numbers):
    if len(numbers) > MOST_RULE_NUMBERS or len(numbers) % 4 != 0:
        return False
    for rule in cut_in_rules(numbers):
        if not rule_is_right(world, rule):
            return False
    return True


def publish(world, given):
    if not rules_are_right(world, given):
        return [-1]
    controller = world.controller
    if controller.pending:
        return [-2]
    controller.published.append(cut_in_rules(given))
    controller.pending = True
    return [len(controller.published)]


def work(world, given):
    target = world.controller.target()
    for x in range(len(world.switches)):
        send_missing(world, x)
        send_flip(world, x, target)
        send_drops(world, x)
    return [0]


def send_missing(world, x):
    controller = world.controller
    have = controller.memories[x].have
    if controller.in_force != 0 and controller.in_force not in have:
        send_rows(world, x, controller.in_force)
    if controller.pending and controller.in_force + 1 not in have:
        send_rows(world, x, controller.in_force + 1)


def send_rows(world, x, version):
    start = world.controller.starts[x]
    rules = world.controller.rules_of(version)
    if len(rules) == 0:
        world.send(Message(ROW, x, start, version))
    for place, rule in enumerate(rules):
        world.send(Message(ROW, x, start, version, place, len(rules), rule))


def send_flip(world, x, target):
    memory = world.controller.memories[x]
    if target != 0 and target in memory.have and memory.turned < target:
        world.send(Message(FLIP, x, world.controller.starts[x], target))


def send_drops(world, x):
    gone = world.controller.memories[x].gone
    for version, time in world.controller.retired:
        if time <= world.now and version not in gone:
            world.send(Message(DROP, x, world.controller.starts[x], version))


def tick(world, given):
    seconds = given[0]
    if not 1 <= seconds <= LAST_TIME:
        return [-1]
    if world.now + seconds > LAST_TIME:
        return [-2]
    world.now += seconds
    return [0]


def is_in_bag(world, k):
    return 0 <= k < len(world.bag)


def deliver(world, given):
    if not is_in_bag(world, given[0]):
        return [-1]
    # The message leaves its place first: in a full bag that is where an answer to it fits.
    hand_over(world, world.bag.pop(given[0]))
    return [0]


def lose(world, given):
    if not is_in_bag(world, given[0]):
        return [-1]
    world.bag.pop(given[0])
    return [0]


def double(world, given):
    if not is_in_bag(world, given[0]):
        return [-1]
    if world.bag_is_full():
        return [-2]
    world.send(world.bag[given[0]])
    return [0]


def flow(world, given):
    if not 0 <= given[0] <= MOST_FLOW:
        return [-1]
    delivered = 0
    while delivered < given[0] and len(world.bag) > 0:
        hand_over(world, world.bag.pop(0))
        delivered += 1
    return [0, delivered]


def restart(world, given):
    x = given[0]
    if not world.has_switch(x):
        return [-1]
    world.book += 1
    world.switches[x] = Switch(world.book)
    send_hello(world, x)
    return [world.book]


def hello(world, given):
    if not world.has_switch(given[0]):
        return [-1]
    send_hello(world, given[0])
    return [0]


def send_hello(world, x):
    world.send(Message(HELLO, x, world.switches[x].start))


def crash(world, given):
    world.controller.forget()
    return [0]


CALLS = {1: publish, 2: work, 3: tick, 4: deliver, 5: lose, 6: double, 7: flow, 8: restart, 9: hello, 10: crash}


def answer_call(world, number, given):
    if number in CALLS:
        return CALLS[number](world, given)
    if number == ENTER:
        return enter(world, given)
    if number == HOP:
        return hop(world, given)
    return tell(world, number, given)
