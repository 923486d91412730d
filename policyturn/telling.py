"""The calls that change nothing: each tells something of what there is."""

from policyturn.messages import HELLO, ROW
from policyturn.rules import is_key, rules_say


def tell_policy(world, given):
    version = given[0]
    x = given[1]
    key = given[2]
    if not world.controller.has_published(version) or not world.has_switch(x) or not is_key(key):
        return [-1]
    return [rules_say(world.controller.rules_of(version), x, key)]


def tell_switch(world, given):
    if not world.has_switch(given[0]):
        return [-1]
    switch = world.switches[given[0]]
    told = [0, switch.start, switch.current, switch.floor, len(switch.parts)]
    for version in sorted(switch.parts):
        part = switch.parts[version]
        told.extend([version, part.total, len(part.came)])
    return told


def tell_knows(world, given):
    x = given[0]
    if not world.has_switch(x):
        return [-1]
    memory = world.controller.memories[x]
    told = [0, world.controller.starts[x], memory.turned]
    told.append(len(memory.have))
    told.extend(sorted(memory.have))
    told.append(len(memory.gone))
    told.extend(sorted(memory.gone))
    return told


def tell_controller(world, given):
    controller = world.controller
    pending = 1 if controller.pending else 0
    told = [0, controller.in_force, pending, controller.target(), len(controller.retired)]
    for version, time in controller.retired:
        told.extend([version, time])
    return told


def tell_bag(world, given):
    told = [0, len(world.bag)]
    for message in world.bag:
        told.extend(message_numbers(message))
    return told


def message_numbers(message):
    numbers = [message.kind, message.x, message.start]
    if message.kind == HELLO:
        return numbers
    numbers.append(message.version)
    if message.kind == ROW:
        numbers.extend([message.place, message.total])
        if message.rule is not None:
            numbers.extend(message.rule)
    return numbers


def tell_packets(world, given):
    told = [0, len(world.packets)]
    for packet in world.packets:
        told.extend([packet.key, packet.passed, packet.stamp, packet.time, len(packet.route)])
        told.extend(packet.route)
    return told


def tell_counts(world, given):
    told = [0, world.now, world.lost, world.entered, world.delivered]
    for reason in sorted(world.dropped_for):
        told.append(world.dropped_for[reason])
    return told


TELLING = {
    13: tell_policy, 14: tell_switch, 15: tell_knows, 16: tell_controller, 17: tell_bag, 18: tell_packets,
    19: tell_counts,
}


def tell(world, number, given):
    return TELLING[number](world, given)
