"""A message handed over: what a switch or the controller does with it."""

from policyturn.messages import DROP, FLIP, GONE, HAVE, HELLO, ROW, TURNED, Message
from policyturn.world import Memory, Part


def hand_over(world, message):
    if message.kind == HELLO:
        take_hello(world.controller, message)
    elif message.kind in (ROW, FLIP, DROP):
        take_at_switch(world, message)
    else:
        take_at_controller(world, message)


def take_at_switch(world, message):
    switch = world.switches[message.x]
    if message.start != switch.start:
        return
    if message.kind == ROW:
        take_row(world, switch, message)
    elif message.kind == FLIP:
        take_flip(world, switch, message)
    else:
        take_drop(world, switch, message)


def reply(world, kind, message):
    world.send(Message(kind, message.x, message.start, message.version))


def take_row(world, switch, row):
    if row.version <= switch.floor:
        return
    if row.version not in switch.parts:
        switch.parts[row.version] = Part(row.total)
    part = switch.parts[row.version]
    if row.rule is not None and row.place not in part.came:
        part.came[row.place] = row.rule
    if part.is_whole():
        reply(world, HAVE, row)


def take_flip(world, switch, flip):
    if flip.version <= switch.current:
        reply(world, TURNED, flip)
    elif switch.has_whole(flip.version):
        switch.current = flip.version
        reply(world, TURNED, flip)


def take_drop(world, switch, drop):
    switch.floor = max(switch.floor, drop.version)
    for version in list(switch.parts):
        if version <= drop.version:
            switch.parts.pop(version)
    reply(world, GONE, drop)


def take_hello(controller, hello):
    if hello.start > controller.starts[hello.x]:
        controller.starts[hello.x] = hello.start
        controller.memories[hello.x] = Memory()


def take_at_controller(world, message):
    controller = world.controller
    if message.start != controller.starts[message.x]:
        return
    memory = controller.memories[message.x]
    if message.kind == HAVE:
        memory.have[message.version] = True
    elif message.kind == TURNED:
        memory.turned = max(memory.turned, message.version)
    else:
        memory.gone[message.version] = True
    put_in_force(controller, world.now + world.life)
    forget_gone(controller)


def put_in_force(controller, going):
    if not controller.pending or not controller.all_turned(controller.in_force + 1):
        return
    if controller.in_force != 0:
        controller.retired.append((controller.in_force, going))
    controller.in_force += 1
    controller.pending = False


def forget_gone(controller):
    controller.retired = [pair for pair in controller.retired if not controller.all_gone(pair[0])]
