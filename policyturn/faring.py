"""Packets: how one comes in, how it goes on, and how it fares at a switch."""

from policyturn.rules import is_key, rules_say
from policyturn.world import Packet

UNDER_WAY = 0
NOT_LET_PASS = 1
NOT_WHOLE = 2
TOO_OLD = 3
NOTHING_CURRENT = 4
DELIVERED = 5

MOST_SWITCHES_OF_A_ROUTE = 8


def route_is_right(world, route):
    if not 1 <= len(route) <= MOST_SWITCHES_OF_A_ROUTE:
        return False
    for x in route:
        if not world.has_switch(x):
            return False
    return True


def enter(world, given):
    key = given[0]
    route = given[1:]
    if not is_key(key) or not route_is_right(world, route):
        return [-1]
    if world.room_is_full():
        return [-2]
    return [let_in(world, key, route)]


def let_in(world, key, route):
    world.entered += 1
    stamp = world.switches[route[0]].current
    if stamp == 0:
        world.dropped_for[NOTHING_CURRENT] += 1
        return NOTHING_CURRENT
    packet = Packet(key, route, stamp, world.now)
    outcome = go_on(world, packet)
    if outcome == UNDER_WAY:
        world.packets.append(packet)
    return outcome


def hop(world, given):
    k = given[0]
    if not 0 <= k < len(world.packets):
        return [-1]
    outcome = go_on(world, world.packets[k])
    if outcome != UNDER_WAY:
        world.packets.pop(k)
    return [outcome]


def go_on(world, packet):
    fared = fare(world, packet, packet.route[packet.passed])
    if fared != UNDER_WAY:
        world.dropped_for[fared] += 1
        return fared
    packet.passed += 1
    if packet.passed == len(packet.route):
        world.delivered += 1
        return DELIVERED
    return UNDER_WAY


def fare(world, packet, x):
    if packet.time + world.life <= world.now:
        return TOO_OLD
    switch = world.switches[x]
    if not switch.has_whole(packet.stamp):
        return NOT_WHOLE
    if rules_say(switch.parts[packet.stamp].rules_by_place(), x, packet.key) == 1:
        return UNDER_WAY
    return NOT_LET_PASS
