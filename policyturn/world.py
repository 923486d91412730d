"""What there is: the switches, the controller, the bag, the packets, the clock and the counts."""


class Part:
    def __init__(self, total):
        self.total = total
        self.came = {}

    def is_whole(self):
        return len(self.came) == self.total

    def rules_by_place(self):
        return [self.came[place] for place in sorted(self.came)]


class Switch:
    def __init__(self, start):
        self.start = start
        self.current = 0
        self.floor = 0
        self.parts = {}

    def has_whole(self, version):
        return version in self.parts and self.parts[version].is_whole()


class Memory:
    def __init__(self):
        self.have = {}
        self.turned = 0
        self.gone = {}


class Controller:
    def __init__(self, starts):
        self.published = []
        self.in_force = 0
        self.pending = False
        self.retired = []
        self.starts = starts
        self.forget()

    def forget(self):
        self.memories = [Memory() for start in self.starts]

    def has_published(self, version):
        return 1 <= version <= len(self.published)

    def rules_of(self, version):
        return self.published[version - 1]

    def all_have(self, version):
        for memory in self.memories:
            if version not in memory.have:
                return False
        return True

    def all_turned(self, version):
        for memory in self.memories:
            if memory.turned < version:
                return False
        return True

    def all_gone(self, version):
        for memory in self.memories:
            if version not in memory.gone:
                return False
        return True

    def target(self):
        if self.pending and self.all_have(self.in_force + 1):
            return self.in_force + 1
        return self.in_force


class Packet:
    def __init__(self, key, route, stamp, time):
        self.key = key
        self.route = route
        self.passed = 0
        self.stamp = stamp
        self.time = time


class World:
    def __init__(self, n, cap, life, room):
        self.cap = cap
        self.life = life
        self.room = room
        self.book = n
        self.now = 0
        self.switches = [Switch(i + 1) for i in range(n)]
        self.controller = Controller([i + 1 for i in range(n)])
        self.bag = []
        self.lost = 0
        self.packets = []
        self.entered = 0
        self.delivered = 0
        self.dropped_for = {1: 0, 2: 0, 3: 0, 4: 0}

    def has_switch(self, x):
        return 0 <= x < len(self.switches)

    def bag_is_full(self):
        return len(self.bag) >= self.cap

    def room_is_full(self):
        return len(self.packets) >= self.room

    def send(self, message):
        if self.bag_is_full():
            self.lost += 1
        else:
            self.bag.append(message)
