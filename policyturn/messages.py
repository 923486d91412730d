"""The messages that the controller and the switches send one another."""

ROW = 0
FLIP = 1
DROP = 2
HELLO = 3
HAVE = 4
TURNED = 5
GONE = 6


class Message:
    # Nothing changes a message once it is made, so the bag may hold the same one twice.
    def __init__(self, kind, x, start, version=0, place=0, total=0, rule=None):
        self.kind = kind
        self.x = x
        self.start = start
        self.version = version
        self.place = place
        self.total = total
        self.rule = rule
