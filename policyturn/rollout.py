"""The program's one function: answers to a list of calls."""

from policyturn.answering import answer_call, begin_is_right
from policyturn.reading import read_calls
from policyturn.world import World

BEGIN = 0
NOT_BEGUN = -20


class Session:
    def __init__(self):
        self.world = None

    def answer(self, call):
        if call.number == BEGIN:
            return self.begin(call.given)
        if self.world is None:
            return [NOT_BEGUN]
        return answer_call(self.world, call.number, call.given)

    def begin(self, given):
        if not begin_is_right(given[0], given[1], given[2], given[3]):
            return [-1]
        self.world = World(given[0], given[1], given[2], given[3])
        return [0]


def answers(calls):
    session = Session()
    told = []
    for call in read_calls(calls):
        answer = session.answer(call)
        told.append(len(answer))
        told.extend(answer)
    return told
