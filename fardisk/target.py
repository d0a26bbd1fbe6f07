"""The target's end: the calls on one disk and its four lines."""

from fardisk.disk import BLOCKS, Disk
from fardisk.reading import take_octets
from fardisk.session import Session
from fardisk.turn import TooMuch, Turn

LINES = 4
MOST_TAKEN = 65536
MOST_GIVEN = 4194304

IT_BEGIN = 0
IT_OPEN = 1
IT_RECV = 2
IT_CLOSED = 3
IT_BLOCK = 4
IT_TASKS = 5


class UnknownCall(ValueError):
    pass


def is_line(line):
    return 0 <= line < LINES


class Target:
    def __init__(self):
        self.disk = Disk()
        # A closed line is None.
        self.sessions = [None] * LINES

    def it_open(self, line):
        if not is_line(line):
            return [-2]
        self.sessions[line] = Session(line)
        return [0]

    def it_recv(self, line, most, octets):
        if not is_line(line) or len(octets) > MOST_TAKEN or most > MOST_GIVEN:
            return [-2]
        if self.sessions[line] is None:
            return [-9]
        turn = self.new_turn(line, most)
        try:
            take_octets(turn, octets)
        except TooMuch:
            return [-5]
        self.keep(turn, line)
        return [len(turn.sent)] + turn.sent

    def it_closed(self, line):
        if not is_line(line):
            return [-2]
        return [1 if self.sessions[line] is None else 0]

    def it_tasks(self, line):
        if not is_line(line):
            return [-2]
        if self.sessions[line] is None:
            return [-9]
        return [len(self.sessions[line].tasks)]

    def it_block(self, block):
        if not 0 <= block < BLOCKS:
            return [-2]
        rows = self.disk.blocks_from(block, 1)
        return [0] + rows[0]

    def new_turn(self, line, most):
        sessions = [None if session is None else session.twin() for session in self.sessions]
        return Turn(self.disk.twin(), sessions, line, most)

    def keep(self, turn, line):
        self.disk = turn.disk
        self.sessions = turn.sessions
        if turn.session.closed:
            self.sessions[line] = None


# The calls that one number is handed in with.
def answer_to(target, call, number):
    if call == IT_OPEN:
        return target.it_open(number)
    if call == IT_CLOSED:
        return target.it_closed(number)
    if call == IT_BLOCK:
        return target.it_block(number)
    if call == IT_TASKS:
        return target.it_tasks(number)
    raise UnknownCall()


def answers(calls):
    target = Target()
    told = []
    at = 0
    while at < len(calls):
        if calls[at] == IT_BEGIN:
            target = Target()
            answer = [0]
            at = at + 1
        elif calls[at] == IT_RECV:
            end = at + 4 + calls[at + 3]
            answer = target.it_recv(calls[at + 1], calls[at + 2], calls[at + 4:end])
            at = end
        else:
            answer = answer_to(target, calls[at], calls[at + 1])
            at = at + 2
        told.append(len(answer))
        told.extend(answer)
    return told
