"""Commands as they are done: what each finds, writes or has to complain of."""

from fardisk.disk import BLOCKS, BLOCK_SIZE
from fardisk.octets import number_at, octets_of, put_number

SENSE_SIZE = 18

TEST_READY = 0x00
GIVE_SENSE = 0x03
INQUIRY = 0x12
CAPACITY = 0x25
READ = 0x28
WRITE = 0x2A
FLUSH = 0x35
LIST_PLACES = 0xA0

# Kinds of sense, and what it is about.
NO_SENSE = 0
WRONG_REQUEST = 5
ATTENTION = 6
UNKNOWN_COMMAND = 0x20
BEYOND_DISK = 0x21
WRONG_FIELD = 0x24
NOT_THE_DISK = 0x25
BEGINS_ANEW = 0x29


# What came of a command: a sense if something's wrong, else the octets there are
# (in rows of a block each, so that a long reading costs nothing before it is sent)
# and how many were written.
class Outcome:
    def __init__(self, sense, rows, written):
        self.sense = sense
        self.rows = rows
        self.written = written

    def length(self):
        return sum([len(row) for row in self.rows])

    def part(self, begin, end):
        first = begin // BLOCK_SIZE
        octets = []
        for row in self.rows[first:(end - 1) // BLOCK_SIZE + 1]:
            octets.extend(row)
        return octets[begin - first * BLOCK_SIZE:end - first * BLOCK_SIZE]


def sense_of(kind, about):
    sense = [0] * SENSE_SIZE
    sense[0] = 0x70
    sense[2] = kind
    sense[7] = 10
    sense[12] = about
    return sense


def failed(kind, about):
    return Outcome(sense_of(kind, about), [], 0)


def found(octets):
    return Outcome(None, [octets], 0)


def nothing():
    return Outcome(None, [], 0)


def inquire(task):
    what = task.what
    if what[1] % 2 == 1 or what[2] != 0:
        return failed(WRONG_REQUEST, WRONG_FIELD)
    place = 0 if task.on_disk() else 0x7F
    octets = [place, 0, 5, 2, 31, 0, 0, 2] + octets_of("EXAMPLE DISK OVER A LINE0001")
    return found(octets[:number_at(what, 3, 2)])


def list_places(task):
    if number_at(task.what, 6, 4) < 16:
        return failed(WRONG_REQUEST, WRONG_FIELD)
    return found([0, 0, 0, 8] + [0] * 12)


def give_sense(task, session):
    sense = sense_of(NO_SENSE, 0)
    if not task.on_disk():
        sense = sense_of(WRONG_REQUEST, NOT_THE_DISK)
    elif session.anew:
        session.anew = False
        sense = sense_of(ATTENTION, BEGINS_ANEW)
    return found(sense[:task.what[4]])


def tell_capacity():
    octets = [0] * 8
    put_number(octets, 0, 4, BLOCKS - 1)
    put_number(octets, 4, 4, BLOCK_SIZE)
    return found(octets)


def use_blocks(task, disk):
    what = task.what
    first = number_at(what, 2, 4)
    many = number_at(what, 7, 2)
    if what[0] != FLUSH and what[1] >= 32:
        return failed(WRONG_REQUEST, WRONG_FIELD)
    if what[0] == WRITE and len(task.data) != many * BLOCK_SIZE:
        return failed(WRONG_REQUEST, WRONG_FIELD)
    if first + many > BLOCKS:
        return failed(WRONG_REQUEST, BEYOND_DISK)
    if what[0] == READ:
        return Outcome(None, disk.blocks_from(first, many), 0)
    if what[0] == WRITE:
        disk.write_from(first, task.data)
        return Outcome(None, [], len(task.data))
    return nothing()


def do_command(task, session, disk):
    code = task.what[0]
    if code == INQUIRY:
        return inquire(task)
    if code == LIST_PLACES:
        return list_places(task)
    if code == GIVE_SENSE:
        return give_sense(task, session)
    if session.anew:
        session.anew = False
        return failed(ATTENTION, BEGINS_ANEW)
    if not task.on_disk():
        return failed(WRONG_REQUEST, NOT_THE_DISK)
    if code == TEST_READY:
        return nothing()
    if code == CAPACITY:
        return tell_capacity()
    if code in (READ, WRITE, FLUSH):
        return use_blocks(task, disk)
    return failed(WRONG_REQUEST, UNKNOWN_COMMAND)
