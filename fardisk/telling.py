"""What is told of a command that is done."""

from fardisk.octets import put_number
from fardisk.tasks import NOBODY
from fardisk.turn import new_header

STATUS = 0x21
DATA_IN = 0x25
LAST = 128
WITH_STATUS = 1
FEWER = 2
MORE = 4
SOMETHING_WRONG = 2
NO_ROOM = 0x28


def put_rest(header, there, wanted):
    if there < wanted:
        header[1] = header[1] | FEWER
        put_number(header, 44, 4, wanted - there)
    if there > wanted:
        header[1] = header[1] | MORE
        put_number(header, 44, 4, there - wanted)


def status_header(task, status, there, wanted):
    header = new_header(STATUS, LAST)
    header[3] = status
    put_number(header, 16, 4, task.tag)
    put_number(header, 36, 4, task.asked)
    put_rest(header, there, wanted)
    return header


def wanted_size(task):
    return task.size if task.reads() or task.writes() else 0


def tell_no_room(turn, task):
    turn.send_counted(status_header(task, NO_ROOM, 0, task.size), [])


def tell_wrong(turn, task, sense):
    header = status_header(task, SOMETHING_WRONG, 0, wanted_size(task))
    turn.send_counted(header, [0, len(sense)] + sense)


def tell_end(turn, task, outcome):
    there = outcome.written if task.writes() else outcome.length()
    turn.send_counted(status_header(task, 0, there, wanted_size(task)), [])


def piece_end(session, begin, size):
    burst_end = (begin // session.burst() + 1) * session.burst()
    return min(burst_end, size, begin + session.their_limit())


def data_header(task, pieces, begin, marks):
    header = new_header(DATA_IN, marks)
    put_number(header, 16, 4, task.tag)
    put_number(header, 20, 4, NOBODY)
    put_number(header, 36, 4, pieces)
    put_number(header, 40, 4, begin)
    return header


def tell_read(turn, task, outcome):
    session = turn.session
    size = min(outcome.length(), task.size)
    begin = 0
    pieces = 0
    while begin < size:
        end = piece_end(session, begin, size)
        octets = outcome.part(begin, end)
        if end == size:
            header = data_header(task, pieces, begin, LAST | WITH_STATUS)
            put_rest(header, outcome.length(), task.size)
            turn.send_counted(header, octets)
        else:
            marks = LAST if end % session.burst() == 0 else 0
            turn.send(data_header(task, pieces, begin, marks), octets)
        begin = end
        pieces = pieces + 1


def tell(turn, task, outcome):
    if outcome.sense is not None:
        tell_wrong(turn, task, outcome.sense)
    elif task.reads() and min(outcome.length(), task.size) > 0:
        tell_read(turn, task, outcome)
    else:
        tell_end(turn, task, outcome)
