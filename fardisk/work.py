"""At work: each kind of packet, and what goes back for it."""

from fardisk.octets import number_at, put_number, put_octets
from fardisk.tasks import NOBODY, Task
from fardisk.turn import NUMBERS, new_header
from fardisk.writing import rejection_of, start_task, take_data

AT_ONCE = 64
PING = 0
COMMAND = 1
MANAGE = 2
DATA_OUT = 5
LOGOUT = 6
NUMBERED = (0, 1, 2, 6)

PING_ANSWER = 0x20
MANAGE_ANSWER = 0x22
LOGOUT_ANSWER = 0x26
REJECTED = 0x3F
ALONE = 0x80

UNKNOWN_PACKET = 5
WAIT_SECONDS = 2


def reject(turn, header, why):
    answer = new_header(REJECTED, ALONE)
    answer[2] = why
    put_number(answer, 16, 4, NOBODY)
    turn.send_counted(answer, header)


# Whether it is this packet's turn; then the next number is awaited.
def is_next(session, header):
    if header[0] & AT_ONCE != 0:
        return True
    if number_at(header, 24, 4) != session.command_number:
        return False
    session.command_number = (session.command_number + 1) % NUMBERS
    return True


def take_ping(turn, header, data):
    if number_at(header, 16, 4) == NOBODY:
        return
    answer = new_header(PING_ANSWER, ALONE)
    put_octets(answer, 8, header[8:20])
    put_number(answer, 20, 4, NOBODY)
    turn.send_counted(answer, data[:turn.session.their_limit()])


def take_command(turn, header, data):
    task = Task(header, data)
    why = rejection_of(turn.session, task)
    if why == 0:
        start_task(turn, task)
    else:
        reject(turn, header, why)


def give_up_one(session, tag):
    if tag not in session.tasks:
        return 1
    session.tasks.pop(tag)
    return 0


def begin_anew(sessions):
    for session in sessions:
        if session is not None and session.at_work():
            session.give_up_all()
            session.anew = True


def manage(turn, header):
    function = header[1] & 127
    if function == 1:
        return give_up_one(turn.session, number_at(header, 20, 4))
    if function == 2:
        turn.session.give_up_all()
        return 0
    if function in (5, 6):
        begin_anew(turn.sessions)
        return 0
    return 5


def take_manage(turn, header):
    answer = new_header(MANAGE_ANSWER, ALONE)
    answer[2] = manage(turn, header)
    put_octets(answer, 16, header[16:20])
    turn.send_counted(answer, [])


def take_logout(turn, header):
    leaves = header[1] & 127 in (0, 1)
    answer = new_header(LOGOUT_ANSWER, ALONE)
    answer[2] = 0 if leaves else 2
    put_octets(answer, 16, header[16:20])
    put_number(answer, 40, 2, WAIT_SECONDS)
    turn.send_counted(answer, [])
    if leaves:
        turn.session.close()


def take_work(turn, header, data):
    kind = header[0] & 63
    if kind in NUMBERED and not is_next(turn.session, header):
        return
    if kind == PING:
        take_ping(turn, header, data)
    elif kind == COMMAND:
        take_command(turn, header, data)
    elif kind == MANAGE:
        take_manage(turn, header)
    elif kind == LOGOUT:
        take_logout(turn, header)
    elif kind == DATA_OUT:
        take_data(turn, header, data)
    else:
        reject(turn, header, UNKNOWN_PACKET)
