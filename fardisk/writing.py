"""Commands as they come, and the data that are collected for those that write."""

from fardisk.commands import do_command
from fardisk.octets import number_at, put_number, put_octets
from fardisk.tasks import NOBODY
from fardisk.telling import tell, tell_no_room
from fardisk.turn import new_header

ASKED = 0x31
LAST = 128
MOST_WAITING = 8
MOST_WRITTEN = 65536
TAG_IN_USE = 4
NOT_ALLOWED = 9


# Without LAST, data come unasked behind the command.
def more_follow(task):
    return task.marks & LAST == 0


def own_data_wrong(session, task):
    size = len(task.data)
    if size == 0:
        return False
    if not task.writes() or not session.data_with_commands():
        return True
    return size > min(session.first_burst(), task.size)


def following_wrong(session, task):
    if not more_follow(task):
        return False
    if not task.writes() or session.all_asked():
        return True
    return len(task.data) >= min(session.first_burst(), task.size)


# Why a command is rejected; 0 where it isn't.
def rejection_of(session, task):
    if task.tag in session.tasks:
        return TAG_IN_USE
    if task.reads() and task.writes():
        return NOT_ALLOWED
    if own_data_wrong(session, task) or following_wrong(session, task):
        return NOT_ALLOWED
    if task.writes() and task.size > MOST_WRITTEN:
        return NOT_ALLOWED
    return 0


def finish(turn, task):
    tell(turn, task, do_command(task, turn.session, turn.disk))


def ask(turn, task):
    session = turn.session
    begin = len(task.data)
    size = min(session.burst(), task.size - begin)
    task.await_data(session.new_number(), begin + size)
    header = new_header(ASKED, LAST)
    put_octets(header, 8, task.where)
    put_number(header, 16, 4, task.tag)
    put_number(header, 20, 4, task.number)
    put_number(header, 36, 4, task.asked)
    put_number(header, 40, 4, begin)
    put_number(header, 44, 4, size)
    turn.send_uncounted(header)
    task.asked = task.asked + 1


# All that might come for now has come: the rest is asked for, or there is none.
def go_on(turn, task):
    if len(task.data) < task.size:
        ask(turn, task)
    else:
        turn.session.tasks.pop(task.tag)
        finish(turn, task)


def start_collecting(turn, task):
    session = turn.session
    session.tasks[task.tag] = task
    if more_follow(task):
        task.await_data(NOBODY, min(session.first_burst(), task.size))
    else:
        go_on(turn, task)


# A command that isn't rejected.
def start_task(turn, task):
    if not task.writes():
        finish(turn, task)
    elif len(turn.session.tasks) >= MOST_WAITING:
        tell_no_room(turn, task)
    else:
        start_collecting(turn, task)


def data_wrong(task, header, data):
    last = header[1] & LAST != 0
    left = task.limit - len(task.data)
    if number_at(header, 20, 4) != task.number:
        return True
    if number_at(header, 36, 4) != task.pieces or number_at(header, 40, 4) != len(task.data):
        return True
    if len(data) == 0 or len(data) > left:
        return True
    if len(data) == left:
        return not last
    return last and task.number != NOBODY


def take_data(turn, header, data):
    session = turn.session
    task = session.tasks.get(number_at(header, 16, 4))
    if task is None:
        return
    if data_wrong(task, header, data):
        session.close()
        return
    task.data.extend(data)
    task.pieces = task.pieces + 1
    if header[1] & LAST != 0:
        go_on(turn, task)
