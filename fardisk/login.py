"""Logins: from a line's opening until it is at work."""

from fardisk.loginkeys import NAMES_OF_FIRST, answer_key, pairs_of
from fardisk.octets import number_at, octets_of, put_number, put_octets
from fardisk.session import WORK
from fardisk.turn import new_header

LOGIN_ANSWER = 0x23
GO_ON = 128
MUST_BE_ZERO = 112
MOST_KEYS = 64
LONGEST_NAME = 223
DISK_NAME = "iqn.2026-11.example:disk"
STEPS = ((0, 1), (0, 3), (1, 3))

# All refusals are of this class; below, each is its detail alone.
REFUSED = 2
NOT_AS_TOLD = 0
NO_WAY_IN = 1
NOT_FOUND = 3
WRONG_VERSION = 5
NAME_MISSING = 7
WRONG_SESSION = 9
NO_SUCH_SESSION = 10


def where_it_is(header):
    return header[1] >> 2 & 3


def where_to(header):
    return header[1] & 3


def stands_right(session, header):
    if session.stage is None:
        return where_it_is(header) in (0, 1)
    return where_it_is(header) == session.stage


def leads_right(header):
    if header[1] & GO_ON == 0:
        return where_to(header) == 0
    return (where_it_is(header), where_to(header)) in STEPS


def keys_are_new(session, pairs):
    seen = dict(session.seen_keys)
    for pair in pairs:
        if pair[0] in seen:
            return False
        seen[pair[0]] = True
    return len(seen) <= MOST_KEYS


# The detail with which the header or the form of the keys is refused, or None.
def refusal_of_form(session, header, pairs):
    if header[1] & MUST_BE_ZERO != 0:
        return NOT_AS_TOLD
    if header[3] != 0:
        return WRONG_VERSION
    if number_at(header, 14, 2) != 0:
        return NO_SUCH_SESSION
    if not stands_right(session, header) or not leads_right(header):
        return NOT_AS_TOLD
    if pairs is None or not keys_are_new(session, pairs):
        return NOT_AS_TOLD
    return None


# The detail with which the first login is refused for the names it gives, or None.
def refusal_of_first(pairs):
    said = dict(pairs)
    if not 1 <= len(said.get("InitiatorName", "")) <= LONGEST_NAME:
        return NAME_MISSING
    if said.get("SessionType", "Normal") != "Normal":
        return WRONG_SESSION
    if "TargetName" not in said:
        return NAME_MISSING
    if said["TargetName"] != DISK_NAME:
        return NOT_FOUND
    return None


# The detail of the first key that refuses, or None.
def refusal_of_keys(first, pairs):
    for key, value in pairs:
        if key in NAMES_OF_FIRST and not first:
            return NOT_AS_TOLD
        if key == "AuthMethod" and "None" not in value.split(","):
            return NO_WAY_IN
    return None


def refusal_of(session, header, pairs):
    detail = refusal_of_form(session, header, pairs)
    if detail is not None:
        return detail
    first = session.stage is None
    if first:
        detail = refusal_of_first(pairs)
        if detail is not None:
            return detail
    return refusal_of_keys(first, pairs)


def answer_keys(session, pairs):
    data = []
    if session.stage is None:
        data.extend(octets_of("TargetPortalGroupTag=1") + [0])
    for key, value in pairs:
        session.seen_keys[key] = True
        answer = answer_key(key, value, session.settings)
        if answer is not None:
            data.extend(octets_of(f"{key}={answer}") + [0])
    return data


def new_answer(header, marks):
    answer = new_header(LOGIN_ANSWER, marks)
    put_octets(answer, 8, header[8:14])
    put_octets(answer, 16, header[16:20])
    return answer


def refuse(turn, header, detail):
    answer = new_answer(header, 0)
    answer[36] = REFUSED
    answer[37] = detail
    turn.send_counted(answer, [])
    turn.session.close()


# The stage changes only behind the answer: that one has no sums yet.
def accept(turn, header, pairs):
    session = turn.session
    goes_on = header[1] & GO_ON != 0
    stage = where_to(header) if goes_on else where_it_is(header)
    answer = new_answer(header, header[1])
    if stage == WORK:
        put_number(answer, 14, 2, session.line + 1)
    data = answer_keys(session, pairs)
    turn.send_counted(answer, data)
    session.stage = stage


def take_login(turn, header, data):
    session = turn.session
    if session.stage is None:
        session.command_number = number_at(header, 24, 4)
    pairs = pairs_of(data)
    detail = refusal_of(session, header, pairs)
    if detail is None:
        accept(turn, header, pairs)
    else:
        refuse(turn, header, detail)
