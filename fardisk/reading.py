"""Octets as they come, cut into packets."""

from fardisk.login import take_login
from fardisk.octets import filled_size, number_at
from fardisk.sums import sum_of
from fardisk.turn import HEADER_SIZE, SUM_SIZE
from fardisk.work import take_work

LOGIN = 0x43
LATE_LOGINS = (0x43, 0x03)
MOST_DATA = 8192


def header_wrong(session, header):
    if header[0] >= 128 or header[4] != 0 or number_at(header, 5, 3) > MOST_DATA:
        return True
    if session.at_work():
        return header[0] in LATE_LOGINS
    return header[0] != LOGIN


# Where the data begin: behind the header and its sum.
def data_begin(session):
    return HEADER_SIZE + SUM_SIZE if session.header_sums() else HEADER_SIZE


def packet_size(session, header):
    size = number_at(header, 5, 3)
    behind = SUM_SIZE if size > 0 and session.data_sums() else 0
    return data_begin(session) + filled_size(size) + behind


# A sum that isn't there yet is not wrong.
def header_sum_wrong(session, packet):
    end = data_begin(session)
    if not session.header_sums() or len(packet) < end:
        return False
    return packet[HEADER_SIZE:end] != sum_of(packet[:HEADER_SIZE])


def data_sum_wrong(session, packet, size):
    begin = data_begin(session)
    if not session.data_sums() or len(packet) < size or size == begin:
        return False
    end = size - SUM_SIZE
    return packet[end:size] != sum_of(packet[begin:end])


# Of a packet as far as it is there.
def packet_wrong(session, packet, size):
    return (header_wrong(session, packet[:HEADER_SIZE])
            or header_sum_wrong(session, packet)
            or data_sum_wrong(session, packet, size))


def take_packet(turn, packet):
    header = packet[:HEADER_SIZE]
    begin = data_begin(turn.session)
    data = packet[begin:begin + number_at(header, 5, 3)]
    if turn.session.at_work():
        take_work(turn, header, data)
    else:
        take_login(turn, header, data)


def take_octets(turn, octets):
    session = turn.session
    held = session.held + octets
    at = 0
    while not session.closed and len(held) - at >= HEADER_SIZE:
        size = packet_size(session, held[at:at + HEADER_SIZE])
        packet = held[at:at + size]
        if packet_wrong(session, packet, size):
            session.close()
        elif len(packet) < size:
            break
        else:
            take_packet(turn, packet)
            at = at + size
    session.held = held[at:]
