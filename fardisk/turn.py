"""One it_recv under way: it works on copies, so that it can be dropped whole."""

from fardisk.octets import filled, put_number
from fardisk.sums import sum_of

HEADER_SIZE = 48
SUM_SIZE = 4
NUMBERS = 4294967296
WINDOW = 7


# More would go back than the caller takes.
class TooMuch(Exception):
    pass


def new_header(kind, marks):
    header = [0] * HEADER_SIZE
    header[0] = kind
    header[1] = marks
    return header


class Turn:
    def __init__(self, disk, sessions, line, most):
        self.disk = disk
        self.sessions = sessions
        self.session = sessions[line]
        self.most = most
        self.sent = []

    def send(self, header, data):
        session = self.session
        put_number(header, 5, 3, len(data))
        put_number(header, 28, 4, session.command_number)
        put_number(header, 32, 4, (session.command_number + WINDOW) % NUMBERS)
        self.put_out(header, session.header_sums())
        if data:
            self.put_out(filled(data), session.data_sums())

    # Stops as soon as it is too much: what will be dropped is not worth its work.
    def put_out(self, octets, summed):
        size = len(octets) + SUM_SIZE if summed else len(octets)
        if len(self.sent) + size > self.most:
            raise TooMuch()
        self.sent.extend(octets)
        if summed:
            self.sent.extend(sum_of(octets))

    def send_uncounted(self, header):
        put_number(header, 24, 4, self.session.count)
        self.send(header, [])

    def send_counted(self, header, data):
        session = self.session
        put_number(header, 24, 4, session.count)
        self.send(header, data)
        session.count = (session.count + 1) % NUMBERS
