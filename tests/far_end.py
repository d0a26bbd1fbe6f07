"""The far end of a line, for the tests: it makes packets, and takes apart what goes back."""

import unittest

from fardisk.target import answers

NAMES = ("InitiatorName=iqn.2026-11.example:far", "TargetName=iqn.2026-11.example:disk")
NOBODY = 0xFFFFFFFF
DISK = [0] * 8
ELSEWHERE = [0, 1, 0, 0, 0, 0, 0, 0]
ANEW = (6, 0x29)
EMPTY = [0] * 513


def crc_bit_by_bit(octets):
    rest = 0xFFFFFFFF
    for octet in octets:
        for bit in range(8):
            odd = (rest ^ (octet >> bit)) & 1
            rest = (rest >> 1) ^ (0x82F63B78 if odd else 0)
    return list((rest ^ 0xFFFFFFFF).to_bytes(4, "little"))


def head(lead, data=0, where=DISK, tag=0, more=(), **numbers):
    """A header: the octets it begins with, how many data, where, tag; n24=7 puts 7 at 24 to 27."""
    row = [0] * 48
    row[:len(lead)] = lead
    row[5:8] = data.to_bytes(3, "big")
    row[8:16] = where
    row[16:20] = tag.to_bytes(4, "big")
    for name, value in numbers.items():
        at = int(name[1:])
        row[at:at + 4] = value.to_bytes(4, "big")
    for at, octets in more:
        row[at:at + len(octets)] = octets
    return row


def packet(header, data=(), header_sums=False, data_sums=False, filling=0):
    data = list(data)
    octets = list(header)
    octets[5:8] = len(data).to_bytes(3, "big")
    if header_sums:
        octets += crc_bit_by_bit(octets)
    data += [filling] * (-len(data) % 4)
    octets += data
    if data and data_sums:
        octets += crc_bit_by_bit(data)
    return octets


def apart(octets, header_sums=False, data_sums=False):
    """The packets in what went back, each (header, data); sums and filling are looked at."""
    packets = []
    at = 0
    while at < len(octets):
        header = octets[at:at + 48]
        at += 48
        assert len(header) == 48, "half a header"
        if header_sums:
            assert octets[at:at + 4] == crc_bit_by_bit(header), "sum of a header"
            at += 4
        size = int.from_bytes(bytes(header[5:8]), "big")
        whole = size + -size % 4
        row = octets[at:at + whole]
        at += whole
        assert len(row) == whole, "data cut off"
        assert not any(row[size:]), "filling"
        if size and data_sums:
            assert octets[at:at + 4] == crc_bit_by_bit(row), "sum of data"
            at += 4
        packets.append((header, row[:size]))
    return packets


def key_octets(*rows):
    octets = []
    for row in rows:
        octets += list(row if isinstance(row, bytes) else row.encode()) + [0]
    return octets


def login(marks=0x83, rows=NAMES, tag=7, number=100, lead3=0, tsih=0, data=None):
    header = head([0x43, marks, 0, lead3], where=[1, 2, 3, 4, 5, 6] + list(tsih.to_bytes(2, "big")),
                  tag=tag, n24=number)
    return packet(header, key_octets(*rows) if data is None else data)


def sense(kind, about):
    return [0x70, 0, kind, 0, 0, 0, 0, 10, 0, 0, 0, 0, about, 0, 0, 0, 0, 0]


def block_command(code, first, many, lead1=0):
    return [code, lead1] + list(first.to_bytes(4, "big")) + [0] + list(many.to_bytes(2, "big"))


def block_of(octets):
    """What it_block answers of a block in which these stand."""
    return [0] + list(octets)


def split_answers(row):
    told = []
    at = 0
    while at < len(row):
        told.append(row[at + 1:at + 1 + row[at]])
        at += 1 + row[at]
    return told


class Far:
    """A disk that is called step by step; each step runs the whole list of calls anew."""

    def __init__(self):
        self.calls = [0]

    def answer(self, *call):
        self.calls += call
        return split_answers(answers(self.calls))[-1]

    def begin(self):
        return self.answer(0)

    def line(self, c):
        return self.answer(1, c)

    def recv(self, c, octets, most=3000):
        return self.answer(2, c, most, len(octets), *octets)

    def closed(self, c):
        return self.answer(3, c)

    def block(self, lba):
        return self.answer(4, lba)

    def tasks(self, c):
        return self.answer(5, c)


class Peer:
    """One that has logged in on a line: it knows its numbers, as the document has them go."""

    def __init__(self, case, far=None, c=0, rows=(), number=100, anew=False):
        self.case = case
        self.far = far or Far()
        self.c = c
        self.number = number
        self.count = 1
        self.header_sums = False
        self.data_sums = False
        case.assertEqual(self.far.line(c), [0])
        told = self.take(login(0x87, NAMES + tuple(rows), number=number))
        case.assertEqual(len(told), 1)
        case.assertEqual(told[0][0][36:38], [0, 0])
        self.count = 2
        self.header_sums = "HeaderDigest=CRC32C" in rows
        self.data_sums = "DataDigest=CRC32C" in rows
        if not anew:
            self.ready(ANEW)

    def numbered(self):
        self.number = (self.number + 1) % 2 ** 32
        return (self.number - 1) % 2 ** 32

    def make(self, header, data=(), filling=0):
        return packet(header, data, self.header_sums, self.data_sums, filling)

    def take(self, octets, most=3000):
        """The packets that come back for these octets."""
        answer = self.far.recv(self.c, octets, most)
        self.case.assertGreaterEqual(answer[0], 0, answer)
        self.case.assertEqual(answer[0], len(answer) - 1)
        return apart(answer[1:], self.header_sums, self.data_sums)

    def ping(self, tag=9, data=(), at_once=False, where=DISK):
        number = 0 if at_once else self.numbered()
        return self.make(head([64 if at_once else 0, 0x80], tag=tag, where=where, n20=NOBODY, n24=number), data)

    def command(self, marks, what, size=0, tag=1, data=(), where=DISK, at_once=False):
        number = 12345 if at_once else self.numbered()
        what = list(what) + [0] * (16 - len(what))
        header = head([65 if at_once else 1, marks], tag=tag, where=where, n20=size, n24=number,
                      more=[(32, what)])
        return self.make(header, data)

    def data(self, octets, number, pieces, begin, last=False, tag=1):
        return self.make(head([5, 0x80 if last else 0], tag=tag, n20=number, n36=pieces, n40=begin), octets)

    def manage(self, function, about=0, tag=77, at_once=True):
        number = 0 if at_once else self.numbered()
        return self.make(head([66 if at_once else 2, 0x80 | function], tag=tag, n20=about, n24=number))

    def logout(self, why=0, tag=78, at_once=True):
        number = 0 if at_once else self.numbered()
        return self.make(head([70 if at_once else 6, 0x80 | why], tag=tag, n24=number))

    def counts(self, counted):
        numbers = {"n24": self.count, "n28": self.number, "n32": (self.number + 7) % 2 ** 32}
        if counted:
            self.count = (self.count + 1) % 2 ** 32
        return numbers

    def counted(self, lead, data=(), **more):
        return (head(lead, data=len(data), **self.counts(True), **more), list(data))

    def shown(self, lead, **more):
        return (head(lead, **self.counts(False), **more), [])

    def uncounted_data(self, lead, data, **more):
        numbers = self.counts(False)
        numbers["n24"] = 0
        return (head(lead, data=len(data), **numbers, **more), list(data))

    def status(self, mark=0, rest=0, tag=1, asked=0, status=0):
        return self.counted([0x21, 0x80 | mark, 0, status], tag=tag, n36=asked, n44=rest)

    def wrong(self, kind, about, rest=0, tag=1, asked=0):
        mark = 2 if rest else 0
        return self.counted([0x21, 0x80 | mark, 0, 2], [0, 18] + sense(kind, about), tag=tag, n36=asked, n44=rest)

    def asked(self, number, before, begin, size, tag=1, where=DISK):
        return self.shown([0x31, 0x80], tag=tag, where=where, n20=number, n36=before, n40=begin, n44=size)

    def rejected(self, why, octets):
        return self.counted([0x3F, 0x80, why], octets[:48], tag=NOBODY)

    def expect(self, octets, *packets, most=3000):
        self.case.assertEqual(self.take(octets, most), list(packets))

    def expect_closed(self, octets):
        """These octets close the line without a word."""
        self.expect(octets)
        self.case.assertEqual(self.far.recv(self.c, []), [-9])

    def ready(self, complaint=None, where=DISK):
        octets = self.command(0x80, [0], where=where)
        self.expect(octets, self.wrong(*complaint) if complaint else self.status())

    def write(self, first, octets):
        """Blocks written with all their data as they are asked for."""
        what = block_command(0x2A, first, len(octets) // 512)
        told = self.take(self.command(0xA0, what, len(octets), tag=500))
        while told[0][0][0] == 0x31:
            row = told[0][0]
            number, begin, size = [int.from_bytes(bytes(row[at:at + 4]), "big") for at in (20, 40, 44)]
            pieces = [octets[at:min(at + 8192, begin + size)] for at in range(begin, begin + size, 8192)]
            sent = []
            for place, piece in enumerate(pieces):
                sent += self.data(piece, number, place, begin + place * 8192, place == len(pieces) - 1, tag=500)
            told = self.take(sent)
        self.case.assertEqual(told[0][0][:4], [0x21, 0x80, 0, 0])
        self.count += 1

    def read(self, first, many, most=3000):
        """The blocks as they are read, whatever the pieces."""
        told = self.take(self.command(0xC0, block_command(0x28, first, many), many * 512, tag=501), most)
        self.count += 1
        return sum([data for header, data in told], [])


class Case(unittest.TestCase):
    maxDiff = None

    def assertEqual(self, first, second, msg=None):
        """As ever, but of rows only where they part is shown: to compare long ones whole may take hours."""
        if first != second and isinstance(first, (list, tuple)) and isinstance(second, (list, tuple)):
            for place, pair in enumerate(zip(first, second)):
                self.assertEqual(*pair, f"at {place}: {msg}")
            super().assertEqual(len(first), len(second), msg)
        super().assertEqual(first, second, msg)

    def peer(self, *rows, **more):
        return Peer(self, rows=rows, **more)
