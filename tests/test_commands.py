"""Commands that are done, and what is told of them."""

from tests.far_end import ANEW, ELSEWHERE, NOBODY, Case, block_command, sense

INQUIRY = [0, 0, 5, 2, 31, 0, 0, 2] + list(b"EXAMPLE DISK OVER A LINE0001")
PLACES = [0, 0, 0, 8] + [0] * 12


class Told(Case):
    def reads(self, peer, what, octets, size=1000, where=(0,) * 8, there=None):
        """A command that reads gives these octets, in one piece."""
        there = len(octets) if there is None else there
        row = peer.command(0xC0, what, size, where=list(where))
        mark = 2 if there < size else 4 if there > size else 0
        if octets:
            told = peer.counted([0x25, 0x81 | mark], octets, tag=1, n20=NOBODY, n44=abs(there - size))
        else:
            told = peer.status(mark, abs(there - size))
        peer.expect(row, told)

    def fails(self, peer, what, kind, about, where=(0,) * 8):
        """The same failure, whether it reads, or neither, or (without a size) writes."""
        peer.expect(peer.command(0xC0, what, 900, where=list(where)), peer.wrong(kind, about, 900))
        peer.expect(peer.command(0x80, what, 900, where=list(where)), peer.wrong(kind, about))
        peer.expect(peer.command(0xC0, what, 0, where=list(where)), peer.wrong(kind, about))


class Inquiry(Told):
    def test_whole(self):
        for where, place in (((0,) * 8, 0), (ELSEWHERE, 0x7F), ((0,) * 7 + (1,), 0x7F)):
            peer = self.peer()
            self.reads(peer, [0x12, 0, 0, 0, 255], [place] + INQUIRY[1:], where=where)
            self.reads(peer, [0x12, 0xFE, 0, 1, 0, 9], [place] + INQUIRY[1:], where=where)

    def test_as_many_as_said(self):
        peer = self.peer()
        for size in (0, 1, 5, 35, 36, 37):
            self.reads(peer, [0x12, 0, 0, 0, size], INQUIRY[:size])

    def test_wrong(self):
        for lead in ((1, 0), (0, 1), (3, 0), (255, 0), (0, 255), (1, 1)):
            peer = self.peer()
            self.fails(peer, [0x12, *lead, 0, 36], 5, 0x24)
            self.fails(peer, [0x12, *lead, 0, 36], 5, 0x24, where=ELSEWHERE)

    def test_ahead_of_anew(self):
        peer = self.peer(anew=True)
        self.reads(peer, [0x12, 0, 0, 0, 36], INQUIRY)
        self.fails(peer, [0x12, 1, 0, 0, 36], 5, 0x24)
        peer.ready(ANEW)


class Places(Told):
    def test_whole(self):
        peer = self.peer(anew=True)
        for size in ([0, 0, 0, 16], [0, 0, 0, 17], [1, 0, 0, 0], [255] * 4):
            self.reads(peer, [0xA0, 0, 9, 0, 0, 0] + size, PLACES)
            self.reads(peer, [0xA0, 0, 0, 0, 0, 0] + size, PLACES, where=ELSEWHERE)
        peer.ready(ANEW)

    def test_too_few(self):
        for size in (0, 8, 15):
            self.fails(self.peer(), [0xA0, 0, 0, 0, 0, 0, 0, 0, 0, size], 5, 0x24)

    def test_cut_off_by_how_many(self):
        self.reads(self.peer(), [0xA0, 0, 0, 0, 0, 0, 0, 0, 0, 16], PLACES[:5], 5, there=16)


class Sense(Told):
    def test_none(self):
        self.reads(self.peer(), [3, 0, 0, 0, 252], sense(0, 0))

    def test_where_it_is_not_the_disk(self):
        peer = self.peer(anew=True)
        self.reads(peer, [3, 0, 0, 0, 18], sense(5, 0x25), where=ELSEWHERE)
        peer.ready(ANEW)

    def test_anew_is_said_so(self):
        peer = self.peer(anew=True)
        self.reads(peer, [3, 0, 0, 0, 18], sense(6, 0x29))
        self.reads(peer, [3, 0, 0, 0, 18], sense(0, 0))
        peer.ready()

    def test_anew_is_said_even_if_none_of_it_is_given(self):
        peer = self.peer(anew=True)
        self.reads(peer, [3, 0, 0, 0, 0], [])
        peer.ready()

    def test_as_many_as_said(self):
        peer = self.peer()
        for size in (0, 1, 17, 18, 19, 255):
            self.reads(peer, [3, 0, 0, 0, size], sense(0, 0)[:size])


class Simple(Told):
    def test_ready(self):
        peer = self.peer()
        peer.ready()
        self.reads(peer, [0], [], 77)
        self.reads(peer, [0], [], 0)

    def test_capacity(self):
        peer = self.peer()
        self.reads(peer, [0x25], [0, 0, 7, 255, 0, 0, 2, 0])
        self.reads(peer, [0x25, 255, 9, 9, 9, 9, 9, 9, 9], [0, 0, 7, 255, 0, 0, 2, 0], 8)

    def test_unknown(self):
        peer = self.peer()
        for code in (1, 2, 4, 8, 0x0A, 0x15, 0x1A, 0x29, 0x2B, 0x2F, 0x88, 0x8A, 0x9E, 0xA1, 255):
            self.fails(peer, [code], 5, 0x20)

    def test_not_the_disk(self):
        peer = self.peer()
        for code in (0, 0x25, 0x28, 0x2A, 0x35, 0xFF):
            self.fails(peer, [code, 255], 5, 0x25, where=ELSEWHERE)
            self.fails(peer, [code, 255], 5, 0x25, where=(0,) * 7 + (9,))

    def test_anew_ahead_of_all_others(self):
        for code in (0, 1, 0x25, 0x28, 0x2A, 0x35, 0xFF):
            peer = self.peer(anew=True)
            peer.expect(peer.command(0x80, [code, 255], where=ELSEWHERE), peer.wrong(6, 0x29))
            peer.expect(peer.command(0x80, [code, 255], where=ELSEWHERE), peer.wrong(5, 0x25))

    def test_beyond_the_disk(self):
        peer = self.peer()
        for first, many in ((2048, 1), (2047, 2), (0, 2049), (1, 2048), (2049, 0), (0xFFFFFFFF, 0), (0xFFFFFFFF, 1)):
            self.fails(peer, block_command(0x28, first, many), 5, 0x21)
            self.fails(peer, block_command(0x35, first, many), 5, 0x21)
        self.fails(peer, block_command(0x2A, 2049, 0), 5, 0x21)

    def test_up_to_the_end_of_the_disk(self):
        peer = self.peer()
        for first, many in ((2048, 0), (2047, 1), (0, 2048), (0, 0)):
            peer.expect(peer.command(0x80, block_command(0x35, first, many)), peer.status())
        for code in (0x28, 0x2A):
            peer.expect(peer.command(0x80, block_command(code, 2048, 0)), peer.status())

    def test_byte_1(self):
        peer = self.peer()
        for lead in (32, 33, 255):
            self.fails(peer, block_command(0x28, 5000, 1, lead), 5, 0x24)
            self.fails(peer, block_command(0x2A, 5000, 0, lead), 5, 0x24)
            peer.expect(peer.command(0x80, block_command(0x35, 0, 1, lead)), peer.status())
        self.reads(peer, block_command(0x28, 0, 1, 31), [0] * 512)
        peer.expect(peer.command(0x80, block_command(0x2A, 0, 0, 31)), peer.status())

    def test_writing_without_data(self):
        peer = self.peer()
        self.fails(peer, block_command(0x2A, 0, 1), 5, 0x24)
        self.fails(peer, block_command(0x2A, 5000, 1), 5, 0x24)
        peer.expect(peer.command(0x80, block_command(0x2A, 0, 0)), peer.status())
        self.reads(peer, block_command(0x2A, 0, 0), [], 44)


class Rest(Told):
    def test_reading_more_and_fewer(self):
        peer = self.peer()
        what = [0x12, 0, 0, 0, 36]
        self.reads(peer, what, INQUIRY, 36)
        self.reads(peer, what, INQUIRY, 37)
        self.reads(peer, what, INQUIRY, 0xFFFFFFFF)
        self.reads(peer, what, INQUIRY[:35], 35, there=36)
        self.reads(peer, what, INQUIRY[:1], 1, there=36)
        self.reads(peer, what, [], 0, there=36)

    def test_neither_more_is_what_there_would_be(self):
        peer = self.peer()
        for size in (0, 10, 5000):
            peer.expect(peer.command(0x80, [0x12, 0, 0, 0, 36], size), peer.status(4, 36))
            peer.expect(peer.command(0x80, [0x12, 0, 0, 0, 0], size), peer.status())
            peer.expect(peer.command(0x80, [0x25], size), peer.status(4, 8))
            peer.expect(peer.command(0x80, [0], size), peer.status())
            peer.expect(peer.command(0x80, block_command(0x28, 0, 2048), size), peer.status(4, 1048576))

    def test_writing_what_does_not_write(self):
        peer = self.peer()
        for what in ([0], [0x12, 0, 0, 0, 36], [0x25], block_command(0x28, 0, 1), block_command(0x35, 0, 1)):
            peer.expect(peer.command(0xA0, what, 100, data=[1] * 100), peer.status(2, 100))
            peer.expect(peer.command(0xA0, what, 0), peer.status())

    def test_a_failure_of_one_that_writes(self):
        peer = self.peer()
        peer.expect(peer.command(0xA0, [0xFF], 100, data=[1] * 100), peer.wrong(5, 0x20, 100))
        peer.expect(peer.command(0xA0, [0xFF], 0), peer.wrong(5, 0x20))

    def test_other_bits_of_byte_1_are_not_looked_at(self):
        peer = self.peer()
        peer.expect(peer.command(0x9F, [0x25], 8), peer.status(4, 8))
        peer.expect(peer.command(0xDF, [0], 8), peer.status(2, 8))
        peer.expect(peer.command(0xBF, [0], 8, data=[1] * 8), peer.status(2, 8))

    def test_tag_and_at_once(self):
        peer = self.peer()
        octets = peer.command(0x80, [0], tag=0xFEDCBA98, at_once=True)
        peer.expect(octets, peer.status(tag=0xFEDCBA98))
        octets = peer.command(0xC0, [0x25], 8, tag=NOBODY, at_once=True)
        peer.expect(octets, peer.counted([0x25, 0x81], [0, 0, 7, 255, 0, 0, 2, 0], tag=NOBODY, n20=NOBODY))


class Pieces(Case):
    def setUp(self):
        self.octets = [(number * 7 + number // 256) % 256 for number in range(2560)]

    def reader(self, *rows):
        peer = self.peer(*rows)
        peer.write(10, self.octets)
        return peer

    def told(self, peer, size, *pieces, mark=0, rest=0, there=5):
        """Pieces are (where from, how many, marks); the last is counted."""
        row = peer.command(0xC0, block_command(0x28, 10, there), size)
        told = []
        for place, (begin, many, marks) in enumerate(pieces):
            numbers = {"tag": 1, "n20": NOBODY, "n36": place, "n40": begin}
            data = self.octets[begin:begin + many]
            if place == len(pieces) - 1:
                told.append(peer.counted([0x25, marks | mark], data, n44=rest, **numbers))
            else:
                told.append(peer.uncounted_data([0x25, marks], data, **numbers))
        peer.expect(row, *told, most=20000)
        peer.ready()

    def test_at_the_end(self):
        self.told(self.reader(), 2560, (0, 2560, 0x81))

    def test_as_long_as_theirs_may_be(self):
        peer = self.reader("MaxRecvDataSegmentLength=1000")
        self.told(peer, 2560, (0, 1000, 0), (1000, 1000, 0), (2000, 560, 0x81))
        self.told(peer, 2000, (0, 1000, 0), (1000, 1000, 0x81), mark=4, rest=560)
        self.told(peer, 1001, (0, 1000, 0), (1000, 1, 0x81), mark=4, rest=1559)
        self.told(peer, 3000, (0, 1000, 0), (1000, 1000, 0), (2000, 560, 0x81), mark=2, rest=440)

    def test_at_multiples_of_the_burst(self):
        peer = self.reader("MaxBurstLength=1024")
        self.told(peer, 2560, (0, 1024, 0x80), (1024, 1024, 0x80), (2048, 512, 0x81))
        self.told(peer, 2048, (0, 1024, 0x80), (1024, 1024, 0x81), mark=4, rest=512)

    def test_both(self):
        peer = self.reader("MaxBurstLength=1000", "MaxRecvDataSegmentLength=700")
        self.told(peer, 2560, (0, 700, 0), (700, 300, 0x80), (1000, 700, 0), (1700, 300, 0x80), (2000, 560, 0x81))

    def test_theirs_ends_with_the_burst(self):
        peer = self.reader("MaxBurstLength=1024", "MaxRecvDataSegmentLength=512")
        self.told(peer, 2560, (0, 512, 0), (512, 512, 0x80), (1024, 512, 0), (1536, 512, 0x80), (2048, 512, 0x81))
        peer = self.reader("MaxBurstLength=1024", "MaxRecvDataSegmentLength=1024")
        self.told(peer, 2560, (0, 1024, 0x80), (1024, 1024, 0x80), (2048, 512, 0x81))

    def test_odd_sizes_are_filled(self):
        peer = self.reader("MaxRecvDataSegmentLength=513", "HeaderDigest=CRC32C", "DataDigest=CRC32C")
        self.told(peer, 1027, (0, 513, 0), (513, 513, 0), (1026, 1, 0x81), mark=4, rest=1533)

    def test_the_burst_at_first(self):
        peer = self.peer("MaxRecvDataSegmentLength=16777215")
        told = peer.take(peer.command(0xC0, block_command(0x28, 0, 513), 513 * 512), 300000)
        self.assertEqual([(header[1], len(data)) for header, data in told], [(0x80, 262144), (0x81, 512)])

    def test_blocks_are_read_where_they_are(self):
        peer = self.reader()
        self.assertEqual(peer.read(9, 3), [0] * 512 + self.octets[:1024])
        self.assertEqual(peer.read(14, 2), self.octets[2048:] + [0] * 512)
