"""Commands that write: rejections, and data with the command, unasked and asked for."""

from tests.far_end import ANEW, ELSEWHERE, NOBODY, Case, block_command, head

UNASKED = ("InitialR2T=No",)


class Rejections(Case):
    def rejected(self, peer, why, *args, **more):
        octets = peer.command(*args, **more)
        peer.expect(octets, peer.rejected(why, octets))

    def test_a_tag_in_use(self):
        peer = self.peer()
        what = block_command(0x2A, 0, 1)
        peer.expect(peer.command(0xA0, what, 512), peer.asked(1, 0, 0, 512))
        self.rejected(peer, 4, 0x80, [0])
        self.rejected(peer, 4, 0xE0, [0], 70000, data=[1])
        self.rejected(peer, 4, 0xA0, what, 512, at_once=True)
        peer.expect(peer.data([1] * 512, 1, 0, 0, True), peer.status(asked=1))
        peer.ready()

    def test_a_tag_in_use_by_another_session(self):
        peer = self.peer()
        peer.expect(peer.command(0xA0, [0], 512), peer.asked(1, 0, 0, 512))
        type(peer)(self, peer.far, 1).ready()

    def test_reads_and_writes(self):
        self.rejected(self.peer(), 9, 0xE0, [0])
        self.rejected(self.peer(), 9, 0xE0, [0], 512)

    def test_data_and_does_not_write(self):
        self.rejected(self.peer(), 9, 0x80, [0], 512, data=[1])
        self.rejected(self.peer(), 9, 0xC0, [0x12, 0, 0, 0, 36], 512, data=[1])

    def test_data_and_none_may_come_so(self):
        self.rejected(self.peer("ImmediateData=No"), 9, 0xA0, [0], 512, data=[1])

    def test_more_data_than_the_first_burst(self):
        peer = self.peer("FirstBurstLength=512")
        self.rejected(peer, 9, 0xA0, [0], 1024, data=[1] * 513)
        peer.expect(peer.command(0xA0, [0], 1024, data=[1] * 512), peer.asked(1, 0, 512, 512))

    def test_more_data_than_asked(self):
        peer = self.peer()
        self.rejected(peer, 9, 0xA0, [0], 0, data=[1])
        self.rejected(peer, 9, 0xA0, [0], 511, data=[1] * 512)
        peer.expect(peer.command(0xA0, [0], 511, data=[1] * 511), peer.status(2, 511))

    def test_without_128_and_does_not_write(self):
        peer = self.peer(*UNASKED)
        self.rejected(peer, 9, 0x00, [0])
        self.rejected(peer, 9, 0x40, [0x25], 8)

    def test_without_128_and_all_are_asked_for(self):
        self.rejected(self.peer(), 9, 0x20, [0], 512)
        self.rejected(self.peer("InitialR2T=Yes"), 9, 0x20, [0], 512)

    def test_without_128_and_no_more_could_come(self):
        peer = self.peer(*UNASKED, "FirstBurstLength=600")
        self.rejected(peer, 9, 0x20, [0], 0)
        self.rejected(peer, 9, 0x20, [0], 512, data=[1] * 512)
        self.rejected(peer, 9, 0x20, [0], 1000, data=[1] * 600)
        peer.expect(peer.command(0x20, [0], 1000, data=[1] * 599))
        peer.expect(peer.command(0x20, [0], 512, tag=2, data=[1] * 511))

    def test_writes_more_than_65536(self):
        peer = self.peer()
        self.rejected(peer, 9, 0xA0, [0], 65537)
        self.rejected(peer, 9, 0xA0, [0], 0xFFFFFFFF)
        peer.expect(peer.command(0xA0, [0], 65536), peer.asked(1, 0, 0, 65536))

    def test_reading_may_be_of_more(self):
        peer = self.peer()
        peer.expect(peer.command(0xC0, [0], 0xFFFFFFFF), peer.status(2, 0xFFFFFFFF))


class EightWait(Case):
    def full(self, *rows):
        peer = self.peer(*rows)
        for tag in range(8):
            peer.expect(peer.command(0xA0, [0], 512, tag=tag), peer.asked(tag + 1, 0, 0, 512, tag=tag))
        return peer

    def test_a_ninth_that_writes(self):
        peer = self.full()
        peer.expect(peer.command(0xA0, [0], 512, tag=8), peer.status(2, 512, tag=8, status=0x28))
        peer.expect(peer.command(0xA0, [0], 512, tag=8, data=[1] * 512), peer.status(2, 512, tag=8, status=0x28))
        peer.expect(peer.command(0xA0, [0], 0, tag=8), peer.status(tag=8, status=0x28))
        peer.expect(peer.data([1] * 512, 3, 0, 0, True, tag=2), peer.status(2, 512, tag=2, asked=1))
        peer.expect(peer.command(0xA0, [0], 512, tag=8), peer.asked(9, 0, 0, 512, tag=8))

    def test_one_that_does_not_write_is_done(self):
        peer = self.full()
        peer.expect(peer.command(0x80, [0], tag=8), peer.status(tag=8))
        peer.expect(peer.command(0xC0, [0], 5, tag=8), peer.status(2, 5, tag=8))

    def test_rejections_come_first(self):
        peer = self.full()
        for row in (peer.command(0xA0, [0], 512, tag=7),):
            peer.expect(row, peer.rejected(4, row))
        row = peer.command(0xA0, [0], 65537, tag=8)
        peer.expect(row, peer.rejected(9, row))

    def test_unasked_data_behind_it_are_passed_over(self):
        peer = self.full(*UNASKED)
        peer.expect(peer.command(0x20, [0], 512, tag=8) + peer.data([1] * 512, NOBODY, 0, 0, True, tag=8),
                    peer.status(2, 512, tag=8, status=0x28))
        peer.expect(peer.command(0x80, [0], tag=99), peer.status(tag=99))

    def test_anew_is_still_to_be_said(self):
        peer = self.peer(anew=True)
        for tag in range(8):
            peer.take(peer.command(0xA0, [0], 512, tag=tag))
        peer.expect(peer.command(0xA0, [0], 512, tag=8), peer.status(2, 512, tag=8, status=0x28))
        peer.expect(peer.command(0x80, [0], tag=9), peer.wrong(*ANEW, tag=9))

    def test_eight_of_each_session(self):
        peer = self.full()
        other = type(peer)(self, peer.far, 1)
        other.expect(other.command(0xA0, [0], 512), other.asked(1, 0, 0, 512))


class Collecting(Case):
    octets = [(number * 11 + 3) % 256 for number in range(2048)]

    def write(self, peer, marks=0xA0, size=2048, data=0, tag=1, first=20):
        return peer.command(marks, block_command(0x2A, first, 4), size, tag=tag, data=self.octets[:data])

    def data(self, peer, number, pieces, begin, end, last=False, tag=1):
        return peer.data(self.octets[begin:end], number, pieces, begin, last, tag)

    def is_written(self, peer):
        self.assertEqual(peer.read(20, 4), self.octets)
        self.assertEqual(peer.read(24, 1), [0] * 512)

    def test_all_with_the_command(self):
        peer = self.peer()
        peer.expect(self.write(peer, data=2048), peer.status())
        self.is_written(peer)

    def test_all_asked_for(self):
        peer = self.peer()
        peer.expect(self.write(peer), peer.asked(1, 0, 0, 2048))
        peer.expect(self.data(peer, 1, 0, 0, 2048, True), peer.status(asked=1))
        self.is_written(peer)

    def test_asked_for_in_pieces(self):
        peer = self.peer()
        peer.expect(self.write(peer, data=100), peer.asked(1, 0, 100, 1948))
        peer.expect(self.data(peer, 1, 0, 100, 101))
        peer.expect(self.data(peer, 1, 1, 101, 1000) + self.data(peer, 1, 2, 1000, 2047))
        peer.expect(self.data(peer, 1, 3, 2047, 2048, True), peer.status(asked=1))
        self.is_written(peer)

    def test_asked_for_by_bursts(self):
        peer = self.peer("MaxBurstLength=600")
        peer.expect(self.write(peer, data=500), peer.asked(1, 0, 500, 600))
        peer.expect(self.data(peer, 1, 0, 500, 1000) + self.data(peer, 1, 1, 1000, 1100, True),
                    peer.asked(2, 1, 1100, 600))
        peer.expect(self.data(peer, 2, 0, 1100, 1700, True), peer.asked(3, 2, 1700, 348))
        peer.expect(self.data(peer, 3, 0, 1700, 2048, True), peer.status(asked=3))
        self.is_written(peer)

    def test_all_unasked(self):
        peer = self.peer(*UNASKED)
        peer.expect(self.write(peer, 0x20))
        peer.expect(self.data(peer, NOBODY, 0, 0, 1000))
        peer.expect(self.data(peer, NOBODY, 1, 1000, 2048, True), peer.status())
        self.is_written(peer)

    def test_with_it_and_unasked_and_asked_for(self):
        peer = self.peer(*UNASKED, "FirstBurstLength=1000", "MaxBurstLength=1000")
        peer.expect(self.write(peer, 0x20, data=300))
        peer.expect(self.data(peer, NOBODY, 0, 300, 500))
        peer.expect(self.data(peer, NOBODY, 1, 500, 1000, True), peer.asked(1, 0, 1000, 1000))
        peer.expect(self.data(peer, 1, 0, 1000, 2000, True), peer.asked(2, 1, 2000, 48))
        peer.expect(self.data(peer, 2, 0, 2000, 2048, True), peer.status(asked=2))
        self.is_written(peer)

    def test_unasked_may_end_early(self):
        peer = self.peer(*UNASKED)
        peer.expect(self.write(peer, 0x20))
        peer.expect(self.data(peer, NOBODY, 0, 0, 5, True), peer.asked(1, 0, 5, 2043))
        peer.expect(self.data(peer, 1, 0, 5, 2048, True), peer.status(asked=1))
        self.is_written(peer)

    def test_unasked_is_allowed_but_not_announced(self):
        peer = self.peer(*UNASKED)
        peer.expect(self.write(peer, data=5), peer.asked(1, 0, 5, 2043))

    def test_unasked_without_data_with_commands(self):
        peer = self.peer(*UNASKED, "ImmediateData=No")
        peer.expect(self.write(peer, 0x20))
        peer.expect(self.data(peer, NOBODY, 0, 0, 2048, True), peer.status())
        self.is_written(peer)

    def test_several_at_a_time(self):
        peer = self.peer("MaxBurstLength=1024")
        peer.expect(self.write(peer, tag=1), peer.asked(1, 0, 0, 1024, tag=1))
        peer.expect(self.write(peer, tag=2, first=30), peer.asked(2, 0, 0, 1024, tag=2))
        peer.expect(self.data(peer, 2, 0, 0, 1024, True, tag=2), peer.asked(3, 1, 1024, 1024, tag=2))
        peer.expect(self.data(peer, 1, 0, 0, 1024, True, tag=1), peer.asked(4, 1, 1024, 1024, tag=1))
        peer.expect(self.data(peer, 4, 0, 1024, 2048, True, tag=1), peer.status(tag=1, asked=2))
        self.is_written(peer)
        peer.expect(self.data(peer, 3, 0, 1024, 2048, True, tag=2), peer.status(tag=2, asked=2))
        self.assertEqual(peer.read(30, 4), self.octets)

    def test_where_and_tag_are_asked_back(self):
        peer = self.peer()
        where = [8, 7, 6, 5, 4, 3, 2, 1]
        peer.expect(peer.command(0xA0, [0], 512, tag=0xFEDCBA98, where=where),
                    peer.asked(1, 0, 0, 512, tag=0xFEDCBA98, where=where))
        peer.expect(peer.data([1] * 512, 1, 0, 0, True, tag=0xFEDCBA98),
                    peer.wrong(5, 0x25, 512, tag=0xFEDCBA98, asked=1))

    def test_data_not_as_many(self):
        for size in (2047, 1536, 2049, 2560):
            peer = self.peer()
            peer.expect(self.write(peer, size=size), peer.asked(1, 0, 0, size))
            peer.expect(peer.data([1] * size, 1, 0, 0, True), peer.wrong(5, 0x24, size, asked=1))
            self.assertEqual(peer.read(20, 5), [0] * 2560)

    def test_beyond_the_disk(self):
        peer = self.peer()
        peer.expect(self.write(peer, data=2048, first=2045), peer.wrong(5, 0x21, 2048))
        self.assertEqual(peer.read(2044, 4), [0] * 2048)
        peer.expect(self.write(peer, data=2048, first=2044), peer.status())
        self.assertEqual(peer.read(2044, 4), self.octets)

    def test_anew_is_said_when_all_is_there(self):
        peer = self.peer(anew=True)
        peer.expect(self.write(peer), peer.asked(1, 0, 0, 2048))
        peer.expect(peer.command(0x80, [0], tag=2), peer.wrong(*ANEW, tag=2))
        peer.expect(self.data(peer, 1, 0, 0, 2048, True), peer.status(asked=1))
        self.is_written(peer)
        peer = self.peer(anew=True)
        peer.expect(self.write(peer), peer.asked(1, 0, 0, 2048))
        peer.expect(self.data(peer, 1, 0, 0, 2048, True), peer.wrong(*ANEW, rest=2048, asked=1))
        self.assertEqual(peer.read(20, 4), [0] * 2048)

    def test_not_the_disk(self):
        peer = self.peer()
        what = block_command(0x2A, 20, 1)
        peer.expect(peer.command(0xA0, what, 512, data=[1] * 512, where=ELSEWHERE), peer.wrong(5, 0x25, 512))
        self.assertEqual(peer.read(20, 1), [0] * 512)

    def test_a_burst_with_sums(self):
        peer = self.peer("HeaderDigest=CRC32C", "DataDigest=CRC32C", "MaxBurstLength=513")
        peer.expect(self.write(peer), peer.asked(1, 0, 0, 513))
        peer.expect(self.data(peer, 1, 0, 0, 513, True), peer.asked(2, 1, 513, 513))

    def test_data_at_once(self):
        peer = self.peer()
        peer.expect(self.write(peer), peer.asked(1, 0, 0, 2048))
        octets = self.data(peer, 1, 0, 0, 2048, True)
        octets[0] |= 64
        peer.expect(octets, peer.status(asked=1))

    def test_writes_nothing(self):
        peer = self.peer()
        peer.expect(peer.command(0xA0, block_command(0x2A, 20, 0), 0), peer.status())


class WrongData(Case):
    def closed(self, peer, octets):
        peer.expect(octets[:-1])
        self.assertEqual(peer.far.recv(0, []), [0])
        peer.expect_closed(octets[-1:])

    def asked_peer(self, *rows):
        peer = self.peer(*rows)
        peer.expect(peer.command(0xA0, [0], 512, data=[1] * 12), peer.asked(1, 0, 12, 500))
        return peer

    def unasked_peer(self):
        peer = self.peer("InitialR2T=No", "FirstBurstLength=600")
        peer.expect(peer.command(0x20, [0], 1000, data=[1] * 100))
        return peer

    def test_asked(self):
        for data, number, pieces, begin, last in (
                (100, 2, 0, 12, False), (100, 0, 0, 12, False), (100, NOBODY, 0, 12, False),
                (100, 1, 1, 12, False), (100, 1, 0, 0, False), (100, 1, 0, 13, False), (100, 1, 0, 112, False),
                (0, 1, 0, 12, False), (0, 1, 0, 12, True), (501, 1, 0, 12, True), (501, 1, 0, 12, False),
                (500, 1, 0, 12, False), (499, 1, 0, 12, True), (1, 1, 0, 12, True)):
            peer = self.asked_peer()
            self.closed(peer, peer.data([1] * data, number, pieces, begin, last))

    def test_unasked(self):
        for data, number, pieces, begin, last in (
                (100, 1, 0, 100, False), (100, 0, 0, 100, False), (100, NOBODY, 1, 100, False),
                (100, NOBODY, 0, 0, False), (100, NOBODY, 0, 101, False), (0, NOBODY, 0, 100, False),
                (0, NOBODY, 0, 100, True), (501, NOBODY, 0, 100, True), (501, NOBODY, 0, 100, False),
                (500, NOBODY, 0, 100, False)):
            peer = self.unasked_peer()
            self.closed(peer, peer.data([1] * data, number, pieces, begin, last))

    def test_unasked_up_to_how_many(self):
        for data, last in ((413, True), (413, False), (412, False)):
            peer = self.peer("InitialR2T=No")
            peer.expect(peer.command(0x20, [0], 512, data=[1] * 100))
            self.closed(peer, peer.data([1] * data, NOBODY, 0, 100, last))

    def test_a_later_piece(self):
        for data, number, pieces, begin, last in (
                (10, 1, 0, 22, False), (10, 1, 2, 22, False), (10, 1, 1, 12, False), (10, 1, 1, 32, False),
                (491, 1, 1, 22, True), (490, 1, 1, 22, False), (489, 1, 1, 22, True), (0, 1, 1, 22, False)):
            peer = self.asked_peer()
            peer.expect(peer.data([1] * 10, 1, 0, 12))
            self.closed(peer, peer.data([1] * data, number, pieces, begin, last))

    def test_the_number_before(self):
        peer = self.peer("MaxBurstLength=512")
        peer.expect(peer.command(0xA0, [0], 1024), peer.asked(1, 0, 0, 512))
        peer.expect(peer.data([1] * 512, 1, 0, 0, True), peer.asked(2, 1, 512, 512))
        self.closed(peer, peer.data([1] * 512, 1, 0, 512, True))

    def test_unasked_behind_their_end(self):
        peer = self.unasked_peer()
        peer.expect(peer.data([1], NOBODY, 0, 100, True), peer.asked(1, 0, 101, 899))
        self.closed(peer, peer.data([1], NOBODY, 1, 101))

    def test_pieces_are_counted_anew(self):
        peer = self.unasked_peer()
        peer.expect(peer.data([1], NOBODY, 0, 100) + peer.data([1], NOBODY, 1, 101, True), peer.asked(1, 0, 102, 898))
        self.closed(peer, peer.data([1], 1, 2, 102))

    def test_looked_at_with_its_filling_there(self):
        peer = self.asked_peer()
        self.closed(peer, peer.data([1] * 99, 7, 0, 12))

    def test_looked_at_with_its_sum_there(self):
        peer = self.asked_peer("DataDigest=CRC32C")
        self.closed(peer, peer.data([1] * 99, 7, 0, 12))

    def test_nothing_else_is_looked_at(self):
        peer = self.asked_peer()
        octets = peer.make(head([5, 0xFF, 1, 2], where=ELSEWHERE, tag=1, n20=1, n24=9, n28=9, n32=9, n40=12, n44=9),
                           [1] * 500)
        peer.expect(octets, peer.status(2, 512, asked=1))

    def test_for_another_session_passed_over(self):
        peer = self.asked_peer()
        other = type(peer)(self, peer.far, 1)
        other.expect(other.data([1] * 500, 1, 0, 12, True))
        peer.expect(peer.data([1] * 500, 1, 0, 12, True), peer.status(2, 512, asked=1))
