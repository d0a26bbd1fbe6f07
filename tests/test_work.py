"""At work: each kind of packet but commands and their data."""

from tests.far_end import ANEW, DISK, ELSEWHERE, NOBODY, Case, Peer, block_command, head

WRITE = block_command(0x2A, 0, 1)


class Pings(Case):
    def test_all_of_the_answer(self):
        peer = self.peer()
        where = [1, 2, 3, 4, 5, 6, 7, 8]
        for at_once in (False, True):
            peer.expect(peer.ping(0x12345678, [1, 2, 3, 4, 5], at_once, where),
                        peer.counted([0x20, 0x80], [1, 2, 3, 4, 5], where=where, tag=0x12345678, n20=NOBODY))

    def test_no_answer_without_a_tag(self):
        peer = self.peer()
        peer.expect(peer.ping(NOBODY, [1]))
        peer.expect(peer.ping(NOBODY, [1], at_once=True))
        peer.ready()

    def test_tags_that_are_nearly_none(self):
        peer = self.peer()
        for tag in (0x00FFFFFF, 0xFFFFFF00, 0xFFFFFFFE, 0):
            peer.expect(peer.ping(tag), peer.counted([0x20, 0x80], tag=tag, n20=NOBODY))

    def test_data_as_far_as_theirs_may_be_long(self):
        peer = self.peer("MaxRecvDataSegmentLength=513")
        for size in (512, 513, 514, 8192):
            peer.expect(peer.ping(data=[6] * size), peer.counted([0x20, 0x80], [6] * min(size, 513), tag=9, n20=NOBODY))

    def test_nothing_else_is_looked_at(self):
        peer = self.peer()
        octets = peer.make(head([64, 0x55, 3, 4], tag=1, n20=5, n24=6, n28=7, n32=8, n36=9, n40=10, n44=11))
        peer.expect(octets, peer.counted([0x20, 0x80], tag=1, n20=NOBODY))


class Numbers(Case):
    def packets(self, peer, number):
        what = [0] * 16
        return [peer.make(head([0, 0x80], tag=5, n24=number)),
                peer.make(head([1, 0x80], tag=5, n24=number, more=[(32, what)])),
                peer.make(head([2, 0x81], tag=5, n20=77, n24=number)),
                peer.make(head([6, 0x80], tag=5, n24=number))]

    def test_others_are_passed_over(self):
        peer = self.peer()
        for step in (-1, 1, 2, 7, 1000):
            for octets in self.packets(peer, peer.number + step):
                peer.expect(octets)
        peer.ready()

    def test_right_ones_make_the_next(self):
        for place, kind in enumerate((0x20, 0x21, 0x22, 0x26)):
            peer = self.peer()
            told = peer.take(self.packets(peer, peer.number)[place])
            self.assertEqual(told[0][0][0], kind)
            self.assertEqual(told[0][0][28:36], [0, 0, 0, 102, 0, 0, 0, 109])
            if kind != 0x26:
                self.assertEqual(peer.take(self.packets(peer, 101)[place]), [])
                self.assertEqual(len(peer.take(self.packets(peer, 102)[place])), 1)

    def test_at_once_is_not_numbered(self):
        peer = self.peer()
        for number in (0, peer.number, peer.number + 1):
            for place, octets in enumerate(self.packets(peer, number)[:3]):
                octets[0] |= 64
                told = peer.take(octets)
                self.assertEqual(told[0][0][28:32], [0, 0, 0, 101])

    def test_a_ping_without_answer_is_numbered(self):
        peer = self.peer()
        peer.expect(peer.make(head([0, 0x80], tag=NOBODY, n24=5)))
        peer.expect(peer.ping(NOBODY))
        peer.expect(peer.ping(NOBODY))
        peer.ready()

    def test_a_rejected_command_is_numbered(self):
        peer = self.peer()
        octets = peer.command(0xE0, [0])
        peer.expect(octets, peer.rejected(9, octets))
        peer.ready()

    def test_a_passed_over_command_does_not_wait(self):
        peer = self.peer()
        octets = peer.make(head([1, 0xA0], tag=1, n20=512, n24=5, more=[(32, WRITE)]))
        peer.expect(octets)
        peer.expect(peer.command(0xA0, WRITE, 512), peer.asked(1, 0, 0, 512))

    def test_a_passed_over_packet_with_data_is_passed_over_whole(self):
        peer = self.peer()
        octets = peer.make(head([0, 0x80], tag=5, n24=5), [1] * 101)
        peer.expect(octets + peer.ping(tag=6), peer.counted([0x20, 0x80], tag=6, n20=NOBODY))


class Manage(Case):
    def waiting(self, peer, *tags):
        for number, tag in enumerate(tags):
            peer.expect(peer.command(0xA0, WRITE, 512, tag=tag), peer.asked(number + 1, 0, 0, 512, tag=tag))

    def managed(self, peer, function, answer, about=0, at_once=True, tag=77):
        peer.expect(peer.manage(function, about, tag, at_once), peer.counted([0x22, 0x80, answer], tag=tag))

    def test_one_is_given_up(self):
        peer = self.peer()
        self.waiting(peer, 1, 2)
        self.managed(peer, 1, 0, about=1)
        self.managed(peer, 1, 1, about=1, at_once=False)
        self.managed(peer, 1, 1, about=3, tag=0xFFFF0000)
        self.managed(peer, 1, 1, about=0xFF000002)
        peer.expect(peer.data([1] * 512, 1, 0, 0, True))
        peer.expect(peer.data([2] * 512, 2, 0, 0, True, tag=2), peer.status(tag=2, asked=1))
        self.managed(peer, 1, 1, about=2)

    def test_a_tag_given_up_may_come_again(self):
        peer = self.peer()
        self.waiting(peer, 1)
        self.managed(peer, 1, 0, about=1)
        peer.expect(peer.command(0xA0, WRITE, 512), peer.asked(2, 0, 0, 512))

    def test_all_of_this_session(self):
        peer = self.peer()
        other = Peer(self, peer.far, 1)
        self.waiting(peer, 1, 2, 3)
        self.waiting(other, 1)
        self.managed(peer, 2, 0)
        for tag in (1, 2, 3):
            self.managed(peer, 1, 1, about=tag)
        other.expect(other.data([2] * 512, 1, 0, 0, True), other.status(asked=1))
        peer.ready()
        self.managed(peer, 2, 0)

    def test_those_of_all_sessions(self):
        for function in (5, 6):
            peer = self.peer()
            other = Peer(self, peer.far, 3)
            self.waiting(peer, 1)
            self.waiting(other, 1, 2)
            self.managed(peer, function, 0)
            self.managed(peer, 1, 1, about=1)
            self.managed(other, 1, 1, about=1)
            self.managed(other, 1, 1, about=2)
            for each in (peer, other):
                each.ready(ANEW)
                each.ready()

    def test_the_disk_stays(self):
        peer = self.peer()
        peer.write(3, [1] * 512)
        self.managed(peer, 6, 0)
        peer.ready(ANEW)
        self.assertEqual(peer.read(3, 1), [1] * 512)

    def test_others(self):
        peer = self.peer()
        self.waiting(peer, 1)
        for function in (0, 3, 4, 7, 8, 14, 127):
            self.managed(peer, function, 5)
        self.managed(peer, 1, 0, about=1)
        peer.ready()

    def test_without_128(self):
        peer = self.peer()
        octets = peer.make(head([66, 2], tag=4))
        peer.expect(octets, peer.counted([0x22, 0x80], tag=4))


class Logout(Case):
    def test_the_line_is_closed(self):
        for why in (0, 1):
            for at_once in (False, True):
                peer = self.peer()
                peer.expect(peer.logout(why, at_once=at_once), peer.counted([0x26, 0x80], tag=78, n40=0x20000))
                self.assertEqual(peer.far.recv(0, []), [-9])

    def test_the_line_is_not_closed(self):
        for why in (2, 3, 127):
            peer = self.peer()
            peer.expect(peer.logout(why), peer.counted([0x26, 0x80, 2], tag=78, n40=0x20000))
            peer.ready()

    def test_without_128(self):
        peer = self.peer()
        octets = peer.make(head([70, 1, 5, 6], where=ELSEWHERE, tag=4, n20=NOBODY, n36=9))
        peer.expect(octets, peer.counted([0x26, 0x80], tag=4, n40=0x20000))
        self.assertEqual(peer.far.recv(0, []), [-9])

    def test_another_line_stays(self):
        peer = self.peer()
        other = Peer(self, peer.far, 2)
        peer.take(peer.logout())
        other.ready()


class Others(Case):
    def test_rejected(self):
        kinds = [kind for kind in range(64) if kind not in (0, 1, 2, 3, 5, 6)]
        peer = self.peer()
        for kind in kinds:
            for more in (0, 64):
                octets = peer.make(head([kind | more, 1, 2, 3], where=list(range(8)), tag=9, n24=peer.number, n44=5))
                peer.expect(octets, peer.rejected(5, octets))
        peer.ready()

    def test_the_header_alone_comes_back(self):
        peer = self.peer("HeaderDigest=CRC32C", "DataDigest=CRC32C")
        octets = peer.make(head([4, 0x80], tag=1), [1] * 20)
        peer.expect(octets, peer.rejected(5, octets))

    def test_data_for_nobody_are_passed_over(self):
        peer = self.peer()
        for kind in (5, 0x45):
            peer.expect(peer.make(head([kind, 0x80], tag=1, n20=NOBODY), [1] * 10))
            peer.expect(peer.make(head([kind, 0], tag=1, n20=3, n36=9)))
        peer.ready()


class Anew(Case):
    def test_said_once_from_the_login_on(self):
        peer = self.peer(anew=True)
        peer.ready(ANEW)
        peer.ready()

    def test_said_ahead_of_where(self):
        peer = self.peer(anew=True)
        peer.ready(ANEW, where=ELSEWHERE)
        peer.ready((5, 0x25), where=ELSEWHERE)
        peer.ready(where=DISK)

    def test_each_session_by_itself(self):
        peer = self.peer(anew=True)
        other = Peer(self, peer.far, 1, anew=True)
        peer.ready(ANEW)
        other.ready(ANEW)
        peer.ready()

    def test_sessions_that_are_not_at_work_are_left(self):
        peer = self.peer()
        peer.far.line(1)
        peer.take(peer.manage(6))
        Peer(self, peer.far, 2, anew=True).ready(ANEW)
