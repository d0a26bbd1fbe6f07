"""Promises 1 and 2: the calls, their form, their refusals."""

import random

from fardisk.target import answers
from tests.far_end import ANEW, NOBODY, Case, Far, Peer, block_command, head, login, packet, split_answers

FAR_OFF = (-2147483648, -1, 4, 5, 256, 2147483647)


class BeginAndOpen(Case):
    def test_form_of_what_is_given_back(self):
        self.assertEqual(answers([0]), [1, 0])
        self.assertEqual(answers([0, 1, 3, 1, 4, 0, 2, 0, 0, 0]), [1, 0, 1, 0, 1, -2, 1, 0, 1, -9])

    def test_lines_are_closed_at_first(self):
        for c in range(4):
            self.assertEqual(Far().recv(c, []), [-9])

    def test_lines_0_to_3_are_opened_each_by_itself(self):
        for c in range(4):
            far = Far()
            self.assertEqual(far.line(c), [0])
            for other in range(4):
                self.assertEqual(far.recv(other, []), [0] if other == c else [-9])

    def test_other_lines_are_refused(self):
        for c in FAR_OFF:
            far = Far()
            self.assertEqual(far.line(c), [-2])
            for line in range(4):
                self.assertEqual(far.recv(line, []), [-9])

    def test_begin_anew_closes_lines_and_empties_the_disk(self):
        peer = self.peer()
        peer.write(5, [7] * 512)
        self.assertEqual(peer.read(5, 1), [7] * 512)
        self.assertEqual(peer.far.begin(), [0])
        for c in range(4):
            self.assertEqual(peer.far.recv(c, []), [-9])
        again = Peer(self, peer.far)
        self.assertEqual(again.read(5, 1), [0] * 512)

    def test_disk_is_all_0_at_first_to_its_last_block(self):
        peer = self.peer()
        for first in (0, 1024, 2047):
            self.assertEqual(peer.read(first, 1), [0] * 512)

    def test_opening_a_line_in_use_begins_a_new_session(self):
        peer = self.peer("InitialR2T=No")
        peer.take(peer.command(0xA0, block_command(0x2A, 0, 1), 512, tag=3))
        peer.take(peer.ping()[:20])
        again = Peer(self, peer.far, number=5)
        what = block_command(0x2A, 0, 1)
        again.expect(again.command(0xA0, what, 512, tag=3), again.asked(1, 0, 0, 512, tag=3))

    def test_opening_a_line_in_use_drops_what_was_agreed(self):
        peer = self.peer("HeaderDigest=CRC32C", "DataDigest=CRC32C", "ImmediateData=No")
        again = Peer(self, peer.far)
        again.write(1, [9] * 512)
        self.assertEqual(again.read(1, 1), [9] * 512)

    def test_opening_a_line_leaves_the_others(self):
        peer = self.peer()
        self.assertEqual(peer.far.line(1), [0])
        peer.ready()

    def test_opening_a_refused_line_leaves_all(self):
        peer = self.peer()
        self.assertEqual(peer.far.line(4), [-2])
        peer.ready()

    def test_a_closed_line_is_opened_again(self):
        peer = self.peer()
        peer.expect(peer.logout(), peer.counted([0x26, 0x80], tag=78, n40=0x20000))
        self.assertEqual(peer.far.recv(0, []), [-9])
        Peer(self, peer.far).ready()

    def test_the_disk_outlives_sessions_and_is_one_for_all_lines(self):
        peer = self.peer()
        peer.write(2047, list(range(256)) * 2)
        for c in (0, 1, 2, 3):
            self.assertEqual(Peer(self, peer.far, c).read(2047, 1), list(range(256)) * 2)


class Recv(Case):
    def test_refusals_and_their_order(self):
        far = Far()
        far.line(0)
        for c in FAR_OFF:
            self.assertEqual(far.recv(c, [], 0), [-2])
        for most in (4194305, 4294967295):
            self.assertEqual(far.recv(0, [], most), [-2])
            self.assertEqual(far.recv(1, [], most), [-2])
        self.assertEqual(far.recv(1, login(), 0), [-9])
        self.assertEqual(far.recv(0, login(), 0), [-5])
        self.assertEqual(far.recv(0, [], 0), [0])

    def test_the_greatest_most(self):
        # One so great is beyond what a list of calls has, yet -2 is for greater ones alone.
        far = Far()
        far.line(0)
        self.assertEqual(far.recv(0, [], 4194304), [0])

    def test_too_many_bytes(self):
        far = Far()
        far.line(0)
        self.assertEqual(far.recv(0, [0] * 65537, 0), [-2])
        self.assertEqual(far.recv(1, [0] * 65537, 0), [-2])
        self.assertEqual(far.recv(0, [], 0), [0])
        self.assertEqual(far.recv(0, [0] * 65536, 0), [0])
        self.assertEqual(far.recv(0, [], 0), [-9])

    def test_refused_bytes_are_not_taken(self):
        far = Far()
        far.line(0)
        row = login()
        self.assertEqual(far.recv(0, row[:10], 4194305), [-2])
        self.assertEqual(far.recv(0, row)[37:39], [0, 0])

    def test_most_is_the_edge(self):
        far = Far()
        far.line(0)
        size = far.recv(0, login(), 3000)[0]
        for most, told in ((0, -5), (47, -5), (48, -5), (size - 1, -5), (size, size), (size + 1, size)):
            far = Far()
            far.line(0)
            self.assertEqual(far.recv(0, login(), most)[0], told)

    def test_most_counts_the_sums(self):
        peer = self.peer("HeaderDigest=CRC32C", "DataDigest=CRC32C")
        for most in (48, 51, 52, 55, 56, 59):
            self.assertEqual(peer.far.recv(0, peer.ping(data=[1]), most), [-5])
            peer.number -= 1
        row = peer.ping(data=[1])
        answer = peer.counted([0x20, 0x80], [1], tag=9, n20=NOBODY)
        peer.expect(row, answer, most=60)

    def test_nothing_is_done_where_5_is_answered(self):
        peer = self.peer()
        other = Peer(self, peer.far, 1)
        other.expect(other.command(0xA0, block_command(0x2A, 0, 1), 512, tag=4), other.asked(1, 0, 0, 512, tag=4))
        row = peer.command(0xA0, block_command(0x2A, 7, 1), 512, data=[1] * 512)
        first = peer.status()
        row += peer.command(0xA0, block_command(0x2A, 8, 1), 512, tag=2)
        told = [first, peer.asked(1, 0, 0, 512, tag=2)]
        row += peer.manage(6)
        told += [peer.counted([0x22, 0x80], tag=77)]
        row += peer.ping(tag=9)
        told += [peer.counted([0x20, 0x80], tag=9, n20=NOBODY)]
        row += peer.logout() + [1, 2, 3]
        told += [peer.counted([0x26, 0x80], tag=78, n40=0x20000)]
        for most in range(0, 48 * 5, 16):
            self.assertEqual(peer.far.recv(0, row, most), [-5])
        self.assertEqual(other.read(7, 1), [0] * 512)
        other.ready()
        other.expect(other.data([5] * 512, 1, 0, 0, True, tag=4), other.status(tag=4, asked=1))
        peer.expect(row, *told, most=48 * 5)
        self.assertEqual(peer.far.recv(0, []), [-9])
        other.ready(ANEW)
        self.assertEqual(other.read(7, 1), [1] * 512)

    def test_5_and_then_the_same_again_with_more_room(self):
        peer = self.peer()
        half = peer.ping(data=[3] * 10)
        peer.expect(half[:30])
        self.assertEqual(peer.far.recv(0, half[30:], 59), [-5])
        peer.expect(half[30:], peer.counted([0x20, 0x80], [3] * 10, tag=9, n20=NOBODY), most=60)

    def test_5_when_a_line_would_be_closed(self):
        peer = self.peer()
        row = peer.ping() + [255] * 48
        self.assertEqual(peer.far.recv(0, row, 47), [-5])
        peer.expect(row, peer.counted([0x20, 0x80], tag=9, n20=NOBODY))
        self.assertEqual(peer.far.recv(0, row, 47), [-9])

    def test_5_of_a_long_reading(self):
        peer = self.peer("MaxRecvDataSegmentLength=16777215")
        row = peer.command(0xC0, block_command(0x28, 0, 2048), 1048576)
        for most in (0, 100000):
            self.assertEqual(peer.far.recv(0, row, most), [-5])
        peer.number -= 1
        peer.ready()

    def test_a_session_in_pieces_cut_anywhere(self):
        rows = ("InitialR2T=No", "HeaderDigest=CRC32C", "DataDigest=CRC32C", "MaxRecvDataSegmentLength=512")
        octets, whole = self.long_session(rows)
        for size in (48, 47, 49, 4, 1000):
            self.assertEqual(self.in_pieces(octets, [size] * (len(octets) // size + 1)), whole)
        source = random.Random(1)
        for turn in range(10):
            sizes = [source.choice((1, 3, 48, 52, 60, 400)) for step in range(300)]
            self.assertEqual(self.in_pieces(octets, sizes), whole)

    def test_a_login_octet_by_octet(self):
        row = login(0x87, data=None) + packet(head([64, 0x80], tag=2), [1, 2, 3, 4, 5])
        self.assertEqual(self.in_pieces(row, [1] * len(row)), self.in_pieces(row, [len(row)]))

    def long_session(self, rows):
        peer = self.peer(*rows, anew=True)
        octets = login(0x87, ("InitiatorName=iqn.2026-11.example:far",
                              "TargetName=iqn.2026-11.example:disk") + rows)
        octets += peer.command(0x80, [0]) + peer.ping(data=[1, 2, 3])
        octets += peer.command(0xA0, block_command(0x2A, 3, 2), 1024, data=[4] * 100)
        octets += peer.data([5] * 924, 1, 0, 100, True)
        octets += peer.command(0x20, block_command(0x2A, 4, 1), 512, tag=2)
        octets += peer.data([6] * 99, NOBODY, 0, 0, True, tag=2)
        octets += peer.data([7] * 413, 2, 0, 99, True, tag=2)
        octets += peer.command(0xC0, block_command(0x28, 3, 2), 1024)
        octets += peer.manage(5) + peer.logout(2) + peer.make(head([4, 0])) + peer.logout() + [1] * 70
        return octets, self.in_pieces(octets, [len(octets)])

    def in_pieces(self, octets, sizes):
        """All that goes back, and how the line stands afterwards."""
        calls = [0, 1, 0]
        at = 0
        for size in sizes:
            row = octets[at:at + size]
            calls += [2, 0, 5000, len(row)] + row
            at += size
        calls += [2, 0, 5000, len(octets[at:])] + octets[at:] + [2, 0, 0, 0]
        told = split_answers(answers(calls))[2:]
        return sum([answer[1:] for answer in told], []), told[-1]

    def test_what_is_handed_in_stays_as_it_was(self):
        peer = self.peer()
        peer.write(1, [1] * 1024)
        peer.read(1, 2)
        calls = list(peer.far.calls)
        kept = list(calls)
        first = answers(calls)
        self.assertEqual(calls, kept)
        first[:] = [0] * len(first)
        self.assertEqual(answers(calls), answers(kept))

    def test_nothing_is_left_for_the_next(self):
        peer = self.peer()
        peer.write(0, [1] * 512)
        self.assertEqual(answers([0, 2, 0, 0, 0]), [1, 0, 1, -9])
        self.assertEqual(Peer(self).read(0, 1), [0] * 512)

    def test_only_whole_numbers_are_given_back(self):
        peer = self.peer("HeaderDigest=CRC32C", "DataDigest=CRC32C")
        peer.write(1, [1] * 512)
        peer.read(1, 1)
        told = answers(peer.far.calls + [1, 9, 2, 3, 0, 0])
        self.assertIs(type(told), list)
        self.assertEqual({type(number) for number in told}, {int})

    def test_the_longest_list_of_calls(self):
        calls = [0, 1, 0, 2, 0, 100, len(login())] + login()
        calls += [2, 0, 0, 48] + head([64, 0], tag=NOBODY)
        calls += [2, 0, 0, 0] * 396
        self.assertEqual(len(split_answers(answers(calls))), 400)

    def test_closed_within_bytes_the_rest_is_not_taken(self):
        peer = self.peer()
        row = peer.ping(tag=1) + peer.logout(1) + peer.ping(tag=2)
        peer.number -= 1
        peer.expect(row, peer.counted([0x20, 0x80], tag=1, n20=NOBODY),
                    peer.counted([0x26, 0x80], tag=78, n40=0x20000))
        self.assertEqual(peer.far.recv(0, []), [-9])

    def test_lines_keep_apart(self):
        first = self.peer(number=10)
        second = Peer(self, first.far, 3, number=4000)
        half = first.ping(tag=1)
        first.expect(half[:40])
        second.expect(second.ping(tag=2), second.counted([0x20, 0x80], tag=2, n20=NOBODY))
        first.expect(half[40:], first.counted([0x20, 0x80], tag=1, n20=NOBODY))
        self.assertEqual(first.far.recv(1, []), [-9])
        Peer(self, first.far, 1, anew=True).ready(ANEW)
