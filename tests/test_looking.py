"""Promise 3: it_closed, it_tasks and it_block, which look and change nothing."""

from fardisk.target import answers
from tests.far_end import (
    ANEW, ELSEWHERE, EMPTY, NAMES, NOBODY, Case, Far, Peer, block_command, block_of, head, login, packet)

NO_LINES = (-2147483648, -257, -4, -1, 4, 5, 256, 2147483647)
NO_BLOCKS = (-2147483648, -2048, -1, 2048, 2049, 4096, 2147483647)
OCTETS = [(number * 7 + 1) % 256 for number in range(2048)]


class Closed(Case):
    def stands(self, far, *told):
        """How the lines 0 to 3 stand, one behind another."""
        self.assertEqual([far.closed(c) for c in range(4)], [[each] for each in told])

    def test_form_of_what_is_given_back(self):
        self.assertEqual(answers([0, 3, 0]), [1, 0, 1, 1])
        self.assertEqual(answers([0, 1, 2, 3, 2, 3, 3, 3, 4]), [1, 0, 1, 0, 1, 0, 1, 1, 1, -2])

    def test_lines_that_are_none(self):
        far = Far()
        for c in NO_LINES:
            self.assertEqual(far.closed(c), [-2])
        for c in range(4):
            far.line(c)
        for c in NO_LINES:
            self.assertEqual(far.closed(c), [-2])

    def test_before_a_line_is_opened(self):
        self.stands(Far(), 1, 1, 1, 1)

    def test_each_line_by_itself(self):
        for c in range(4):
            far = Far()
            far.line(c)
            self.stands(far, *[0 if other == c else 1 for other in range(4)])

    def test_opening_what_is_no_line(self):
        for c in NO_LINES:
            far = Far()
            far.line(c)
            self.stands(far, 1, 1, 1, 1)

    def test_from_the_opening_to_work(self):
        far = Far()
        far.line(1)
        self.stands(far, 1, 0, 1, 1)
        far.recv(1, login(0x81)[:50])
        self.stands(far, 1, 0, 1, 1)
        far.recv(1, login(0x81)[50:])
        self.stands(far, 1, 0, 1, 1)
        far.recv(1, login(0x87, ()))
        self.stands(far, 1, 0, 1, 1)
        far.recv(1, packet(head([64, 0x80], tag=1)))
        self.stands(far, 1, 0, 1, 1)

    def test_at_work(self):
        peer = self.peer(c=3)
        self.stands(peer.far, 1, 1, 1, 0)
        peer.take(peer.command(0xA0, [0], 512))
        peer.take(peer.ping()[:20])
        self.stands(peer.far, 1, 1, 1, 0)

    def test_by_a_wrong_packet_ahead_of_work(self):
        for row in (head([0x03, 0x87]), head([0xC3, 0x87]), head([0x40]), head([0x43, 0x87, 0, 0, 1]),
                    head([0x43, 0x87], data=8193)):
            far = Far()
            far.line(0)
            far.line(2)
            far.recv(2, row[:47])
            self.stands(far, 0, 1, 0, 1)
            self.assertEqual(far.recv(2, row[47:]), [0])
            self.stands(far, 0, 1, 1, 1)

    def test_by_a_wrong_packet_at_work(self):
        for lead in ([0x43], [0x03], [0x80], [0, 0, 0, 0, 1]):
            peer = self.peer()
            other = Peer(self, peer.far, 1)
            other.expect(head(lead))
            self.stands(peer.far, 0, 1, 1, 1)

    def test_by_a_wrong_sum(self):
        peer = self.peer("HeaderDigest=CRC32C", "DataDigest=CRC32C")
        row = peer.ping(data=[1, 2, 3])
        row[-1] ^= 1
        peer.expect(row[:-1])
        self.stands(peer.far, 0, 1, 1, 1)
        peer.expect(row[-1:])
        self.stands(peer.far, 1, 1, 1, 1)

    def test_by_wrong_data(self):
        peer = self.peer()
        peer.take(peer.command(0xA0, [0], 512))
        peer.expect(peer.data([1] * 511, 1, 0, 0, True))
        self.stands(peer.far, 1, 1, 1, 1)

    def test_by_a_refused_login(self):
        for row, detail in ((login(0xC7), 0), (login(lead3=1), 5), (login(tsih=1), 10), (login(0x8C), 0),
                            (login(rows=()), 7), (login(rows=NAMES + ("SessionType=Discovery",)), 9),
                            (login(rows=NAMES[:1]), 7), (login(rows=NAMES[:1] + ("TargetName=x",)), 3),
                            (login(rows=NAMES + ("AuthMethod=CHAP",)), 1)):
            far = Far()
            far.line(0)
            self.assertEqual(far.recv(0, row[:-1]), [0])
            self.stands(far, 0, 1, 1, 1)
            self.assertEqual(far.recv(0, row[-1:])[37:39], [2, detail])
            self.stands(far, 1, 1, 1, 1)

    def test_by_a_later_login(self):
        far = Far()
        far.line(0)
        far.recv(0, login(0x81))
        self.stands(far, 0, 1, 1, 1)
        far.recv(0, login(0x87, NAMES[:1]))
        self.stands(far, 1, 1, 1, 1)

    def test_by_a_logout(self):
        for why, told in ((0, 1), (1, 1), (2, 0), (3, 0)):
            peer = self.peer(c=2)
            peer.take(peer.logout(why))
            self.stands(peer.far, 1, 1, told, 1)

    def test_not_by_a_logout_out_of_turn(self):
        peer = self.peer()
        peer.number += 1
        peer.expect(peer.logout(at_once=False))
        self.stands(peer.far, 0, 1, 1, 1)

    def test_not_where_5_is_answered(self):
        peer = self.peer()
        row = peer.logout()
        self.assertEqual(peer.far.recv(0, row, 47), [-5])
        self.stands(peer.far, 0, 1, 1, 1)
        peer.take(row, 48)
        self.stands(peer.far, 1, 1, 1, 1)

    def test_opened_again(self):
        peer = self.peer()
        peer.take(peer.logout())
        self.assertEqual(peer.far.recv(0, login()), [-9])
        self.stands(peer.far, 1, 1, 1, 1)
        peer.far.line(0)
        self.stands(peer.far, 0, 1, 1, 1)

    def test_begin_that_comes_anew(self):
        far = Far()
        for c in range(4):
            far.line(c)
        self.stands(far, 0, 0, 0, 0)
        far.begin()
        self.stands(far, 1, 1, 1, 1)


class Tasks(Case):
    what = block_command(0x2A, 0, 1)

    def wait(self, peer, *tags, size=512):
        for tag in tags:
            told = peer.take(peer.command(0xA0, self.what, size, tag=tag))
            self.assertEqual([header[0] for header, data in told], [0x31])

    def stands(self, far, *told):
        """What waits on the lines 0 to 3, one behind another."""
        self.assertEqual([far.tasks(c) for c in range(len(told))], [[each] for each in told])

    def test_form_of_what_is_given_back(self):
        self.assertEqual(answers([0, 5, 0, 1, 0, 5, 0, 5, -1]), [1, 0, 1, -9, 1, 0, 1, 0, 1, -2])

    def test_lines_that_are_none(self):
        far = Far()
        for c in NO_LINES:
            self.assertEqual(far.tasks(c), [-2])
        for c in range(4):
            far.line(c)
        for c in NO_LINES:
            self.assertEqual(far.tasks(c), [-2])

    def test_lines_that_are_closed(self):
        self.stands(Far(), -9, -9, -9, -9)
        far = Far()
        far.line(2)
        self.stands(far, -9, -9, 0, -9)

    def test_lines_that_were_closed(self):
        peer = self.peer()
        self.wait(peer, 1, 2)
        peer.take(peer.logout())
        self.stands(peer.far, -9)
        peer.far.line(0)
        peer.far.recv(0, login(0xC7))
        self.stands(peer.far, -9)
        peer.far.line(0)
        peer.far.recv(0, [255] * 48)
        self.stands(peer.far, -9)

    def test_none_from_the_opening_to_work(self):
        far = Far()
        far.line(0)
        self.stands(far, 0)
        far.recv(0, login(0x81)[:60])
        self.stands(far, 0)
        far.recv(0, login(0x81)[60:])
        self.stands(far, 0)
        far.recv(0, login(0x87, ()))
        self.stands(far, 0)

    def test_asked_for(self):
        peer = self.peer()
        for tag in range(8):
            self.stands(peer.far, tag, -9, -9, -9)
            self.wait(peer, tag)
        self.stands(peer.far, 8)
        told = peer.take(peer.command(0xA0, self.what, 512, tag=8))
        self.assertEqual(told[0][0][:4], [0x21, 0x82, 0, 0x28])
        self.stands(peer.far, 8)

    def test_unasked(self):
        peer = self.peer("InitialR2T=No", "FirstBurstLength=600")
        peer.expect(peer.command(0x20, block_command(0x2A, 0, 2), 1024))
        self.stands(peer.far, 1)
        peer.expect(peer.data([1] * 100, NOBODY, 0, 0))
        self.stands(peer.far, 1)
        peer.expect(peer.data([1] * 500, NOBODY, 1, 100, True), peer.asked(1, 0, 600, 424))
        self.stands(peer.far, 1)
        peer.expect(peer.data([1] * 424, 1, 0, 600, True), peer.status(asked=1))
        self.stands(peer.far, 0)

    def test_unasked_alone(self):
        peer = self.peer("InitialR2T=No")
        peer.expect(peer.command(0x20, self.what, 512, data=[1] * 12))
        peer.expect(peer.command(0x20, self.what, 512, tag=2))
        self.stands(peer.far, 2)
        peer.expect(peer.data([1] * 500, NOBODY, 0, 12, True), peer.status())
        self.stands(peer.far, 1)

    def test_by_bursts(self):
        peer = self.peer("MaxBurstLength=512")
        self.wait(peer, 1, size=1024)
        peer.expect(peer.data([1] * 512, 1, 0, 0, True), peer.asked(2, 1, 512, 512))
        self.stands(peer.far, 1)
        peer.expect(peer.data([1] * 200, 2, 0, 512))
        self.stands(peer.far, 1)
        peer.expect(peer.data([1] * 312, 2, 1, 712, True), peer.wrong(5, 0x24, 1024, asked=2))
        self.stands(peer.far, 0)

    def test_done_in_any_order(self):
        peer = self.peer()
        self.wait(peer, 1, 2, 3)
        for left, number in ((2, 2), (1, 3), (0, 1)):
            peer.take(peer.data([1] * 512, number, 0, 0, True, tag=number))
            self.stands(peer.far, left)

    def test_a_command_that_is_half_there(self):
        peer = self.peer()
        row = peer.command(0xA0, self.what, 512, data=[1] * 100)
        peer.expect(row[:-1])
        self.stands(peer.far, 0)
        peer.expect(row[-1:], peer.asked(1, 0, 100, 412))
        self.stands(peer.far, 1)
        row = peer.data([1] * 412, 1, 0, 100, True)
        peer.expect(row[:-1])
        self.stands(peer.far, 1)
        peer.expect(row[-1:], peer.status(asked=1))
        self.stands(peer.far, 0)

    def test_commands_that_do_not_wait(self):
        peer = self.peer()
        peer.take(peer.command(0x80, [0]))
        peer.take(peer.command(0xC0, block_command(0x28, 0, 1), 512))
        peer.take(peer.command(0xA0, self.what, 512, data=[1] * 512))
        peer.take(peer.command(0xA0, block_command(0x2A, 0, 0), 0))
        peer.take(peer.command(0xE0, self.what, 512))
        peer.take(peer.command(0xA0, self.what, 65537))
        peer.number += 1
        peer.expect(peer.command(0xA0, self.what, 512))
        self.stands(peer.far, 0)

    def test_where_it_is_not_the_disk(self):
        peer = self.peer()
        peer.take(peer.command(0xA0, self.what, 512, where=ELSEWHERE))
        self.stands(peer.far, 1)
        peer.take(peer.data([1] * 512, 1, 0, 0, True))
        self.stands(peer.far, 0)

    def test_a_tag_in_use(self):
        peer = self.peer()
        self.wait(peer, 1)
        self.assertEqual(peer.take(peer.command(0xA0, self.what, 512))[0][0][:3], [0x3F, 0x80, 4])
        self.stands(peer.far, 1)

    def test_given_up_one_by_one(self):
        peer = self.peer()
        self.wait(peer, 1, 2, 3)
        for about, left in ((2, 2), (2, 2), (4, 2), (3, 1), (1, 0), (1, 0)):
            peer.take(peer.manage(1, about))
            self.stands(peer.far, left)

    def test_given_up_all_of_the_session(self):
        peer = self.peer()
        other = Peer(self, peer.far, 1)
        self.wait(peer, 1, 2, 3)
        self.wait(other, 1, 2)
        peer.take(peer.manage(2))
        self.stands(peer.far, 0, 2, -9, -9)

    def test_given_up_from_another_line(self):
        for function in (5, 6):
            peer = self.peer()
            other = Peer(self, peer.far, 1)
            third = Peer(self, peer.far, 2)
            peer.far.line(3)
            self.wait(peer, 1, 2, 3)
            self.wait(other, 1, 2)
            self.stands(peer.far, 3, 2, 0, 0)
            third.take(third.manage(function))
            self.stands(peer.far, 0, 0, 0, 0)
            self.wait(other, 1)
            self.stands(peer.far, 0, 1, 0, 0)

    def test_other_lines_cannot_give_up_by_tag(self):
        peer = self.peer()
        other = Peer(self, peer.far, 1)
        self.wait(peer, 1)
        other.take(other.manage(1, 1))
        other.take(other.manage(2))
        self.stands(peer.far, 1, 0)

    def test_other_functions_give_nothing_up(self):
        peer = self.peer()
        self.wait(peer, 1, 2)
        for function in (0, 3, 4, 7, 8):
            peer.take(peer.manage(function, 1))
            self.stands(peer.far, 2)

    def test_each_line_by_itself(self):
        first = self.peer()
        peers = [first] + [Peer(self, first.far, c) for c in (1, 2, 3)]
        for peer, many in zip(peers, (1, 0, 3, 2)):
            self.wait(peer, *range(many))
        self.stands(first.far, 1, 0, 3, 2)
        peers[2].take(peers[2].logout())
        self.stands(first.far, 1, 0, -9, 2)

    def test_opened_again(self):
        peer = self.peer()
        self.wait(peer, 1, 2)
        peer.far.line(0)
        self.stands(peer.far, 0)

    def test_as_before_where_5_is_answered(self):
        peer = self.peer()
        other = Peer(self, peer.far, 1)
        self.wait(peer, 1)
        self.wait(other, 1)
        for row in (peer.command(0xA0, self.what, 512, tag=2), peer.data([1] * 512, 1, 0, 0, True),
                    peer.manage(1, 1), peer.manage(2), peer.manage(5)):
            self.assertEqual(peer.far.recv(0, row, 47), [-5])
            self.stands(peer.far, 1, 1)

    def test_begin_that_comes_anew(self):
        peer = self.peer()
        self.wait(peer, 1)
        peer.far.begin()
        self.stands(peer.far, -9, -9, -9, -9)
        peer.far.line(0)
        self.stands(peer.far, 0, -9, -9, -9)


class Blocks(Case):
    def test_form_of_what_is_given_back(self):
        self.assertEqual(answers([0, 4, 0, 4, 2048]), [1, 0, 513] + EMPTY + [1, -2])

    def test_blocks_that_are_none(self):
        peer = self.peer()
        peer.write(0, [1] * 512)
        peer.write(2047, [1] * 512)
        for lba in NO_BLOCKS:
            self.assertEqual(peer.far.block(lba), [-2])

    def test_never_written(self):
        far = Far()
        for lba in (0, 1, 255, 256, 1024, 2046, 2047):
            self.assertEqual(far.block(lba), EMPTY)

    def test_the_first_and_the_last(self):
        peer = self.peer()
        peer.write(0, OCTETS[:512])
        peer.write(2047, OCTETS[512:1024])
        self.assertEqual(peer.far.block(0), block_of(OCTETS[:512]))
        self.assertEqual(peer.far.block(2047), block_of(OCTETS[512:1024]))
        self.assertEqual(peer.far.block(1), EMPTY)
        self.assertEqual(peer.far.block(2046), EMPTY)

    def test_several_at_once(self):
        peer = self.peer()
        peer.write(300, OCTETS)
        for step in range(4):
            self.assertEqual(peer.far.block(300 + step), block_of(OCTETS[step * 512:step * 512 + 512]))
        self.assertEqual(peer.far.block(299), EMPTY)
        self.assertEqual(peer.far.block(304), EMPTY)

    def test_written_over(self):
        peer = self.peer()
        peer.write(300, OCTETS)
        peer.write(301, [255] * 512)
        self.assertEqual(peer.far.block(300), block_of(OCTETS[:512]))
        self.assertEqual(peer.far.block(301), block_of([255] * 512))
        self.assertEqual(peer.far.block(302), block_of(OCTETS[1024:1536]))
        peer.write(301, [0] * 512)
        self.assertEqual(peer.far.block(301), EMPTY)

    def test_written_on_one_line_while_another_is_at_work(self):
        peer = self.peer()
        other = Peer(self, peer.far, 3)
        other.expect(other.command(0xA0, block_command(0x2A, 8, 1), 512), other.asked(1, 0, 0, 512))
        peer.write(7, OCTETS[:512])
        self.assertEqual(peer.far.block(7), block_of(OCTETS[:512]))
        self.assertEqual(peer.far.block(8), EMPTY)
        other.expect(other.data([3] * 512, 1, 0, 0, True), other.status(asked=1))
        self.assertEqual(peer.far.block(7), block_of(OCTETS[:512]))
        self.assertEqual(peer.far.block(8), block_of([3] * 512))
        self.assertEqual(other.read(7, 1), OCTETS[:512])

    def test_not_there_till_all_data_are(self):
        peer = self.peer()
        peer.expect(peer.command(0xA0, block_command(0x2A, 5, 2), 1024, data=[1] * 512), peer.asked(1, 0, 512, 512))
        peer.expect(peer.data([2] * 511, 1, 0, 512))
        self.assertEqual(peer.far.block(5), EMPTY)
        peer.expect(peer.data([2], 1, 1, 1023, True), peer.status(asked=1))
        self.assertEqual(peer.far.block(5), block_of([1] * 512))
        self.assertEqual(peer.far.block(6), block_of([2] * 512))

    def test_given_up(self):
        peer = self.peer()
        peer.take(peer.command(0xA0, block_command(0x2A, 5, 1), 512, data=[1] * 511))
        peer.take(peer.manage(1, 1))
        peer.expect(peer.data([1], 1, 0, 511, True))
        self.assertEqual(peer.far.block(5), EMPTY)

    def test_what_went_wrong_is_not_there(self):
        peer = self.peer(anew=True)
        for first, many, where, complaint in ((5, 1, [0] * 8, ANEW), (5, 2, [0] * 8, (5, 0x24)),
                                              (2048, 1, [0] * 8, (5, 0x21)), (5, 1, ELSEWHERE, (5, 0x25))):
            row = peer.command(0xA0, block_command(0x2A, first, many), 512, data=[1] * 512, where=where)
            peer.expect(row, peer.wrong(*complaint, rest=512))
        for lba in (0, 5, 6, 2047):
            self.assertEqual(peer.far.block(lba), EMPTY)

    def test_partly_beyond_the_disk(self):
        peer = self.peer()
        peer.expect(peer.command(0xA0, block_command(0x2A, 2047, 2), 1024, data=[1] * 1024),
                    peer.wrong(5, 0x21, 1024))
        self.assertEqual(peer.far.block(2047), EMPTY)

    def test_not_there_where_5_is_answered(self):
        peer = self.peer()
        peer.write(9, [9] * 512)
        row = peer.command(0xA0, block_command(0x2A, 9, 2), 1024, data=[1] * 1024)
        row += peer.ping()
        for most in (0, 47, 48, 95):
            self.assertEqual(peer.far.recv(0, row, most), [-5])
            self.assertEqual(peer.far.block(9), block_of([9] * 512))
            self.assertEqual(peer.far.block(10), EMPTY)
        peer.take(row, 96)
        self.assertEqual(peer.far.block(9), block_of([1] * 512))
        self.assertEqual(peer.far.block(10), block_of([1] * 512))

    def test_there_though_the_line_is_closed_behind_it(self):
        peer = self.peer()
        row = peer.command(0xA0, block_command(0x2A, 9, 1), 512, data=[1] * 512)
        peer.take(row + [255] * 48)
        self.assertEqual(peer.far.closed(0), [1])
        self.assertEqual(peer.far.block(9), block_of([1] * 512))
        peer.far.line(0)
        self.assertEqual(peer.far.block(9), block_of([1] * 512))

    def test_there_when_all_begins_anew(self):
        peer = self.peer()
        peer.write(9, OCTETS[:512])
        peer.take(peer.manage(6))
        self.assertEqual(peer.far.block(9), block_of(OCTETS[:512]))

    def test_begin_that_comes_anew(self):
        peer = self.peer()
        peer.write(0, OCTETS)
        peer.write(2047, [1] * 512)
        peer.far.begin()
        for lba in (0, 1, 2, 3, 2047):
            self.assertEqual(peer.far.block(lba), EMPTY)

    def test_the_same_as_is_read(self):
        peer = self.peer("HeaderDigest=CRC32C", "DataDigest=CRC32C", "MaxRecvDataSegmentLength=512")
        peer.write(1000, OCTETS)
        for lba in range(999, 1005):
            self.assertEqual(peer.far.block(lba), block_of(peer.read(lba, 1)))
