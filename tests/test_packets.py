"""Packets: wrong ones, sums, counts, filling."""

from fardisk.sums import crc32c, sum_of
from tests.far_end import NOBODY, Case, Far, block_command, crc_bit_by_bit, head, login, packet

SUMS = ("HeaderDigest=CRC32C", "DataDigest=CRC32C")
SIZES = (0, 1, 2, 3, 4, 5, 8191, 8192)


class Sums(Case):
    def test_known_sums(self):
        self.assertEqual(crc32c([0] * 32), 0x8A9136AA)
        self.assertEqual(crc32c([255] * 32), 0x62A8AB43)
        self.assertEqual(crc32c(list(range(32))), 0x46DD794E)
        self.assertEqual(crc32c(list(range(31, -1, -1))), 0x113FDB5C)
        self.assertEqual(crc32c(list(b"123456789")), 0xE3069283)
        self.assertEqual(crc32c([]), 0)

    def test_lowest_octet_first(self):
        self.assertEqual(sum_of([0] * 32), [0xAA, 0x36, 0x91, 0x8A])

    def test_every_octet(self):
        for octet in range(256):
            self.assertEqual(sum_of([octet, 255 - octet]), crc_bit_by_bit([octet, 255 - octet]))


class WrongAtLogin(Case):
    def expect_closed(self, octets, before=()):
        far = Far()
        far.line(0)
        for row in before:
            self.assertGreater(far.recv(0, row)[0], 0)
        self.assertEqual(far.recv(0, octets[:-1]), [0])
        self.assertEqual(far.recv(0, []), [0])
        self.assertEqual(far.recv(0, octets[-1:]), [0])
        self.assertEqual(far.recv(0, []), [-9])

    def test_all_but_a_login(self):
        for kind in (0, 1, 2, 3, 4, 5, 6, 0x40, 0x41, 0x42, 0x44, 0x45, 0x46, 0x23, 0x63, 0x80, 0xC3, 255):
            self.expect_closed(head([kind, 0x83]))
            self.expect_closed(head([kind, 0x83]), [login(0)])

    def test_byte_4(self):
        for octet in (1, 128, 255):
            self.expect_closed(head([0x43, 0x83, 0, 0, octet]))

    def test_more_than_8192_of_data(self):
        self.expect_closed(head([0x43, 0x83], data=8193))
        self.expect_closed(head([0x43, 0x83], data=0xFFFFFF))

    def test_8192_of_data_are_allowed(self):
        rows = ["InitiatorName=a", "TargetName=iqn.2026-11.example:disk"]
        size = sum(len(row) + 1 for row in rows)
        while size < 8192:
            room = min(255 + 6, 8192 - size)
            rows.append(("K%03d=" % len(rows)).ljust(room - 1, "v"))
            size += room
        octets = login(rows=rows)
        self.assertEqual(octets[5:8], [0, 32, 0])
        far = Far()
        far.line(0)
        self.assertEqual(far.recv(0, octets[:-1]), [0])
        self.assertEqual(far.recv(0, octets[-1:])[37:39], [0, 0])

    def test_wrong_behind_a_right_one_the_answer_still_goes(self):
        far = Far()
        far.line(0)
        told = far.recv(0, login() + head([0x43]))
        self.assertGreater(told[0], 0)
        self.assertEqual(far.recv(0, []), [-9])

    def test_sums_are_not_there_before_work(self):
        far = Far()
        far.line(0)
        rows = ("InitiatorName=a", "TargetName=iqn.2026-11.example:disk") + SUMS
        told = far.recv(0, login(0x81, rows))
        size = int.from_bytes(bytes(told[6:9]), "big")
        self.assertEqual(told[0], 48 + size + -size % 4)
        self.assertEqual(far.recv(0, login(0x87, ()))[0], 48)
        ping = packet(head([64, 0x80], tag=1), [1], True, True)
        self.assertEqual(far.recv(0, ping)[0], 60)


class WrongAtWork(Case):
    def expect_closed_at(self, peer, octets, size):
        """Closed without a word with the octet that makes it so many, and not ahead of it."""
        peer.expect(octets[:size - 1])
        self.assertEqual(peer.far.recv(0, []), [0])
        peer.expect_closed(octets[size - 1:size])

    def test_a_login(self):
        for kind in (3, 0x43):
            self.expect_closed_at(self.peer(), head([kind, 0x83], data=100), 48)
            self.expect_closed_at(self.peer(*SUMS), head([kind, 0x83]), 48)

    def test_byte_0_from_128_on(self):
        for kind in (128, 0xC0, 0xC1, 0x83, 255):
            self.expect_closed_at(self.peer(), head([kind, 0x80]), 48)

    def test_byte_4(self):
        self.expect_closed_at(self.peer(), head([64, 0x80, 0, 0, 1]), 48)

    def test_too_many_data(self):
        for size in (8193, 16384, 0xFFFFFF):
            self.expect_closed_at(self.peer(), head([64, 0x80], data=size), 48)
            self.expect_closed_at(self.peer(*SUMS), head([64, 0x80], data=size), 48)

    def test_sum_of_a_header(self):
        for bit in range(0, 32, 5):
            peer = self.peer("HeaderDigest=CRC32C")
            octets = peer.ping(data=[1, 2, 3])
            octets[48 + bit // 8] ^= 1 << bit % 8
            self.expect_closed_at(peer, octets, 52)

    def test_sum_of_data(self):
        for rows in (("DataDigest=CRC32C",), SUMS):
            for at in (-1, -2, -3, -4, -5, -6, -8):
                peer = self.peer(*rows)
                octets = peer.ping(data=[1, 2, 3, 4, 5])
                octets[at] ^= 16
                self.expect_closed_at(peer, octets, len(octets))

    def test_sums_of_what_is_passed_over_are_looked_at(self):
        peer = self.peer(*SUMS)
        octets = peer.make(head([1, 0x80], n24=5), [1, 2, 3])
        octets[-1] ^= 1
        self.expect_closed_at(peer, octets, len(octets))

    def test_right_sums(self):
        for rows in ((), SUMS[:1], SUMS[1:], SUMS):
            for size in SIZES:
                peer = self.peer(*rows)
                data = [number % 251 for number in range(size)]
                peer.expect(peer.ping(data=data), peer.counted([0x20, 0x80], data, tag=9, n20=NOBODY), most=9000)

    def test_filling_is_not_looked_at_but_summed(self):
        for rows in ((), SUMS):
            peer = self.peer(*rows)
            octets = peer.make(head([64, 0x80], tag=9), [1], filling=99)
            peer.expect(octets, peer.counted([0x20, 0x80], [1], tag=9, n20=NOBODY))

    def test_a_packet_is_whole_with_its_filling(self):
        peer = self.peer()
        octets = peer.ping(data=[1])
        peer.expect(octets[:51])
        peer.expect(octets[51:], peer.counted([0x20, 0x80], [1], tag=9, n20=NOBODY))

    def test_data_of_8192_with_sums_come_and_go(self):
        peer = self.peer(*SUMS)
        row = [number % 256 for number in range(8192)]
        peer.write(100, row)
        self.assertEqual(peer.read(100, 16, 9000), row)


class Counts(Case):
    def test_up_behind_counted_answers_alone(self):
        peer = self.peer()
        self.assertEqual((peer.count, peer.number), (3, 101))
        peer.expect(peer.ping(), peer.counted([0x20, 0x80], tag=9, n20=NOBODY))
        peer.expect(peer.command(0xA0, block_command(0x2A, 0, 1), 512), peer.asked(1, 0, 0, 512))
        peer.expect(peer.command(0xA0, block_command(0x2A, 0, 1), 512, tag=2), peer.asked(2, 0, 0, 512, tag=2))
        self.assertEqual(peer.count, 4)
        octets = peer.make(head([4, 0]))
        peer.expect(octets, peer.rejected(5, octets))
        peer.expect(peer.manage(1, about=1), peer.counted([0x22, 0x80], tag=77))
        peer.expect(peer.logout(9), peer.counted([0x26, 0x80, 2], tag=78, n40=0x20000))
        self.assertEqual(peer.count, 7)
        peer.ready()

    def test_numbers_go_round(self):
        peer = self.peer(number=2 ** 32 - 3)
        for step in range(4):
            peer.ready()
        self.assertEqual(peer.number, 2)

    def test_the_highest_number_7_on_goes_round(self):
        peer = self.peer(number=2 ** 32 - 8, anew=True)
        octets = peer.command(0x80, [0])
        told = peer.take(octets)
        self.assertEqual(told[0][0][28:36], [255, 255, 255, 249, 0, 0, 0, 0])

    def test_counts_of_logins(self):
        far = Far()
        far.line(2)
        first = far.recv(2, login(0, number=0xFFFFFFFE))
        self.assertEqual(first[25:37], [0, 0, 0, 1, 255, 255, 255, 254, 0, 0, 0, 5])
        second = far.recv(2, login(0x81, (), number=3))
        self.assertEqual(second[25:37], [0, 0, 0, 2, 255, 255, 255, 254, 0, 0, 0, 5])
        third = far.recv(2, login(0x87, (), number=4))
        self.assertEqual(third[25:37], [0, 0, 0, 3, 255, 255, 255, 254, 0, 0, 0, 5])
