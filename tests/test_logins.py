"""Logins: the steps, the refusals and their order, the keys."""

from tests.far_end import NAMES, NOBODY, Case, Far, Peer, apart, block_command, head, key_octets, login, packet

NAME = "InitiatorName=iqn.2026-11.example:far"
DISK_NAME = "TargetName=iqn.2026-11.example:disk"


def answer_head(marks, data=0, tsih=0, tag=7, count=1, number=100, group=0, detail=0):
    return head([0x23, marks], data=data, where=[1, 2, 3, 4, 5, 6, 0, tsih], tag=tag,
                n24=count, n28=number, n32=number + 7, more=[(36, [group, detail])])


class Logins(Case):
    def setUp(self):
        self.far = Far()
        self.far.line(0)

    def told(self, octets, c=0):
        answer = self.far.recv(c, octets)
        self.assertEqual(answer[0], len(answer) - 1)
        return apart(answer[1:])

    def accepted(self, octets, marks, rows, count=1, c=0, tsih=0):
        data = key_octets(*rows)
        self.assertEqual(self.told(octets, c), [(answer_head(marks, len(data), tsih, count=count), data)])

    def refused(self, octets, detail, count=1):
        self.assertEqual(self.told(octets), [(answer_head(0, count=count, group=2, detail=detail), [])])
        self.assertEqual(self.far.recv(0, []), [-9])
        self.far = Far()
        self.far.line(0)


class Steps(Logins):
    def at_work(self, c=0):
        ping = packet(head([64, 0x80], tag=1), [1])
        return self.far.recv(c, ping)[:2] == [52, 0x20]

    def test_at_once_to_work(self):
        for c in range(4):
            for marks in (0x83, 0x87):
                self.far.line(c)
                self.accepted(login(marks), marks, ["TargetPortalGroupTag=1"], c=c, tsih=c + 1)
                self.assertTrue(self.at_work(c))

    def test_all_steps(self):
        first = ["TargetPortalGroupTag=1"]
        self.accepted(login(0x00), 0x00, first)
        self.accepted(login(0x00, ()), 0x00, [], 2)
        self.accepted(login(0x81, ()), 0x81, [], 3)
        self.accepted(login(0x04, ()), 0x04, [], 4)
        self.accepted(login(0x87, ()), 0x87, [], 5, tsih=1)
        self.assertTrue(self.at_work())

    def test_from_0_to_work_in_two(self):
        self.accepted(login(0x00), 0x00, ["TargetPortalGroupTag=1"])
        self.accepted(login(0x83, ()), 0x83, [], 2, tsih=1)
        self.assertTrue(self.at_work())

    def test_begin_at_1(self):
        self.accepted(login(0x04), 0x04, ["TargetPortalGroupTag=1"])
        self.accepted(login(0x87, ()), 0x87, [], 2, tsih=1)
        self.assertTrue(self.at_work())

    def test_wrong_steps_of_the_first(self):
        for marks in (0x01, 0x02, 0x03, 0x05, 0x07, 0x80, 0x82, 0x84, 0x85, 0x86):
            self.refused(login(marks), 0)

    def test_wrong_places_of_the_first(self):
        for marks in (0x08, 0x0C, 0x88, 0x8B, 0x8F):
            self.refused(login(marks), 0)

    def test_others_stand_where_they_are_led(self):
        for before, marks in ((0x00, 0x04), (0x00, 0x87), (0x81, 0x00), (0x81, 0x83), (0x81, 0x81),
                              (0x04, 0x00), (0x04, 0x83), (0x81, 0x0C), (0x00, 0x01)):
            self.told(login(before))
            self.refused(login(marks, ()), 0, count=2)

    def test_bits_that_must_be_0(self):
        for bit in (16, 32, 64, 48, 112):
            self.refused(login(0x83 | bit), 0)
            self.told(login(0x00))
            self.refused(login(0x83 | bit, ()), 0, count=2)

    def test_byte_3(self):
        for octet in (1, 255):
            self.refused(login(lead3=octet), 5)
            self.told(login(0x00))
            self.refused(login(0x83, (), lead3=octet), 5, count=2)

    def test_byte_2_is_not_looked_at(self):
        octets = login()
        octets[2] = 9
        self.accepted(octets, 0x83, ["TargetPortalGroupTag=1"], tsih=1)

    def test_bytes_14_15(self):
        for tsih in (1, 256, 65535):
            self.refused(login(tsih=tsih), 10)
            self.told(login(0x00))
            self.refused(login(0x83, (), tsih=tsih), 10, count=2)

    def test_order_of_refusals(self):
        bad = login(0x83 | 64, (), lead3=1, tsih=1, data=[1])
        self.refused(bad, 0)
        self.refused(login(0x8F, (), lead3=1, tsih=1, data=[1]), 5)
        self.refused(login(0x8F, (), tsih=1, data=[1]), 10)
        self.refused(login(0x8F, ()), 0)
        self.refused(login(0x80, ()), 0)
        self.refused(login(0x83, data=[1]), 0)
        self.refused(login(0x83, ("A=1", "A=1")), 0)
        self.refused(login(0x83, ("SessionType=x", "TargetName=x", "AuthMethod=x")), 7)
        self.refused(login(0x83, (NAME, "SessionType=x", "AuthMethod=x")), 9)
        self.refused(login(0x83, (NAME, "AuthMethod=x")), 7)
        self.refused(login(0x83, ("AuthMethod=x", NAME, "TargetName=x")), 3)
        self.refused(login(0x83, ("AuthMethod=x", NAME, DISK_NAME)), 1)

    def test_number_in_a_refused_answer_is_the_first_ones(self):
        told = self.told(login(0x83, (), number=77))
        self.assertEqual(told[0][0][28:36], [0, 0, 0, 77, 0, 0, 0, 84])

    def test_another_login_behind_a_refused_one_is_not_taken(self):
        told = self.told(login(0x83, ()) + login())
        self.assertEqual(len(told), 1)
        self.assertEqual(self.far.recv(0, login()), [-9])

    def test_tag_and_place_are_given_back(self):
        octets = packet(head([0x43, 0x83], where=[255, 254, 253, 252, 251, 250, 0, 0], tag=0xFEDCBA98,
                             n20=0x01020304), key_octets(*NAMES))
        header = self.told(octets)[0][0]
        self.assertEqual(header[8:24], [255, 254, 253, 252, 251, 250, 0, 1, 0xFE, 0xDC, 0xBA, 0x98, 0, 0, 0, 0])


class FormOfKeys(Logins):
    def test_not_as_told(self):
        names = key_octets(*NAMES)
        for row in (b"A", b"=1", b"A B=1", b"A-=1", b"A.b=1", b"A_=1", b"\xc4=1", b"A\xe9=1", b"A:=1", b"@=1",
                    b"[=1", b"`=1", b"{=1", b"/=1", b" A=1", b"", b"K" * 64 + b"=1", b"K=" + b"v" * 256):
            self.refused(login(data=names + key_octets(row)), 0)
            self.refused(login(data=key_octets(row) + names), 0)
        self.refused(login(data=names + list(b"A=1")), 0)
        self.refused(login(data=names[:-1]), 0)
        self.refused(login(data=names + [0]), 0)
        self.refused(login(data=[0] + names), 0)

    def test_as_told(self):
        for row, answer in ((b"K" * 63 + b"=1", "K" * 63 + "=NotUnderstood"), (b"K=", "K=NotUnderstood"),
                            (b"K=" + b"v" * 255, "K=NotUnderstood"), (b"K==", "K=NotUnderstood"),
                            (b"K=a=b", "K=NotUnderstood"),
                            (b"K=" + b"\xff" * 255, "K=NotUnderstood"), (b"09azAZ=\xff\x01 ", "09azAZ=NotUnderstood")):
            self.setUp()
            self.accepted(login(0, (NAME, DISK_NAME, row)), 0, ["TargetPortalGroupTag=1", answer])

    def test_later_keys_not_as_told(self):
        self.told(login(0x00))
        self.refused(login(0x00, data=[65]), 0, count=2)

    def test_a_key_a_second_time(self):
        self.refused(login(0, NAMES + (NAME,)), 0)
        self.refused(login(0, NAMES + ("X=1", "X=2")), 0)
        for row in ("X=1", "InitialR2T=No", "AuthMethod=None", "InitiatorAlias=a", "MaxConnections=0"):
            self.told(login(0, NAMES + (row,)))
            self.told(login(0, ()))
            self.refused(login(0, ("Y=1", row)), 0, count=3)

    def test_letters_great_and_small_differ(self):
        self.accepted(login(0, NAMES + ("X=1", "x=1", "initialr2t=No")), 0,
                      ["TargetPortalGroupTag=1", "X=NotUnderstood", "x=NotUnderstood", "initialr2t=NotUnderstood"])

    def test_keys_64_and_65_at_once(self):
        rows = NAMES + tuple("K%d=1" % number for number in range(62))
        self.accepted(login(0, rows), 0, ["TargetPortalGroupTag=1"]
                      + ["K%d=NotUnderstood" % number for number in range(62)])
        self.setUp()
        self.refused(login(0, rows + ("L=1",)), 0)

    def test_keys_64_and_65_in_several(self):
        self.told(login(0, NAMES + tuple("K%d=1" % number for number in range(50))))
        self.told(login(0, tuple("L%d=1" % number for number in range(11))))
        self.accepted(login(0, ("M=1",)), 0, ["M=NotUnderstood"], 3)
        self.refused(login(0, ("N=1",)), 0, count=4)

    def test_seen_keys_are_forgotten_by_the_next_session(self):
        self.told(login(0, NAMES + ("X=1",)))
        self.far.line(0)
        self.accepted(login(0, NAMES + ("X=1",)), 0, ["TargetPortalGroupTag=1", "X=NotUnderstood"])


class Names(Logins):
    def test_initiator_name(self):
        self.refused(login(rows=(DISK_NAME,)), 7)
        self.refused(login(rows=()), 7)
        for size, detail in ((0, 7), (224, 7), (255, 7), (256, 0)):
            self.refused(login(rows=("InitiatorName=" + "n" * size, DISK_NAME)), detail)
        for name in (b"n", b"n" * 223, b"\xff" * 223, b"\x01", b"=", b" "):
            self.accepted(login(0, (b"InitiatorName=" + name, DISK_NAME)), 0, ["TargetPortalGroupTag=1"])
            self.setUp()

    def test_sort_of_session(self):
        for value in ("Discovery", "normal", "Normal ", ""):
            self.refused(login(rows=NAMES + ("SessionType=" + value,)), 9)
        self.accepted(login(0, NAMES + ("SessionType=Normal",)), 0, ["TargetPortalGroupTag=1"])

    def test_target_name(self):
        self.refused(login(rows=(NAME,)), 7)
        for value in ("", "iqn.2026-11.example:disc", "iqn.2026-11.example:disk ", "IQN.2026-11.example:disk",
                      "iqn.2026-11.example:dis"):
            self.refused(login(rows=(NAME, "TargetName=" + value)), 3)
        self.refused(login(rows=(NAME, b"TargetName=iqn.2026-11.example\xbadisk")), 3)

    def test_order_of_names_does_not_matter(self):
        self.accepted(login(0, ("SessionType=Normal", DISK_NAME, "X=1", NAME)), 0,
                      ["TargetPortalGroupTag=1", "X=NotUnderstood"])

    def test_names_only_in_the_first(self):
        for row in ("InitiatorName=a", "SessionType=Normal"):
            rows = (NAME, DISK_NAME) if row.startswith("Sess") else (DISK_NAME, "InitiatorName=b")
            self.told(login(0, rows))
            self.refused(login(0, (row,)), 0, count=2)

    def test_session_sort_later_against_the_way_in_by_order(self):
        self.told(login(0))
        self.refused(login(0, ("AuthMethod=CHAP", "SessionType=Normal")), 1, count=2)
        self.told(login(0))
        self.refused(login(0, ("SessionType=Normal", "AuthMethod=CHAP")), 0, count=2)


class Keys(Logins):
    def answered(self, row, answer):
        """In the first login and in a later one."""
        key = row.split("=")[0]
        rows = [] if answer is None else [key + "=" + answer]
        self.setUp()
        self.accepted(login(0, NAMES + (row,)), 0, ["TargetPortalGroupTag=1"] + rows)
        self.setUp()
        self.told(login(0))
        self.accepted(login(0, (row,)), 0, rows, 2)

    def test_no_answer(self):
        self.answered("InitiatorAlias=me", None)

    def test_not_understood(self):
        for key in ("X", "TargetAlias", "OFMarker", "TargetPortalGroupTag", "headerdigest", "TaskReporting"):
            self.answered(key + "=1", "NotUnderstood")

    def test_way_in(self):
        for value in ("None", "CHAP,None", "None,CHAP", "A,None,B"):
            self.answered("AuthMethod=" + value, "None")
        for value in ("", "CHAP", "none", "None ", "NoneX", "CHAP;None"):
            self.setUp()
            self.refused(login(rows=NAMES + ("AuthMethod=" + value,)), 1)
            self.told(login(0))
            self.refused(login(0, ("AuthMethod=" + value,)), 1, count=2)

    def test_sums(self):
        for key in ("HeaderDigest", "DataDigest"):
            for value, answer in (("None", "None"), ("CRC32C", "CRC32C"), ("None,CRC32C", "None"),
                                  ("CRC32C,None", "CRC32C"), ("X,CRC32C", "CRC32C"), (",None", "None"),
                                  ("MD5", "Reject"), ("", "Reject"), ("crc32c", "Reject"), ("CRC32C ", "Reject")):
                self.answered(key + "=" + value, answer)

    def test_yes_and_no(self):
        for key in ("InitialR2T", "ImmediateData"):
            for value in ("Yes", "No"):
                self.answered(key + "=" + value, value)
        for key in ("DataPDUInOrder", "DataSequenceInOrder"):
            for value in ("Yes", "No"):
                self.answered(key + "=" + value, "Yes")
        for key in ("InitialR2T", "ImmediateData", "DataPDUInOrder", "DataSequenceInOrder"):
            for value in ("yes", "NO", "", "1", "Yes,No", "Yes "):
                self.answered(key + "=" + value, "Reject")

    def number(self, key, least, greatest, answer):
        middle = (least + greatest) // 2
        for value in (least, least + 1, middle, greatest - 1, greatest):
            self.answered("%s=%d" % (key, value), str(answer(value)))
        wrong = [greatest + 1, 10 ** 9, 10 ** 20, "", "x", "-1", "+1", "1.0", "0x200", " 600", "600 ", "1,2"]
        wrong += ["0%d" % middle, "00"] + ([least - 1] if least else [])
        for value in wrong:
            self.answered("%s=%s" % (key, value), "Reject")

    def test_numbers(self):
        self.number("MaxRecvDataSegmentLength", 512, 16777215, lambda value: 8192)
        self.number("MaxBurstLength", 512, 16777215, lambda value: min(value, 262144))
        self.number("FirstBurstLength", 512, 16777215, lambda value: min(value, 65536))
        self.number("MaxOutstandingR2T", 1, 65535, lambda value: 1)
        self.number("MaxConnections", 1, 65535, lambda value: 1)
        self.number("ErrorRecoveryLevel", 0, 2, lambda value: 0)
        self.number("DefaultTime2Wait", 0, 3600, lambda value: max(value, 2))
        self.number("DefaultTime2Retain", 0, 3600, lambda value: 0)

    def test_edges_of_the_lesser(self):
        for value in (262143, 262144, 262145):
            self.answered("MaxBurstLength=%d" % value, str(min(value, 262144)))
        for value in (65535, 65536, 65537):
            self.answered("FirstBurstLength=%d" % value, str(min(value, 65536)))
        for value in (1, 2, 3):
            self.answered("DefaultTime2Wait=%d" % value, str(max(value, 2)))

    def test_first_burst_is_answered_without_the_burst(self):
        self.accepted(login(0, NAMES + ("MaxBurstLength=512", "FirstBurstLength=4096")), 0,
                      ["TargetPortalGroupTag=1", "MaxBurstLength=512", "FirstBurstLength=4096"])

    def test_answers_in_the_order_of_keys(self):
        rows = ("X=1", NAME, "MaxBurstLength=1000", DISK_NAME, "InitiatorAlias=a", "AuthMethod=None", "A=1")
        self.accepted(login(0, rows), 0, ["TargetPortalGroupTag=1", "X=NotUnderstood", "MaxBurstLength=1000",
                                          "AuthMethod=None", "A=NotUnderstood"])


class WhatKeysDo(Case):
    def test_at_first(self):
        peer = self.peer()
        octets = peer.command(0x20, block_command(0x2A, 0, 1), 512)
        peer.expect(octets, peer.rejected(9, octets))
        peer.expect(peer.command(0xA0, block_command(0x2A, 0, 1), 512, data=[1] * 512), peer.status())
        told = peer.take(peer.command(0xC0, block_command(0x28, 0, 17), 17 * 512), 9000)
        self.assertEqual([len(data) for header, data in told], [8192, 512])

    def test_sums_each_by_itself(self):
        for rows in (("HeaderDigest=CRC32C",), ("DataDigest=CRC32C",), ("HeaderDigest=CRC32C", "DataDigest=None")):
            peer = self.peer(*rows)
            peer.write(0, [1, 2] * 256)
            self.assertEqual(peer.read(0, 1), [1, 2] * 256)

    def test_rejected_changes_nothing(self):
        peer = self.peer("HeaderDigest=X", "DataDigest=X", "InitialR2T=no", "ImmediateData=no",
                         "MaxRecvDataSegmentLength=511", "MaxBurstLength=511", "FirstBurstLength=511")
        octets = peer.command(0x20, block_command(0x2A, 0, 1), 512)
        peer.expect(octets, peer.rejected(9, octets))
        peer.expect(peer.command(0xA0, block_command(0x2A, 0, 4), 2048, data=[1] * 2048), peer.status())
        told = peer.take(peer.command(0xC0, block_command(0x28, 0, 17), 17 * 512), 9000)
        self.assertEqual([len(data) for header, data in told], [8192, 512])

    def test_keys_of_several_logins_hold_together(self):
        far = Far()
        far.line(1)
        far.recv(1, login(0, NAMES + ("ImmediateData=No",)))
        far.recv(1, login(0x83, ("InitialR2T=No", "MaxRecvDataSegmentLength=512")))
        told = far.recv(1, packet(head([64, 0x80], tag=1), [5] * 600))
        self.assertEqual(told[0], 48 + 512)
        octets = packet(head([65, 0xA0], n20=512), [1])
        self.assertEqual(far.recv(1, octets)[1:4], [0x3F, 0x80, 9])
        what = block_command(0x2A, 0, 1)
        self.assertEqual(far.recv(1, packet(head([65, 0x20], n20=512, more=[(32, what)]))), [0])

    def test_first_burst_is_at_work_no_more_than_the_burst(self):
        for rows in (("FirstBurstLength=4096", "MaxBurstLength=600"), ("MaxBurstLength=600",)):
            peer = self.peer("InitialR2T=No", *rows)
            octets = peer.command(0xA0, block_command(0x2A, 0, 2), 1024, data=[1] * 601)
            peer.expect(octets, peer.rejected(9, octets))
            peer.expect(peer.command(0x20, block_command(0x2A, 0, 2), 1024, data=[1] * 599))
            peer.expect(peer.data([2], NOBODY, 0, 599, True), peer.asked(1, 0, 600, 424))

    def test_another_session_keeps_its_own(self):
        peer = self.peer("MaxRecvDataSegmentLength=512", "ImmediateData=No")
        other = Peer(self, peer.far, 1)
        other.expect(other.command(0xA0, block_command(0x2A, 0, 1), 512, data=[1] * 512), other.status())
        octets = peer.command(0xA0, block_command(0x2A, 0, 1), 512, data=[1] * 512)
        peer.expect(octets, peer.rejected(9, octets))
