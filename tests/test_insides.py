"""What no list of calls is long enough to reach."""

import unittest

from fardisk.disk import Disk
from fardisk.session import Session
from fardisk.turn import Turn, new_header


class AtFirst(unittest.TestCase):
    def test_the_first_burst(self):
        self.assertEqual(Session(0).first_burst(), 65536)


class GoingRound(unittest.TestCase):
    def test_numbers_to_ask_under(self):
        session = Session(0)
        self.assertEqual([session.new_number(), session.new_number()], [1, 2])
        session.last_asked = 0xFFFFFFFD
        self.assertEqual([session.new_number(), session.new_number()], [0xFFFFFFFE, 1])

    def test_the_count(self):
        session = Session(0)
        session.count = 0xFFFFFFFF
        turn = Turn(Disk(), [session], 0, 1000)
        turn.send_counted(new_header(0x20, 0x80), [])
        turn.send_counted(new_header(0x20, 0x80), [])
        self.assertEqual(turn.sent[24:28], [255] * 4)
        self.assertEqual(turn.sent[72:76], [0] * 4)
        self.assertEqual(session.count, 1)


if __name__ == "__main__":
    unittest.main()
