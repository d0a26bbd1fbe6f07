"""Promise 3 over whole lists of calls: looks tell what was done, change nothing, and nothing is kept."""

import random

from fardisk.target import UnknownCall, answers
from tests.far_end import EMPTY, Case, block_command, block_of, head, login, packet, split_answers


class Play:
    """A disk at play: calls drawn by chance, and what a plain reckoning says they lead to."""

    def __init__(self, seed):
        self.source = random.Random(seed)
        self.calls = []
        self.begin()

    def begin(self):
        self.calls.append([0])
        self.blocks = {}
        self.lines = [None] * 4

    def recv(self, c, octets):
        self.calls.append([2, c, 2000, len(octets)] + octets)

    def log_in(self, c):
        self.calls.append([1, c])
        self.recv(c, login(0x87))
        self.recv(c, packet(head([0x41, 0x80], tag=0)))
        self.lines[c] = {"asked": 0, "waiting": {}}

    def write(self, c):
        line = self.lines[c]
        tag = self.source.randrange(12)
        lba = self.source.randrange(4)
        now = self.source.choice((0, 100, 512))
        octets = [self.source.randrange(256)] * 512
        what = block_command(0x2A, lba, 1)
        self.recv(c, packet(head([0x41, 0xA0], tag=tag, n20=512, more=[(32, what)]), octets[:now]))
        if tag in line["waiting"] or len(line["waiting"]) == 8:
            return
        if now == 512:
            self.blocks[lba] = octets
        else:
            line["asked"] += 1
            line["waiting"][tag] = (line["asked"], lba, octets, now)

    def give_data(self, c):
        waiting = self.lines[c]["waiting"]
        if waiting:
            tag = self.source.choice(sorted(waiting))
            number, lba, octets, now = waiting.pop(tag)
            self.recv(c, packet(head([5, 0x80], tag=tag, n20=number, n40=now), octets[now:]))
            self.blocks[lba] = octets

    def give_up(self, c):
        function = self.source.choice((1, 1, 2, 5, 6, 3))
        tag = self.source.randrange(12)
        self.recv(c, packet(head([0x42, 0x80 | function], tag=50, n20=tag)))
        if function == 1:
            self.lines[c]["waiting"].pop(tag, None)
        elif function == 2:
            self.lines[c]["waiting"].clear()
        elif function in (5, 6):
            for other, line in enumerate(self.lines):
                if line is not None:
                    line["waiting"].clear()
                    self.recv(other, packet(head([0x41, 0x80], tag=60)))

    def leave(self, c):
        row = packet(head([0x46, 0x80], tag=51)) if self.source.random() < 0.5 else [255] * 48
        self.recv(c, row)
        self.lines[c] = None

    def step(self):
        if self.source.random() < 0.02:
            return self.begin()
        c = self.source.randrange(4)
        if self.lines[c] is None:
            return self.log_in(c)
        return self.source.choice([self.write] * 6 + [self.give_data] * 3 + [self.give_up] + [self.leave])(c)

    def look(self):
        """One look, and what it is to answer."""
        call = self.source.choice((3, 4, 5))
        if call == 4:
            lba = self.source.choice((-1, 0, 1, 2, 3, 4, 2047, 2048))
            return [4, lba], [-2] if lba in (-1, 2048) else block_of(self.blocks.get(lba, [0] * 512))
        c = self.source.randrange(-1, 5)
        if not 0 <= c < 4:
            return [call, c], [-2]
        line = self.lines[c]
        if call == 3:
            return [call, c], [1 if line is None else 0]
        return [call, c], [-9 if line is None else len(line["waiting"])]


class AtPlay(Case):
    def run_calls(self, calls):
        self.assertLessEqual(len(calls), 400)
        row = sum(calls, [])
        self.assertLessEqual(len(row), 30000)
        given = split_answers(answers(row))
        self.assertEqual(len(given), len(calls))
        return given

    def test_looks_tell_what_was_done(self):
        for seed in range(40):
            play = Play(seed)
            expected = {}
            for turn in range(40):
                for look in range(6):
                    call, told = play.look()
                    expected[len(play.calls)] = told
                    play.calls.append(call)
                play.step()
            given = self.run_calls(play.calls)
            for place, told in expected.items():
                self.assertEqual(given[place], told, (seed, place, play.calls[place]))

    def test_looks_change_nothing(self):
        for seed in range(20):
            play = Play(seed)
            while len(play.calls) < 60:
                play.step()
            alone = self.run_calls(play.calls)
            looked = []
            for call in play.calls:
                looked += [call] + [play.look()[0] for look in range(5)]
            given = self.run_calls(looked)
            others = [given[place] for place, call in enumerate(looked) if call[0] < 3]
            self.assertEqual(sum(others, []), sum(alone, []))

    def test_looks_within_a_packet(self):
        peer = self.peer("HeaderDigest=CRC32C", "DataDigest=CRC32C")
        row = peer.command(0xA0, block_command(0x2A, 3, 1), 512, data=[1] * 512)
        answer = peer.status()
        for at in range(0, len(row), 50):
            for look in (3, 4, 5):
                peer.far.answer(look, 0)
                peer.far.answer(look, -5)
            peer.expect(row[at:at + 50], *([answer] if at + 50 >= len(row) else []))
        self.assertEqual(peer.far.block(3), block_of([1] * 512))


class WholeLists(Case):
    def calls(self):
        play = Play(99)
        while len(play.calls) < 50:
            play.step()
            play.calls.append(play.look()[0])
        return sum(play.calls, []) + [4, 0, 4, 1, 3, 0, 5, 0]

    def test_what_is_handed_in_stays_as_it_was(self):
        calls = self.calls()
        kept = list(calls)
        told = answers(calls)
        self.assertEqual(calls, kept)
        again = list(told)
        told[:] = [7] * len(told)
        self.assertEqual(answers(calls), again)

    def test_what_was_told_stays_as_it_was(self):
        calls = self.calls()
        told = answers(calls)
        kept = list(told)
        answers(calls)
        self.assertEqual(told, kept)

    def test_nothing_is_left_for_the_next(self):
        fresh = [0, 3, 0, 5, 0, 4, 0, 4, 3]
        told = [1, 0, 1, 1, 1, -9, 513] + EMPTY + [513] + EMPTY
        self.assertEqual(answers(fresh), told)
        answers(self.calls())
        self.assertEqual(answers(fresh), told)

    def test_only_whole_numbers_are_given_back(self):
        told = answers(self.calls() + [3, 3, 3, 4, 5, 3, 5, 4, 4, 2047, 4, -1])
        self.assertIs(type(told), list)
        self.assertEqual({type(number) for number in told}, {int})

    def test_the_longest_list_of_looks(self):
        self.assertEqual(answers([0] + [4, 2047] * 399), [1, 0] + ([513] + EMPTY) * 399)
        self.assertEqual(answers([0] + [3, 3] * 399), [1, 0] + [1, 1] * 399)

    def test_a_call_that_is_none(self):
        for call in (6, -1, 255):
            self.assertRaises(UnknownCall, answers, [0, call, 0])
