"""A session: what an open line keeps, from its opening until it is closed."""

from fardisk.tasks import NOBODY

WORK = 3

AT_FIRST = {
    "HeaderDigest": "None",
    "DataDigest": "None",
    "InitialR2T": "Yes",
    "ImmediateData": "Yes",
    "MaxRecvDataSegmentLength": 8192,
    "MaxBurstLength": 262144,
    "FirstBurstLength": 65536,
}


class Session:
    def __init__(self, line):
        self.line = line
        self.closed = False
        # Octets that don't make a whole packet yet.
        self.held = []
        # None until the first login; then where the logins are; then WORK.
        self.stage = None
        self.count = 1
        self.command_number = 0
        self.last_asked = 0
        self.anew = True
        self.settings = dict(AT_FIRST)
        self.seen_keys = {}
        self.tasks = {}

    def twin(self):
        other = Session(self.line)
        other.closed = self.closed
        other.held = list(self.held)
        other.stage = self.stage
        other.count = self.count
        other.command_number = self.command_number
        other.last_asked = self.last_asked
        other.anew = self.anew
        other.settings = dict(self.settings)
        other.seen_keys = dict(self.seen_keys)
        other.tasks = self.twin_tasks()
        return other

    def twin_tasks(self):
        twins = {}
        for tag, task in self.tasks.items():
            twins[tag] = task.twin()
        return twins

    def close(self):
        self.closed = True

    def at_work(self):
        return self.stage == WORK

    def header_sums(self):
        return self.at_work() and self.settings["HeaderDigest"] == "CRC32C"

    def data_sums(self):
        return self.at_work() and self.settings["DataDigest"] == "CRC32C"

    def all_asked(self):
        return self.settings["InitialR2T"] == "Yes"

    def data_with_commands(self):
        return self.settings["ImmediateData"] == "Yes"

    def their_limit(self):
        return self.settings["MaxRecvDataSegmentLength"]

    def burst(self):
        return self.settings["MaxBurstLength"]

    def first_burst(self):
        return min(self.settings["FirstBurstLength"], self.burst())

    # The highest number is no number to ask under: it says that nobody asked.
    def new_number(self):
        self.last_asked = self.last_asked + 1
        if self.last_asked == NOBODY:
            self.last_asked = 1
        return self.last_asked

    def give_up_all(self):
        self.tasks = {}
