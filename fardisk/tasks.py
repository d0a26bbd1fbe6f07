"""A command, and the data that are collected for it if it writes."""

from fardisk.octets import number_at

# The number under which data come that weren't asked for; as a tag: none.
NOBODY = 0xFFFFFFFF


class Task:
    def __init__(self, header, data):
        self.marks = header[1]
        self.where = header[8:16]
        self.tag = number_at(header, 16, 4)
        self.size = number_at(header, 20, 4)
        self.what = header[32:48]
        self.data = list(data)
        # How often data were asked for.
        self.asked = 0
        # Of the data that may come now: under which number, up to where, and how many pieces came.
        self.number = NOBODY
        self.limit = len(data)
        self.pieces = 0

    def reads(self):
        return self.marks & 64 != 0

    def writes(self):
        return self.marks & 32 != 0

    def on_disk(self):
        return not any(self.where)

    def twin(self):
        other = Task([0] * 48, self.data)
        other.marks = self.marks
        other.where = self.where
        other.tag = self.tag
        other.size = self.size
        other.what = self.what
        other.asked = self.asked
        other.number = self.number
        other.limit = self.limit
        other.pieces = self.pieces
        return other

    # From here on data are awaited under this number, up to this place.
    def await_data(self, number, limit):
        self.number = number
        self.limit = limit
        self.pieces = 0
