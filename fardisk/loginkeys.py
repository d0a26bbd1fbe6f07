"""The keys of a login: how they stand in its data, and what is answered to each."""

from fardisk.octets import text_of

LONGEST_KEY = 63
LONGEST_VALUE = 255
EQUALS = 61

NAMES_OF_FIRST = ("InitiatorName", "SessionType", "TargetName")
SUMS = ("HeaderDigest", "DataDigest")
CHOICES = ("InitialR2T", "ImmediateData")
ALWAYS_YES = ("DataPDUInOrder", "DataSequenceInOrder")

# The least and the greatest number that each may say.
NUMBER_KEYS = {
    "MaxRecvDataSegmentLength": (512, 16777215),
    "MaxBurstLength": (512, 16777215),
    "FirstBurstLength": (512, 16777215),
    "MaxOutstandingR2T": (1, 65535),
    "MaxConnections": (1, 65535),
    "ErrorRecoveryLevel": (0, 2),
    "DefaultTime2Wait": (0, 3600),
    "DefaultTime2Retain": (0, 3600),
}

OWN_LIMIT = 8192
LONGEST_BURST = 262144
LONGEST_FIRST_BURST = 65536
SHORTEST_WAIT = 2

REJECT = "Reject"


# The texts between the zeros, or None where the last one has no zero behind it.
def rows_of(data):
    rows = []
    row = []
    for octet in data:
        if octet == 0:
            rows.append(row)
            row = []
        else:
            row.append(octet)
    if row:
        return None
    return rows


# A key and its value, or None where they aren't as told.
def pair_of(row):
    if EQUALS not in row:
        return None
    at = row.index(EQUALS)
    key = text_of(row[:at])
    value = text_of(row[at + 1:])
    if not key.isalnum() or len(key) > LONGEST_KEY or len(value) > LONGEST_VALUE:
        return None
    return (key, value)


# All keys with their values in order, or None where one isn't as told.
def pairs_of(data):
    rows = rows_of(data)
    if rows is None:
        return None
    pairs = [pair_of(row) for row in rows]
    if None in pairs:
        return None
    return pairs


# The number that a value says, or None.
def number_said(value):
    if not value.isdigit() or len(value) > 9:
        return None
    if value[0] == "0" and len(value) > 1:
        return None
    return int(value)


def answer_number(key, value, settings):
    bounds = NUMBER_KEYS[key]
    said = number_said(value)
    if said is None or not bounds[0] <= said <= bounds[1]:
        return REJECT
    if key == "MaxRecvDataSegmentLength":
        settings[key] = said
        return str(OWN_LIMIT)
    if key == "MaxBurstLength":
        settings[key] = min(said, LONGEST_BURST)
        return str(settings[key])
    if key == "FirstBurstLength":
        settings[key] = min(said, LONGEST_FIRST_BURST)
        return str(settings[key])
    if key == "DefaultTime2Wait":
        return str(max(said, SHORTEST_WAIT))
    if key in ("MaxOutstandingR2T", "MaxConnections"):
        return "1"
    return "0"


def answer_sums(key, value, settings):
    for name in value.split(","):
        if name in ("CRC32C", "None"):
            settings[key] = name
            return name
    return REJECT


def answer_choice(key, value, settings):
    if value not in ("Yes", "No"):
        return REJECT
    if key in ALWAYS_YES:
        return "Yes"
    settings[key] = value
    return value


# What is answered to a key, or None where nothing is; the settings change with it.
def answer_key(key, value, settings):
    if key in NAMES_OF_FIRST or key == "InitiatorAlias":
        return None
    if key == "AuthMethod":
        return "None"
    if key in SUMS:
        return answer_sums(key, value, settings)
    if key in CHOICES or key in ALWAYS_YES:
        return answer_choice(key, value, settings)
    if key in NUMBER_KEYS:
        return answer_number(key, value, settings)
    return "NotUnderstood"
