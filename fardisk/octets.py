"""Octets: lists of whole numbers from 0 to 255, and the numbers and texts that stand in them."""

# All signs that a known key or value is made of lie in this row, which begins at the comma.
SIGNS = ",-./0123456789:;<=>?@ABCDEFGHIJKLMNOPQRSTUVWXYZ[\\]^_`abcdefghijklmnopqrstuvwxyz"
FIRST_SIGN = 44


def number_at(octets, at, size):
    value = 0
    for octet in octets[at:at + size]:
        value = value * 256 + octet
    return value


def put_number(octets, at, size, value):
    left = value
    for step in range(size):
        octets[at + size - 1 - step] = left % 256
        left = left // 256


def put_octets(octets, at, row):
    for step, octet in enumerate(row):
        octets[at + step] = octet


def filled_size(size):
    return (size + 3) // 4 * 4


def filled(octets):
    return octets + [0] * (filled_size(len(octets)) - len(octets))


def octets_of(text):
    return [ord(sign) for sign in text]


# A foreign octet becomes a blank, so that a text is as long as its octets
# and yet is like no text that the program knows.
def sign_of(octet):
    place = octet - FIRST_SIGN
    if 0 <= place < len(SIGNS):
        return SIGNS[place]
    return " "


def text_of(octets):
    return "".join([sign_of(octet) for octet in octets])
