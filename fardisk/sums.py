"""Sums of headers and data: CRC-32C."""

ALL_ONES = 0xFFFFFFFF

# What four bits that are pushed out leave behind: half an octet at a time
# keeps the table short enough to be looked over.
HALVES = (
    0x00000000, 0x105EC76F, 0x20BD8EDE, 0x30E349B1,
    0x417B1DBC, 0x5125DAD3, 0x61C69362, 0x7198540D,
    0x82F63B78, 0x92A8FC17, 0xA24BB5A6, 0xB21572C9,
    0xC38D26C4, 0xD3D3E1AB, 0xE330A81A, 0xF36E6F75,
)


def crc32c(octets):
    rest = ALL_ONES
    for octet in octets:
        rest = rest ^ octet
        rest = (rest >> 4) ^ HALVES[rest & 15]
        rest = (rest >> 4) ^ HALVES[rest & 15]
    return rest ^ ALL_ONES


# A sum is the one number here that stands with its lowest octet first.
def sum_of(octets):
    value = crc32c(octets)
    return [value & 255, value >> 8 & 255, value >> 16 & 255, value >> 24]
