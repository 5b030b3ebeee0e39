"""What every packet is written with: whole numbers as printable bytes, and the letters."""

LETTER_S = 0x53
LETTER_F = 0x46
LETTER_D = 0x44
LETTER_Z = 0x5A
LETTER_B = 0x42
LETTER_Y = 0x59
LETTER_N = 0x4E
LETTER_E = 0x45

FIRST_PRINTABLE = 0x20
LAST_PRINTABLE = 0x7E


def to_mark(number):
    return number + FIRST_PRINTABLE


def from_mark(octet):
    return octet - FIRST_PRINTABLE


def text_octets(text):
    return [ord(sign) for sign in text]
