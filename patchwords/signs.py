"""The bytes that documents and pointers are told apart by, under plain names."""

BLANK = 0x20
BLANKS = (0x20, 0x09, 0x0A, 0x0D)
QUOTE = 0x22
BACKSLASH = 0x5C
COMMA = 0x2C
COLON = 0x3A
OPEN_LIST = 0x5B
CLOSE_LIST = 0x5D
OPEN_MEMBERS = 0x7B
CLOSE_MEMBERS = 0x7D
MINUS = 0x2D
SLASH = 0x2F
TILDE = 0x7E
ZERO = 0x30
NINE = 0x39
LARGE_A = 0x41
LARGE_F = 0x46
SMALL_A = 0x61
SMALL_F = 0x66
SMALL_U = 0x75


def is_digit(sign):
    return ZERO <= sign <= NINE


def spelled(word):
    return [ord(letter) for letter in word]
