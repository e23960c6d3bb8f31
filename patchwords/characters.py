"""UTF-8: whether bytes are of it, and the bytes of one character."""

# Each row: the first byte, from and to; how many bytes follow it; the first of these, from and to.
# The narrow rows keep out what is longer than it has to be, surrogates, and what lies above 10FFFFH.
FORMS = (
    (0x00, 0x7F, 0, 0x00, 0x00),
    (0xC2, 0xDF, 1, 0x80, 0xBF),
    (0xE0, 0xE0, 2, 0xA0, 0xBF),
    (0xE1, 0xEC, 2, 0x80, 0xBF),
    (0xED, 0xED, 2, 0x80, 0x9F),
    (0xEE, 0xEF, 2, 0x80, 0xBF),
    (0xF0, 0xF0, 3, 0x90, 0xBF),
    (0xF1, 0xF3, 3, 0x80, 0xBF),
    (0xF4, 0xF4, 3, 0x80, 0x8F),
)


def is_utf8(source):
    place = 0
    while place < len(source):
        size = character_size(source, place)
        if size == 0:
            return False
        place += size
    return True


# 0 says that no character begins there.
def character_size(source, place):
    for lowest, highest, following, next_lowest, next_highest in FORMS:
        if lowest <= source[place] <= highest:
            tail = source[place + 1:place + 1 + following]
            if len(tail) == following and is_tail(tail, next_lowest, next_highest):
                return 1 + following
    return 0


def is_tail(tail, next_lowest, next_highest):
    if len(tail) == 0:
        return True
    return next_lowest <= tail[0] <= next_highest and all([0x80 <= sign <= 0xBF for sign in tail])


def character_bytes(number):
    if number < 0x80:
        return [number]
    if number < 0x800:
        return [0xC0 + number // 0x40, tail_byte(number)]
    if number < 0x10000:
        return [0xE0 + number // 0x1000, tail_byte(number // 0x40), tail_byte(number)]
    return [0xF0 + number // 0x40000, tail_byte(number // 0x1000), tail_byte(number // 0x40), tail_byte(number)]


def tail_byte(number):
    return 0x80 + number % 0x40
