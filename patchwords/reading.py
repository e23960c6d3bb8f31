"""Reads the bytes of a document into a value, as patchwords.values tells of it."""
from patchwords.characters import character_bytes, is_utf8
from patchwords.refusals import NotDocument
from patchwords.signs import BACKSLASH, BLANK, BLANKS, CLOSE_LIST, CLOSE_MEMBERS, COLON, COMMA, LARGE_A, LARGE_F
from patchwords.signs import MINUS, OPEN_LIST, OPEN_MEMBERS, QUOTE, SMALL_A, SMALL_F, SMALL_U, ZERO
from patchwords.signs import is_digit, spelled
from patchwords.values import list_value, members_value, plain_value, text_value

DEEPEST_DOCUMENT = 32
LARGEST = 9223372036854775807
# No byte has this number, so it stands for the end of the bytes.
END = 256
WORDS = {"null": None, "true": True, "false": False}
# What stands behind a backslash, and the byte that is meant.
ESCAPES = {0x22: 0x22, 0x5C: 0x5C, 0x2F: 0x2F, 0x62: 0x08, 0x66: 0x0C, 0x6E: 0x0A, 0x72: 0x0D, 0x74: 0x09}


def read_document(source):
    return read_nested(source, DEEPEST_DOCUMENT)


def read_nested(source, deepest):
    if not is_utf8(source):
        raise NotDocument()
    reader = Reader(source, deepest)
    value = reader.read_value(0)
    reader.expect(END)
    return value


class Reader:
    def __init__(self, source, deepest):
        self.source = source
        self.deepest = deepest
        self.place = 0

    def peek(self):
        if self.place < len(self.source):
            return self.source[self.place]
        return END

    def take(self):
        sign = self.peek()
        self.place += 1
        return sign

    def take_if(self, wanted):
        if self.peek() != wanted:
            return False
        self.place += 1
        return True

    def expect(self, wanted):
        if self.take() != wanted:
            raise NotDocument()

    def skip_blanks(self):
        while self.peek() in BLANKS:
            self.place += 1

    # Takes the blanks on both sides too, so that its callers meet none around a value.
    def read_value(self, depth):
        self.skip_blanks()
        value = self.read_bare_value(depth)
        self.skip_blanks()
        return value

    def read_bare_value(self, depth):
        sign = self.peek()
        if sign == OPEN_LIST:
            return self.read_list(depth + 1)
        if sign == OPEN_MEMBERS:
            return self.read_members(depth + 1)
        if sign == QUOTE:
            return text_value(self.read_text())
        if sign == MINUS or is_digit(sign):
            return plain_value(self.read_number())
        return plain_value(self.read_word())

    def read_list(self, depth):
        self.enter(OPEN_LIST, depth)
        listed = []
        if self.take_if(CLOSE_LIST):
            return list_value(listed)
        while True:
            listed.append(self.read_value(depth))
            if self.take_if(CLOSE_LIST):
                return list_value(listed)
            self.expect(COMMA)

    def read_members(self, depth):
        self.enter(OPEN_MEMBERS, depth)
        members = {}
        if self.take_if(CLOSE_MEMBERS):
            return members_value(members)
        while True:
            name = self.read_name()
            if name in members:
                raise NotDocument()
            members[name] = self.read_value(depth)
            if self.take_if(CLOSE_MEMBERS):
                return members_value(members)
            self.expect(COMMA)

    def enter(self, opening, depth):
        if depth > self.deepest:
            raise NotDocument()
        self.expect(opening)
        self.skip_blanks()

    def read_name(self):
        self.skip_blanks()
        name = self.read_text()
        self.skip_blanks()
        self.expect(COLON)
        return name

    def read_text(self):
        self.expect(QUOTE)
        content = []
        sign = self.take()
        while sign != QUOTE:
            if sign < BLANK or sign == END:
                raise NotDocument()
            if sign == BACKSLASH:
                content.extend(self.read_escaped())
            else:
                content.append(sign)
            sign = self.take()
        return tuple(content)

    def read_escaped(self):
        sign = self.take()
        if sign == SMALL_U:
            return character_bytes(self.read_character())
        if sign not in ESCAPES:
            raise NotDocument()
        return [ESCAPES[sign]]

    def read_character(self):
        first = self.read_four_digits()
        if is_second_half(first):
            raise NotDocument()
        if not is_first_half(first):
            return first
        self.expect(BACKSLASH)
        self.expect(SMALL_U)
        second = self.read_four_digits()
        if not is_second_half(second):
            raise NotDocument()
        return 0x10000 + (first - 0xD800) * 0x400 + (second - 0xDC00)

    def read_four_digits(self):
        number = 0
        for count in range(4):
            number = number * 16 + digit_of_sixteen(self.take())
        return number

    def read_number(self):
        below_zero = self.take_if(MINUS)
        if self.take_if(ZERO):
            if below_zero:
                raise NotDocument()
            # Digits behind it are refused like all else that can't follow a value.
            return 0
        if below_zero:
            return -self.read_digits(LARGEST + 1)
        return self.read_digits(LARGEST)

    def read_digits(self, most):
        if not is_digit(self.peek()):
            raise NotDocument()
        number = 0
        while is_digit(self.peek()):
            number = number * 10 + self.take() - ZERO
            # Asked at each digit, so that a long row of them never makes a huge number.
            if number > most:
                raise NotDocument()
        return number

    def read_word(self):
        for word, value in WORDS.items():
            if self.source[self.place:self.place + len(word)] == spelled(word):
                self.place += len(word)
                return value
        raise NotDocument()


def is_first_half(number):
    return 0xD800 <= number <= 0xDBFF


def is_second_half(number):
    return 0xDC00 <= number <= 0xDFFF


def digit_of_sixteen(sign):
    if is_digit(sign):
        return sign - ZERO
    if SMALL_A <= sign <= SMALL_F:
        return sign - SMALL_A + 10
    if LARGE_A <= sign <= LARGE_F:
        return sign - LARGE_A + 10
    raise NotDocument()
