"""Bytes, words and lines: how a text is cut up, whatever its lines mean."""

from flipboards.faults import Fault, NOT_ENDED, WRONG_BYTE, WRONG_FORM, WRONG_WORD

NL = 10
BLANK = 32
LAST_SIGN = 126
MOST_NAME_BYTES = 12
NO_NUMBER = -1


def spelled(word):
    """The bytes of a written word, in the form in which a line keeps its words."""
    return tuple([ord(sign) for sign in word])


def is_letter(byte):
    return byte >= ord("a") and byte <= ord("z")


def is_digit(byte):
    return byte >= ord("0") and byte <= ord("9")


def is_name(word):
    if len(word) > MOST_NAME_BYTES or not is_letter(word[0]):
        return False
    for byte in word:
        if not (is_letter(byte) or is_digit(byte) or byte == ord("_")):
            return False
    return True


def number_of(word):
    """The number that a word tells, or NO_NUMBER, which lies out of all bounds."""
    if word[0] == ord("0") and len(word) > 1:
        return NO_NUMBER
    number = 0
    for byte in word:
        if not is_digit(byte):
            return NO_NUMBER
        number = number * 10 + byte - ord("0")
    return number


class Line:
    """One line's words, each behind its place, taken from left to right.

    at is the place of the word taken last: what is wrong with a word is told there.
    """

    def __init__(self, words, end):
        self.words = words
        self.end = end
        self.taken = 0
        self.at = end

    def has_more(self):
        return self.taken < len(self.words)

    def comes(self, keyword):
        """Whether the next word is there and is the keyword; takes nothing."""
        return self.has_more() and self.words[self.taken][1] == spelled(keyword)

    def take(self):
        if not self.has_more():
            raise Fault(WRONG_WORD, self.end)
        word = self.words[self.taken]
        self.taken += 1
        self.at = word[0]
        return word[1]

    def take_keyword(self, keyword):
        if self.take() != spelled(keyword):
            raise Fault(WRONG_WORD, self.at)

    def take_ending(self, keyword):
        """Whether the keyword of an optional ending is there; no other word may be."""
        if not self.has_more():
            return False
        self.take_keyword(keyword)
        return True

    def take_name(self):
        word = self.take()
        if not is_name(word):
            raise Fault(WRONG_FORM, self.at)
        return word

    def take_number(self, least, most):
        number = number_of(self.take())
        if number < least or number > most:
            raise Fault(WRONG_FORM, self.at)
        return number

    def finish(self):
        if self.has_more():
            self.take()
            raise Fault(WRONG_WORD, self.at)


def find_end(text, start):
    """The place of the NL that ends the line which begins at start."""
    for place in range(start, len(text)):
        if text[place] == NL:
            return place
    raise Fault(NOT_ENDED, len(text))


def check_bytes(text, start, end):
    for place in range(start, end):
        byte = text[place]
        if byte < BLANK or byte > LAST_SIGN:
            raise Fault(WRONG_BYTE, place)
        if byte == BLANK and (place == start or text[place - 1] == BLANK or place + 1 == end):
            raise Fault(WRONG_BYTE, place)


def split_words(text, start, end):
    """The words of a line whose bytes are right, each behind its place."""
    words = []
    first = start
    for place in range(start, end):
        if text[place] == BLANK:
            words.append((first, tuple(text[first:place])))
            first = place + 1
    # An empty line has no word at all, not an empty one.
    if first < end:
        words.append((first, tuple(text[first:end])))
    return words


def read_line(text, start):
    end = find_end(text, start)
    check_bytes(text, start, end)
    return Line(split_words(text, start, end), end)
