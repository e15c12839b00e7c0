"""The words of a text, byte by byte: what can stand where by the form alone."""

# A word's place here is its line's kind.
FIRST_WORDS = ("pin", "crank", "dyad", "rider")

LINE_FEED = 10
BLANK = 32
MINUS = 45
SLASH = 47
ZERO = 48
NINE = 57
CAPITAL_A = 65
CAPITAL_Z = 90
# Stands for what is behind the last byte; no byte is so great.
END = 256

MOST_DIGITS_OF_NUMBER = 3
MOST_DIGITS_OF_NAME = 2


# The text is no linkage's; spot is how many bytes stand before what's at fault.
class Fault(Exception):
    def __init__(self, spot):
        Exception.__init__(self, "no text of a linkage")
        self.spot = spot


# A text and how far it has been read; its methods read on, or raise Fault.
class Scanner:
    def __init__(self, text):
        self.text = text
        self.spot = 0

    def ahead(self):
        if self.spot < len(self.text):
            return self.text[self.spot]
        return END

    def digit_ahead(self):
        return ZERO <= self.ahead() <= NINE

    def skip(self, byte):
        if self.ahead() != byte:
            raise Fault(self.spot)
        self.spot += 1

    # The kind of line that the word stands for.
    def first_word(self):
        for kind, word in enumerate(FIRST_WORDS):
            # No two of the words begin with the same letter.
            if self.ahead() == ord(word[0]):
                for letter in word:
                    self.skip(ord(letter))
                return kind
        raise Fault(self.spot)

    def name(self):
        start = self.spot
        if not CAPITAL_A <= self.ahead() <= CAPITAL_Z:
            raise Fault(self.spot)
        self.spot += 1
        if self.ahead() == ZERO:
            raise Fault(self.spot)
        self.digits(MOST_DIGITS_OF_NAME)
        return tuple(self.text[start:self.spot])

    # The number that the digits ahead make; the first beyond so many can't stand there.
    def digits(self, most):
        start = self.spot
        value = 0
        while self.digit_ahead():
            if self.spot - start == most:
                raise Fault(self.spot)
            value = 10 * value + self.ahead() - ZERO
            self.spot += 1
        return value

    def number_without_sign(self):
        if not self.digit_ahead():
            raise Fault(self.spot)
        return self.digits(1 if self.ahead() == ZERO else MOST_DIGITS_OF_NUMBER)

    def number(self):
        if self.ahead() != MINUS:
            return self.number_without_sign()
        self.skip(MINUS)
        if self.ahead() == ZERO:
            raise Fault(self.spot)
        return -self.number_without_sign()
