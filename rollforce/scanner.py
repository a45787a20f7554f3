"""Reading a text from the left, up to its fault."""

from rollforce.refusals import TextFault

LINE_END = 10
BLANK = 32
DIGIT_ZERO = 48
DIGIT_NINE = 57
LETTER_A = 97
LETTER_Z = 122
LETTERS = "abcdefghijklmnopqrstuvwxyz"


class Scanner:
    """A text and the place up to which it has been read."""

    def __init__(self, text):
        self.text = text
        self.place = 0

    def at_end(self):
        return self.place == len(self.text)

    def sees_between(self, low, high):
        return not self.at_end() and low <= self.text[self.place] <= high

    def sees(self, byte):
        return self.sees_between(byte, byte)

    def expect(self, byte):
        if not self.sees(byte):
            raise TextFault(self.place)
        self.place += 1

    def expect_letters(self, letters):
        for letter in letters:
            self.expect(ord(letter))

    def take_number(self, low, high):
        first = self.place
        value = 0
        while self.sees_between(DIGIT_ZERO, DIGIT_NINE):
            # A number may be as long as the text: past its range it need not grow.
            if value <= high:
                value = value * 10 + self.text[self.place] - DIGIT_ZERO
            self.place += 1
        digits = self.place - first
        if digits == 0 or not low <= value <= high:
            raise TextFault(first)
        if digits > 1 and self.text[first] == DIGIT_ZERO:
            raise TextFault(first)
        return value

    def take_word(self):
        letters = []
        while self.sees_between(LETTER_A, LETTER_Z):
            letters.append(LETTERS[self.text[self.place] - LETTER_A])
            self.place += 1
        return "".join(letters)
