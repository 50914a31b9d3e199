"""A reader that goes through a text byte by byte and knows where it got stuck."""


class Stuck(ValueError):
    def __init__(self, place):
        self.place = place


class Reader:
    def __init__(self, given):
        self.given = given
        self.place = 0

    def at_end(self):
        return self.place >= len(self.given)

    def sees(self, sign):
        return not self.at_end() and self.given[self.place] == ord(sign)

    def sees_any(self, signs):
        return any([self.sees(sign) for sign in signs])

    def one_sign(self, signs):
        for number, sign in enumerate(signs):
            if self.sees(sign):
                self.place += 1
                return number
        raise Stuck(self.place)

    def expect(self, text):
        for sign in text:
            self.one_sign(sign)

    def one_word(self, words):
        # No word of a choice begins another one, so the first that's read whole is the one.
        left = list(words)
        told = 0
        while True:
            left = [word for word in left if self.sees(word[told])]
            if len(left) == 0:
                raise Stuck(self.place)
            self.place += 1
            told += 1
            if len(left[0]) == told:
                return words.index(left[0])

    def expect_end(self):
        if not self.at_end():
            raise Stuck(self.place)
