"""A text that is read from its beginning to its end."""

from shapedots.refusals import WrongText


class Reader:
    def __init__(self, signs):
        self.signs = signs
        self.place = 0

    def ended(self):
        return self.place == len(self.signs)

    def sees_one(self, allowed):
        return not self.ended() and self.signs[self.place] in allowed

    def skip(self, word):
        if not self.signs.startswith(word, self.place):
            return False
        self.place += len(word)
        return True

    def need(self, word):
        if not self.skip(word):
            raise WrongText()

    def need_end(self):
        if not self.ended():
            raise WrongText()

    def take_one(self, allowed):
        if not self.sees_one(allowed):
            raise WrongText()
        self.place += 1
        return self.signs[self.place - 1]

    def take_all(self, allowed):
        first = self.place
        while self.sees_one(allowed):
            self.place += 1
        return self.signs[first:self.place]

    def take_up_to(self, word):
        first = self.place
        found = self.signs.find(word, first)
        if found < 0:
            raise WrongText()
        self.place = found + len(word)
        return self.signs[first:found]
