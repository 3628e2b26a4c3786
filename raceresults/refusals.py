"""The refusals: an error class for each, with the number that is answered for it."""


class Refusal(Exception):
    def __init__(self, code):
        self.code = code


class TooLong(Refusal):
    def __init__(self):
        Refusal.__init__(self, -2)


class NoCard(Refusal):
    def __init__(self):
        Refusal.__init__(self, -8)


class Faulty(Refusal):
    def __init__(self, kind, place):
        Refusal.__init__(self, -6)
        self.kind = kind
        self.place = place


class NoRace(Refusal):
    def __init__(self):
        Refusal.__init__(self, -1)


class NoPool(Refusal):
    def __init__(self):
        Refusal.__init__(self, -4)


class NoNumber(Refusal):
    def __init__(self):
        Refusal.__init__(self, -1)


class NotTold(Refusal):
    def __init__(self):
        Refusal.__init__(self, -3)


class NoWinner(Refusal):
    def __init__(self):
        Refusal.__init__(self, -4)


class TooMany(Refusal):
    def __init__(self):
        Refusal.__init__(self, -9)
