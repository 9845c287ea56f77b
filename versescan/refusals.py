"""The refusals: an error of its own for each, which bears the number that is answered."""


class Refusal(Exception):
    def __init__(self, number):
        Exception.__init__(self)
        self.number = number


class NotAsTold(Refusal):
    def __init__(self):
        Refusal.__init__(self, -1)


class NoSuchMetre(Refusal):
    def __init__(self):
        Refusal.__init__(self, -2)


class TooManyMetres(Refusal):
    def __init__(self):
        Refusal.__init__(self, -5)


class NoneThere(Refusal):
    def __init__(self):
        Refusal.__init__(self, -6)
