"""The refusals that a call can end with, each with the code that is answered."""


class Refusal(Exception):
    def __init__(self, code):
        self.code = code


class NoInstance(Refusal):
    def __init__(self):
        Refusal.__init__(self, -11)


class Missing(Refusal):
    def __init__(self):
        Refusal.__init__(self, -2)


class Malformed(Refusal):
    def __init__(self):
        Refusal.__init__(self, -22)


class NoPath(Refusal):
    def __init__(self):
        Refusal.__init__(self, -33)


class TooLarge(Refusal):
    def __init__(self):
        Refusal.__init__(self, -75)
