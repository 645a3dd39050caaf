"""Why a step can't be done: an error for each reason."""


class Stops(Exception):
    pass


class NoSuchInstruction(Exception):
    pass


class NoSuchPlace(Exception):
    pass


class NoSuchFrame(Exception):
    pass


class OfNothing(Exception):
    pass


class NoInstructionThere(Exception):
    pass
