"""The refusals: each stands straight under AskError, so that none of them is taken for another one."""


class AskError(ValueError):
    pass


class WrongSize(AskError):
    pass


class NoAsk(AskError):
    pass


class NoWord(AskError):
    pass


class Twice(AskError):
    pass


class WrongAnswers(AskError):
    pass


class Unlike(AskError):
    pass


class NoPlace(AskError):
    pass


class NoText(AskError):
    pass


class WrongPrices(AskError):
    pass


class WrongWeights(AskError):
    pass


class NoPlan(AskError):
    pass
