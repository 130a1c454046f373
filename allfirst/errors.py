"""The refusals. Each stands under AllError alone, so that taking one never takes another."""


class AllError(ValueError):
    pass


class TooMany(AllError):
    pass


class BadName(AllError):
    pass


class BadPlan(AllError):
    pass


class BadPart(AllError):
    pass


class TooLong(AllError):
    pass


class NoPlan(AllError):
    pass


class Unlike(AllError):
    pass


class BadRow(AllError):
    def __init__(self, row):
        self.row = row


class NoName(AllError):
    def __init__(self, row):
        self.row = row
