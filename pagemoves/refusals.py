"""What a call may be refused for: one error class for each refusal."""


class WrongText(ValueError):
    pass


class WrongNumber(ValueError):
    pass


class NoSuchBox(ValueError):
    pass


class WrongKind(ValueError):
    pass


class NotNow(ValueError):
    pass
