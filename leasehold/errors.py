"""What the program refuses, one class for each refusal."""


class LeaseError(ValueError):
    pass


class BadTerms(LeaseError):
    pass


class Back(LeaseError):
    pass


class NoKeeper(LeaseError):
    pass


class NotAsked(LeaseError):
    pass
