"""The refusals: one class each, all under CrewError and none under another one."""


class CrewError(ValueError):
    # Each class below writes out a called() of its own, since no class can be asked for its name here.
    def called(self):
        return "CrewError"


class BadTown(CrewError):
    def called(self):
        return "BadTown"


class BadSome(CrewError):
    def called(self):
        return "BadSome"


class BadQuarters(CrewError):
    def called(self):
        return "BadQuarters"


class BadParting(CrewError):
    def called(self):
        return "BadParting"


class BadCount(CrewError):
    def called(self):
        return "BadCount"


class BadWages(CrewError):
    def called(self):
        return "BadWages"


class BadDealing(CrewError):
    def called(self):
        return "BadDealing"


class BadLimits(CrewError):
    def called(self):
        return "BadLimits"


class BadTree(CrewError):
    def called(self):
        return "BadTree"


class BadDeed(CrewError):
    def called(self):
        return "BadDeed"


class BadText(CrewError):
    def called(self):
        return "BadText"


class TooSmall(CrewError):
    def called(self):
        return "TooSmall"


class TooLarge(CrewError):
    def called(self):
        return "TooLarge"
