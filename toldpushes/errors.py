"""The errors of the package, in four families."""


class PlanError(ValueError):
    """What was passed is not what is wanted."""


class InvalidKnown(PlanError):
    """Not a list of unlike arrows of the plan."""

    def __init__(self, value):
        self.value = value


class InvalidLot(PlanError):
    """Not a lot of the plan."""

    def __init__(self, value):
        self.value = value


class InvalidNumber(PlanError):
    """Not a NUMBER, or a bottom that is 0."""

    def __init__(self, value):
        self.value = value


class InvalidNumbers(PlanError):
    """Not a list of such NUMBERS as are wanted."""

    def __init__(self, value):
        self.value = value


class InvalidPlan(PlanError):
    """Not a Plan, or not such a one as is wanted."""

    def __init__(self, value):
        self.value = value


class InvalidPushes(PlanError):
    """Not a table with 0 wherever the plan has no arrow."""

    def __init__(self, value):
        self.value = value


class InvalidSize(PlanError):
    """Not a COUNT to 6."""

    def __init__(self, value):
        self.value = value


class InvalidTable(PlanError):
    """Not such a table as is wanted."""

    def __init__(self, value):
        self.value = value


class InvalidTelling(PlanError):
    """Not a telling of the plan."""

    def __init__(self, value):
        self.value = value


class InvalidThing(PlanError):
    """Not a thing of the plan."""

    def __init__(self, value):
        self.value = value


class DividedByZero(PlanError):
    """A NUMBER was to be divided by 0."""

    def __init__(self):
        pass


class InvalidArrows(PlanError):
    """Not such a list of arrows as is wanted."""

    def __init__(self, value):
        self.value = value


class InvalidClaim(PlanError):
    """Not a claim."""

    def __init__(self, value):
        self.value = value


class InvalidCommand(PlanError):
    """Not a command."""

    def __init__(self, value):
        self.value = value


class InvalidGoals(PlanError):
    """Not a list of one NUMBER for each row."""

    def __init__(self, value):
        self.value = value


class InvalidLines(PlanError):
    """No list (None), or no deed at this position."""

    def __init__(self, position):
        self.position = position


class InvalidMany(PlanError):
    """Not a COUNT within its limits."""

    def __init__(self, value):
        self.value = value


class InvalidOrder(PlanError):
    """Not a list of all things, each once."""

    def __init__(self, value):
        self.value = value


class InvalidPaper(PlanError):
    """Not a paper of the claim or of its contrary."""

    def __init__(self, value):
        self.value = value


class InvalidRoad(PlanError):
    """Not a road of the plan."""

    def __init__(self, value):
        self.value = value


class InvalidRows(PlanError):
    """Not rows, or not such rows as are wanted."""

    def __init__(self, value):
        self.value = value


class InvalidSort(PlanError):
    """Not the word of a sort."""

    def __init__(self, value):
        self.value = value


class InvalidText(PlanError):
    """No written form: 0 of what is no string, else the wrong line."""

    def __init__(self, line):
        self.line = line


class InvalidTies(PlanError):
    """Not such a list of ties as is wanted."""

    def __init__(self, value):
        self.value = value


class InvalidValue(PlanError):
    """Not a value of the sort."""

    def __init__(self, value):
        self.value = value


class MissingError(LookupError):
    """Nothing is kept or noted under what was passed."""


class UnknownLabel(MissingError):
    """Under this label no claim is noted."""

    def __init__(self, value):
        self.value = value


class UnknownName(MissingError):
    """Under this name nothing of the wanted kind is kept."""

    def __init__(self, value):
        self.value = value


class StateError(RuntimeError):
    """Each value is valid, but they do not let what was asked for."""


class CommandFailed(StateError):
    """The command at this position failed."""

    def __init__(self, position):
        self.position = position


class LabelTaken(StateError):
    """Under this label a claim is noted already."""

    def __init__(self, label):
        self.label = label


class NameTaken(StateError):
    """Under this name something is kept already."""

    def __init__(self, name):
        self.name = name


class NoneThere(StateError):
    """There is no telling with this table."""

    def __init__(self):
        pass


class NotAbove(StateError):
    """The table is not above nought."""

    def __init__(self):
        pass


class NotBarred(StateError):
    """The lot is not barred."""

    def __init__(self):
        pass


class NotClosed(StateError):
    """The lot is not closed."""

    def __init__(self):
        pass


class NotEnough(StateError):
    """The known arrows are not enough."""

    def __init__(self):
        pass


class NotFull(StateError):
    """The plan is not full."""

    def __init__(self):
        pass


class NotPlain(StateError):
    """The plan is not plain."""

    def __init__(self):
        pass


class NotSymmetric(StateError):
    """The table is not symmetric."""

    def __init__(self):
        pass


class NotUndone(StateError):
    """No table undoes the table."""

    def __init__(self):
        pass


class NothingToRedo(StateError):
    """No deed that was taken back can be done again."""

    def __init__(self):
        pass


class NothingToUndo(StateError):
    """No deed can be taken back."""

    def __init__(self):
        pass


class UnlikeSizes(StateError):
    """Two tables are of unlike sizes."""

    def __init__(self):
        pass


class LimitError(ArithmeticError):
    """More than the limit lets."""


class TooMany(LimitError):
    """There would be more of these than the limit."""

    def __init__(self, what, limit):
        self.what = what
        self.limit = limit
