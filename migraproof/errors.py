"""The errors of the package."""


class MigrationError(ValueError):
    """The base class of all errors of the package."""


class TextError(MigrationError):
    """A source cannot be read."""

    def __init__(self, place, reason):
        super().__init__(f"{reason} at {place}")
        self.place = place
        self.reason = reason


class DuplicateName(MigrationError):
    """A table, a column or a value is declared twice."""

    def __init__(self, name):
        super().__init__(f"{name} is declared twice")
        self.name = name


class UnknownName(MigrationError):
    """There is no such table or column."""

    def __init__(self, name):
        super().__init__(f"{name} is not known")
        self.name = name


class KindMismatch(MigrationError):
    """A comparison compares a text with a value."""

    def __init__(self, comparison):
        super().__init__(f"{comparison} compares a text with a value")
        self.comparison = comparison


class TooManyCases(MigrationError):
    """There are more candidates, records or rows than are listed."""

    def __init__(self, count):
        super().__init__(f"{count} are too many")
        self.count = count


class NotOptional(MigrationError):
    """A "when" rule names a table that is not optional."""

    def __init__(self, name):
        super().__init__(f"{name} is not optional")
        self.name = name


class GivenTwice(MigrationError):
    """Two rules of a script determine the same."""

    def __init__(self, name):
        super().__init__(f"{name} is given twice")
        self.name = name


class WrongKind(MigrationError):
    """The expression for a column can give a cell of the other kind."""

    def __init__(self, name):
        super().__init__(f"{name} can be given a cell of the wrong kind")
        self.name = name


class NotAssigned(MigrationError):
    """No rule of a script gives this column."""

    def __init__(self, name):
        super().__init__(f"{name} is not assigned")
        self.name = name


class InvalidRecord(MigrationError):
    """A record is not valid."""

    def __init__(self, key):
        super().__init__(f"the record is not valid, key {key!r}")
        self.key = key


class WrongMany(MigrationError):
    """There are not as many results as records."""

    def __init__(self, count):
        super().__init__(f"{count} results are required")
        self.count = count


class WrongResult(MigrationError):
    """A result has not the shape of the target."""

    def __init__(self, place):
        super().__init__(f"the result {place} has not the shape of the target")
        self.place = place


class UnknownText(MigrationError):
    """A result contains a text that it cannot contain."""

    def __init__(self, place, text):
        super().__init__(f"the result {place} contains {text!r}")
        self.place = place
        self.text = text


class SchemasDiffer(MigrationError):
    """Two schemas that must be equal differ."""


class InvalidResults(MigrationError):
    """A migration has a result that is not valid."""

    def __init__(self, place):
        super().__init__(f"the result of the case {place} is not valid")
        self.place = place


class DropsRecords(MigrationError):
    """A migration drops a record."""

    def __init__(self, place):
        super().__init__(f"the case {place} is dropped")
        self.place = place


class NameTaken(MigrationError):
    """A table of the target has the name of an archive."""

    def __init__(self, name):
        super().__init__(f"{name} is the name of an archive")
        self.name = name


class UnknownKey(MigrationError):
    """The database does not have the key."""

    def __init__(self, key):
        super().__init__(f"there is no key {key!r}")
        self.key = key


class NoWayBack(MigrationError):
    """A record cannot be led back."""

    def __init__(self, number):
        super().__init__(f"there is no record in the version {number}")
        self.number = number


class UnknownVersion(MigrationError):
    """There is no such version."""

    def __init__(self, number):
        super().__init__(f"there is no version {number}")
        self.number = number


class NothingToRollBack(MigrationError):
    """The present version is the first one."""


class DatabaseFull(MigrationError):
    """The database has as many pairs as it can have."""


class TooManySteps(MigrationError):
    """The present version is the last one that there can be."""


class LogFull(MigrationError):
    """The log has as many commands as it can have."""
