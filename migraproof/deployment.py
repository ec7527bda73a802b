"""Deployments, which migrate a database step by step and can lead it back."""

from migraproof.archives import archive
from migraproof.cases import check_many
from migraproof.errors import (DatabaseFull, InvalidRecord, LogFull, NameTaken, NothingToRollBack, NoWayBack,
                               TooManySteps, UnknownKey, UnknownVersion)
from migraproof.fibres import archive_size
from migraproof.migrations import Effect, compiled, migrated
from migraproof.recovery import recover_record
from migraproof.schemas import constants_of, is_valid
from migraproof.scripts import applied

MOST_PAIRS = 8
LAST_VERSION = 4
MOST_COMMANDS = 40


class Deployment:
    """A database with the versions of its schema, and the way back through them."""

    def __init__(self, schema):
        check_many((schema,), constants_of(schema))
        self._begin(schema)
        self._contents = {}
        self._commands = []

    @property
    def schema(self):
        """The schema of the present version."""
        return self._schemas[-1]

    @property
    def plain(self):
        """The plain schema of the present version."""
        return self._plains[-1]

    @property
    def version(self):
        """The number of the present version."""
        return len(self._steps)

    @property
    def database(self):
        """The database, as a tuple of pairs of a key and a record."""
        return tuple(self._contents.items())

    @property
    def migrations(self):
        """The migrations of the steps, in order."""
        return tuple(self._steps)

    @property
    def log(self):
        """The commands that were carried out, in order."""
        return tuple(self._commands)

    def put(self, key, record):
        """Gives the record to the key."""
        self._check_log()
        if not is_valid(self.schema, record):
            raise InvalidRecord(key)
        for version in reversed(range(self.version)):
            if self._led_back(record, version) is None:
                raise NoWayBack(version)
        if key not in self._contents and len(self._contents) == MOST_PAIRS:
            raise DatabaseFull()
        self._contents[key] = record
        self._commands.append(("put", key, record))

    def drop(self, key):
        """Removes the pair with the key and returns its record."""
        self._check_log()
        if key not in self._contents:
            raise UnknownKey(key)
        self._commands.append(("drop", key))
        return self._contents.pop(key)

    def migrate(self, target, script):
        """Takes a step to the plain target and returns the size of the archive that it adds."""
        self._check_log()
        if self.version == LAST_VERSION:
            raise TooManySteps()
        archives = archives_of(self.schema, self.plain)
        check_names(target, archives)
        carried_target = ((*target[0], *archives), target[1])
        carried = compiled(self.schema, carried_target, (*script, *copying_rules(archives)))
        size = archive_size(carried)
        step = archive(carried)
        self._contents = dict(migrated(step, self.database))
        self._steps.append(step)
        self._ways_back.append(Effect(recover_record(step)[0]))
        self._schemas.append(step[1])
        self._plains.append(target)
        self._commands.append(("migrate", target, script))
        return size

    def roll_back(self):
        """Leads the database back by one step and removes the present version."""
        self._check_log()
        if self.version == 0:
            raise NothingToRollBack()
        self._contents = dict(self._database_at(self.version - 1))
        self._steps.pop()
        self._ways_back.pop()
        self._schemas.pop()
        self._plains.pop()
        self._commands.append(("roll back",))

    def commit(self):
        """Makes the present plain schema the version 0, without archives, and forgets the way back."""
        self._check_log()
        many = len(self.plain[0])
        records = [(key, record[:many]) for key, record in self._contents.items()]
        self._contents = {key: record for key, record in records if any(row is not None for row in record)}
        self._begin(self.plain)
        self._commands.append(("commit",))

    def ask(self, target, script, *, version=0):
        """The results of the script for the database led back to the version."""
        if not 0 <= version <= self.version:
            raise UnknownVersion(version)
        schema = self._schemas[version]
        results = [(key, applied(schema, target, script, record)) for key, record in self._database_at(version)]
        return tuple([pair for pair in results if pair[1] is not None])

    def execute(self, command):
        """Carries out the command and returns its answer."""
        word = command[0]
        if word == "put":
            return self.put(command[1], command[2])
        if word == "drop":
            return self.drop(command[1])
        if word == "migrate":
            return self.migrate(command[1], command[2])
        if word == "roll back":
            return self.roll_back()
        if word == "commit":
            return self.commit()
        return self.ask(command[2], command[3], version=command[1])

    def __len__(self):
        return len(self._contents)

    def __contains__(self, key):
        return key in self._contents

    def __iter__(self):
        return iter(self._contents)

    def _begin(self, schema):
        """Makes the schema the only version."""
        self._schemas = [schema]
        self._plains = [schema]
        self._steps = []
        self._ways_back = []

    def _check_log(self):
        """Raises LogFull if the log has no place for a further command."""
        if len(self._commands) == MOST_COMMANDS:
            raise LogFull()

    def _led_back(self, record, version):
        """The record of the present version led back to the version, None if it is dropped."""
        for way in reversed(self._ways_back[version:]):
            if record is not None:
                record = way.result_of(record)
        return record

    def _database_at(self, version):
        """The pairs of the database led back to the version."""
        return [(key, self._led_back(record, version)) for key, record in self._contents.items()]


def archives_of(schema, plain):
    """The archives of a schema whose other tables are those of the plain schema."""
    return schema[0][len(plain[0]):]


def check_names(target, archives):
    """Raises NameTaken for the first table of the target that has the name of an archive."""
    taken = [name for name, _, _ in archives]
    for name, _, _ in target[0]:
        if name in taken:
            raise NameTaken(name)


def copying_rules(archives):
    """The rules that copy the columns of the archives."""
    return [("set", table, name, ("column", table, name)) for table, _, columns in archives for name, _, _ in columns]
