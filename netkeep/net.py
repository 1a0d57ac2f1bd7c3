"""Nets: stores with rules, kept answers, readers and secrets, which are changed by commands and can be taken back."""

from netkeep.changing import first_parts
from netkeep.checks import need_telling
from netkeep.courses import Course, behind_command
from netkeep.errors import InvalidStore, LimitError, MissingError, NetError, StateError, TooMany
from netkeep.faults import CommandFailed, InvalidEntries
from netkeep.log import Log, wrong_entry
from netkeep.store import Store
from netkeep.ties import is_list

MOST_NODES_MANY = 8


class Net:
    """A store, and all that is told of it; the commands change it."""

    def __init__(self, store, telling="whether", log=()):
        _need_store(store)
        need_telling(telling)
        entries = log.entries() if isinstance(log, Log) else log
        _need_entries(entries)
        if telling == "many" and store.nodes > MOST_NODES_MANY:
            raise TooMany("nodes", MOST_NODES_MANY)
        self._course = Course(first_parts(store, telling), [], [], [])
        for entry in entries:
            if isinstance(entry, tuple):
                self.do_all(*entry)
            else:
                self.do(entry)

    @staticmethod
    def torn(store, text, telling="whether"):
        """The net with the good beginning of the text as its log."""
        _need_store(store)
        beginning, _ = Log.torn(text)
        return Net(store, telling, beginning)

    @property
    def store(self):
        """The store as it is now."""
        return self._course.now["store"]

    @property
    def telling(self):
        """Whether answers are relations or matrices."""
        return self._course.now["telling"]

    @property
    def lot(self):
        """The lot of the words whose answers are kept."""
        return self._course.now["lot"]

    @property
    def late(self):
        """By how many ties the tables are late."""
        return self._course.now["late"]

    @property
    def changes(self):
        """How many changes can be taken back."""
        return len(self._course.past)

    def rules(self):
        """The list of the rules, in their sequence."""
        return list(self._course.now["rules"])

    def tables(self):
        """The dict of the kept answers."""
        tables = self._course.now["tables"]
        if self.telling == "whether":
            return {word: list(tables[word]) for word in tables}
        return {word: [list(line) for line in tables[word]] for word in tables}

    def readers(self):
        """The dict from the names of the readers to their lots."""
        readers = self._course.now["readers"]
        return {name: readers[name] for name in readers}

    def secrets(self):
        """The sorted list of the secrets."""
        return list(self._course.now["secrets"])

    def log(self):
        """The log of all changes, and of what was taken back and done again."""
        return Log(self._course.did)

    def do(self, command):
        """Do a command; its answer."""
        course, answer, lines = behind_command(self._course, command)
        self._course = course.noted(lines)
        return answer

    def do_all(self, *commands):
        """Do all commands, or none; the list of the answers."""
        course = self._course
        answers = []
        lines = []
        for position, command in enumerate(commands):
            try:
                course, answer, more = behind_command(course, command)
            except (NetError, MissingError, StateError, LimitError) as error:
                raise CommandFailed(position) from error
            answers.append(answer)
            lines.extend(more)
        self._course = course.noted(lines)
        return answers

    def copy(self):
        """A net with all that this one has, which goes on by itself."""
        net = Net(self.store, self.telling)
        net._course = self._course
        return net

    def __call__(self, command):
        return self.do(command)

    def __eq__(self, other):
        return isinstance(other, Net) and self._course.now == other._course.now


class Trial:
    """A context in which a net may be changed: behind it the net is as it was ahead of it."""

    def __init__(self, net):
        self._net = net
        self._held = None

    def __enter__(self):
        self._held = self._net._course
        return self._net

    def __exit__(self, kind, value, trace):
        net = self._net
        net._course = self._held


def tried(net, *commands):
    """The list of the answers to all commands, whose effects are taken back."""
    with Trial(net) as trying:
        return trying.do_all(*commands)


def _need_store(store):
    if not isinstance(store, Store):
        raise InvalidStore(store)


def _need_entries(entries):
    if not is_list(entries):
        raise InvalidEntries(None)
    wrong = wrong_entry(entries)
    if wrong is not None:
        raise InvalidEntries(wrong)
