"""Watchers: they see signs one after another, and tell what is sure."""

from surepast.best import best_of_all
from surepast.errors import BadValue, NotPossible, TooLarge
from surepast.futures import least_table
from surepast.models import check_model, is_sign, is_tuple
from surepast.sure import sure_of

MOST_COMMANDS = 20


def is_command(value, model):
    """Tell whether the value is a command, with a sign of the model."""
    if not is_tuple(value, 1, 2) or not isinstance(value[0], str):
        return False
    if len(value) == 1:
        return value[0] == "back"
    return value[0] == "see" and is_sign(value[1], model)


def signs_behind(signs, command):
    """Return the signs behind the command, or None if it is not possible."""
    if command[0] == "see":
        return signs + (command[1],)
    return signs[:-1] if signs else None


class Watcher:
    """Has seen signs of one model, and keeps a journal of what was done."""

    def __init__(self, model):
        check_model(model)
        self.model = model
        self.commands = ()
        # The signs before the first command, and behind each of them.
        self.seen = ((),)

    def act(self, command):
        """Carry out the command, and return the number of commands in the journal."""
        if not is_command(command, self.model):
            raise BadValue("command")
        behind = signs_behind(self.signs(), command)
        if behind is None:
            raise NotPossible("begin")
        if len(self.commands) == MOST_COMMANDS:
            raise TooLarge("commands")
        self.commands = self.commands + (command,)
        self.seen = self.seen + (behind,)
        return len(self.commands)

    def undo(self):
        """Undo the last command and return it, or return None if the journal is empty."""
        if not self.commands:
            return None
        command = self.commands[-1]
        self.commands = self.commands[:-1]
        self.seen = self.seen[:-1]
        return command

    def signs(self):
        """Return the signs."""
        return self.seen[-1]

    def journal(self):
        """Return the commands in the journal."""
        return self.commands

    def best(self):
        """Return the best row for the signs, and its cost."""
        return best_of_all(self.model, self.signs())

    def sure(self):
        """Return the sure states."""
        return sure_of(self.model, self.signs())

    def first_sights(self):
        """Return for each sure state the least number of signs, from the first one on, behind which it is sure."""
        signs = self.signs()
        sights = []
        for many in range(1, len(signs) + 1):
            new = len(sure_of(self.model, signs[:many])) - len(sights)
            sights.extend([many] * new)
        return tuple(sights)

    def records(self):
        """Return for each command it, and behind it the best row, the least table and the sure states."""
        table = least_table(self.model)
        return tuple([
            (command, best_of_all(self.model, signs)[0], table, sure_of(self.model, signs))
            for command, signs in zip(self.commands, self.seen[1:])
        ])

    def twin(self):
        """Return a watcher with the same model and journal."""
        other = Watcher(self.model)
        other.commands = self.commands
        other.seen = self.seen
        return other
