"""Watchers that are replayed from journals, and records that are right."""

from surepast.best import best_of_all
from surepast.errors import BadValue
from surepast.futures import is_closed_table
from surepast.models import are_states, check_model, is_row, is_tuple
from surepast.sure import decided_of
from surepast.watcher import MOST_COMMANDS, Watcher, is_command, signs_behind


def is_journal(value, model):
    """Tell whether the value is a tuple of commands, not too many, whether they are possible or not."""
    return is_tuple(value, 0, MOST_COMMANDS) and all([is_command(command, model) for command in value])


def is_true(model, signs, row, table, told):
    """Tell whether a record of these holds for the signs."""
    if not is_row(row, model, signs) or row != best_of_all(model, signs)[0]:
        return False
    if not is_closed_table(table, model):
        return False
    return are_states(told, model, 0, len(signs)) and told == decided_of(model, signs, table)


def replayed(model, journal):
    """Return a watcher that has carried out the commands of the journal."""
    check_model(model)
    if not is_journal(journal, model):
        raise BadValue("journal")
    watcher = Watcher(model)
    for command in journal:
        watcher.act(command)
    return watcher


def are_right(model, records):
    """Tell whether the value is right records."""
    check_model(model)
    if not is_tuple(records, 0, MOST_COMMANDS):
        return False
    signs = ()
    for record in records:
        if not is_tuple(record, 4, 4) or not is_command(record[0], model):
            return False
        signs = signs_behind(signs, record[0])
        if signs is None or not is_true(model, signs, record[1], record[2], record[3]):
            return False
    return True
