"""Points 116 and 119 to 121: watchers that are replayed, and records that are right."""

import unittest
from random import Random

from surepast.best import best_row
from surepast.errors import BadValue, NotPossible, PastError
from surepast.futures import is_closed, profiles
from surepast.journals import are_right, replayed
from surepast.sure import decided_by, sure_states
from surepast.watcher import Watcher
from tests.samples import ALONE, FREE, LATER, LEAST, MODELS, STRANGE, THREE, TOLD, TURNS, all_rows, greater_tables
from tests.test_watcher import BACK, NO_COMMANDS, signs_of, some_commands, told_by


def watchers(seed, many=8):
    """Each model with a watcher of it that has done so many commands, some of them taking signs back."""
    source = Random(seed)
    return [(model, replayed(model, tuple(some_commands(source, model, many)))) for model in MODELS]


def put(records, at, place, part):
    """The records with this part at the place of the one at the index."""
    record = records[at][:place] + (part,) + records[at][place + 1:]
    return records[:at] + (record,) + records[at + 1:]


def records_by(model, commands, table):
    """The records of these commands with the table."""
    found = []
    for at, command in enumerate(commands):
        signs = signs_of(commands[:at + 1])
        found.append((command, best_row(model, signs)[0], table, decided_by(model, signs, table)))
    return tuple(found)


def by_words(model, records):
    """Point 119, word by word, for a tuple of tuples of four with commands of the model."""
    signs = []
    for command, row, table, told in records:
        if command == BACK:
            if not signs:
                return False
            signs.pop()
        else:
            signs.append(command[1])
        if row != best_row(model, tuple(signs))[0] or not is_closed(model, table):
            return False
        if told != decided_by(model, tuple(signs), table):
            return False
    return len(records) <= 20


class Replayed(unittest.TestCase):
    def test_it_carries_out_the_commands(self):
        source = Random(116)
        for model in MODELS:
            for many in (0, 1, 2, 7, 20):
                commands = tuple(some_commands(source, model, many))
                watcher = Watcher(model)
                for command in commands:
                    watcher.act(command)
                told = replayed(model, commands)
                self.assertIs(type(told), Watcher)
                self.assertEqual(told_by(told), told_by(watcher))
                self.assertEqual(told.journal(), commands)

    def test_from_a_journal(self):
        for model, watcher in watchers(117, 20):
            self.assertEqual(told_by(replayed(model, watcher.journal())), told_by(watcher))

    def test_not_possible(self):
        for journal in ((BACK,), (("see", 0), BACK, BACK), (BACK, ("see", 0)), (("see", 0), BACK) * 9 + (BACK,), (BACK,) * 20):
            with self.assertRaises(PastError) as caught:
                replayed(TURNS, journal)
            self.assertIs(type(caught.exception), NotPossible)
            self.assertEqual(caught.exception.why, "begin")

    def test_wrong_arguments(self):
        wrong = STRANGE + NO_COMMANDS + [
            [("see", 0)], [], {("see", 0): 1}, ("see", 0), ("back",), (("see", 0), ["see", 0]), (("see", 2),), ("see",),
            (("see", 0), None), (("see", True),), (("see", 0), ("see",)), (("see", 0),) * 21, (("see", 0), BACK) * 11,
            (("see", 0), ("back", 0)),
        ]
        for journal in [journal for journal in wrong if journal not in ((), (BACK,), (("see", 0),))]:
            with self.assertRaises(PastError) as caught:
                replayed(TURNS, journal)
            self.assertIs(type(caught.exception), BadValue, journal)
            self.assertEqual(caught.exception.name, "journal")

    def test_a_wrong_command_comes_before_one_that_is_not_possible(self):
        for journal in ((BACK, ("see", 2)), (BACK,) * 21, (BACK, None), (BACK, ["see", 0])):
            with self.assertRaises(PastError) as caught:
                replayed(TURNS, journal)
            self.assertIs(type(caught.exception), BadValue, journal)

    def test_the_model_comes_first(self):
        for model in STRANGE + [(), list(TURNS), TURNS[:2]]:
            for journal in ((), (BACK,), None, (("see", 9),)):
                with self.assertRaises(PastError) as caught:
                    replayed(model, journal)
                self.assertIs(type(caught.exception), BadValue)
                self.assertEqual(caught.exception.name, "model")


class Records(unittest.TestCase):
    def test_against_the_words(self):
        for model, watcher in watchers(120, 20):
            commands = watcher.journal()
            self.assertEqual(watcher.records(), records_by(model, commands, profiles(model)))
            for at, record in enumerate(watcher.records()):
                signs = signs_of(commands[:at + 1])
                row, sure = best_row(model, signs)[0], sure_states(model, signs)
                self.assertEqual(record, (commands[at], row, profiles(model), sure))

    def test_they_are_right(self):
        for many in (0, 1, 5, 20):
            for model, watcher in watchers(119, many):
                self.assertEqual(len(watcher.records()), many)
                self.assertIs(are_right(model, watcher.records()), True)

    def test_each_beginning_is_right(self):
        for model, watcher in watchers(121, 12):
            for many in range(13):
                self.assertIs(are_right(model, watcher.records()[:many]), True)

    def test_greater_tables(self):
        fewer = 0
        for seed, (model, watcher) in enumerate(watchers(122)):
            for table in greater_tables(model, seed):
                records = records_by(model, watcher.journal(), table)
                self.assertIs(are_right(model, records), True)
                for record, least in zip(records, watcher.records()):
                    self.assertEqual(least[3][:len(record[3])], record[3])
                    fewer += len(record[3]) < len(least[3])
                    # What is told is what is decided by this table, no more and no less.
                    for told in (least[3], record[3] + (0,), record[3][:-1]):
                        at = records.index(record)
                        self.assertIs(are_right(model, put(records, at, 3, told)), told == record[3])
        self.assertGreater(fewer, 50)

    def test_another_table_in_each_record(self):
        for seed, (model, watcher) in enumerate(watchers(123)):
            tables = greater_tables(model, seed) + [profiles(model)]
            records = []
            for at, record in enumerate(watcher.records()):
                table = tables[at % len(tables)]
                told = decided_by(model, signs_of(watcher.journal()[:at + 1]), table)
                records.append(record[:2] + (table, told))
            self.assertIs(are_right(model, tuple(records)), True)


class Changed(unittest.TestCase):
    def test_another_command(self):
        told_of = {True: 0, False: 0}
        for model, watcher in watchers(124):
            records = watcher.records()
            for at in range(8):
                for command in [("see", sign) for sign in range(len(model[2][0]))] + [BACK]:
                    changed = put(records, at, 0, command)
                    told = are_right(model, changed)
                    self.assertIs(told, by_words(model, changed))
                    told_of[told] += 1
        self.assertGreater(min(told_of.values()), 100)

    def test_a_command_that_is_not_possible(self):
        for model in MODELS:
            table = profiles(model)
            self.assertIs(are_right(model, ((BACK, (), table, ()),)), False)
            see = Watcher(model)
            see.act(("see", 0))
            back = (BACK, (), table, ())
            self.assertIs(are_right(model, see.records() + (back,)), True)
            self.assertIs(are_right(model, see.records() + (back, back)), False)
            self.assertIs(are_right(model, (back,) + see.records()), False)

    def test_another_row(self):
        for model, watcher in watchers(125, 5):
            records = watcher.records()
            for at in range(5):
                for row in all_rows(model, records[at][1]):
                    self.assertIs(are_right(model, put(records, at, 1, row)), row == records[at][1])
                for row in (records[at][1] + (0,), records[at][1][:-1], ()):
                    self.assertIs(are_right(model, put(records, at, 1, row)), row == records[at][1])

    def test_another_table(self):
        for seed, (model, watcher) in enumerate(watchers(126, 5)):
            records = watcher.records()
            noughts = (0,) * len(model[0])
            for at in range(5):
                for table in greater_tables(model, seed):
                    changed = put(records, at, 2, table)
                    self.assertIs(are_right(model, changed), by_words(model, changed))
                for table in ((), (noughts,), profiles(model)[1:], profiles(model)[:-1], profiles(model)[::-1]):
                    changed = put(records, at, 2, table)
                    self.assertIs(are_right(model, changed), table == profiles(model))

    def test_a_table_that_is_not_closed_but_decides_as_much(self):
        # It is ascending and has the profile of noughts, but not that of the sign 1.
        table = ((0, 0), (0, 1))
        self.assertIs(are_right(TURNS, ((("see", 0), (0,), profiles(TURNS), (0,)),)), True)
        self.assertIs(are_right(TURNS, ((("see", 0), (0,), table, (0,)),)), False)

    def test_something_else_told(self):
        for model, watcher in watchers(127, 5):
            records = watcher.records()
            for at in range(5):
                sure = records[at][3]
                others = [sure[:-1], sure + (0,), (), records[at][1], tuple(1 - min(state, 1) for state in sure)]
                for told in others:
                    self.assertIs(are_right(model, put(records, at, 3, told)), told == sure)

    def test_one_left_out_put_in_or_twice(self):
        told_of = {True: 0, False: 0}
        for model, watcher in watchers(128):
            records = watcher.records()
            for at in range(8):
                for other in range(8):
                    left_out = records[:at] + records[at + 1:]
                    for changed in (left_out, left_out[:other] + records[at:at + 1] + left_out[other:],
                                    records[:at] + records[other:other + 1] + records[at:]):
                        told = are_right(model, changed)
                        self.assertIs(told, by_words(model, changed))
                        told_of[told] += 1
        self.assertGreater(min(told_of.values()), 100)

    def test_none_twenty_and_twenty_one(self):
        for model in MODELS:
            self.assertIs(are_right(model, ()), True)
            watcher = replayed(model, (("see", 0), BACK) * 10)
            records = watcher.records()
            self.assertIs(are_right(model, records), True)
            # One more record would hold, but for their number.
            self.assertIs(are_right(model, records[:19] + records[1:2]), True)
            self.assertIs(are_right(model, records + records[:1]), False)
            self.assertIs(are_right(model, records * 2), False)

    def test_records_of_another_model(self):
        records = replayed(TURNS, (("see", 1), ("see", 0))).records()
        self.assertIs(are_right(TURNS, records), True)
        for model in (TOLD, LATER, ALONE, FREE, LEAST, THREE):
            self.assertIs(are_right(model, records), False)

    def test_the_first_wrong_one_counts_wherever_it_is(self):
        for model, watcher in watchers(129, 20):
            records = watcher.records()
            for at in (0, 7, 19):
                self.assertIs(are_right(model, put(records, at, 1, records[at][1] + (0,))), False)


class OtherForms(unittest.TestCase):
    JOURNAL = (("see", 0), ("see", 1), BACK)

    def wrong_parts(self, place, part):
        """Wrong values for the part of a record at this place."""
        if place == 0:
            return NO_COMMANDS
        wrong = STRANGE + [0, 1, list(part), dict(enumerate(part)), (part,), "".join(map(str, part)), part + (None,)]
        for item in (True, False, None, "0", (0,), [0], 0.0, -1, 2, 10):
            wrong += [part[:at] + (item,) + part[at + 1:] for at in range(len(part))]
        if place == 2:
            wrong += [part[:at] + (list(part[at]),) + part[at + 1:] for at in range(len(part))]
            wrong += [((0, False),) + part[1:], ((0, 0), (0, True), (1, 0)), part + ((9, 10),), ((0, -1),) + part]
        return wrong

    def test_parts_of_every_other_form(self):
        records = replayed(TURNS, self.JOURNAL).records()
        self.assertIs(are_right(TURNS, records), True)
        for at in range(3):
            for place in range(4):
                for part in self.wrong_parts(place, records[at][place]):
                    self.assertIs(are_right(TURNS, put(records, at, place, part)), False, (at, place, part))

    def test_records_of_every_other_form(self):
        records = replayed(TURNS, self.JOURNAL).records()
        for at in range(3):
            record = records[at]
            wrong = STRANGE + [0, (), record[:3], record[1:], record + (None,), record + ((),), list(record), (record,), "abcd"]
            for other in wrong + [record[::-1], dict(enumerate(record)), record * 2, record[:1]]:
                self.assertIs(are_right(TURNS, records[:at] + (other,) + records[at + 1:]), False, other)

    def test_values_of_every_other_form(self):
        records = replayed(TURNS, self.JOURNAL).records()
        wrong = [0, 1, "abc", list(records), dict(enumerate(records)), (records,), records[0], [()], ((), ()), {records}]
        for value in STRANGE + wrong:
            self.assertIs(are_right(TURNS, value), False, value)
            self.assertIs(are_right(ALONE, value), False, value)

    def test_false_and_true_are_no_integers(self):
        # As numbers, these would be right.
        table = profiles(TURNS)
        self.assertIs(are_right(TURNS, ((("see", 0), (0,), table, (0,)),)), True)
        for record in (
            (("see", False), (0,), table, (0,)), (("see", 0), (False,), table, (0,)), (("see", 0), (0,), table, (False,)),
            (("see", 0.0), (0,), table, (0,)), (("see", 0), (0.0,), table, (0,)), (("see", 0), (0,), table, (0.0,)),
            (("see", 0), (0,), ((False, 0),) + table[1:], (0,)),
        ):
            self.assertIs(are_right(TURNS, (record,)), False, record)

    def test_the_model_is_checked(self):
        for model in STRANGE + [(), list(TURNS), TURNS[:2], ((0, 4),) + TURNS[1:]]:
            for value in (None, (), replayed(TURNS, self.JOURNAL).records()):
                with self.assertRaises(PastError) as caught:
                    are_right(model, value)
                self.assertIs(type(caught.exception), BadValue)
                self.assertEqual(caught.exception.name, "model")


if __name__ == "__main__":
    unittest.main()
