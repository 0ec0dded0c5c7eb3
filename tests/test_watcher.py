"""Points 114 to 118, 122 and 123: watchers, what they do and what they tell."""

import unittest
from random import Random

from surepast.best import best_row
from surepast.errors import BadValue, NotPossible, PastError, TooLarge
from surepast.journals import replayed
from surepast.sure import sure_states
from surepast.watcher import Watcher
from tests.reckoning import kinds, many_sure
from tests.samples import ALONE, LATER, LEAST, MODELS, STRANGE, THREE, TOLD, TURNS, all_signs, best_states, plain_cost

BACK = ("back",)
# With two signs in the model, none of these is a command.
NO_COMMANDS = STRANGE + [
    0, (), ("see",), ("see", 2), ("see", -1), ("see", True), ("see", False), ("see", None), ("see", "0"), ("see", 0.0),
    ("see", (0,)), ("see", [0]), ("see", 0, 0), ("see", 10 ** 30), ("back", 0), ("back", None), ("back", "back"), ["see", 0],
    ["back"], "see", "back", ("See", 0), ("SEE", 0), ("Back",), ("back ",), ("",), ("", 0), (None,), (True,), (b"back",),
    (b"see", 0), (("back",),), (("see", 0),), (["see"], 0), {"see": 0}, {"back"}, (0, "see"), ("undo",), ("look", 0),
]


def some_commands(source, model, many):
    """So many commands that are possible one after another."""
    commands, left = [], 0
    while len(commands) < many:
        if left and source.random() < 0.35:
            commands.append(BACK)
            left -= 1
        else:
            commands.append(("see", source.choice(kinds(model))))
            left += 1
    return commands


def signs_of(commands):
    """Point 115, word by word."""
    signs = []
    for command in commands:
        if command == BACK:
            signs.pop()
        else:
            signs.append(command[1])
    return tuple(signs)


def plain_sights(model, signs):
    """Point 118, word by word: for each sure state the least number of signs behind which it is sure."""
    sights = []
    for at in range(many_sure(model, signs)):
        sights.append(min(many for many in range(1, len(signs) + 1) if many_sure(model, signs[:many]) > at))
    return tuple(sights)


def told_by(watcher):
    """All that a watcher tells."""
    return (
        watcher.signs(), watcher.journal(), watcher.best(), watcher.sure(), watcher.first_sights(), watcher.records(),
    )


class Commands(unittest.TestCase):
    def assert_told(self, model, watcher, commands):
        signs = signs_of(commands)
        self.assertEqual(watcher.signs(), signs)
        self.assertEqual(watcher.journal(), tuple(commands))
        row = best_states(model, signs)
        self.assertEqual(watcher.best(), (row, plain_cost(model, signs, row)))
        self.assertEqual(watcher.sure(), row[:many_sure(model, signs)])
        self.assertEqual(watcher.first_sights(), plain_sights(model, signs))

    def test_a_new_one(self):
        for model in MODELS:
            watcher = Watcher(model)
            self.assertEqual(told_by(watcher), ((), (), ((), 0), (), (), ()))

    def test_behind_many_commands(self):
        source = Random(115)
        for model in MODELS:
            for many in (3, 20):
                watcher, done = Watcher(model), []
                for command in some_commands(source, model, many):
                    done.append(command)
                    self.assertEqual(watcher.act(command), len(done))
                    self.assert_told(model, watcher, done)

    def test_all_short_rows_of_commands(self):
        for model in (TURNS, TOLD, LATER, ALONE):
            able = [("see", sign) for sign in kinds(model)] + [BACK]
            left = [()]
            while left:
                commands = left.pop()
                watcher = Watcher(model)
                for command in commands:
                    watcher.act(command)
                self.assert_told(model, watcher, commands)
                if len(commands) < 4:
                    left += [commands + (command,) for command in able if command != BACK or signs_of(commands)]

    def test_twenty_signs(self):
        for model in MODELS:
            source = Random(20)
            commands = [("see", source.choice(kinds(model))) for _ in range(20)]
            watcher = Watcher(model)
            for command in commands:
                watcher.act(command)
            self.assert_told(model, watcher, commands)

    def test_kinds_of_what_is_returned(self):
        watcher = Watcher(THREE)
        self.assertIs(type(watcher.act(("see", 1))), int)
        for told in told_by(watcher):
            self.assertIs(type(told), tuple)
        self.assertEqual([type(part) for part in watcher.best()], [tuple, int])
        self.assertEqual([type(part) for part in watcher.records()[0]], [tuple] * 4)


class NotDone(unittest.TestCase):
    def assert_raises(self, watcher, command, error, told):
        kept = told_by(watcher)
        with self.assertRaises(PastError) as caught:
            watcher.act(command)
        self.assertIs(type(caught.exception), error)
        self.assertEqual(list(vars(caught.exception).values()), [told])
        # If an error is raised, nothing changes.
        self.assertEqual(told_by(watcher), kept)

    def full(self, commands):
        watcher = Watcher(TURNS)
        for command in commands:
            watcher.act(command)
        return watcher

    def test_no_command(self):
        for commands in ([], [("see", 1)], [("see", 0), ("see", 1), BACK]):
            watcher = self.full(commands)
            for command in NO_COMMANDS:
                self.assert_raises(watcher, command, BadValue, "command")

    def test_signs_of_this_model(self):
        for model in MODELS:
            watcher = Watcher(model)
            for sign in (len(model[2][0]), 3, -1):
                self.assert_raises(watcher, ("see", sign), BadValue, "command")
            watcher.act(("see", len(model[2][0]) - 1))

    def test_not_possible(self):
        self.assert_raises(Watcher(TURNS), BACK, NotPossible, "begin")
        for commands in ([("see", 1), BACK], [("see", 1), ("see", 0), BACK, BACK], [("see", 0), BACK, ("see", 1), BACK]):
            self.assert_raises(self.full(commands), BACK, NotPossible, "begin")

    def test_the_twentieth_and_the_twenty_first_command(self):
        for commands in ([("see", 1)] * 19, [("see", 0), ("see", 1), BACK] * 6 + [BACK]):
            watcher = self.full(commands)
            self.assertEqual(watcher.act(("see", 1)), 20)
            for command in (("see", 0), ("see", 1), BACK):
                self.assert_raises(watcher, command, TooLarge, "commands")
            for command in NO_COMMANDS:
                self.assert_raises(watcher, command, BadValue, "command")

    def test_not_possible_comes_before_too_many(self):
        watcher = self.full([("see", 1), BACK] * 10)
        self.assertEqual((watcher.signs(), len(watcher.journal())), ((), 20))
        self.assert_raises(watcher, BACK, NotPossible, "begin")
        self.assert_raises(watcher, ("see", 0), TooLarge, "commands")
        self.assert_raises(watcher, ("see", 2), BadValue, "command")

    def test_one_more_behind_an_undone_one(self):
        watcher = self.full([("see", 1)] * 20)
        self.assertEqual(watcher.undo(), ("see", 1))
        self.assertEqual(watcher.act(BACK), 20)
        self.assertEqual(watcher.signs(), (1,) * 18)
        self.assert_raises(watcher, BACK, TooLarge, "commands")

    def test_no_model(self):
        for value in STRANGE + [(), TOLD[:2], list(TOLD), ((0, 4),) + TOLD[1:], ((0,) * 4, ((0,) * 4,) * 4, ((0,),) * 4)]:
            with self.assertRaises(PastError) as caught:
                Watcher(value)
            self.assertIs(type(caught.exception), BadValue)
            self.assertEqual(caught.exception.name, "model")


class Undoing(unittest.TestCase):
    def test_an_empty_journal(self):
        watcher = Watcher(TURNS)
        for _ in range(3):
            self.assertIsNone(watcher.undo())
            self.assertEqual(told_by(watcher), ((), (), ((), 0), (), (), ()))
        watcher.act(("see", 1))
        self.assertEqual(watcher.undo(), ("see", 1))
        self.assertIsNone(watcher.undo())
        self.assertEqual(watcher.act(("see", 0)), 1)

    def test_behind_a_sign_that_was_taken_back(self):
        watcher = replayed(TURNS, (("see", 1), ("see", 0), BACK))
        self.assertEqual(watcher.signs(), (1,))
        self.assertEqual(watcher.undo(), BACK)
        self.assertEqual((watcher.signs(), watcher.journal()), ((1, 0), (("see", 1), ("see", 0))))
        self.assertEqual(watcher.undo(), ("see", 0))
        self.assertEqual(watcher.signs(), (1,))

    def test_each_command_is_undone(self):
        source = Random(116)
        for model in MODELS:
            watcher, told = Watcher(model), []
            commands = some_commands(source, model, 20)
            for command in commands:
                told.append(told_by(watcher))
                watcher.act(command)
            for command, before in zip(reversed(commands), reversed(told)):
                self.assertEqual(watcher.undo(), command)
                self.assertEqual(told_by(watcher), before)
            self.assertIsNone(watcher.undo())

    def test_undone_and_done_again(self):
        source = Random(117)
        for model in MODELS[:10]:
            commands = some_commands(source, model, 12)
            watcher = replayed(model, tuple(commands))
            told = told_by(watcher)
            for many in (1, 5, 12):
                undone = [watcher.undo() for _ in range(many)]
                self.assertEqual(undone[::-1], commands[-many:])
                for command in reversed(undone):
                    watcher.act(command)
                self.assertEqual(told_by(watcher), told)


class WhatIsSure(unittest.TestCase):
    def test_sure_states_stay_while_signs_are_only_seen(self):
        grown = 0
        for model in MODELS:
            for seed in range(3):
                source = Random(seed)
                watcher, before = Watcher(model), ()
                for _ in range(20):
                    watcher.act(("see", source.choice(kinds(model))))
                    self.assertEqual(watcher.sure()[:len(before)], before)
                    self.assertEqual(watcher.best()[0][:len(watcher.sure())], watcher.sure())
                    grown += len(watcher.sure()) > len(before)
                    before = watcher.sure()
        self.assertGreater(grown, 500)

    def test_they_are_a_beginning_of_the_best_row_behind_any_further_signs(self):
        for model in (TURNS, TOLD, THREE) + tuple(MODELS[8:14]):
            for signs in all_signs(model, 3):
                watcher = replayed(model, tuple(("see", sign) for sign in signs))
                self.assertEqual(watcher.sure(), sure_states(model, signs))
                for further in all_signs(model, 3):
                    self.assertEqual(best_states(model, signs + further)[:len(watcher.sure())], watcher.sure())

    def test_fewer_can_be_sure_if_signs_are_taken_back(self):
        watcher = replayed(TURNS, (("see", 1), ("see", 1)))
        self.assertEqual(watcher.sure(), (1, 1))
        watcher.act(BACK)
        self.assertEqual(watcher.sure(), ())

    def test_what_is_told_depends_on_the_signs_alone(self):
        source = Random(118)
        for model in MODELS:
            commands = some_commands(source, model, 20)
            watcher = replayed(model, tuple(commands))
            straight = replayed(model, tuple(("see", sign) for sign in watcher.signs()))
            for told, its in zip(told_by(watcher)[2:5], told_by(straight)[2:5]):
                self.assertEqual(told, its)
            self.assertEqual(watcher.signs(), straight.signs())


class FirstSights(unittest.TestCase):
    def test_against_the_words(self):
        later = 0
        for model in MODELS:
            for signs in list(all_signs(model, 3)) + [tuple(Random(3).choices(kinds(model), k=20))]:
                told = replayed(model, tuple(("see", sign) for sign in signs)).first_sights()
                self.assertEqual(told, plain_sights(model, signs))
                self.assertEqual(len(told), len(sure_states(model, signs)))
                self.assertEqual(sorted(told), list(told))
                self.assertTrue(all(sight > at for at, sight in enumerate(told)))
                later += any(sight > at + 1 for at, sight in enumerate(told))
        self.assertGreater(later, 100)

    def test_one_after_another(self):
        for model in MODELS:
            source = Random(119)
            watcher, sights = Watcher(model), []
            for many in range(1, 21):
                watcher.act(("see", source.choice(kinds(model))))
                sights += [many] * (len(watcher.sure()) - len(sights))
                self.assertEqual(watcher.first_sights(), tuple(sights))

    def test_signs_that_were_seen_taken_back_and_seen_again(self):
        watcher = replayed(TURNS, (("see", 1), ("see", 1)))
        self.assertEqual(watcher.first_sights(), (2, 2))
        # Had no sign been taken back, it would be the second one again.
        for command, sights in ((BACK, ()), (("see", 0), ()), (BACK, ()), (("see", 1), (2, 2))):
            watcher.act(command)
            self.assertEqual(watcher.first_sights(), sights)
        for command, sights in ((BACK, ()), (BACK, ()), (("see", 0), (1,)), (("see", 0), (1, 2))):
            watcher.act(command)
            self.assertEqual(watcher.first_sights(), sights)
        self.assertEqual(len(watcher.journal()), 10)

    def test_no_sure_state(self):
        watcher = replayed(TURNS, tuple(("see", sign) for sign in (1, 0) * 10))
        self.assertEqual((watcher.sure(), watcher.first_sights()), ((), ()))

    def test_all_sure_at_once(self):
        for model in (ALONE, LEAST):
            watcher = replayed(model, (("see", 0),) * 20)
            self.assertEqual(watcher.first_sights(), tuple(range(1, 21)))


class Twins(unittest.TestCase):
    def test_it_has_the_same_model_and_journal(self):
        source = Random(122)
        for model in MODELS:
            for many in (0, 1, 20):
                watcher = replayed(model, tuple(some_commands(source, model, many)))
                other = watcher.twin()
                self.assertIs(type(other), Watcher)
                self.assertIsNot(other, watcher)
                self.assertEqual(told_by(other), told_by(watcher))

    def test_what_is_done_to_the_one_does_not_change_the_other(self):
        for commands in ((("see", 1), ("see", 0)), (("see", 1), ("see", 1), BACK), (("see", 0),)):
            watcher = replayed(TURNS, commands)
            told = told_by(watcher)
            for first, second in ((watcher, watcher.twin()), (watcher.twin(), watcher)):
                first.act(("see", 1))
                self.assertEqual(told_by(second), told)
                self.assertEqual(first.undo(), ("see", 1))
                first.undo()
                self.assertEqual(told_by(second), told)
                first.act(commands[-1])
                self.assertEqual(told_by(first), told)

    def test_each_goes_its_own_way(self):
        watcher = replayed(TURNS, (("see", 1),))
        other = watcher.twin()
        third = other.twin()
        self.assertEqual((watcher.act(("see", 1)), other.act(("see", 0)), third.act(BACK)), (2, 2, 2))
        self.assertEqual((watcher.signs(), other.signs(), third.signs()), ((1, 1), (1, 0), ()))
        self.assertEqual((watcher.best()[0], other.best()[0], third.best()[0]), ((1, 1), (0, 0), ()))
        self.assertEqual((watcher.undo(), other.undo(), third.undo()), (("see", 1), ("see", 0), BACK))
        self.assertEqual((watcher.signs(), other.signs(), third.signs()), ((1,),) * 3)

    def test_watchers_share_nothing(self):
        first, second = Watcher(TURNS), Watcher(TURNS)
        first.act(("see", 1))
        self.assertEqual((first.signs(), second.signs()), ((1,), ()))
        self.assertEqual(Watcher(TURNS).journal(), ())

    def test_asking_changes_nothing(self):
        watcher = replayed(THREE, (("see", 2), ("see", 0), BACK, ("see", 1)))
        self.assertEqual(told_by(watcher), told_by(watcher))
        self.assertEqual(watcher.best(), best_row(THREE, (2, 1)))
        self.assertEqual(watcher.undo(), ("see", 1))


if __name__ == "__main__":
    unittest.main()
