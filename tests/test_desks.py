"""g1 to g4 and the interface: untold/desks.py."""

import random
import unittest

from tests.oracle import has_and_made, plain_letters, plain_own, plain_read, some_run
from untold.costs import rounds
from untold.desks import Desk, replayed
from untold.errors import BadEntry, BadState
from untold.parties import Party, carried
from untold.plain import shown
from untold.programs import output_rows

SETTING = ("setting", 7, 3, 1)
NEXT = ("next",)
PROGRAM = ("program", (("in", 1), ("in", 2), ("product", 0, 1), ("out", 2, 3)))
COINS = (1, 2, 0, 4, 1)
RUN = (SETTING, PROGRAM, (2, 3), COINS)
# All letters of the run, with the numbers of test_letters.py.
L012, L013 = ("letter", 0, 1, 2, 4), ("letter", 0, 1, 3, 5)
L121, L123 = ("letter", 1, 2, 1, 5), ("letter", 1, 2, 3, 2)
L212, L213 = ("letter", 2, 1, 2, 1), ("letter", 2, 1, 3, 1)
L221, L223 = ("letter", 2, 2, 1, 4), ("letter", 2, 2, 3, 5)
L231, L232 = ("letter", 2, 3, 1, 4), ("letter", 2, 3, 2, 5)
L313, L323 = ("letter", 3, 1, 3, 2), ("letter", 3, 2, 3, 5)
BEGINNING = (L012, L013, L121, L123)
SETTINGS = [("setting", *rest) for rest in (
    (2, 1, 0), (3, 2, 0), (5, 3, 1), (7, 5, 1), (7, 5, 2), (11, 6, 2), (11, 9, 4),
)]


def some_deed(pick, desk, p):
    """A deed, as the log has it, that the desk does not refuse."""
    name = pick.choice(("hand", "hand", "hand", "hold", "lose", "lie", "turn")) if desk.on_the_way else "turn"
    if name == "turn":
        return ("turn",)
    place = pick.randrange(len(desk.on_the_way))
    return (name, place, pick.randrange(p)) if name == "lie" else (name, place)


def do(desk, deed):
    """What the desk returns for a deed."""
    return getattr(desk, deed[0])(*deed[1:])


class ByTheWords:
    """A desk that keeps all that was done and reckons all anew; its parties are the letters that each took."""

    def __init__(self, setting, program, inputs, coins):
        self.run = (setting, program)
        self.own = [plain_own(setting, program, inputs, coins, i) for i in range(1, setting[2] + 1)]
        self.took = [[] for _ in self.own]
        self.way = [letter for at in range(len(self.own)) for letter in self.made(at)]

    def made(self, at):
        return has_and_made(*self.run, at + 1, *self.own[at], self.took[at])[1]

    def read(self):
        return dict(pair for at in range(len(self.own))
                    for pair in has_and_made(*self.run, at + 1, *self.own[at], self.took[at])[2])

    def do(self, name, place=None, x=None):
        if name == "turn":
            many = len(self.way)
            for _ in range(many):
                self.do("hand", 0)
            return many
        letter = self.way.pop(place)
        if name == "hand":
            at = letter[3] - 1
            before = self.made(at)
            self.took[at].append(letter)
            new = tuple(sorted(set(self.made(at)) - set(before)))
            self.way.extend(new)
            return new
        if name == "hold":
            self.way.append(letter)
        if name == "lie":
            letter = (*letter[:4], x)
            self.way.insert(place, letter)
        return letter


class Desks(unittest.TestCase):
    def state(self, desk):
        return (desk.on_the_way, desk.log, desk.done, desk.parties(), [party.took for party in desk.parties()],
                desk.report())

    def refuse(self, desk, name, *arguments, error=BadEntry):
        before = self.state(desk)
        with self.assertRaises(error, msg=arguments) as caught:
            getattr(desk, name)(*arguments)
        self.assertIs(caught.exception.__class__, error)
        if error is BadEntry:
            self.assertEqual(caught.exception.place, arguments[0])
        self.assertEqual(self.state(desk), before)


class Beginning(Desks):
    def test_by_hand(self):
        desk = Desk(*RUN)
        self.assertEqual(desk.on_the_way, BEGINNING)
        self.assertEqual((desk.log, desk.done), ([], False))
        self.assertEqual(desk.parties(), (
            Party(SETTING, PROGRAM, 1, (2,), (1, 0)), Party(SETTING, PROGRAM, 2, (3,), (2, 4)),
            Party(SETTING, PROGRAM, 3, (), (1,))))

    def test_what_can_be_made_at_once_is_on_the_way(self):
        # Constants need no letters, so products of them are dealt, and shown, at once.
        program = ("program", (("in", 2), ("const", 3), ("product", 1, 1), ("in", 1), ("out", 1, 2)))
        desk = Desk(SETTING, program, (0, 0), (0, 0, 0, 0, 0))
        self.assertEqual([letter[1:4] for letter in desk.on_the_way], [
            (2, 1, 2), (2, 1, 3), (3, 1, 2), (3, 1, 3), (4, 1, 2), (0, 2, 1), (0, 2, 3), (2, 2, 1), (2, 2, 3),
            (2, 3, 1), (2, 3, 2), (4, 3, 2)])

    def test_nothing_on_the_way(self):
        for run in ((("setting", 2, 1, 0), ("program", (("in", 1), ("out", 0, 1))), (1,), ()),
                    (SETTING, ("program", (("const", 1), NEXT)), (), ())):
            desk = Desk(*run)
            self.assertEqual((desk.on_the_way, desk.done, desk.log), ((), True, []))

    def test_properties_have_no_setters(self):
        desk = Desk(*RUN)
        for name in ("on_the_way", "log", "done"):
            self.assertIsInstance(Desk.__dict__[name], property)
            with self.assertRaises(AttributeError):
                setattr(desk, name, ())

    def test_the_parties_are_branches(self):
        desk = Desk(*RUN)
        desk.hand(2)
        parties = desk.parties()
        parties[1].take(L012)
        self.assertEqual(desk.parties()[1].took, ())
        self.assertEqual(desk.hand(0), (L221, L223))
        self.assertEqual([party.number for party in parties], [1, 2, 3])


class Deeds(Desks):
    def test_hand(self):
        desk = Desk(*RUN)
        self.assertEqual(desk.hand(2), (L212, L213))
        self.assertEqual(desk.on_the_way, (L012, L013, L123, L212, L213))
        self.assertEqual(desk.hand(1), ())
        self.assertEqual(desk.hand(0), (L221, L223))
        self.assertEqual(desk.on_the_way, (L123, L212, L213, L221, L223))
        self.assertEqual([party.took for party in desk.parties()], [(L121,), (L012,), (L013,)])
        self.assertEqual(desk.log, [("hand", 2), ("hand", 1), ("hand", 0)])

    def test_hold(self):
        desk = Desk(*RUN)
        self.assertEqual(desk.hold(1), L013)
        self.assertEqual(desk.on_the_way, (L012, L121, L123, L013))
        self.assertEqual(desk.hold(3), L013)
        self.assertEqual(desk.on_the_way, (L012, L121, L123, L013))
        self.assertEqual(desk.hold(0), L012)
        self.assertEqual(desk.on_the_way, (L121, L123, L013, L012))
        self.assertEqual(desk.log, [("hold", 1), ("hold", 3), ("hold", 0)])

    def test_lose(self):
        desk = Desk(*RUN)
        self.assertEqual(desk.lose(2), L121)
        self.assertEqual(desk.on_the_way, (L012, L013, L123))
        for many in (3, 4, 0):
            self.assertEqual(desk.turn(), many)
        self.assertEqual([party.took for party in desk.parties()], [(L221, L231), (L012, L232), (L013, L123, L223)])
        self.assertTrue(desk.done)

    def test_lie(self):
        desk = Desk(*RUN)
        self.assertEqual(desk.lie(2, 0), ("letter", 1, 2, 1, 0))
        self.assertEqual(desk.on_the_way, (L012, L013, ("letter", 1, 2, 1, 0), L123))
        self.assertEqual(desk.lie(2, 6), ("letter", 1, 2, 1, 6))
        self.assertEqual(desk.lie(2, 5), L121)
        self.assertEqual(desk.lie(2, 5), L121)
        self.assertEqual(desk.on_the_way, BEGINNING)
        self.assertEqual(desk.log, [("lie", 2, 0), ("lie", 2, 6), ("lie", 2, 5), ("lie", 2, 5)])
        desk.lie(0, 1)
        desk.hand(0)
        self.assertEqual(desk.parties()[1].took, (("letter", 0, 1, 2, 1),))

    def test_turn(self):
        desk = Desk(*RUN)
        self.assertEqual(desk.turn(), 4)
        self.assertEqual(desk.on_the_way, (L221, L223, L212, L213, L231, L232))
        self.assertEqual([party.took for party in desk.parties()], [(L121,), (L012,), (L013, L123)])
        self.assertEqual(desk.turn(), 6)
        self.assertEqual(desk.on_the_way, (L313, L323))
        self.assertEqual(desk.turn(), 2)
        self.assertTrue(desk.done)
        self.assertEqual(desk.turn(), 0)
        self.assertEqual(desk.log, [("turn",)] * 4)
        self.assertEqual(desk.parties(), carried(*RUN, ()))
        self.assertEqual(desk.parties()[2].read, ((3, 6),))

    def test_a_place_without_a_letter(self):
        desk = Desk(*RUN)
        for place in (4, 5, 100, 10 ** 30, -1, -4, -5, -10 ** 30):
            for name in ("hand", "hold", "lose"):
                self.refuse(desk, name, place)
            for x in (0, 6, 7, -1, None, "0", True, [], ()):
                self.refuse(desk, "lie", place, x)
        desk.lose(0)
        self.refuse(desk, "hand", 3)
        while not desk.done:
            desk.turn()
        for place in (0, -1, 1):
            for name in ("hand", "hold", "lose"):
                self.refuse(desk, name, place)
            self.refuse(desk, "lie", place, 0)

    def test_lies_that_are_no_numbers(self):
        desk = Desk(*RUN)
        for x in (7, -1, 8, 10 ** 30, None, True, False, "", "0", (), (0,), [], [0], [[None]]):
            for place in (0, 3):
                self.refuse(desk, "lie", place, x, error=BadState)
        thing = [1, [2]]
        self.refuse(desk, "lie", 0, thing, error=BadState)
        self.assertEqual(thing, [1, [2]])

    def test_the_log_is_a_new_list(self):
        desk = Desk(*RUN)
        desk.hand(0)
        log = desk.log
        self.assertEqual((type(log), type(log[0])), (list, tuple))
        log.append(("turn",))
        log[0] = ("hold", 2)
        self.assertEqual(desk.log, [("hand", 0)])
        desk.hold(0)
        self.assertEqual(log, [("hold", 2), ("turn",)])

    def test_some_deeds_by_the_words(self):
        for setting in SETTINGS:
            for seed in range(6):
                pick = random.Random(seed)
                run = (setting, *some_run(seed, setting, 4 + 2 * seed))
                desk, right, log = Desk(*run), ByTheWords(*run), []
                for _ in range(25):
                    deed = some_deed(pick, desk, setting[1])
                    log.append(deed)
                    self.assertEqual(do(desk, deed), right.do(*deed))
                    self.assertEqual(desk.on_the_way, tuple(right.way))
                    self.assertEqual(desk.done, not right.way)
                    self.assertEqual([party.took for party in desk.parties()], [tuple(some) for some in right.took])
                self.assertEqual(desk.log, log)

    def test_kinds_of_values(self):
        desk = Desk(*RUN)
        for answer in (desk.hand(0), desk.hold(0), desk.lose(0), desk.lie(0, 3), desk.on_the_way, desk.parties()):
            self.assertIsInstance(answer, tuple)
        self.assertIs(type(desk.turn()), int)
        self.assertIs(type(desk.report()), str)
        self.assertIs(desk.done, False)
        self.assertEqual(desk.undo(), "turn")


class Undo(Desks):
    def test_nothing_to_take_back(self):
        desk = Desk(*RUN)
        self.assertIs(desk.undo(), False)
        self.assertEqual(desk.log, [])
        desk.hand(0)
        self.assertEqual(desk.undo(), "hand")
        self.assertIs(desk.undo(), False)
        self.assertEqual(desk, Desk(*RUN))

    def test_each_deed(self):
        for deed in (("hand", 2), ("hold", 1), ("lose", 3), ("lie", 0, 6), ("lie", 0, 4), ("turn",), ("hold", 3)):
            desk = Desk(*RUN)
            do(desk, deed)
            self.assertEqual(desk.log, [deed])
            self.assertEqual(desk.undo(), deed[0])
            self.assertEqual(self.state(desk), self.state(Desk(*RUN)))

    def test_what_was_refused_is_no_deed(self):
        desk = Desk(*RUN)
        desk.hold(1)
        self.refuse(desk, "hand", 9)
        self.refuse(desk, "lie", 0, 9, error=BadState)
        self.assertEqual(desk.undo(), "hold")
        self.assertIs(desk.undo(), False)

    def test_a_turn_with_nothing_on_the_way_is_a_deed(self):
        desk = Desk(SETTING, ("program", (("const", 1),)), (), ())
        self.assertEqual(desk.turn(), 0)
        self.assertEqual(desk.log, [("turn",)])
        self.assertEqual(desk.undo(), "turn")
        self.assertIs(desk.undo(), False)

    def test_back_and_forth(self):
        pick = random.Random(11)
        for setting in SETTINGS[2:]:
            for seed in range(4):
                run = (setting, *some_run(seed, setting, 8))
                desk, states = Desk(*run), []
                for _ in range(40):
                    if states and pick.random() < 0.35:
                        state, name = states.pop()
                        self.assertEqual(desk.undo(), name)
                        self.assertEqual(self.state(desk), state)
                    else:
                        deed = some_deed(pick, desk, setting[1])
                        states.append((self.state(desk), deed[0]))
                        do(desk, deed)
                while states:
                    state, name = states.pop()
                    self.assertEqual(desk.undo(), name)
                    self.assertEqual(self.state(desk), state)
                self.assertIs(desk.undo(), False)
                self.assertEqual(desk, Desk(*run))


class Equality(Desks):
    def test_the_log_does_not_count(self):
        desk = Desk(*RUN)
        desk.hold(3)
        desk.lie(0, 4)
        self.assertTrue(desk == Desk(*RUN))
        self.assertFalse(desk != Desk(*RUN))
        self.assertNotEqual(desk.log, [])

    def test_the_order_in_which_letters_were_taken_does_not_count(self):
        first, second = Desk(*RUN), Desk(*RUN)
        first.hand(1)
        first.hand(2)
        second.hand(3)
        second.hand(1)
        self.assertEqual(first, second)
        self.assertNotEqual([party.took for party in first.parties()], [party.took for party in second.parties()])

    def test_the_order_of_the_letters_on_the_way_counts(self):
        desk = Desk(*RUN)
        desk.hold(0)
        self.assertFalse(desk == Desk(*RUN))
        self.assertTrue(desk != Desk(*RUN))

    def test_all_else(self):
        for other in (
            Desk(("setting", 11, 3, 1), *RUN[1:]), Desk(SETTING, ("program", PROGRAM[1][:3]), *RUN[2:]),
            Desk(SETTING, ("program", (*PROGRAM[1][:3], ("const", 1))), *RUN[2:]),
            Desk(SETTING, PROGRAM, (2, 4), COINS),
            Desk(SETTING, PROGRAM, (2, 3), (1, 2, 0, 4, 2)),
        ):
            self.assertNotEqual(Desk(*RUN), other)
        for name, arguments in (("hand", (0,)), ("lose", (0,)), ("lie", (0, 0)), ("turn", ())):
            desk = Desk(*RUN)
            getattr(desk, name)(*arguments)
            self.assertNotEqual(desk, Desk(*RUN))

    def test_lost_and_taken_are_not_the_same(self):
        first, second = Desk(*RUN), Desk(*RUN)
        first.lose(1)
        second.hand(1)
        self.assertEqual(first.on_the_way, second.on_the_way)
        self.assertNotEqual(first, second)

    def test_no_desk(self):
        desk = Desk(*RUN)
        for thing in (None, 1, "desk", (), [], True, RUN, object(), desk.parties(), Desk):
            self.assertIs(desk.__eq__(thing), NotImplemented)
            self.assertFalse(desk == thing)
            self.assertTrue(desk != thing)

    def test_no_hash(self):
        self.assertIsNone(Desk.__hash__)
        with self.assertRaises(TypeError):
            hash(Desk(*RUN))


class Branches(Desks):
    def test_a_branch_goes_its_own_way(self):
        desk = Desk(*RUN)
        desk.hand(2)
        desk.hold(0)
        before = self.state(desk)
        other = desk.branch()
        self.assertIsNot(desk, other)
        self.assertEqual(desk, other)
        self.assertEqual(self.state(other), before)
        other.turn()
        other.lie(0, 3)
        self.assertEqual(self.state(desk), before)
        after = self.state(other)
        desk.lose(0)
        desk.undo()
        desk.undo()
        self.assertEqual(self.state(other), after)

    def test_also_in_what_can_be_taken_back(self):
        desk = Desk(*RUN)
        desk.hand(2)
        desk.lie(0, 1)
        other = desk.branch()
        self.assertEqual([other.undo(), other.undo(), other.undo()], ["lie", "hand", False])
        self.assertEqual(other, Desk(*RUN))
        self.assertEqual(desk.log, [("hand", 2), ("lie", 0, 1)])
        self.assertEqual([desk.undo(), desk.undo(), desk.undo()], ["lie", "hand", False])

    def test_some_branches(self):
        pick = random.Random(7)
        for setting in SETTINGS[2:5]:
            desks = [Desk(setting, *some_run(3, setting, 9))]
            for _ in range(30):
                desk = pick.choice(desks)
                states = [self.state(other) for other in desks]
                new = desk.branch()
                self.assertEqual(self.state(new), self.state(desk))
                do(new, some_deed(pick, new, setting[1])) if pick.random() < 0.7 else new.undo()
                self.assertEqual([self.state(other) for other in desks], states)
                desks.append(new)


class Replayed(Desks):
    def test_by_hand(self):
        desk = replayed(*RUN, [("hand", 2), ("hold", 0), ("lose", 0), ("lie", 1, 6), ("turn",)])
        self.assertEqual(desk.log, [("hand", 2), ("hold", 0), ("lose", 0), ("lie", 1, 6), ("turn",)])
        other = Desk(*RUN)
        other.hand(2)
        other.hold(0)
        other.lose(0)
        other.lie(1, 6)
        other.turn()
        self.assertEqual(self.state(desk), self.state(other))
        self.assertIsInstance(desk, Desk)

    def test_an_empty_log(self):
        self.assertEqual(self.state(replayed(*RUN, [])), self.state(Desk(*RUN)))
        self.assertEqual(replayed(*RUN, ()), Desk(*RUN))

    def test_what_was_taken_back_is_not_replayed(self):
        for setting in SETTINGS:
            pick = random.Random(setting[2])
            run = (setting, *some_run(5, setting, 10))
            desk = Desk(*run)
            for _ in range(40):
                do(desk, some_deed(pick, desk, setting[1])) if pick.random() < 0.8 else desk.undo()
            log = desk.log
            again = replayed(*run, log)
            self.assertEqual(self.state(again), self.state(desk))
            self.assertEqual(log, desk.log)
            while desk.log:
                self.assertEqual(again.undo(), desk.undo())
                self.assertEqual(self.state(again), self.state(desk))

    def test_the_first_error(self):
        for log, error, place in (
            ([("hand", 4)], BadEntry, 4), ([("hand", 0), ("hold", -1), ("lie", 0, 9)], BadEntry, -1),
            ([("lie", 0, 9), ("hand", 99)], BadState, None), ([("turn",), ("lie", 6, 9)], BadEntry, 6),
            ([("turn",)] * 3 + [("lose", 0)], BadEntry, 0), ([("lie", 0, True)], BadState, None),
        ):
            with self.assertRaises(error) as caught:
                replayed(*RUN, log)
            self.assertIs(caught.exception.__class__, error)
            if error is BadEntry:
                self.assertEqual(caught.exception.place, place)


class Reports(Desks):
    def test_by_hand(self):
        desk = Desk(*RUN)
        self.assertEqual(desk.report(), "taken 0 of 12\nlost 0\nlies 0\nrow 3 to 3: waits\nopen\n")
        desk.hand(0)
        self.assertEqual(desk.report(), "taken 1 of 12\nlost 0\nlies 0\nrow 3 to 3: waits\nopen\n")
        desk.turn()
        self.assertEqual(desk.report(), "taken 6 of 12\nlost 0\nlies 0\nrow 3 to 3: waits\nopen\n")
        desk.turn()
        self.assertEqual(desk.report(), "taken 10 of 12\nlost 0\nlies 0\nrow 3 to 3: waits\nopen\n")
        desk.turn()
        self.assertEqual(desk.report(), "taken 12 of 12\nlost 0\nlies 0\nrow 3 to 3: 6\ndone\n")

    def test_lost_and_lies_are_deeds_of_the_log(self):
        desk = Desk(*RUN)
        for _ in range(2):
            desk.lie(0, 4)
        desk.lose(3)
        desk.lie(2, 0)
        self.assertEqual(desk.report(), "taken 0 of 12\nlost 1\nlies 3\nrow 3 to 3: waits\nopen\n")
        desk.undo()
        self.assertEqual(desk.report(), "taken 0 of 12\nlost 1\nlies 2\nrow 3 to 3: waits\nopen\n")
        desk.undo()
        self.assertEqual(desk.report(), "taken 0 of 12\nlost 0\nlies 2\nrow 3 to 3: waits\nopen\n")

    def test_nothing_is_read(self):
        # With n = 3 and t = 1 no wrong share can be read through.
        desk = Desk(*RUN)
        desk.turn()
        desk.turn()
        self.assertEqual(desk.on_the_way, (L313, L323))
        desk.lie(0, 3)
        desk.turn()
        self.assertEqual(desk.parties()[2].read, ((3, None),))
        self.assertEqual(desk.report(), "taken 12 of 12\nlost 0\nlies 1\nrow 3 to 3: nothing\ndone\n")

    def test_a_lost_letter_leaves_a_row_waiting(self):
        desk = Desk(*RUN)
        desk.turn()
        desk.turn()
        desk.lose(1)
        desk.turn()
        self.assertEqual(desk.report(), "taken 11 of 12\nlost 1\nlies 0\nrow 3 to 3: waits\ndone\n")

    def test_several_rows_out(self):
        program = ("program", (("in", 1), ("out", 0, 3), ("const", 0), ("out", 2, 1), NEXT, ("kept", 0), ("out", 5, 2),
                               ("out", 5, 1)))
        desk = Desk(SETTING, program, (5,), (1, 2, 3, 4))
        self.assertEqual(desk.report(), "taken 0 of 16\nlost 0\nlies 0\nrow 1 to 3: waits\nrow 3 to 1: waits\n"
                                        "row 6 to 2: waits\nrow 7 to 1: waits\nopen\n")
        while not desk.done:
            desk.turn()
        self.assertEqual(desk.report().split("\n")[3:], [
            "row 1 to 3: 5", "row 3 to 1: 0", "row 6 to 2: 5", "row 7 to 1: 5", "done", ""])

    def test_without_rows_out_and_letters(self):
        desk = Desk(SETTING, ("program", (("const", 1),)), (), ())
        self.assertEqual(desk.report(), "taken 0 of 0\nlost 0\nlies 0\ndone\n")
        desk = Desk(("setting", 2, 1, 0), ("program", (("in", 1), ("out", 0, 1))), (1,), ())
        self.assertEqual(desk.report(), "taken 0 of 0\nlost 0\nlies 0\nrow 1 to 1: 1\ndone\n")

    def test_some_runs_by_the_words(self):
        for setting in SETTINGS:
            for seed in range(6):
                pick = random.Random(seed)
                run = (setting, *some_run(seed, setting, 5 + 2 * seed))
                desk, right, log = Desk(*run), ByTheWords(*run), []
                for _ in range(30):
                    deed = some_deed(pick, desk, setting[1])
                    do(desk, deed)
                    right.do(*deed)
                    log.append(deed[0])
                    read = right.read()
                    lines = [f"taken {sum(len(some) for some in right.took)} of {len(plain_letters(*run))}",
                             f"lost {log.count('lose')}", f"lies {log.count('lie')}"]
                    for k in output_rows(run[1]):
                        told = "waits" if k not in read else "nothing" if read[k] is None else read[k]
                        lines.append(f"row {k} to {run[1][1][k][2]}: {told}")
                    lines.append("open" if right.way else "done")
                    self.assertEqual(desk.report(), "".join(f"{line}\n" for line in lines))


class Lies(Desks):
    def lead(self, pick, run, most):
        """A desk behind all letters, handed in some order, with at most so many lies about each row out."""
        setting, program = run[:2]
        desk, left = Desk(*run), {k: most for k in output_rows(program)}
        while not desk.done:
            place = pick.randrange(len(desk.on_the_way))
            k = desk.on_the_way[place][1]
            if left.get(k, 0) > 0 and pick.random() < 0.8:
                left[k] -= 1
                desk.lie(place, pick.randrange(setting[1]))
            if pick.random() < 0.2:
                desk.hold(place)
            else:
                desk.hand(place)
        return desk

    def test_few_lies_about_rows_out(self):
        lied = 0
        for setting in (("setting", 5, 3, 0), ("setting", 7, 4, 1), ("setting", 7, 5, 1), ("setting", 11, 7, 2),
                        ("setting", 11, 9, 2), ("setting", 11, 9, 4), ("setting", 5, 3, 1)):
            _, _, n, t = setting
            for seed in range(12):
                run = (setting, *some_run(seed, setting, 5 + seed))
                desk = self.lead(random.Random(seed), run, (n - t - 1) // 2)
                lied += desk.report().count("lies 0") == 0
                read = {k: x for party in desk.parties() for k, x in party.read}
                self.assertEqual(read, {k: value for k, _, value in shown(*run[:3])})
        self.assertGreater(lied, 30)

    def test_one_lie_too_many(self):
        # Then another number than the plain value, or none, may be read: the bound of g4 is the right one.
        program = ("program", (("in", 1), ("out", 0, 2)))
        for setting in (("setting", 7, 3, 1), ("setting", 7, 4, 1), ("setting", 7, 5, 2), ("setting", 7, 6, 1)):
            _, _, n, t = setting
            found = set()
            for seed in range(60):
                desk = Desk(setting, program, (3,), (1, 4)[:t])
                while any(letter[1] == 0 for letter in desk.on_the_way):
                    desk.hand([letter[1] for letter in desk.on_the_way].index(0))
                self.assertEqual(len(desk.on_the_way), n - 1)
                pick = random.Random(seed)
                for place in range((n - t - 1) // 2 + 1):
                    desk.lie(place, pick.randrange(7))
                row = {letter[2]: letter[4] for letter in desk.on_the_way}
                row[2] = desk.parties()[1].shares[0]
                desk.turn()
                right = plain_read(setting, [row[i] for i in range(1, n + 1)])
                self.assertEqual(desk.parties()[1].read, ((1, right),))
                found.add(right)
            self.assertGreater(len(found), 1)

    def test_a_whole_run_in_turns(self):
        for setting in SETTINGS:
            for seed in range(6):
                run = (setting, *some_run(seed, setting, 6 + seed))
                desk = Desk(*run)
                while not desk.done:
                    desk.turn()
                self.assertEqual(len(desk.log), rounds(*run[:2]))
                self.assertEqual(desk.parties(), carried(*run, ()))
