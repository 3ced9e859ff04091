"""u1 and the opening words of the interface: names, arguments, files, and kinds of values."""

import importlib
import inspect
import unittest

from untold.desks import Desk
from untold.parties import Party

INTERFACE = {
    "field": {"is_prime": "n", "inverse": "p a", "power": "p a k"},
    "polys": {
        "value_at": "p poly x", "through": "p points values", "weights": "p points x", "veil": "p points",
        "added": "p one other", "scaled": "p c poly",
    },
    "sharing": {
        "check_setting": "setting", "shares": "setting s coins", "ways": "setting known s", "told": "setting known",
    },
    "reading": {
        "readings": "setting row e", "read": "setting row", "wrong": "setting row poly", "twins": "setting e",
    },
    "programs": {
        "check_program": "setting program", "epochs": "program", "epoch_of": "program k", "input_rows": "program",
        "output_rows": "program",
    },
    "plain": {"values": "setting program inputs", "shown": "setting program inputs"},
    "coins": {"coins_of": "setting program", "places": "setting program"},
    "runs": {
        "run": "setting program inputs coins", "polys_of": "setting shares", "sent": "setting program inputs coins",
    },
    "views": {
        "check_watchers": "setting program watchers", "view": "setting program inputs coins watchers",
        "agree": "setting program first second watchers",
    },
    "matching": {"matched": "setting program first second coins watchers"},
    "still": {
        "still": "setting program inputs watchers", "count_views": "setting program inputs watchers",
    },
    "outputs": {"read_out": "setting program inputs coins lies"},
    "seen": {"shares_seen": "setting program seen watchers", "opened": "setting program seen watchers"},
    "triples": {
        "triple_places": "setting program", "triple_coins_of": "setting program",
        "triple_run": "setting program inputs coins", "triple_view": "setting program inputs coins watchers",
        "triple_matched": "setting program first second coins watchers",
    },
    "dealing": {
        "square": "setting s coins", "lines": "setting square", "agreeing": "setting lines", "core": "setting lines",
        "square_of": "setting lines some", "veiled": "setting square d some",
    },
    "unseen": {
        "paper": "setting program first second coins watchers", "judge": "setting program watchers thing",
    },
    "words": {"words_of": "line number"},
    "sheets": {"compile_sheet": "setting text"},
    "programtext": {"format_program": "program", "read_program": "setting text"},
    "letters": {
        "sends": "setting program k i j", "letters_of": "setting program inputs coins",
        "own_inputs": "program inputs party", "own_coins": "setting program coins party",
    },
    "parties": {"carried": "setting program inputs coins order", "reached": "setting program lost"},
    "papers": {
        "write_paper": "party", "read_paper": "setting program text", "seen": "setting program papers watchers",
    },
    "costs": {
        "many_letters": "setting program", "clock": "setting program", "rounds": "setting program",
        "chain": "setting program",
    },
    "desks": {"replayed": "setting program inputs coins log"},
}
# For each class its file, the arguments of what stands in its own body, and its properties.
CLASSES = {
    Party: (
        "parties",
        {"__init__": "setting program number inputs coins", "take": "letter", "branch": "", "__eq__": "other"},
        "number inputs coins took shares made read",
    ),
    Desk: (
        "desks",
        {
            "__init__": "setting program inputs coins", "parties": "", "hand": "place", "hold": "place",
            "lose": "place",
            "lie": "place x", "turn": "", "undo": "", "report": "", "branch": "", "__eq__": "other",
        },
        "on_the_way log done",
    ),
}

SETTING = ("setting", 11, 5, 2)
ROWS = (
    ("in", 1), ("in", 2), ("product", 0, 1), ("times", 3, 2), ("less", 3, 0), ("out", 4, 3), ("next",), ("kept", 4),
    ("const", 2), ("sum", 7, 8), ("out", 9, 5),
)
PROGRAM = ("program", ROWS)
COINS = tuple(k * k % 11 for k in range(24))
WATCHERS = ((1, 3), (2, 3))
SEEN = (
    ("own", 3, (0, 1)), ("sent", (6, 2)), ((4, 9), (1, 2), (3, 1), (0, 0), (5, 5)), (), (), (6, 6, 6, 6, 6), (),
    (((1,), (2,), (1, 3), (4,), (5,)), (2, 3)), (), (), (),
)
SQUARE = ((5, 1, 2), (1, 3, 4), (2, 4, 9))
LINES = ((8, 8, 4), (4, 1, 3), (4, 6, 8), (8, 1, 9), (5, 5, 5))
PARTY = Party(SETTING, PROGRAM, 1, (3,), (1, 2, 3, 4, 5, 6))
PARTY.take(("letter", 1, 2, 1, 7))
# Few coins, for what tries all.
LITTLE = (("setting", 5, 3, 1), ("program", (("in", 1), ("in", 2), ("sum", 0, 1), ("out", 2, 3))))
CALLS = (
    ("field", "is_prime", (97,)), ("field", "is_prime", (91,)), ("field", "inverse", (11, 4)),
    ("field", "power", (11, 4, 99)),
    ("polys", "value_at", (11, (1, 2, 3), 4)), ("polys", "through", (11, (3, 1, 2), (5, 5, 0))),
    ("polys", "weights", (11, (3, 1, 2), 0)), ("polys", "veil", (11, (3, 1))),
    ("polys", "added", (11, (9, 2), (3, 10))), ("polys", "scaled", (11, 5, (9, 2))),
    ("sharing", "check_setting", (SETTING,)), ("sharing", "shares", (SETTING, 4, (1, 2))),
    ("sharing", "ways", (SETTING, ((1, 2),), 3)), ("sharing", "told", (SETTING, ((1, 2), (3, 4), (5, 1)))),
    ("sharing", "told", (SETTING, ((1, 2),))),
    ("reading", "readings", (SETTING, (1, 2, 3, 4, 6), 2)), ("reading", "read", (SETTING, (1, 2, 3, 4, 6))),
    ("reading", "read", (SETTING, (1, 2, 3, 4, 5))), ("reading", "wrong", (SETTING, (1, 2, 3, 4, 6), (0, 1, 0))),
    ("reading", "twins", (SETTING, 2)), ("reading", "twins", (SETTING, 1)),
    ("programs", "check_program", (SETTING, PROGRAM)), ("programs", "epochs", (PROGRAM,)),
    ("programs", "epoch_of", (PROGRAM, 8)), ("programs", "input_rows", (PROGRAM,)),
    ("programs", "output_rows", (PROGRAM,)), ("plain", "values", (SETTING, PROGRAM, (3, 4))),
    ("plain", "shown", (SETTING, PROGRAM, (3, 4))), ("coins", "coins_of", (SETTING, PROGRAM)),
    ("coins", "places", (SETTING, PROGRAM)),
    ("runs", "run", (SETTING, PROGRAM, (3, 4), COINS)), ("runs", "sent", (SETTING, PROGRAM, (3, 4), COINS)),
    ("runs", "polys_of", (SETTING, ((1, 2, 3, 4, 5), None, (6, 6, 6, 6, 6)))),
    ("views", "check_watchers", (SETTING, PROGRAM, WATCHERS)),
    ("views", "check_watchers", (SETTING, PROGRAM, [(1, 3), (True,)])),
    ("views", "view", (SETTING, PROGRAM, (3, 4), COINS, WATCHERS)),
    ("views", "agree", (SETTING, PROGRAM, (3, 4), (3, 5), WATCHERS)),
    ("views", "agree", (SETTING, PROGRAM, (3, 4), (3, 5), ((), ()))),
    ("matching", "matched", (SETTING, PROGRAM, (3, 4), (5, 6), COINS, ((), (2, 3)))),
    ("still", "still", (*LITTLE, (1, 2), ((3,),))), ("still", "count_views", (*LITTLE, (1, 2), ((3,),))),
    ("outputs", "read_out", (SETTING, PROGRAM, (3, 4), COINS, ((5, 1, 0), (5, 2, 0), (10, 4, 7)))),
    ("seen", "shares_seen", (SETTING, PROGRAM, SEEN, WATCHERS)), ("seen", "opened", (SETTING, PROGRAM, SEEN, WATCHERS)),
    ("seen", "opened", (SETTING, ("program", (("const", 3),)), ((),), ((1, 2, 3),))),
    ("triples", "triple_places", (SETTING, PROGRAM)), ("triples", "triple_coins_of", (SETTING, PROGRAM)),
    ("triples", "triple_run", (SETTING, PROGRAM, (3, 4), COINS)),
    ("triples", "triple_view", (SETTING, PROGRAM, (3, 4), COINS, WATCHERS)),
    ("triples", "triple_matched", (SETTING, PROGRAM, (3, 4), (5, 6), COINS[:22], ((), (2, 3)))),
    ("dealing", "square", (SETTING, 5, (1, 2, 3, 4, 9))), ("dealing", "lines", (SETTING, SQUARE)),
    ("dealing", "agreeing", (SETTING, LINES)), ("dealing", "core", (SETTING, LINES)),
    ("dealing", "square_of", (SETTING, LINES, (1, 2, 3))), ("dealing", "square_of", (SETTING, LINES, (1, 2, 3, 5))),
    ("dealing", "veiled", (SETTING, SQUARE, 3, (2,))),
    ("unseen", "paper", (SETTING, PROGRAM, (3, 4), (5, 6), COINS, ((), (2, 3)))),
    ("unseen", "judge", (SETTING, PROGRAM, WATCHERS, ("unseen", (3, 4), (3, 4), COINS, COINS))),
    ("unseen", "judge", (SETTING, PROGRAM, WATCHERS, ["unseen", (3, True), None])),
    ("words", "words_of", ("show (a+2) to 3", 4)), ("words", "words_of", ("", 1)),
    ("sheets", "compile_sheet", (SETTING, "a = input 1\nb = -a * (2 + a)\nshow b to 2\nnext a\nc = a - 1 * 2\n")),
    ("programtext", "format_program", (PROGRAM,)), ("programtext", "read_program", (SETTING,
    "w0 = input 1\nshow w0 to 2")),
    ("letters", "sends", (SETTING, PROGRAM, 0, 1, 2)), ("letters", "sends", (SETTING, PROGRAM, 0, 2, 1)),
    ("letters", "letters_of", (SETTING, PROGRAM, (3, 4), COINS)), ("letters", "own_inputs", (PROGRAM, (3, 4), 2)),
    ("letters", "own_coins", (SETTING, PROGRAM, COINS, 2)),
    ("parties", "carried", (SETTING, PROGRAM, (3, 4), COINS, (3, 1, 4))),
    ("parties", "reached", (SETTING, PROGRAM, ((2, 1, 3), (7, 7, 7)))), ("papers", "write_paper", (PARTY,)),
    ("papers", "read_paper", (SETTING, PROGRAM, "party 3\ninputs\ncoins 1 2 3 4\ngot 0 1 5\n")),
    ("papers", "seen", (SETTING, PROGRAM, (), ((), ()))), ("costs", "many_letters", (SETTING, PROGRAM)),
    ("costs", "clock", (SETTING, PROGRAM)), ("costs", "rounds", (SETTING, PROGRAM)),
    ("costs", "chain", (SETTING, PROGRAM)),
    ("desks", "replayed", (SETTING, PROGRAM, (3, 4), COINS, [("hand", 3), ("lie", 0, 7), ("turn",)])),
)
ANSWERS_YES_OR_NO = {"is_prime", "check_watchers", "agree", "judge", "sends"}


def function_of(module, name):
    return getattr(importlib.import_module("untold." + module), name)


def is_plain(thing):
    """Whether a thing is made of tuples, strings, integers, None, parties and desks alone, without booleans."""
    if isinstance(thing, tuple):
        return all(is_plain(item) for item in thing)
    return thing is None or type(thing) in (int, str, Party, Desk)


class Interface(unittest.TestCase):
    def test_names_arguments_and_files(self):
        for module, functions in INTERFACE.items():
            for name, arguments in functions.items():
                function = function_of(module, name)
                self.assertTrue(inspect.isfunction(function), name)
                self.assertEqual(function.__module__, "untold." + module, name)
                self.assertEqual(list(inspect.signature(function).parameters), arguments.split(), name)

    def test_classes(self):
        for one, (module, methods, properties) in CLASSES.items():
            self.assertEqual(one.__module__, "untold." + module)
            for name, arguments in methods.items():
                self.assertTrue(inspect.isfunction(vars(one)[name]), name)
                found = list(inspect.signature(vars(one)[name]).parameters)
                self.assertEqual(found, ["self", *arguments.split()], name)
            for name in properties.split():
                self.assertIsInstance(vars(one)[name], property, name)
                self.assertIsNone(vars(one)[name].fset, name)
            self.assertIsNone(one.__hash__)

    def test_each_function_is_called_below(self):
        called = {(module, name) for module, name, _ in CALLS}
        self.assertEqual(called, {(module, name) for module, names in INTERFACE.items() for name in names})


class Values(unittest.TestCase):
    def test_booleans_are_no_integers(self):
        for module, name, arguments in CALLS:
            answer = function_of(module, name)(*arguments)
            if name in ANSWERS_YES_OR_NO:
                self.assertIsInstance(answer, bool)
            else:
                self.assertTrue(is_plain(answer), (name, answer))

    def test_the_checks_return_none(self):
        self.assertIsNone(function_of("sharing", "check_setting")(SETTING))
        self.assertIsNone(function_of("programs", "check_program")(SETTING, PROGRAM))

    def test_same_arguments_same_answers(self):
        first = [function_of(module, name)(*arguments) for module, name, arguments in CALLS]
        second = [function_of(module, name)(*arguments) for module, name, arguments in reversed(CALLS)]
        self.assertEqual(first, second[::-1])

    def test_arguments_stay(self):
        before, party = repr(CALLS), PARTY.branch()
        for module, name, arguments in CALLS:
            function_of(module, name)(*arguments)
        self.assertEqual(repr(CALLS), before)
        self.assertEqual((PARTY, PARTY.took), (party, party.took))
