"""The interface: each function, class, method and field stands where the document lists it, with its arguments."""

import importlib
import inspect
import unittest

from tapline import errors
from tapline.check import typed_script

SCRIPT = typed_script("int n; probe tick { n = 1; @t = count(); }")
PROGRAMS, RATES = ((0,),), (1,)

FUNCTIONS = {
    "tokens": {"tokens": "text"},
    "parser": {"parse": "text", "parse_expr": "text"},
    "printing": {"print_script": "script", "print_action": "action", "print_expr": "expr"},
    "check": {"check_script": "script", "typed_script": "text", "kind_of": "typed clause expr"},
    "log": {"log_of": "programs rates picks", "events_of": "views kind"},
    "values": {"wrap": "n", "zero": "kind", "apply_op": "sign a b", "apply_same": "sign s t"},
    "meaning": {"number_of": "event", "names_event": "pattern event"},
    "code": {"is_code": "thing", "following": "code r", "reads": "row", "reads_places": "row", "writes": "row"},
    "compile_clause": {"compile_clause": "script index"},
    "run_code": {"run_code": "code view store"},
    # The language has no parameter called locals, so the third one has another name.
    "judge": {"may_run": "code script own"},
    "steps": {"known_holds": "code claim", "needed_holds": "code claim", "places_hold": "code claim", "reached_holds": "code claim",
              "take_step": "code step"},
    "optimise": {"optimise": "code"},
    "code_text": {"write_text": "code", "read_text": "text"},
    "code_bytes": {"write_bytes": "code", "read_bytes": "row"},
    "aggregates": {"interval": "n", "kept": "function numbers", "join": "function one other", "merge": "function tables"},
    "buffers": {"size_of": "record"},
    "lines": {"line_of": "cpu item", "item_of": "line", "table_lines": "script merged"},
    "reader": {"joined": "items", "merge_tables": "script tables"},
    "run": {"codes_of": "script", "run_texts": "programs rates texts deeds coded"},
}

CLASSES = {
    ("machine", "Machine"): {"__init__": "programs rates", "step": "pick", "state": ""},
    ("stops", "StoppedMachine"): {"__init__": "programs rates", "step": "pick", "state": "", "set_stop": "pid at", "clear_stop": "pid at",
                                  "stops": "", "raw_memory": "pid"},
    ("meaning", "Meaning"): {"__init__": "script lost empty", "handle": "view", "variables": ""},
    ("variables", "Variables"): {"__init__": "script cells", "global_value": "i", "thread_value": "tid i", "array_value": "i keys",
                                 "set_global": "i value", "set_thread": "tid i value", "set_array": "i keys value", "image": ""},
    ("aggregates", "Aggregates"): {"__init__": "function cells", "put": "key n", "look": "", "empty": ""},
    ("buffers", "Buffer"): {"__init__": "room policy", "add": "record", "add_block": "items", "held": "", "switch": "", "give_back": ""},
    ("speculations", "Speculations"): {"__init__": "places room", "begin": "", "is_open": "number", "add": "number record", "held": "number",
                                       "commit": "number buffer", "discard": "number"},
    ("session", "Session"): {"__init__": "script sizes codes", "handle": "view", "read": "cpu", "tables": "cpu", "lost": "", "lost_tries": "",
                             "empty_calls": "", "variables": ""},
    ("trace", "Tracer"): {"__init__": "programs rates", "put_in": "script sizes codes", "take_out": "number", "step": "pick",
                          "session": "number", "is_in": "number"},
    ("reader", "Reader"): {"__init__": "cpus", "take": "cpu items", "row": "cpu", "merged": "", "lost": ""},
}

FIELDS = (
    ("meaning", "Meaning", (SCRIPT, (), ()), {"tries": 0, "calls": 0, "ended": False}),
    ("variables", "Variables", (SCRIPT, 1), {"lost": 0}),
    ("aggregates", "Aggregates", ("sum", 1), {"lost": 0}),
    ("buffers", "Buffer", (1, "hold"), {"used": 0, "lost": 0}),
    ("speculations", "Speculations", (1, 1), {"lost": 0}),
    ("session", "Session", (SCRIPT, (1, 0, "hold", 0, 0, 0, 0), None), {"ended": False}),
)


def module(name):
    return importlib.import_module("tapline." + name)


def parameters(function):
    return " ".join(inspect.signature(function).parameters)


class Interface(unittest.TestCase):
    def test_functions(self):
        for name, functions in FUNCTIONS.items():
            for word, taken in functions.items():
                with self.subTest(function=f"{name}.{word}"):
                    function = vars(module(name))[word]
                    self.assertEqual(function.__module__, "tapline." + name)
                    self.assertEqual(parameters(function), taken)

    def test_classes(self):
        for (name, word), methods in CLASSES.items():
            one = vars(module(name))[word]
            self.assertEqual(one.__module__, "tapline." + name)
            for method, taken in methods.items():
                with self.subTest(method=f"{word}.{method}"):
                    self.assertEqual(parameters(vars(one)[method]), f"self {taken}".strip())

    def test_fields_of_new_objects(self):
        for name, word, given, fields in FIELDS:
            one = getattr(module(name), word)(*given)
            for field, value in fields.items():
                self.assertEqual(repr(getattr(one, field)), repr(value), f"{word}.{field}")
        self.assertIsInstance(module("trace").Tracer(PROGRAMS, RATES).machine, module("stops").StoppedMachine)

    def test_coded_is_passed_by_keyword(self):
        coded = inspect.signature(module("run").run_texts).parameters["coded"]
        self.assertEqual((coded.kind, coded.default), (inspect.Parameter.KEYWORD_ONLY, True))

    def test_constants(self):
        for name, word, many in (("tokens", "KEYWORDS", 38), ("check", "EVENTS", 9), ("code", "WORDS", 32)):
            held = getattr(module(name), word)
            self.assertIs(type(held), tuple)
            self.assertEqual(len(held), many)

    def test_errors(self):
        for word in ("TapError", "TextError", "BadCharacter", "BadNumber", "BadQuote", "Unexpected", "ScriptError", "DoubleName", "UnknownName",
                     "WrongKind", "WrongCount", "CodeError", "BadStep", "BadBytes", "BadText", "BadLine"):
            self.assertTrue(issubclass(vars(errors)[word], ValueError))


if __name__ == "__main__":
    unittest.main()
