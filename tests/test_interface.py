"""The names, arguments and constants that the document's interface lists, file by file."""

import importlib
import inspect
import unittest

FUNCTIONS = {
    "instants": {
        "check_instant": "(instant, what='instant')",
        "next_instant": "(instant)",
        "later": "(instant, ticks)",
        "earliest": "(one, two)",
        "not_after": "(instant, cancel)",
    },
    "paths": {
        "write_path": "(path)",
        "read_path": "(text)",
        "is_above": "(one, two)",
        "child_path": "(path, scope, part)",
    },
    "plans": {
        "parts_of": "(node)",
        "check_plan": "(plan)",
        "depths": "(plan)",
        "job_count": "(plan)",
        "job_runs": "(plan)",
        "longest_cleanup": "(plan)",
    },
    "sources": {
        "write_plan": "(plan)",
        "read_plan": "(text)",
    },
    "foretelling": {
        "predict": "(plan, path, start, cancel)",
        "end_of": "(plan, start, cancel)",
        "job_end": "(node, start, cancel)",
    },
    "outlooks": {
        "moments": "(plan, start)",
        "outlook": "(plan, start, since)",
        "cause": "(plan, path, start, trace)",
    },
    "traces": {
        "write_trace": "(trace)",
        "read_trace": "(text)",
    },
    "coroutines": {
        "resume_node": "(node, step, answer)",
    },
    "tasks": {
        "scope_answer": "(scope, tasks)",
    },
    "blocks": {
        "encode_record": "(number, text)",
        "decode_piece": "(block)",
        "encode_head": "(grace)",
        "decode_head": "(block)",
    },
    "deeds": {
        "check_deed": "(deed)",
        "write_deed": "(deed)",
        "read_deed": "(text)",
    },
    "journal": {
        "format_disk": "(disk, grace)",
        "open_journal": "(disk)",
    },
}

CONSTANTS = {
    "instants": {"TIME_MOST": 1000000, "ROUND_MOST": 1000},
    "plans": {"NODES_MOST": 40, "DEPTH_MOST": 8, "RUNS_MOST": 60, "PARTS_MOST": 6},
    "sources": {"SOURCE_MOST": 2000},
    "traces": {"TRACE_MOST": 20000},
    "scheduler": {"ROOTS_MOST": 8, "GRACE_MOST": 1000, "TICKS_MOST": 1000, "CHOICES_MOST": 50},
    "disks": {"BLOCK": 32, "BLOCKS_MOST": 400},
    "blocks": {"PIECE": 24, "PIECES_MOST": 255},
    "journal": {"DEEDS_MOST": 200},
    "link": {"DESKS_MOST": 3},
}

CLASSES = {
    "errors": (
        "ForetoldError", "TextFault", "OutOfRange", "TooManyRoots", "GraceTooShort", "NoRoot", "NotReady",
        "TasksReady", "NotSettled", "UnlikeEffects", "UnlikeNews", "NotKept", "NotOpen", "HouseFull", "PowerCut",
        "NoLetter",
    ),
    "tasks": ("Task", "Scope"),
    "scheduler": ("Scheduler",),
    "disks": ("Disk",),
    "journal": ("Journal",),
    "house": ("House",),
    "books": ("Book",),
    "desks": ("Desk",),
    "link": ("Link",),
}

METHODS = {
    "errors": {
        "TextFault": {"__init__": "(self, line, column, words)"},
        "OutOfRange": {"__init__": "(self, name)"},
    },
    "tasks": {
        "Task": {
            "__init__": "(self, path, place, state='created', ended=None, outcome=None, result=None, mark=None)",
            "duplicate": "(self)",
            "is_alive": "(self)",
        },
        "Scope": {
            "__init__": "(self, path, mode, deadline, parts, closed=None, timed_out=False)",
            "duplicate": "(self)",
        },
    },
    "scheduler": {
        "Scheduler": {
            "__init__": "(self, grace)",
            "spawn": "(self, plan)",
            "cancel": "(self, root)",
            "clock": "(self)",
            "grace": "(self)",
            "root_count": "(self)",
            "ready": "(self)",
            "resume": "(self, number)",
            "settle": "(self)",
            "next_event": "(self)",
            "advance": "(self, ticks)",
            "run": "(self, ticks, choices)",
            "plan": "(self, root)",
            "started": "(self, root)",
            "cancelled": "(self, root)",
            "completion": "(self, root)",
            "trace": "(self, root)",
            "task": "(self, path)",
            "scopes": "(self)",
            "state": "(self)",
        },
    },
    "disks": {
        "Disk": {
            "__init__": "(self, blocks)",
            "size": "(self)",
            "read": "(self, at)",
            "write": "(self, at, block)",
            "flush": "(self)",
            "pending_count": "(self)",
            "cut_count": "(self)",
            "cut_power": "(self, torn)",
            "schedule_cut": "(self, many, torn)",
        },
    },
    "journal": {
        "Journal": {
            "grace": "(self)",
            "deeds": "(self)",
            "append": "(self, deed)",
            "sync": "(self)",
            "keep": "(self, many)",
            "free_blocks": "(self)",
        },
    },
    "house": {
        "House": {
            "__init__": "(self, disk, choices)",
            "spawn": "(self, plan)",
            "cancel": "(self, root)",
            "advance": "(self, ticks, choices)",
            "sync": "(self)",
            "clock": "(self)",
            "synced_clock": "(self)",
            "deed_count": "(self)",
            "synced_count": "(self)",
            "root_count": "(self)",
            "free_blocks": "(self)",
            "plan": "(self, root)",
            "started": "(self, root)",
            "cancelled": "(self, root)",
            "completion": "(self, root)",
            "trace": "(self, root)",
            "state": "(self)",
            "news": "(self)",
        },
    },
    "books": {
        "Book": {
            "__init__": "(self)",
            "take": "(self, effect)",
            "effects": "(self)",
        },
    },
    "desks": {
        "Desk": {
            "__init__": "(self)",
            "hear": "(self, news)",
            "roots": "(self)",
            "clock": "(self, root)",
            "foretold": "(self, root)",
            "told": "(self, root)",
        },
    },
    "link": {
        "Link": {
            "__init__": "(self, grace, desks, blocks)",
            "spawn": "(self, plan)",
            "cancel": "(self, root)",
            "advance": "(self, ticks, choices)",
            "sync": "(self)",
            "post": "(self)",
            "letters": "(self)",
            "drop": "(self, letter)",
            "duplicate": "(self, letter)",
            "deliver": "(self, letter)",
            "effects": "(self)",
            "told": "(self, desk, root)",
            "foretold": "(self, desk, root)",
            "desk_clock": "(self, desk, root)",
            "desk_roots": "(self, desk)",
            "clock": "(self)",
            "synced_clock": "(self)",
            "synced_count": "(self)",
            "completion": "(self, root)",
            "trace": "(self, root)",
            "cancelled": "(self, root)",
            "state": "(self)",
            "is_open": "(self)",
            "cut_power": "(self, torn)",
            "schedule_cut": "(self, many, torn)",
            "reopen": "(self, choices)",
        },
    },
}


def module(name):
    return importlib.import_module("asforetold." + name)


class InterfaceTest(unittest.TestCase):
    def test_functions_are_defined_in_their_files(self):
        for file, functions in FUNCTIONS.items():
            for name, arguments in functions.items():
                function = vars(module(file))[name]
                self.assertTrue(inspect.isfunction(function), name)
                self.assertEqual(function.__module__, "asforetold." + file, name)
                self.assertEqual(str(inspect.signature(function)), arguments, name)

    def test_constants(self):
        for file, constants in CONSTANTS.items():
            for name, value in constants.items():
                self.assertEqual(vars(module(file))[name], value, name)

    def test_classes_are_defined_in_their_files(self):
        for file, names in CLASSES.items():
            for name in names:
                made = vars(module(file))[name]
                self.assertTrue(inspect.isclass(made), name)
                self.assertEqual(made.__module__, "asforetold." + file, name)

    def test_methods_are_defined_in_their_classes(self):
        for file, classes in METHODS.items():
            for name, methods in classes.items():
                for method, arguments in methods.items():
                    function = vars(vars(module(file))[name])[method]
                    self.assertEqual(str(inspect.signature(function)), arguments, (name, method))


if __name__ == "__main__":
    unittest.main()
