import importlib
import inspect
import unittest

FUNCTIONS = {
    "keys": {
        "is_key": ["value"],
        "is_bound": ["value"],
        "is_range": ["low", "high"],
        "below": ["one", "other"],
        "contains": ["low", "high", "bound"],
        "overlap": ["low", "high", "other_low", "other_high"],
    },
    "texts": {
        "is_printable": ["value"],
        "is_integer": ["value", "least", "greatest"],
        "encode": ["value"],
        "decode": ["text"],
    },
    "operations": {
        "is_value": ["value"],
        "is_operation": ["value"],
        "is_answer": ["value"],
        "place": ["op"],
        "apply": ["items", "op", "high"],
    },
    "letters": {
        "is_server": ["count", "value"],
        "is_client": ["value"],
        "is_pairs": ["low", "high", "value"],
        "is_rows": ["value"],
        "is_letter": ["count", "value"],
        "check_letter": ["count", "sender", "receiver", "letter"],
    },
    "log": {
        "line_of": ["record"],
        "read_lines": ["text"],
    },
    "shard": {
        "made": ["low", "high", "epoch", "pairs", "rows"],
    },
    "routes": {
        "is_whole": ["piece"],
    },
    "planner": {
        "plan": ["pieces", "count"],
    },
    "acts": {
        "check_act": ["act"],
    },
    "schedule": {
        "parse_schedule": ["text"],
        "act_line": ["act"],
        "run_schedule": ["text"],
    },
    "judge": {
        "request_fault": ["events"],
        "answer_fault": ["events"],
        "home_fault": ["holdings"],
        "cover_fault": ["holdings"],
        "lost_fault": ["holdings", "events"],
        "judge": ["events", "holdings"],
    },
}

CLASSES = {
    "errors": {
        "TableError": {}, "BadText": {}, "BadOperation": {}, "BadLetter": {}, "BadShard": {},
        "BadRecord": {}, "BadServer": {}, "DiskError": {}, "DiskCrashed": {},
        "BadSchedule": {"__init__": ["self", "line", "reason"]},
    },
    "files": {
        "Disk": {
            "__init__": ["self"],
            "names": ["self"],
            "read": ["self", "name"],
            "append": ["self", "name", "text"],
            "sync": ["self", "name"],
            "remove": ["self", "name"],
            "rename": ["self", "old", "new"],
            "pending": ["self", "name"],
            "arm": ["self", "count"],
            "crash": ["self", "keeps"],
        },
    },
    "log": {
        "Log": {
            "__init__": ["self", "disk", "name"],
            "records": ["self"],
            "append": ["self", "record"],
            "sync": ["self"],
            "rewrite": ["self", "records"],
        },
    },
    "sessions": {
        "Sessions": {
            "__init__": ["self"],
            "status": ["self", "client", "number"],
            "answer": ["self", "client"],
            "remember": ["self", "client", "number", "answer"],
            "rows": ["self"],
            "merged": ["self", "other"],
            "clone": ["self"],
        },
    },
    "shard": {
        "Shard": {
            "__init__": ["self", "low", "high", "epoch"],
            "has": ["self", "place"],
            "size": ["self"],
            "status": ["self", "client", "number"],
            "serve": ["self", "client", "number", "op"],
            "split": ["self", "at"],
            "join": ["self", "other"],
            "content": ["self"],
            "clone": ["self"],
        },
    },
    "epochs": {
        "Epochs": {
            "__init__": ["self"],
            "raise_to": ["self", "low", "high", "epoch"],
            "greatest": ["self", "low", "high"],
            "rows": ["self"],
        },
    },
    "holdings": {
        "Holdings": {
            "__init__": ["self", "records"],
            "fits": ["self", "record"],
            "add": ["self", "record"],
            "shards": ["self"],
            "find": ["self", "spot"],
            "status": ["self", "low", "client", "number"],
            "answer": ["self", "low", "client"],
            "measure": ["self", "low"],
            "content": ["self", "low", "high", "epoch"],
            "greatest": ["self", "low", "high"],
            "epochs": ["self"],
            "summary": ["self"],
        },
    },
    "server": {
        "Server": {
            "__init__": ["self", "me", "count", "disk"],
            "tick": ["self"],
            "receive": ["self", "sender", "letter"],
            "shards": ["self"],
            "content": ["self", "low", "high", "epoch"],
            "records": ["self"],
        },
    },
    "routes": {
        "Routes": {
            "__init__": ["self"],
            "add": ["self", "report"],
            "pieces": ["self"],
            "find": ["self", "place"],
            "drop": ["self", "place"],
        },
    },
    "directory": {
        "Directory": {
            "__init__": ["self", "count"],
            "tick": ["self"],
            "receive": ["self", "sender", "letter"],
            "pieces": ["self"],
        },
    },
    "client": {
        "Client": {
            "__init__": ["self", "name", "count"],
            "submit": ["self", "op"],
            "tick": ["self"],
            "receive": ["self", "sender", "letter"],
            "pending": ["self"],
            "accepted": ["self"],
            "pieces": ["self"],
        },
    },
    "net": {
        "Net": {
            "__init__": ["self"],
            "send": ["self", "sender", "receiver", "letter"],
            "take": ["self", "position"],
            "double": ["self", "position"],
            "move": ["self", "position"],
            "packets": ["self"],
            "count": ["self"],
        },
    },
    "history": {
        "History": {
            "__init__": ["self"],
            "add": ["self", "event"],
            "events": ["self"],
        },
    },
    "world": {
        "World": {
            "__init__": ["self", "servers", "clients"],
            "act": ["self", "step"],
            "time": ["self"],
            "packets": ["self"],
            "is_up": ["self", "server"],
            "shards": ["self", "server"],
            "content": ["self", "server", "low", "high", "epoch"],
            "holdings": ["self"],
            "client": ["self", "name"],
            "pieces": ["self"],
            "history": ["self"],
        },
    },
}


def parameters(function):
    return list(inspect.signature(function).parameters)


class InterfaceTest(unittest.TestCase):
    def test_functions(self):
        for name, functions in FUNCTIONS.items():
            module = importlib.import_module("boundstone." + name)
            for function, expected in functions.items():
                with self.subTest(function):
                    found = getattr(module, function)
                    self.assertEqual(found.__module__, module.__name__)
                    self.assertEqual(parameters(found), expected)

    def test_classes(self):
        for name, classes in CLASSES.items():
            module = importlib.import_module("boundstone." + name)
            for called, methods in classes.items():
                found = getattr(module, called)
                self.assertEqual(found.__module__, module.__name__)
                for method, expected in methods.items():
                    with self.subTest((called, method)):
                        self.assertEqual(parameters(vars(found)[method]), expected)


if __name__ == "__main__":
    unittest.main()
