import importlib
import inspect
import unittest

CLASSES = {
    "errors": {
        "KeepError": (), "InvalidWorks": (), "InvalidCourse": (), "InvalidState": (),
        "InvalidMove": (), "InvalidCommand": (), "InvalidLine": (),
    },
    "works": {
        "Works": ("check_state", "may_move", "moved", "next_level"),
        "Course": ("count", "hour", "has", "narrowed", "raised"),
    },
    "plan": {
        "Plan": ("worst", "is_kept", "levels", "cost", "action", "beaten_by"),
    },
    "session": {
        "Session": ("run", "moment", "transcript"),
    },
}
ARGUMENTS = {
    "works": {
        "Works": ("wall", "flow", "pump", "rest", "deep"),
        "Works.check_state": ("self", "state"),
        "Works.may_move": ("self", "state"),
        "Works.moved": ("self", "state", "shut"),
        "Works.next_level": ("self", "level", "shut", "sea", "river"),
        "Course": ("hours",),
        "Course.count": ("self",),
        "Course.hour": ("self", "number"),
        "Course.has": ("self", "number", "sea", "river"),
        "Course.narrowed": ("self", "number", "hour"),
        "Course.raised": ("self", "surge"),
        "span": ("works", "course", "number", "level", "shut"),
        "is_good": ("works", "course", "number", "shut", "level"),
    },
    "plan": {
        "Plan": ("works", "course"),
        "Plan.worst": ("self", "number", "state"),
        "Plan.is_kept": ("self", "number", "state"),
        "Plan.levels": ("self", "number", "shut", "since"),
        "Plan.cost": ("self", "number", "state", "shut"),
        "Plan.action": ("self", "number", "state"),
        "Plan.beaten_by": ("self", "number", "state", "shut"),
    },
    "papers": {
        "stretches": ("levels",),
        "kept_paper": ("plan",),
        "lost_paper": ("plan",),
        "judge_kept": ("works", "course", "state", "paper"),
        "judge_lost": ("works", "course", "state", "paper"),
    },
    "searches": {
        "walled": ("works", "wall"),
        "wall_needed": ("works", "course", "state"),
        "greatest_surge": ("works", "course", "state"),
        "last_closing": ("works", "course", "state"),
    },
    "notation": {
        "format_book": ("works", "course"),
        "parse_book": ("text",),
        "format_state": ("state",),
        "parse_state": ("text",),
        "format_levels": ("levels",),
    },
    "session": {
        "Session": ("text", "state"),
        "Session.run": ("self", "command"),
        "Session.moment": ("self",),
        "Session.transcript": ("self",),
        "replay": ("text",),
    },
}


def _module(name):
    return importlib.import_module(f"surgekept.{name}")


class InterfaceTest(unittest.TestCase):

    def test_classes_stand_in_their_files_with_their_methods(self):
        for module, classes in CLASSES.items():
            for name, methods in classes.items():
                found = getattr(_module(module), name)
                self.assertEqual(found.__module__, f"surgekept.{module}")
                for method in methods:
                    self.assertIn(method, vars(found), name)

    def test_arguments_have_their_names(self):
        for module, names in ARGUMENTS.items():
            for name, arguments in names.items():
                found = _module(module)
                for part in name.split("."):
                    found = getattr(found, part)
                self.assertEqual(found.__module__, f"surgekept.{module}")
                self.assertEqual(tuple(inspect.signature(found).parameters), arguments, name)


if __name__ == "__main__":
    unittest.main()
