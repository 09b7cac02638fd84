import importlib
import inspect
import pathlib
import unittest

import metronet.admission
import metronet.copies
import metronet.errors
import metronet.judging
import metronet.nets
import metronet.others
import metronet.plans
import metronet.routes
import metronet.simulation
import metronet.texts
import metronet.windows

INTERFACE = {
    metronet.errors: {"MetronetError": "(place)", "InvalidText": "(place)"},
    metronet.nets: {
        "Net": "(kinds, lines, *, processing=0, error=0)",
        "is_path": "(net, nodes)",
        "ports_of": "(path)",
        "are_separate": "(first, second)",
    },
    metronet.routes: {
        "shortest_path": "(net, first, last)",
        "separate_paths": "(net, first, last)",
        "bottleneck": "(net, first, last)",
    },
    metronet.windows: {
        "meet": "(first, second)",
        "first_meeting": "(first, second)",
        "is_free": "(windows, tick)",
        "common_period": "(windows)",
    },
    metronet.plans: {
        "Stream": "(period, length, deadline, path)",
        "window_of": "(entry, hop)",
        "arrival_of": "(net, entry, hop)",
        "windows_at": "(plan, port)",
    },
    metronet.judging: {
        "judge": "(net, plan)",
        "wait_of": "(net, entry, hop)",
        "worst_errors": "(net, plan, fault)",
    },
    metronet.simulation: {
        "Run": "(deliveries, fault)",
        "simulate": "(net, plan, errors, count, *, broken=None)",
    },
    metronet.others: {
        "send_others": "(windows, frames)",
        "gap": "(windows)",
        "longest_wait": "(windows, length)",
    },
    metronet.admission: {"admit": "(net, plan, stream)", "Ledger": "(net)"},
    metronet.copies: {
        "Eliminator": "(size)",
        "history_of": "(net, first, second)",
        "receive": "(net, plan, pair, run)",
    },
    metronet.texts: {"write_text": "(net, plan)", "read_text": "(text)"},
}
METHODS = {
    metronet.nets.Net: {"delay": "(self, a, b)", "neighbours": "(self, a)", "__eq__": "(self, other)"},
    metronet.plans.Stream: {"__eq__": "(self, other)"},
    metronet.admission.Ledger: {
        "request": "(self, name, stream)",
        "release": "(self, name)",
        "names": "(self)",
        "plan": "(self)",
    },
    metronet.copies.Eliminator: {"take": "(self, number)"},
}
PACKAGE = pathlib.Path(metronet.errors.__file__).parent


class InterfaceTest(unittest.TestCase):
    def test_arguments(self):
        for module, names in INTERFACE.items():
            for name, arguments in names.items():
                self.assertEqual(str(inspect.signature(getattr(module, name))), arguments, name)

    def test_defined_where_the_interface_lists_them(self):
        for module, names in INTERFACE.items():
            for name in names:
                self.assertEqual(getattr(module, name).__module__, module.__name__)

    def test_classes(self):
        for module, names in INTERFACE.items():
            for name in names:
                self.assertEqual(inspect.isclass(getattr(module, name)), name[0].isupper(), name)

    def test_methods_stand_in_their_class(self):
        for listed, methods in METHODS.items():
            for name, arguments in methods.items():
                self.assertIn(name, vars(listed))
                self.assertEqual(str(inspect.signature(vars(listed)[name])), arguments, name)

    def test_error_classes(self):
        for path in PACKAGE.glob("*.py"):
            module = importlib.import_module("metronet" if path.stem == "__init__" else f"metronet.{path.stem}")
            errors = [value for value in vars(module).values() if inspect.isclass(value) and issubclass(value, Exception)]
            for error in errors:
                if error is not metronet.errors.MetronetError:
                    self.assertEqual(error.__bases__, (metronet.errors.MetronetError,))


if __name__ == "__main__":
    unittest.main()
