import inspect
import unittest

import metronet.errors
import metronet.judging
import metronet.nets
import metronet.plans
import metronet.routes
import metronet.simulation
import metronet.windows

INTERFACE = {
    metronet.errors: {"MetronetError": "(place)", "InvalidText": "(place)"},
    metronet.nets: {
        "Net": "(kinds, lines, *, processing=0, error=0)",
        "is_path": "(net, nodes)",
        "ports_of": "(path)",
        "are_separate": "(first, second)",
    },
    metronet.routes: {
        "shortest_path": "(net, first, last)",
        "separate_paths": "(net, first, last)",
        "bottleneck": "(net, first, last)",
    },
    metronet.windows: {
        "meet": "(first, second)",
        "first_meeting": "(first, second)",
        "is_free": "(windows, tick)",
        "common_period": "(windows)",
    },
    metronet.plans: {
        "Stream": "(period, length, deadline, path)",
        "window_of": "(entry, hop)",
        "arrival_of": "(net, entry, hop)",
        "windows_at": "(plan, port)",
    },
    metronet.judging: {
        "judge": "(net, plan)",
        "wait_of": "(net, entry, hop)",
        "worst_errors": "(net, plan, fault)",
    },
    metronet.simulation: {
        "Run": "(deliveries, fault)",
        "simulate": "(net, plan, errors, count, *, broken=None)",
    },
}
METHODS = {
    metronet.nets.Net: {"delay": "(self, a, b)", "neighbours": "(self, a)", "__eq__": "(self, other)"},
    metronet.plans.Stream: {"__eq__": "(self, other)"},
}


class InterfaceTest(unittest.TestCase):
    def test_arguments(self):
        for module, names in INTERFACE.items():
            for name, arguments in names.items():
                self.assertEqual(str(inspect.signature(getattr(module, name))), arguments, name)

    def test_defined_where_the_interface_lists_them(self):
        for module, names in INTERFACE.items():
            for name in names:
                self.assertEqual(getattr(module, name).__module__, module.__name__)

    def test_classes(self):
        for module, names in INTERFACE.items():
            for name in names:
                self.assertEqual(inspect.isclass(getattr(module, name)), name[0].isupper(), name)

    def test_methods_stand_in_their_class(self):
        for listed, methods in METHODS.items():
            for name, arguments in methods.items():
                self.assertIn(name, vars(listed))
                self.assertEqual(str(inspect.signature(vars(listed)[name])), arguments, name)


if __name__ == "__main__":
    unittest.main()
