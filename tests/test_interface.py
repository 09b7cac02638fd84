import inspect
import unittest

import metronet.errors
import metronet.nets
import metronet.routes

FUNCTIONS = {
    metronet.nets.is_path: "(net, nodes)",
    metronet.nets.ports_of: "(path)",
    metronet.nets.are_separate: "(first, second)",
    metronet.routes.shortest_path: "(net, first, last)",
    metronet.routes.separate_paths: "(net, first, last)",
    metronet.routes.bottleneck: "(net, first, last)",
}


class InterfaceTest(unittest.TestCase):
    def test_arguments_of_functions(self):
        for function, arguments in FUNCTIONS.items():
            self.assertEqual(str(inspect.signature(function)), arguments, function)

    def test_arguments_of_classes(self):
        net_class = metronet.nets.Net
        self.assertEqual(str(inspect.signature(net_class)), "(kinds, lines, *, processing=0, error=0)")
        self.assertEqual(str(inspect.signature(net_class.delay)), "(self, a, b)")
        self.assertEqual(str(inspect.signature(net_class.neighbours)), "(self, a)")
        self.assertEqual(str(inspect.signature(metronet.errors.MetronetError)), "(place)")
        self.assertEqual(str(inspect.signature(metronet.errors.InvalidText)), "(place)")

    def test_methods_stand_in_their_class(self):
        for name in ("__init__", "__eq__", "delay", "neighbours"):
            self.assertIn(name, vars(metronet.nets.Net))

    def test_defined_where_the_interface_lists_them(self):
        for module, names in (
            (metronet.errors, ("MetronetError", "InvalidText")),
            (metronet.nets, ("Net", "is_path", "ports_of", "are_separate")),
            (metronet.routes, ("shortest_path", "separate_paths", "bottleneck")),
        ):
            for name in names:
                self.assertEqual(getattr(module, name).__module__, module.__name__)


if __name__ == "__main__":
    unittest.main()
