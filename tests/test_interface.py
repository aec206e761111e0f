"""The interface: each name is defined in the file under which it is listed, with the arguments that are listed."""

import importlib
import inspect
import unittest

FUNCTIONS = {
    "tokens": ["scan(text)"], "expressions": ["parse_expression(text)", "depth(expression)"], "declarations": ["parse(text)"],
    "show": ["show_expression(expression)", "show(tree, *, indent=3)"], "kinds": ["unary_kind(operator, operand)", "binary_kind(operator, left, right)"],
    "checkdecl": ["check(tree)"], "program": ["captured(program)"],
    "words": ["fits(number)", "arithmetic(op, left, right)", "negate(word)", "absolute(word)", "compare(op, left, right)"],
    "runcall": ["run_source(program, inputs, *, fuel)"],
    "code": ["operands(instruction)", "reads(instruction)", "writes(instruction)", "can_raise(instruction)", "followers(instruction, index)", "region_of(unit, index)"],
    "wellformed": ["check_module(module)"], "runner": ["run_module(module, inputs, *, fuel)"], "trace": ["trace_module(module, inputs, *, fuel, limit)"],
    "lower": ["lower(program)"], "flow": ["edges(unit)", "reached(unit)"], "intervals": ["intervals(unit)"], "improve": ["improve(module)"],
    "liveness": ["live(unit)"], "assign": ["conflicts(unit)", "is_sound(unit, assignment)", "assign(unit)"],
    "placed": ["run_placed(module, assignments, inputs, *, fuel)"], "encode": ["encode(instruction)"], "decode": ["decode(word)"],
    "moves": ["constant(target, word)"], "link": ["build_image(module, assignments)"],
    "alu": ["compute(name, left, right)", "high_word(n)", "low_word(word, m)"], "handlers": ["trap_code(windows)"], "build": ["build(text, *, improved=True)"],
    "house": ["run_text(text, inputs, *, fuel, windows)", "run_counts(text, inputs, *, fuel, windows)"],
}
WINDOWS = ["read(number)", "write(number, word)", "shift_down()", "shift_up()", "blocked_down()", "blocked_up()"]
CLASSES = {
    "scope": {"Scopes()": ["enter()", "leave()", "declare(name, meaning, place)", "lookup(name, place)", "__contains__(name)"]},
    "program": {"Program": []},
    "outcome": {"Events(inputs)": ["put(word)", "get()"], "Fuel(units)": ["tick()"], "NoInput": [], "OutOfFuel": []},
    "words": {"Overflow": [], "DivisionByZero": []},
    "code": {"Unit(parent, arguments, results, registers, cells, code, regions)": [], "Module(units, names, places)": []},
    "errors": {name: [] for name in (
        "AdaError", "SourceError", "ScanError", "ParseError", "TooLarge", "CheckError", "UnknownName", "DuplicateName", "WrongKind", "WrongMode",
        "BadRange", "Misplaced", "CodeError", "ImageError",
    )},
    "image": {"Image(words, starts, places, regions, names, positions, memory)": ["region_entry(address)"]},
    "alu": {"Fault": []},
    "tower": {"Tower()": WINDOWS}, "ring": {"Ring(memory, windows)": WINDOWS},
    "banks": {"Banks(windows)": [*WINDOWS, "set_bar(number)", "trap_down(address)", "trap_up(address)", "leave_trap()"]},
    "processor": {"Processor(image, *, windows=None, trapping=True)": ["run(inputs, *, fuel, steps)"]},
}
PROPERTIES = {("scope", "Scopes"): ["open_regions"], ("outcome", "Events"): ["rows"], ("outcome", "Fuel"): ["remaining"], ("processor", "Processor"): ["counts"]}
VALUES = {
    "words": {"MIN": -2147483648, "MAX": 2147483647}, "instructions": {"NAMES": tuple},
    "outcome": {
        "NORMAL": ("normal",), "EXHAUSTED": ("exhausted",), "FAULT": ("fault",), "STOPPED": ("stopped",), "CONSTRAINT": 0, "PROGRAM": 1, "STORAGE": 2, "END": 3,
        "DEPTH_LIMIT": 10, "PREDEFINED": ("constraint_error", "program_error", "storage_error", "end_error"),
    },
}


def module(name):
    return importlib.import_module("windowada." + name)


def arguments_of(function, is_method):
    parameters = list(inspect.signature(function).parameters.values())[1 if is_method else 0:]
    return str(inspect.Signature(parameters))


class InterfaceTest(unittest.TestCase):

    def test_functions(self):
        for file, rows in FUNCTIONS.items():
            for row in rows:
                name, _, arguments = row.partition("(")
                function = vars(module(file))[name]
                self.assertEqual(function.__module__, "windowada." + file)
                self.assertEqual(arguments_of(function, False), "(" + arguments, row)

    def test_classes(self):
        for file, classes in CLASSES.items():
            for row, methods in classes.items():
                name, bracket, arguments = row.partition("(")
                found = vars(module(file))[name]
                self.assertEqual(found.__module__, "windowada." + file)
                if bracket:
                    self.assertEqual(arguments_of(found.__init__, True), "(" + arguments, row)
                for method in methods:
                    its_name, _, its_arguments = method.partition("(")
                    if its_name != "__contains__":
                        self.assertEqual(arguments_of(vars(found)[its_name], True), "(" + its_arguments, method)
                    self.assertIn(its_name, vars(found))

    def test_properties(self):
        for (file, name), rows in PROPERTIES.items():
            for row in rows:
                self.assertIs(type(vars(vars(module(file))[name])[row]), property)

    def test_values(self):
        for file, rows in VALUES.items():
            for name, value in rows.items():
                found = vars(module(file))[name]
                if value is tuple:
                    self.assertIs(type(found), tuple)
                else:
                    self.assertEqual((found, type(found)), (value, type(value)))


if __name__ == "__main__":
    unittest.main()
