"""The five functions together: their arguments' names, and that nothing is kept, changed or printed."""

import contextlib
import copy
import inspect
import io
import pathlib
import random
import subprocess
import sys
import unittest

import askedproducts.krylov
import reference
from calls import unchanging
from many import any_bits
from reference import bits_of

TOP = pathlib.Path(__file__).resolve().parent.parent
ARGUMENTS = {
    "solve": ["n", "near", "most", "b", "x", "answers"],
    "slide": ["n", "near", "most", "b", "x", "answers"],
    "power": ["n", "most", "x", "answers"],
    "basis": ["n", "m", "b", "answers"],
    "even": ["n", "x", "y", "answers"],
}


def any_arguments(source, name):
    n = source.choice([1, 2, 3, 7])
    values = {"n": n, "near": bits_of(0.001), "most": source.randrange(5), "m": source.randrange(1, 5)}
    for row in ("b", "x", "y"):
        values[row] = [any_bits(source) for i in range(n)]
    values["answers"] = [[any_bits(source) for i in range(n)] for row in range(source.randrange(6))]
    return {argument: values[argument] for argument in ARGUMENTS[name]}


class InterfaceTest(unittest.TestCase):
    def test_names_of_the_arguments(self):
        for name, arguments in ARGUMENTS.items():
            parameters = inspect.signature(getattr(askedproducts.krylov, name)).parameters
            self.assertEqual(list(parameters), arguments)
            for parameter in parameters.values():
                self.assertIs(parameter.kind, inspect.Parameter.POSITIONAL_OR_KEYWORD)
                self.assertIs(parameter.default, inspect.Parameter.empty)

    def test_calls_of_all_five_do_not_touch_each_other(self):
        source = random.Random(61)
        calls = []
        for turn in range(600):
            name = source.choice(list(ARGUMENTS))
            arguments = any_arguments(source, name)
            calls.append((name, arguments, copy.deepcopy(arguments), getattr(reference, name)(**arguments)[0]))
        for order in (calls, calls[::-1], source.sample(calls, len(calls))):
            for name, arguments, before, wanted in order:
                got = getattr(askedproducts.krylov, name)(**arguments)
                self.assertEqual(got, wanted)
                self.assertEqual(arguments, before)
                # What was given back is the caller's own: to change it touches nothing.
                got.clear()
                self.assertEqual(arguments, before)

    def test_nothing_is_changed_for_a_while_either(self):
        source = random.Random(62)
        for turn in range(300):
            for name in ARGUMENTS:
                arguments = any_arguments(source, name)
                wanted = getattr(reference, name)(**arguments)[0]
                fixed = {key: unchanging(value) for key, value in arguments.items()}
                self.assertEqual(getattr(askedproducts.krylov, name)(**fixed), wanted)

    def test_whole_numbers_in_one_list_are_given_back(self):
        source = random.Random(63)
        for turn in range(300):
            for name in ARGUMENTS:
                got = getattr(askedproducts.krylov, name)(**any_arguments(source, name))
                self.assertIs(type(got), list)
                for number in got:
                    self.assertIs(type(number), int)

    def test_nothing_is_printed(self):
        source = random.Random(64)
        printed = io.StringIO()
        with contextlib.redirect_stdout(printed), contextlib.redirect_stderr(printed):
            for name in ARGUMENTS:
                getattr(askedproducts.krylov, name)(**any_arguments(source, name))
        self.assertEqual(printed.getvalue(), "")

    def test_nothing_from_outside_is_imported(self):
        look = (
            "import sys; before = set(sys.modules); import askedproducts.krylov; "
            "print(*sorted(set(sys.modules) - before))"
        )
        ran = subprocess.run([sys.executable, "-c", look], capture_output=True, text=True, check=True, cwd=TOP)
        self.assertEqual(ran.stdout.split(), ["askedproducts", "askedproducts.doubles", "askedproducts.krylov"])

    def test_the_ends_of_the_ranges_in_the_promises(self):
        one = bits_of(1.0)
        row = [one] + [0] * 4095
        for name, arguments, wanted in (
            ("solve", (4096, 0, 4000, row, row, [row]), [1] + row + [0] + row),
            ("slide", (4096, 0, 4000, row, row, [row]), [1] + row + [0] + row),
            ("power", (4096, 0, row, []), [0, 0] + row + [0]),
            ("power", (1, 4000, [one], []), [1, one]),
            ("basis", (4096, 1, row, []), [1] + row),
            ("basis", (1, 64, [one], [[one]]), [1, one, 1, one] + [0] * 64 + [one] + [0] * (65 * 64 - 1)),
            ("even", (4096, row, row, [row, row]), [2] + row + row + [0, one, one]),
        ):
            self.assertEqual(getattr(askedproducts.krylov, name)(*arguments), wanted, name)


if __name__ == "__main__":
    unittest.main()
