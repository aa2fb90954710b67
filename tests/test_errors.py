import unittest

from fewbreak import errors

PARAMETERS = {
    "BadText": ("line", "why"), "BadName": ("name",), "BadLetters": ("at",), "BadRun": ("at",),
    "BadColumn": ("column",), "BadNumber": ("value",), "BadTable": ("at",), "BadDeed": (),
    "UnlikeParts": ("one", "other"), "UnlikeTapes": ("one", "other"), "TooMany": ("what", "found"),
    "HeldTwice": ("item",), "BreaksBeside": ("lot",), "NotSo": ("lot",), "NotEnough": ("lot",),
    "CantAnswer": ("at", "run"), "EndedRun": ("at",), "NoDraft": (), "InDraft": (),
    "UnknownPart": ("name",), "UnknownName": ("name",), "UnknownRun": ("at",), "NotHeld": ("run",),
    "NothingLeft": (),
}
MISSING = ("UnknownPart", "UnknownName", "UnknownRun", "NotHeld")
VALUES = ([["0"], ()], {"a": None}, -1, None, "a%{}", (1, 2), object())


def base_of(name):
    if name == "NothingLeft":
        return IndexError
    return errors.Missing if name in MISSING else errors.RuleError


class ErrorsTest(unittest.TestCase):
    def test_bases(self):
        self.assertEqual(errors.RuleError.__bases__, (ValueError,))
        self.assertEqual(errors.Missing.__bases__, (LookupError,))
        for name in PARAMETERS:
            self.assertEqual(getattr(errors, name).__bases__, (base_of(name),), name)

    def test_no_other_classes(self):
        found = {name for name, value in vars(errors).items() if isinstance(value, type)}
        self.assertEqual(found, set(PARAMETERS) | {"RuleError", "Missing"})

    def test_by_position(self):
        for name, parameters in PARAMETERS.items():
            for value in VALUES:
                values = [value, [value]][:len(parameters)]
                error = getattr(errors, name)(*values)
                for parameter, one in zip(parameters, values):
                    self.assertIs(getattr(error, parameter), one, name)
                self.assertEqual(error.code, name)

    def test_by_names(self):
        for name, parameters in PARAMETERS.items():
            values = {parameter: [parameter] for parameter in parameters}
            error = getattr(errors, name)(**values)
            for parameter, one in values.items():
                self.assertIs(getattr(error, parameter), one, name)
            self.assertEqual(error.code, name)

    def test_wrong_many_arguments(self):
        for name, parameters in PARAMETERS.items():
            with self.assertRaises(TypeError):
                getattr(errors, name)(*[0] * (len(parameters) + 1))
            if parameters:
                with self.assertRaises(TypeError):
                    getattr(errors, name)()

    def test_nothing_shared(self):
        for name, parameters in PARAMETERS.items():
            one = getattr(errors, name)(*["one"] * len(parameters))
            other = getattr(errors, name)(*["other"] * len(parameters))
            one.code = "changed"
            for parameter in parameters:
                setattr(one, parameter, "changed")
            self.assertEqual(other.code, name)
            for parameter in parameters:
                self.assertEqual(getattr(other, parameter), "other")
            self.assertIsNot(one.__dict__, other.__dict__)

    def test_caught_by_base(self):
        for name, parameters in PARAMETERS.items():
            with self.assertRaises(base_of(name)):
                raise getattr(errors, name)(*[0] * len(parameters))

    def test_bases_have_no_code(self):
        for error in (errors.RuleError(), errors.Missing(), errors.RuleError("why")):
            self.assertFalse(hasattr(error, "code"))


if __name__ == "__main__":
    unittest.main()
