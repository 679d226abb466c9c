import unittest

from worthhouse import errors

PLAIN = [
    "BadScale BadImages BadTable BadTree BadBlocks BadPaper BadTurn BadDeed MixedScales MixedFrames NotSteady",
    "TooMany NothingDone",
]
WITH_PARTS = {
    "NotLinked": ("part", "members"),
    "NotKept": ("part", "members"),
    "BadFrame": ("name",),
    "BadName": ("name",),
    "BadThing": ("name",),
    "BadRule": ("number",),
    "BadRow": ("number",),
    "NoLine": ("number",),
    "NoState": ("number",),
    "BadText": ("place",),
    "BadQuestion": ("place", "word"),
    "TwiceTold": ("name", "filled"),
    "Clash": ("spots",),
}
MISSING = {
    "UnknownWorth": ("name",),
    "UnknownName": ("name",),
    "UnknownThing": ("name",),
    "UnknownLabel": ("name",),
    "NotTold": ("name",),
    "UnknownFact": ("fact",),
    "NoRow": ("name", "filled"),
}
TUPLES = ("members", "filled", "spots")
VALUES = ["x", None, 3, True, ("a", 1), ["a"], {"k": []}, object()]


class Errors(unittest.TestCase):
    def test_bases(self):
        self.assertEqual(errors.WorthhouseError.__bases__, (ValueError,))
        self.assertEqual(errors.NameMissing.__bases__, (LookupError,))
        for name in " ".join(PLAIN).split() + list(WITH_PARTS):
            self.assertEqual(getattr(errors, name).__bases__, (errors.WorthhouseError,), name)
        for name in MISSING:
            self.assertEqual(getattr(errors, name).__bases__, (errors.NameMissing,), name)

    def test_no_other_class(self):
        told = " ".join(PLAIN).split() + list(WITH_PARTS) + list(MISSING) + ["WorthhouseError", "NameMissing"]
        found = [name for name, value in vars(errors).items() if isinstance(value, type)]
        self.assertEqual(sorted(found), sorted(told))
        for name in found:
            self.assertEqual(getattr(errors, name).__module__, "worthhouse.errors")

    def test_made_without_arguments(self):
        for name in " ".join(PLAIN).split():
            with self.assertRaises(errors.WorthhouseError):
                raise getattr(errors, name)()

    def test_attributes_with_any_values(self):
        for name, parts in {**WITH_PARTS, **MISSING}.items():
            for value in VALUES:
                given = [[value, value] if part in TUPLES else value for part in parts]
                made = getattr(errors, name)(*given)
                for part, argument in zip(parts, given):
                    if part in TUPLES:
                        self.assertEqual(getattr(made, part), (value, value), name)
                    else:
                        self.assertIs(getattr(made, part), value, name)

    def test_kept_as_tuples(self):
        for name, parts in {**WITH_PARTS, **MISSING}.items():
            for part in parts:
                if part in TUPLES:
                    for empty in ([], ()):
                        made = getattr(errors, name)(*[empty for _ in parts])
                        self.assertEqual(type(getattr(made, part)), tuple)
                    row = ["a", "b"]
                    made = getattr(errors, name)(*[row for _ in parts])
                    row.append("c")
                    self.assertEqual(getattr(made, part), ("a", "b"))

    def test_raised_and_caught_by_the_common_bases(self):
        with self.assertRaises(ValueError):
            raise errors.BadText((0, 1))
        with self.assertRaises(LookupError):
            raise errors.NoRow("t", ["a"])


if __name__ == "__main__":
    unittest.main()
