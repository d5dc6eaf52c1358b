"""Promise [5]: the errors."""

import unittest

from lettertrees import errors
from tests.support import odd_values

FIELDS = {
    "BadLetters": ("letters",), "TooMany": ("what", "many", "most"), "BadRow": ("number",), "Lone": ("place",),
    "NoPlace": ("place",), "BadKind": ("side", "number"), "BadName": ("name",), "BadWord": ("number",),
    "NotExact": (), "BadSize": ("size",), "BadWish": ("name",), "BadRule": ("name",), "Ring": ("name",),
    "NoRule": ("root",), "BadRank": ("number",), "BadStatement": ("block", "number"), "BadText": ("line",),
    "BadOrder": ("number",), "BadLock": ("order",), "NoPut": (), "BadOver": (),
}


def classes():
    return {name: getattr(errors, name) for name in FIELDS}


class ErrorsTest(unittest.TestCase):
    def test_fields_by_position(self):
        for name, error_class in classes().items():
            fields = FIELDS[name]
            values = [f"value {number}" for number in range(len(fields))]
            error = error_class(*values)
            self.assertEqual([getattr(error, field) for field in fields], values, name)

    def test_fields_by_name_in_any_order(self):
        for name, error_class in classes().items():
            wanted = {field: number for number, field in enumerate(FIELDS[name])}
            error = error_class(**dict(reversed(list(wanted.items()))))
            self.assertEqual({field: getattr(error, field) for field in wanted}, wanted, name)

    def test_fields_partly_by_name(self):
        error = errors.TooMany("places", most=2000, many=2001)
        self.assertEqual((error.what, error.many, error.most), ("places", 2001, 2000))
        error = errors.BadKind("root", number=3)
        self.assertEqual((error.side, error.number), ("root", 3))
        error = errors.BadStatement("up", number=0)
        self.assertEqual((error.block, error.number), ("up", 0))

    def test_any_value_as_a_field(self):
        for value in odd_values() + [0, 1, "", "text {} %s", {"a": {"b": [(), None]}}, 10 ** 40]:
            for name, error_class in classes().items():
                fields = FIELDS[name]
                by_place = error_class(*[value for _ in fields])
                by_name = error_class(**{field: value for field in fields})
                for field in fields:
                    for error in (by_place, by_name):
                        held = getattr(error, field)
                        self.assertIs(type(held), type(value), (name, field))
                        self.assertTrue(held is value or held == value, (name, field))

    def test_what_they_are_below(self):
        self.assertEqual(errors.TreesError.__bases__, (ValueError,))
        for name, error_class in classes().items():
            self.assertEqual(error_class.__bases__, (errors.TreesError,), name)

    def test_none_is_another_one(self):
        for name, error_class in classes().items():
            error = error_class(*[0 for _ in FIELDS[name]])
            others = tuple([other for key, other in classes().items() if key != name])
            self.assertEqual(len(others), len(FIELDS) - 1)
            self.assertNotIsInstance(error, others, name)

    def test_they_can_be_raised_and_caught(self):
        for name, error_class in classes().items():
            for caught_by in (error_class, errors.TreesError, ValueError):
                with self.assertRaises(caught_by) as caught:
                    raise error_class(*[7 for _ in FIELDS[name]])
                self.assertIs(type(caught.exception), error_class)
                for field in FIELDS[name]:
                    self.assertEqual(getattr(caught.exception, field), 7)

    def test_they_are_defined_in_their_file(self):
        for name, error_class in list(classes().items()) + [("TreesError", errors.TreesError)]:
            self.assertEqual((error_class.__module__, error_class.__name__), ("lettertrees.errors", name))


if __name__ == "__main__":
    unittest.main()
