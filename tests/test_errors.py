"""Point [3]: the refusals and their fields."""

import unittest

from chipbus import errors

WITH_TEXT = ("TooMany", "NoChip", "NoCell", "NoMap", "NoWatch", "NoMover", "NoText")
WITH_FIELDS = {
    "NoWord": {"word": 256},
    "NoAddress": {"address": -1},
    "Clash": {"address": 3, "first": 0, "second": 2, "words": ((1, 5), (7, 0))},
    "BadRow": {"number": 4, "row": "x 1"},
}
ALL = WITH_TEXT + tuple(WITH_FIELDS)


class TestClasses(unittest.TestCase):
    def test_bus_error_is_a_value_error(self):
        self.assertEqual(errors.BusError.__bases__, (ValueError,))
        self.assertEqual(str(errors.BusError("why")), "why")

    def test_each_stands_straight_under_bus_error(self):
        for name in ALL:
            self.assertEqual(getattr(errors, name).__bases__, (errors.BusError,), name)

    def test_none_stands_under_another(self):
        for name in ALL:
            for other in ALL:
                if name != other:
                    self.assertFalse(issubclass(getattr(errors, name), getattr(errors, other)), (name, other))

    def test_there_are_no_other_refusals(self):
        found = {name for name, thing in vars(errors).items() if isinstance(thing, type)}
        self.assertEqual(found, set(ALL) | {"BusError"})


class TestMaking(unittest.TestCase):
    def test_those_without_fields_are_made_with_one_text(self):
        for name in WITH_TEXT:
            made = getattr(errors, name)("some text")
            self.assertEqual(str(made), "some text")
            with self.assertRaises(errors.BusError):
                raise made

    def check_fields(self, made, fields):
        for field, value in fields.items():
            self.assertEqual(getattr(made, field), value, field)
        self.assertIsInstance(str(made), str)
        with self.assertRaises(errors.BusError):
            raise made

    def test_fields_by_place(self):
        for name, fields in WITH_FIELDS.items():
            self.check_fields(getattr(errors, name)(*fields.values()), fields)

    def test_fields_by_name(self):
        for name, fields in WITH_FIELDS.items():
            turned = dict(reversed(list(fields.items())))
            self.check_fields(getattr(errors, name)(**turned), fields)

    def test_fields_are_each_object_s_own(self):
        one, other = errors.NoWord(300), errors.NoWord(-1)
        self.assertEqual((one.word, other.word), (300, -1))

    def test_fields_may_not_be_left_out(self):
        for name in WITH_FIELDS:
            with self.assertRaises(TypeError):
                getattr(errors, name)()


if __name__ == "__main__":
    unittest.main()
