"""Point 8: the refusals and their fields."""

import unittest

from benchdays import errors
from tests.helper import HUGE, any_things

FIELDS = {
    "NoPaper": ("path", "word"),
    "NoRule": ("word",),
    "TooMany": ("word",),
    "NoWork": ("name",),
    "NoWish": ("word",),
    "NoBack": (),
    "NoText": ("row", "word"),
    "NoRow": ("row",),
}


class Untouchable:
    """A thing that fails as soon as it is looked at."""

    def fail(self, *things):
        raise AssertionError("a refusal looked at what it was made of")

    __repr__ = __str__ = __eq__ = __hash__ = __len__ = __bool__ = __iter__ = __getitem__ = __copy__ = fail


class Refusals(unittest.TestCase):

    def test_each_keeps_the_very_things(self):
        for name, fields in FIELDS.items():
            for thing in any_things() + [HUGE, [1, 2], ("a", [3])]:
                things = [[thing, k] for k in range(len(fields))]
                refusal = getattr(errors, name)(*things)
                for field, kept in zip(fields, things):
                    self.assertIs(getattr(refusal, field), kept)
                self.assertEqual(sorted(vars(refusal)), sorted(fields))

    def test_a_list_made_longer_afterwards(self):
        for name, fields in FIELDS.items():
            things = [[k] for k in range(len(fields))]
            refusal = getattr(errors, name)(*things)
            for k, thing in enumerate(things):
                thing.append("more")
                self.assertEqual(getattr(refusal, fields[k]), [k, "more"])

    def test_things_are_looked_at_in_no_way(self):
        for name, fields in FIELDS.items():
            things = [Untouchable() for field in fields]
            refusal = getattr(errors, name)(*things)
            for field, thing in zip(fields, things):
                self.assertIs(getattr(refusal, field), thing)

    def test_made_of_just_these(self):
        for name, fields in FIELDS.items():
            with self.assertRaises(TypeError):
                getattr(errors, name)(*["x"] * (len(fields) + 1))

    def test_taken_by_its_own_class_its_base_and_no_other(self):
        for name, fields in FIELDS.items():
            own = getattr(errors, name)
            self.assertEqual(own.__bases__, (errors.BenchError,))
            for taker in (own, errors.BenchError, ValueError):
                with self.assertRaises(taker) as caught:
                    raise own(*fields)
                self.assertIs(caught.exception.__class__, own)
            for other in FIELDS:
                self.assertEqual(isinstance(own(*fields), getattr(errors, other)), other == name)

    def test_the_base_is_straight_under_value_error(self):
        self.assertEqual(errors.BenchError.__bases__, (ValueError,))


if __name__ == "__main__":
    unittest.main()
