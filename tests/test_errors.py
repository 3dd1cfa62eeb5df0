import unittest

from twicecalls import errors
from twicecalls.errors import CallError, LostError

CALL_REFUSALS = {"NoPaper": ("word", "at"), "NoSetting": ("word",), "NoOrder": ("bar",),
                 "NoText": ("line", "word"), "NoLine": ("row",)}
LOST_REFUSALS = {"NoStep": ("step",), "NoKey": ("key",), "NoBack": ("times",)}
REFUSALS = {**CALL_REFUSALS, **LOST_REFUSALS}


class TestErrors(unittest.TestCase):
    def test_families(self):
        self.assertEqual(CallError.__bases__, (ValueError,))
        self.assertEqual(LostError.__bases__, (LookupError,))

    def test_each_refusal_straight_under_one_family(self):
        for name in CALL_REFUSALS:
            self.assertEqual(getattr(errors, name).__bases__, (CallError,), name)
        for name in LOST_REFUSALS:
            self.assertEqual(getattr(errors, name).__bases__, (LostError,), name)

    def test_nothing_else_is_a_refusal(self):
        classes = {name for name, thing in vars(errors).items() if isinstance(thing, type)}
        self.assertEqual(classes, {"CallError", "LostError", *REFUSALS})

    def test_by_places_and_by_names_they_keep_the_very_things(self):
        for name, fields in REFUSALS.items():
            things = [["grows", k] for k in range(len(fields))]
            made = (getattr(errors, name)(*things), getattr(errors, name)(**dict(zip(fields, things))))
            for thing in things:
                thing.append("grown")
            for refusal in made:
                for field, thing in zip(fields, things):
                    self.assertIs(getattr(refusal, field), thing)
                    self.assertEqual(getattr(refusal, field)[-1], "grown")

    def test_any_things_are_kept(self):
        for name, fields in REFUSALS.items():
            for thing in (None, True, -1, "", (), [], ((1, 0), ["x"])):
                refusal = getattr(errors, name)(*[thing] * len(fields))
                for field in fields:
                    self.assertIs(getattr(refusal, field), thing)

    def test_things_are_looked_at_in_no_way(self):
        class Shy:
            def refuse(self, *_):
                raise AssertionError("looked at")
            __eq__ = __hash__ = __str__ = __repr__ = __bool__ = __len__ = __iter__ = refuse

        for name, fields in REFUSALS.items():
            shy = Shy()
            refusal = getattr(errors, name)(*[shy] * len(fields))
            for field in fields:
                self.assertIs(getattr(refusal, field), shy)

    def test_made_of_just_their_things(self):
        for name, fields in REFUSALS.items():
            for many in range(4):
                if many != len(fields):
                    with self.assertRaises(TypeError):
                        getattr(errors, name)(*range(many))

    def test_caught_by_family_and_by_ground(self):
        for name, fields in CALL_REFUSALS.items():
            for kind in (CallError, ValueError):
                with self.assertRaises(kind):
                    raise getattr(errors, name)(*fields)
        for name, fields in LOST_REFUSALS.items():
            for kind in (LostError, LookupError):
                with self.assertRaises(kind):
                    raise getattr(errors, name)(*fields)


if __name__ == "__main__":
    unittest.main()
