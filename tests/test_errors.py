import unittest

from crestkeys import errors

KEPT = {
    "Twice": "key", "TooMany": "most", "NoKey": "key", "NoTurn": "key", "OtherCards": None,
    "Mingled": "key", "NoPlace": "place", "NoNumber": "number", "NoShape": None, "OneRest": "key",
    "NoHistory": "at", "NoWatch": "at", "Clash": "key", "NoCard": None, "NoBack": None,
    "NoText": None, "NoRow": None,
}


class Errors(unittest.TestCase):
    def test_crest_error_stands_under_value_error(self):
        self.assertEqual(errors.CrestError.__bases__, (ValueError,))

    def test_each_stands_straight_under_crest_error(self):
        for name in KEPT:
            self.assertEqual(getattr(errors, name).__bases__, (errors.CrestError,), name)

    def test_none_stands_under_another_one(self):
        for name in KEPT:
            for other in KEPT:
                if name != other:
                    self.assertFalse(issubclass(getattr(errors, name), getattr(errors, other)))

    def test_there_are_no_others(self):
        found = {name for name in vars(errors) if isinstance(vars(errors)[name], type)}
        self.assertEqual(found, set(KEPT) | {"CrestError"})

    def test_each_keeps_what_it_is_made_with(self):
        for name, kept in KEPT.items():
            if kept is None:
                made = getattr(errors, name)()
                self.assertEqual(vars(made), {}, name)
                continue
            for number in (0, 1, -1, 64, 10 ** 60 - 1, -(10 ** 60) + 1, 10 ** 5000):
                made = getattr(errors, name)(number)
                self.assertEqual(vars(made), {kept: number}, name)

    def test_each_can_be_raised_and_caught_as_the_common_one(self):
        for name, kept in KEPT.items():
            with self.assertRaises(errors.CrestError) as caught:
                raise getattr(errors, name)(*([5] if kept else []))
            self.assertEqual(type(caught.exception).__name__, name)


if __name__ == "__main__":
    unittest.main()
