"""The refusals: families, bases, the field of TooFar."""

import unittest

from raftwalk import errors

TOLD = ("NoRaft", "NoFolk", "NoStanding", "NoPlaces", "NoName")
ASKED = ("Bumps", "NotFront", "NothingLeft")


class Families(unittest.TestCase):
    def test_roots(self):
        self.assertEqual(errors.RaftError.__bases__, (ValueError,))
        self.assertEqual(errors.ToldError.__bases__, (errors.RaftError,))
        self.assertEqual(errors.AskedError.__bases__, (errors.RaftError,))

    def test_each_is_straight_under_its_family(self):
        for name in TOLD:
            self.assertEqual(getattr(errors, name).__bases__, (errors.ToldError,), name)
        for name in ASKED + ("TooFar",):
            self.assertEqual(getattr(errors, name).__bases__, (errors.AskedError,), name)

    def test_made_of_a_text_and_caught_by_all_above(self):
        for name in ("RaftError", "ToldError", "AskedError") + TOLD + ASKED:
            kind = getattr(errors, name)
            for base in (kind, errors.RaftError, ValueError):
                with self.assertRaises(base) as caught:
                    raise kind("some text")
                self.assertEqual(str(caught.exception), "some text")

    def test_families_do_not_catch_one_another(self):
        self.assertFalse(issubclass(errors.ToldError, errors.AskedError))
        self.assertFalse(issubclass(errors.AskedError, errors.ToldError))


class TooFarField(unittest.TestCase):
    def test_field_by_place_and_by_name(self):
        self.assertEqual(errors.TooFar((7, 2)).gap, (7, 2))
        self.assertEqual(errors.TooFar(gap=(7, 3)).gap, (7, 3))

    def test_caught_by_all_above(self):
        for base in (errors.TooFar, errors.AskedError, errors.RaftError, ValueError):
            with self.assertRaises(base) as caught:
                raise errors.TooFar((5, 1))
            self.assertEqual(caught.exception.gap, (5, 1))

    def test_two_have_their_own_fields(self):
        one, other = errors.TooFar((1, 2)), errors.TooFar((3, 4))
        self.assertEqual((one.gap, other.gap), ((1, 2), (3, 4)))

    def test_needs_its_field(self):
        with self.assertRaises(TypeError):
            errors.TooFar()


if __name__ == "__main__":
    unittest.main()
