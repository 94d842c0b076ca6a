"""The ten errors: base classes, constructors, attributes."""

import unittest

from interface import ERRORS, module_named


class Errors(unittest.TestCase):
    def test_each_is_a_direct_subclass_of_its_own_base(self):
        errors = module_named("errors")
        for name, (base, _) in ERRORS.items():
            with self.subTest(name=name):
                self.assertEqual(getattr(errors, name).__bases__, (base,))
                self.assertEqual(getattr(errors, name).__module__, "eighthturns.errors")

    def test_each_keeps_what_it_is_told(self):
        errors = module_named("errors")
        for name, (base, attribute) in ERRORS.items():
            made = getattr(errors, name)
            with self.subTest(name=name):
                if attribute is None:
                    self.assertEqual(vars(made()), {})
                    self.assertIsInstance(made(), base)
                else:
                    for kept in (0, -3, 10 ** 30, "loud"):
                        self.assertEqual(vars(made(kept)), {attribute: kept})
                        self.assertEqual(vars(made(**{attribute: kept})), {attribute: kept})

    def test_each_is_caught_by_its_own_name_alone(self):
        errors = module_named("errors")
        for name, (_, attribute) in ERRORS.items():
            one = getattr(errors, name)
            with self.assertRaises(one):
                raise one(2) if attribute else one()
            for other in ERRORS:
                self.assertEqual(issubclass(one, getattr(errors, other)), name == other)

    def test_an_attribute_is_told_when_it_is_raised(self):
        errors = module_named("errors")
        try:
            raise errors.NoPlace(5)
        except LookupError as error:
            self.assertEqual(error.number, 5)
        try:
            raise errors.NoWord(word="loud")
        except errors.NoWord as error:
            self.assertEqual(error.word, "loud")


if __name__ == "__main__":
    unittest.main()
