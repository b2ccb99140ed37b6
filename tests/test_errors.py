"""Points 2 and 50: the refusals, their fields and what they tell."""

import unittest

from tests.helper import REFUSALS, RefusalCase
from whomay import errors


class Refusals(RefusalCase):
    def test_there_are_twenty_eight(self):
        self.assertEqual(len(dict(REFUSALS)), 28)
        classes = [part for part in vars(errors).values() if isinstance(part, type)]
        self.assertEqual({part.__name__ for part in classes}, {"WhoError"} | set(dict(REFUSALS)))

    def test_told_is_refused_and_the_class_in_small_letters(self):
        for kind, fields in REFUSALS:
            with self.subTest(kind=kind):
                error = getattr(errors, kind)(*[worth for name, worth in fields])
                self.assertEqual(error.told(), "refused " + kind.lower())
        self.assertEqual(errors.NoThing("ann").told(), "refused nothing")
        self.assertEqual(errors.Barred("both", ("a",), []).told(), "refused barred")
        self.assertEqual(errors.WhoError().told(), "refused whoerror")

    def test_fields_by_place(self):
        for kind, fields in REFUSALS:
            with self.subTest(kind=kind):
                error = getattr(errors, kind)(*[worth for name, worth in fields])
                self.assertEqual([(name, getattr(error, name)) for name, worth in fields], fields)

    def test_fields_by_name_in_another_order(self):
        for kind, fields in REFUSALS:
            with self.subTest(kind=kind):
                error = getattr(errors, kind)(**dict(reversed(fields)))
                self.assertEqual([(name, getattr(error, name)) for name, worth in fields], fields)
                self.assertEqual(error.told(), "refused " + kind.lower())

    def test_no_field_more_and_no_field_less(self):
        for kind, fields in REFUSALS:
            with self.subTest(kind=kind):
                worths = [worth for name, worth in fields]
                with self.assertRaises(TypeError):
                    getattr(errors, kind)(*worths, "more")
                if worths:
                    with self.assertRaises(TypeError):
                        getattr(errors, kind)(*worths[:-1])

    def test_each_stands_under_the_base_alone(self):
        self.assertEqual(errors.WhoError.__bases__, (ValueError,))
        for kind, fields in REFUSALS:
            with self.subTest(kind=kind):
                self.assertEqual(getattr(errors, kind).__bases__, (errors.WhoError,))
                self.only_under_base(getattr(errors, kind)(*[worth for name, worth in fields]))

    def test_raised_and_caught_by_the_base(self):
        for kind, fields in REFUSALS:
            with self.subTest(kind=kind):
                try:
                    raise getattr(errors, kind)(*[worth for name, worth in fields])
                except errors.WhoError as error:
                    self.assertEqual([getattr(error, name) for name, worth in fields], [w for n, w in fields])

    def test_a_list_of_deeds_changed_afterwards_changes_nothing(self):
        deeds = [("drop", "ann", "own", "bob")]
        error = errors.Barred("both", ("ann", "bob"), deeds)
        deeds.append(("drop", "bob", "own", "ann"))
        self.assertEqual(error.deeds, [("drop", "ann", "own", "bob")])
        self.assertIs(type(error.deeds), list)
        self.assertIs(type(error.spots), tuple)


if __name__ == "__main__":
    unittest.main()
