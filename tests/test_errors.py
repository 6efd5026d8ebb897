import unittest

from leastpowers import errors
from samples import ANY, exchanged

FIELDS = {
    "Broken": ["duty"], "CanBe": ["orders"], "NoCommand": [], "NoDuty": ["duty"], "NoFit": ["row"],
    "NoIndex": ["index"], "NoOrders": [], "NoPlan": ["event"], "NoQuotient": [], "NoText": ["line"],
    "NotExact": ["row"], "NotSilent": ["orders"], "NotSquare": [], "NotTold": ["unknown"], "Nothing": [],
    "TooMany": ["most"], "Wrong": ["place"],
}


class ErrorsTest(unittest.TestCase):
    def test_the_base_is_a_value_error(self):
        self.assertEqual((ValueError,), errors.OrderError.__bases__)

    def test_each_one_is_an_order_error_and_no_other_one(self):
        for name in FIELDS:
            made = getattr(errors, name)
            self.assertEqual((errors.OrderError,), made.__bases__, name)
            self.assertEqual(name, made.__name__)

    def test_all_of_the_interface_and_no_others_are_there(self):
        made = [name for name, thing in vars(errors).items() if isinstance(thing, type)]
        self.assertEqual(sorted(["OrderError", *FIELDS]), sorted(made))
        for name in made:
            self.assertEqual("leastpowers.errors", getattr(errors, name).__module__)

    def test_fields_are_the_very_objects_of_any_kind(self):
        for name, fields in FIELDS.items():
            for thing in ANY + [object()] if fields else []:
                before = repr(thing)
                error = getattr(errors, name)(thing)
                self.assertIs(thing, getattr(error, fields[0]))
                self.assertEqual(fields, list(vars(error)))
                self.assertEqual(before, repr(thing))

    def test_without_arguments_there_are_no_fields(self):
        for name, fields in FIELDS.items():
            if not fields:
                self.assertEqual({}, vars(getattr(errors, name)()))

    def test_they_can_be_raised_and_caught_by_their_base(self):
        for name, fields in FIELDS.items():
            with self.assertRaises(errors.OrderError):
                raise getattr(errors, name)(*[[0] for _ in fields])

    def test_a_field_stays_what_it_was_if_the_object_changes(self):
        thing = [1]
        error = errors.Broken(thing)
        thing.append(2)
        self.assertEqual([1, 2], error.duty)

    def test_the_values_of_the_tests_are_of_all_kinds(self):
        self.assertIn(([0],), list(exchanged((0,))))
        self.assertIn((True,), [thing for thing in exchanged((0,)) if repr(thing) == "(True,)"])
