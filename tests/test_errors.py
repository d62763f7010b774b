"""The errors: families and fields [12]."""

from samesamples import errors
from helpers import Case

FIELDS = {
    "PaperError": {"InvalidPaper": ("word", "at")},
    "UseError": {"NotUsable": ("word", "at"), "BadText": ("row",), "KeyAway": ("key",), "TooMany": ("many",)},
    "DeedError": {"NotLet": ("reason", "name")},
    "EngineError": {
        "HandBusy": ("hand",), "NoName": ("name",), "NameTaken": ("name",), "NotReady": ("sample", "inlet"),
        "NoSlip": ("hand",), "Sealed": (), "TooFar": ("sample",), "Shut": ("channel",),
        "Heard": ("name", "sample"), "NothingToUndo": (), "NothingToRedo": (), "NotYet": ("name",),
        "Gone": ("name",), "NotGiven": ("channel", "many"), "Uneven": ("name",), "AcrossSeam": ("seam",),
        "LongBuffer": ("greatest",),
    },
}


def each_error():
    for family, names in FIELDS.items():
        for name, fields in names.items():
            yield getattr(errors, family), getattr(errors, name), fields


class Errors(Case):
    def test_bases(self):
        self.assertEqual(errors.SoundError.__bases__, (ValueError,))
        for family in FIELDS:
            self.assertEqual(getattr(errors, family).__bases__, (errors.SoundError,))
        for family, error, _ in each_error():
            self.assertEqual(error.__bases__, (family,))

    def test_fields_are_kept_as_they_are(self):
        for _, error, fields in each_error():
            given = [[name] for name in fields]
            for made in (error(*given), error(**dict(zip(fields, given)))):
                self.assertEqual(list(vars(made)), list(fields))
                for name, thing in zip(fields, given):
                    self.assertIs(getattr(made, name), thing)

    def test_just_these_fields(self):
        for _, error, fields in each_error():
            with self.assertRaises(TypeError):
                error(*range(len(fields) + 1))
            if fields:
                with self.assertRaises(TypeError):
                    error(*range(len(fields) - 1))

    def test_defined_there(self):
        for family, error, _ in each_error():
            self.assertEqual((error.__module__, family.__module__), ("samesamples.errors", "samesamples.errors"))
