"""What the tests share: all classes of refusals, and how one is asked for."""

from earthward import errors

NAMES = (
    "NoRow", "NoMeasure", "NoBar", "Same", "NoSwitch", "Loaded", "Shorted", "Locked", "Held",
    "NoLock", "NotOpen", "NotLocked", "NotEarthed", "NotDead", "NoPermit",
)
CLASSES = {name: getattr(errors, name) for name in NAMES}


def assert_refused(case, name, call, *given):
    with case.assertRaises(errors.WardError) as caught:
        call(*given)
    case.assertIsInstance(caught.exception, ValueError)
    fitting = [other for other in NAMES if isinstance(caught.exception, CLASSES[other])]
    case.assertEqual(fitting, [name], given)
