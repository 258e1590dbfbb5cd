"""What an experiment must be, told once for all tests."""

from devicewindows.playing import first_breach, play
from devicewindows.settings import Book, Setting
from tests.driving import CONTROL, breach

FREE = ("fetch", "store", "load", "evict", "land", "flush")


def check_experiment(case, driver, path, result, pages=4, devices=("a", "b")):
    """The result is an experiment for the breach at the end of the path; case is a test."""
    case.assertIsInstance(result, tuple)
    events, one, other = result
    case.assertIsInstance(events, list)
    rows = [driver[number] for number in path if driver[number][0] not in CONTROL]
    core = [event for event in events if event[0] not in FREE]
    case.assertEqual([event[:2] if event[0] == "write" else event for event in core[:len(rows)]], rows)
    case.assertEqual([len(event) for event in core if event[0] == "write"], [3] * len(
        [row for row in rows if row[0] == "write"]))
    case.assertLessEqual(len(core), len(rows) + 4)
    case.assertLessEqual({event[0] for event in core[len(rows):]}, {"take", "read"})
    last = [index for index, event in enumerate(events) if event[0] not in FREE][len(rows) - 1]
    case.assertEqual(first_breach(events, pages=pages, devices=devices), (last, *breach(driver, path, pages, devices)))
    for setting in (one, other):
        case.assertIsInstance(setting, Setting)
        case.assertTrue(setting.safe)
        case.assertEqual(setting.book, Book())
    answers = [play(events, setting=setting, pages=pages, devices=devices) for setting in (one, other)]
    case.assertNotEqual(*answers)
