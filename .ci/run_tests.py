"""Runs the tests of one folder: exits with 0 if all pass, 1 if one fails, 5 if there is none."""

import sys
import unittest


def main(folder):
    suite = unittest.TestLoader().discover(folder, top_level_dir=folder)
    result = unittest.TextTestRunner(stream=sys.stdout).run(suite)
    if result.testsRun == 0 and result.wasSuccessful():
        return 5
    wrong = result.failures + result.errors + [(test, "") for test in result.unexpectedSuccesses]
    # Several parts of one test may fail; they count as that test.
    failed = len({getattr(test, "test_case", test).id() for test, _ in wrong})
    print(f"{max(0, result.testsRun - failed)} passed, {failed} failed", flush=True)
    return 0 if result.wasSuccessful() else 1


if __name__ == "__main__":
    sys.exit(main(sys.argv[1]))
