"""Runs the tests of one folder and ends with status 1 if one fails or there is none."""

import sys
import unittest


def main(folder):
    suite = unittest.defaultTestLoader.discover(folder, pattern="test_*.py")
    result = unittest.TextTestRunner(stream=sys.stdout).run(suite)
    failed = len(result.failures) + len(result.errors) + len(result.unexpectedSuccesses)
    skipped = len(result.skipped)
    passed = max(0, result.testsRun - failed - skipped)
    sys.stdout.flush()
    print(f"{passed} passed, {failed} failed, {skipped} skipped")
    return 0 if result.wasSuccessful() and result.testsRun > 0 else 1


if __name__ == "__main__":
    sys.exit(main(sys.argv[1]))
