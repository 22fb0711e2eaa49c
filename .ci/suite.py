"""Runs the tests of one folder: suite.py FOLDER TOP, where TOP is the folder that the module names begin at."""

import sys
import unittest


def main(folder, top):
    suite = unittest.TestLoader().discover(folder, pattern="test_*.py", top_level_dir=top)
    result = unittest.TextTestRunner().run(suite)
    failed = len({test.id() for test, _ in result.failures + result.errors})
    failed += len(result.unexpectedSuccesses)
    skipped = len(result.skipped)
    sys.stderr.flush()
    print(f"{max(0, result.testsRun - failed - skipped)} passed, {failed} failed, {skipped} skipped", flush=True)
    # A folder without tests is a mistake in the call, not a success.
    return 0 if result.wasSuccessful() and result.testsRun > 0 else 1


sys.exit(main(sys.argv[1], sys.argv[2]))
