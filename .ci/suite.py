"""Run all test_*.py of one folder and close with a line of counts: python3 .ci/suite.py FOLDER [TOP]."""

import faulthandler
import sys
import unittest

MOST_SECONDS = 1200


def main(folder, top):
    # A loop without end fails after this time, with a trace of where it is, instead of holding everything up.
    faulthandler.dump_traceback_later(MOST_SECONDS, exit=True)
    suite = unittest.TestLoader().discover(folder, pattern="test_*.py", top_level_dir=top)
    result = unittest.TextTestRunner(stream=sys.stdout, verbosity=1).run(suite)
    bad = result.failures + result.errors
    failed = len({getattr(test, "test_case", test).id() for test, _ in bad}) + len(result.unexpectedSuccesses)
    skipped = len(result.skipped)
    passed = max(result.testsRun - failed - skipped, 0)
    print(f"{passed} passed, {failed} failed" + (f", {skipped} skipped" if skipped else ""), flush=True)
    # A folder named together with its top must hold tests: this is how the project's own folder is told.
    return 0 if result.wasSuccessful() and (result.testsRun or folder == top) else 1


if __name__ == "__main__":
    sys.exit(main(sys.argv[1], sys.argv[2] if len(sys.argv) > 2 else sys.argv[1]))
