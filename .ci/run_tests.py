"""Run the tests of one folder; fail if one fails or if there is none.

Usage: python3 .ci/run_tests.py FOLDER TOP, where TOP is what names of modules start from.
"""

import sys
import unittest


def main(folder, top):
    suite = unittest.TestLoader().discover(folder, pattern="test_*.py", top_level_dir=top)
    result = unittest.TextTestRunner(verbosity=1).run(suite)
    failed = len(result.failures) + len(result.errors) + len(result.unexpectedSuccesses)
    passed = result.testsRun - failed - len(result.skipped)
    print(f"{passed} passed, {failed} failed", flush=True)
    return 0 if passed > 0 and result.wasSuccessful() else 1


if __name__ == "__main__":
    sys.exit(main(sys.argv[1], sys.argv[2]))
