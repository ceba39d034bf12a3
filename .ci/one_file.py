"""Runs one test file as python3 -m unittest does, and writes a row of counts to another file.

The row: how many tests passed, failed and were skipped, and 0 (.ci/run makes a row with 1 there
for a file whose run failed).
"""

import os
import sys
import unittest


def main(path, counts):
    folder, name = os.path.split(path)
    suite = unittest.defaultTestLoader.discover(folder, pattern=name)
    result = unittest.TextTestRunner(stream=sys.stdout).run(suite)
    failed = len(result.failures) + len(result.errors) + len(result.unexpectedSuccesses)
    skipped = len(result.skipped)
    passed = max(0, result.testsRun - failed - skipped)
    with open(counts, "w", encoding="ascii") as out:
        out.write(f"{passed} {failed} {skipped} 0\n")
    return 0 if result.wasSuccessful() else 1


if __name__ == "__main__":
    # What python3 -m unittest finds, it finds from the folder it is run in.
    sys.path[0] = os.getcwd()
    sys.exit(main(sys.argv[1], sys.argv[2]))
