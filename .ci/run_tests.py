"""Run the test_*.py files that stand directly in one folder, and tell how many tests passed.

Arguments: the folder from which names of modules are counted, and the folder of the tests.
"""

import pathlib
import sys
import unittest


def main(top, folder):
    """Run the tests; the answer is the exit code."""
    top = pathlib.Path(top).resolve()
    folder = pathlib.Path(folder).resolve()
    sys.path.insert(0, str(top))
    prefix = ".".join(folder.relative_to(top).parts)
    names = [path.stem for path in sorted(folder.glob("test_*.py"))]
    names = [f"{prefix}.{name}" if prefix else name for name in names]
    suite = unittest.defaultTestLoader.loadTestsFromNames(names)
    outcome = unittest.TextTestRunner(verbosity=1).run(suite)
    wrong = len(outcome.failures) + len(outcome.errors) + len(outcome.unexpectedSuccesses)
    skipped = len(outcome.skipped)
    sys.stderr.flush()
    print(f"{max(0, outcome.testsRun - wrong - skipped)} passed, {wrong} failed, {skipped} skipped", flush=True)
    return 1 if wrong else 0


if __name__ == "__main__":
    sys.exit(main(*sys.argv[1:]))
