"""Runs all tests in one lot, so that the runner's last lines tell of all of them."""

import importlib.util
import pathlib
import sys
import unittest

ROOT = pathlib.Path(__file__).resolve().parent.parent
SHARED = ROOT.parent / "shared" / "tests"


def module_from(path, number):
    """A shared test file as a module, under a name that no test file of the project has."""
    if str(path.parent) not in sys.path:
        sys.path.append(str(path.parent))
    name = f"shared_{number}_{path.stem}"
    spec = importlib.util.spec_from_file_location(name, path)
    module = importlib.util.module_from_spec(spec)
    sys.modules[name] = module
    spec.loader.exec_module(module)
    return module


def all_tests():
    loader = unittest.TestLoader()
    suite = unittest.TestSuite()
    suite.addTests(loader.discover(str(ROOT / "tests"), top_level_dir=str(ROOT)))
    if SHARED.is_dir():
        for number, path in enumerate(sorted(SHARED.rglob("test_*.py"))):
            suite.addTests(loader.loadTestsFromModule(module_from(path, number)))
    return suite


def main():
    sys.path.insert(0, str(ROOT))
    suite = all_tests()
    if suite.countTestCases() == 0:
        sys.exit("no tests were found")
    result = unittest.TextTestRunner(verbosity=1).run(suite)
    sys.exit(0 if result.wasSuccessful() else 1)


if __name__ == "__main__":
    main()
