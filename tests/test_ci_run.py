import os
import pathlib
import shutil
import subprocess
import tempfile
import unittest

SCRIPT = pathlib.Path(__file__).resolve().parent.parent / ".ci" / "run"
TEST = """import unittest

from gatebook import piece


class PieceTest(unittest.TestCase):
    def test_piece(self):
        self.assertEqual(piece.VALUE, {value})
"""
GOOD = TEST.format(value=1)
BAD = TEST.format(value=2)


class RunTest(unittest.TestCase):
    """Runs the script in a small tree of its own, with a project and shared tests beside it."""

    def run_with(self, files):
        with tempfile.TemporaryDirectory() as folder:
            tree = pathlib.Path(folder)
            for name, text in {"main/gatebook/__init__.py": "", "main/gatebook/piece.py": "VALUE = 1\n", **files}.items():
                (tree / name).parent.mkdir(parents=True, exist_ok=True)
                (tree / name).write_text(text, encoding="utf-8")
            (tree / "main" / ".ci").mkdir()
            shutil.copy(SCRIPT, tree / "main" / ".ci" / "run")
            clean = {name: value for name, value in os.environ.items() if name != "PYTHONPATH"}
            done = subprocess.run(
                ["bash", ".ci/run"], cwd=tree / "main", env=clean, stdin=subprocess.DEVNULL,
                stdout=subprocess.PIPE, stderr=subprocess.STDOUT, text=True,
            )
            return done.returncode, done.stdout.splitlines()[-1]

    def test_passes_while_there_are_no_shared_tests(self):
        files = {"main/tests/test_a.py": GOOD, "shared/tests/README.md": "Tests.\n"}
        self.assertEqual(self.run_with(files), (0, "files: 1 passed, 0 failed"))

    def test_runs_shared_tests_as_soon_as_there_are_some(self):
        files = {"main/tests/test_a.py": GOOD, "shared/tests/test_b.py": GOOD, "shared/tests/deep/test_c.py": GOOD}
        self.assertEqual(self.run_with(files), (0, "files: 3 passed, 0 failed"))

    def test_fails_where_a_shared_test_fails(self):
        files = {"main/tests/test_a.py": GOOD, "shared/tests/test_b.py": BAD, "shared/tests/test_c.py": GOOD}
        self.assertEqual(self.run_with(files), (1, "files: 2 passed, 1 failed"))

    def test_fails_where_a_shared_test_in_a_folder_below_fails(self):
        files = {"main/tests/test_a.py": GOOD, "shared/tests/deep/test_b.py": BAD}
        self.assertEqual(self.run_with(files), (1, "files: 1 passed, 1 failed"))

    def test_fails_where_a_test_of_the_project_fails(self):
        files = {"main/tests/test_a.py": GOOD, "main/tests/test_b.py": BAD, "shared/tests/test_c.py": GOOD}
        self.assertEqual(self.run_with(files), (1, "files: 2 passed, 1 failed"))

    def test_files_of_one_name_are_both_run(self):
        files = {"main/tests/test_a.py": GOOD, "shared/tests/test_a.py": BAD}
        self.assertEqual(self.run_with(files), (1, "files: 1 passed, 1 failed"))

    def test_fails_where_a_test_file_cannot_be_read(self):
        files = {"main/tests/test_a.py": GOOD, "shared/tests/test_b.py": "import gatebook.missing\n"}
        self.assertEqual(self.run_with(files), (1, "files: 1 passed, 1 failed"))

    def test_fails_where_the_project_has_no_tests(self):
        self.assertEqual(self.run_with({"shared/tests/test_a.py": GOOD})[0], 1)


if __name__ == "__main__":
    unittest.main()
