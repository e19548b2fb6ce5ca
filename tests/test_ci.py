"""What .ci/run must do, tried on small projects of its own kind."""

import os
import shutil
import subprocess
import tempfile
import unittest

CI_RUN = os.path.join(os.path.dirname(os.path.dirname(os.path.abspath(__file__))), ".ci", "run")

TEST = """
import unittest
from graphtwins.values import ROOT

class Case(unittest.TestCase):
    def test_root(self):
        self.assertEqual(ROOT, {expected!r})
"""
RIGHT = TEST.format(expected="the root of this checkout")
WRONG = TEST.format(expected="another root")


@unittest.skipUnless(os.path.exists(CI_RUN), "there is no .ci/run here")
class CiRunCase(unittest.TestCase):
    def setUp(self):
        self.folder = tempfile.mkdtemp()
        self.addCleanup(shutil.rmtree, self.folder)
        self.write("main/graphtwins/__init__.py", "")
        self.write("main/graphtwins/values.py", 'ROOT = "the root of this checkout"\n')
        self.write("main/tests/__init__.py", "")
        os.mkdir(os.path.join(self.folder, "main", ".ci"))
        shutil.copy(CI_RUN, os.path.join(self.folder, "main", ".ci", "run"))

    def write(self, path, text):
        whole = os.path.join(self.folder, path)
        os.makedirs(os.path.dirname(whole), exist_ok=True)
        with open(whole, "w") as file:
            file.write(text)

    def passes(self):
        # From another folder, to see that the script finds its own checkout.
        done = subprocess.run(
            ["bash", os.path.join(self.folder, "main", ".ci", "run")],
            cwd=self.folder, stdin=subprocess.DEVNULL,
            stdout=subprocess.PIPE, stderr=subprocess.STDOUT,
        )
        self.assertNotEqual(done.stdout, b"")
        return done.returncode == 0

    def test_passes_without_shared_tests(self):
        self.write("main/tests/test_one.py", RIGHT)
        self.assertTrue(self.passes())
        self.write("shared/DOC.md", "")
        self.assertTrue(self.passes())
        self.write("shared/tests/README.md", "")
        self.assertTrue(self.passes())

    def test_fails_by_any_test_of_the_project(self):
        for wrong in ("test_a.py", "test_b.py", "test_c.py"):
            for name in ("test_a.py", "test_b.py", "test_c.py"):
                self.write("main/tests/" + name, WRONG if name == wrong else RIGHT)
            self.assertFalse(self.passes(), wrong)

    def test_fails_where_a_test_cannot_be_imported(self):
        self.write("main/tests/test_one.py", RIGHT)
        self.write("main/tests/test_two.py", "import nothing_of_this_name\n")
        self.assertFalse(self.passes())

    def test_fails_where_the_project_has_no_test(self):
        self.assertFalse(self.passes())

    def test_shared_tests_import_the_program_by_its_module_names(self):
        self.write("main/tests/test_one.py", RIGHT)
        self.write("shared/tests/test_one.py", RIGHT)
        self.assertTrue(self.passes())

    def test_fails_by_any_shared_test(self):
        self.write("main/tests/test_one.py", RIGHT)
        for wrong in ("test_one.py", "test_two.py", "deep/down/test_one.py"):
            for name in ("test_one.py", "test_two.py", "deep/down/test_one.py"):
                self.write("shared/tests/" + name, WRONG if name == wrong else RIGHT)
            self.assertFalse(self.passes(), wrong)


if __name__ == "__main__":
    unittest.main()
