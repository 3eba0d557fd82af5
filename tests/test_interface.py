import inspect
import subprocess
import sys
import unittest
from pathlib import Path

from firsthit import boxes

ROOT = Path(__file__).resolve().parent.parent


class Interface(unittest.TestCase):
    def check(self, module, rows):
        for name, arguments in rows:
            with self.subTest(module=module.__name__, name=name):
                signature = inspect.signature(getattr(module, name))
                self.assertEqual(list(signature.parameters), arguments)

    def test_boxes(self):
        self.check(boxes, (
            ("box_around", ["points"]),
            ("meets_box", ["ray", "box"]),
            ("stay_in", ["ray", "box"]),
        ))

    def test_the_package_binds_nothing(self):
        # In a process of its own: other tests' imports bind the files to the package.
        program = "import firsthit; print([name for name in vars(firsthit) if not name.startswith('__')])"
        told = subprocess.run([sys.executable, "-B", "-c", program], cwd=ROOT, capture_output=True, text=True)
        self.assertEqual((told.stdout.strip(), told.stderr), ("[]", ""))


if __name__ == "__main__":
    unittest.main()
