import inspect
import subprocess
import sys
import unittest
from pathlib import Path

from firsthit import boxes, desk, errors, scenes, shapes, surfaces, triangles, views

ROOT = Path(__file__).resolve().parent.parent


class Interface(unittest.TestCase):
    def check(self, holder, rows):
        for name, arguments in rows:
            with self.subTest(holder=holder.__name__, name=name):
                signature = inspect.signature(getattr(holder, name))
                self.assertEqual(list(signature.parameters), arguments)

    def test_boxes(self):
        self.check(boxes, (
            ("box_around", ["points"]),
            ("meets_box", ["ray", "box"]),
            ("stay_in", ["ray", "box"]),
        ))

    def test_triangles(self):
        self.check(triangles, (
            ("meets_segment", ["ray", "one", "other"]),
            ("meets_triangle", ["ray", "triangle"]),
        ))

    def test_shapes(self):
        self.check(shapes, (
            ("meets", ["ray", "shape"]),
            ("bounds", ["shape"]),
        ))

    def test_scenes(self):
        self.check(scenes, (("Scene", ["shapes"]),))
        self.check(scenes.Scene, (
            ("size", ["self"]),
            ("shape", ["self", "number"]),
            ("first", ["self", "ray"]),
            ("every", ["self", "ray"]),
            ("is_free", ["self", "one", "other"]),
            ("with_shape", ["self", "shape"]),
            ("without", ["self", "number"]),
        ))

    def test_views(self):
        self.check(views, (
            ("seen", ["scene", "frame", "wide", "high"]),
            ("drawn", ["rows"]),
        ))

    def test_surfaces(self):
        self.check(surfaces, (
            ("is_closed", ["triangles"]),
            ("six_volume", ["triangles"]),
            ("place_of", ["point", "triangles"]),
        ))

    def test_desk(self):
        self.check(desk, (("play", ["text"]),))

    def test_errors(self):
        for name in ("HitError", "NoRay", "NoShape", "NotClosed", "BadRow"):
            self.assertTrue(issubclass(getattr(errors, name), ValueError))

    def test_the_package_binds_nothing(self):
        # In a process of its own: other tests' imports bind the files to the package.
        program = "import firsthit; print([name for name in vars(firsthit) if not name.startswith('__')])"
        told = subprocess.run([sys.executable, "-B", "-c", program], cwd=ROOT, capture_output=True, text=True)
        self.assertEqual((told.stdout.strip(), told.stderr), ("[]", ""))


if __name__ == "__main__":
    unittest.main()
