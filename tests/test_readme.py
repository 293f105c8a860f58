"""README.md: its examples answer as it says, and it leaves out nothing of the interface."""

import doctest
import pathlib
import unittest

README = pathlib.Path(__file__).parent.parent / "README.md"


class Readme(unittest.TestCase):

    def test_the_examples(self):
        failed, tried = doctest.testfile(str(README), module_relative=False, encoding="utf-8")
        self.assertEqual(failed, 0)
        self.assertGreater(tried, 20)

    def test_each_class_and_method_is_named(self):
        text = README.read_text(encoding="utf-8")
        for name in (
            "Plan(", ".size_for(", ".per(",
            "Shelf(", ".out(", ".free(", ".take(", ".give(",
            "Room(", ".wish(", ".give_back(", ".trim(", ".room_for(", ".read(", ".write(",
            ".gather(", ".things(", ".shelves(", ".pile(",
            "BadPlan", "BadWish", "TooLarge", "NoSize", "NoRoom", "NotOut", "OutOfThing", "RoomError",
        ):
            with self.subTest(name):
                self.assertIn(name, text)

    def test_how_to_run_the_tests(self):
        text = README.read_text(encoding="utf-8")
        self.assertIn("python3 -m unittest", text)
        self.assertIn(".ci/run", text)


if __name__ == "__main__":
    unittest.main()
