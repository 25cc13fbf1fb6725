import doctest
import pathlib
import re
import unittest

from boundstone.schedule import run_schedule

README = pathlib.Path(__file__).parent.parent / "README.md"


class ReadmeTest(unittest.TestCase):
    def test_the_examples(self):
        # The mark at the end of the examples would be taken for the end of what the last one prints.
        text = README.read_text("utf-8").replace("```", "")
        examples = doctest.DocTestParser().get_doctest(text, {}, "README", str(README), 0)
        self.assertGreater(len(examples.examples), 20)
        told = []
        result = doctest.DocTestRunner(verbose=False).run(examples, out=told.append)
        self.assertEqual(result.failed, 0, "".join(told))

    def test_the_schedule(self):
        [text] = re.findall("```\n(world .*?)\n```", README.read_text("utf-8"), re.DOTALL)
        world = run_schedule(text)
        self.assertEqual((world.time(), world.is_up(0)), (8, True))


if __name__ == "__main__":
    unittest.main()
