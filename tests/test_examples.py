"""The examples of the document, module by module; each gives just what the document prints."""

import doctest
import os
import re
import unittest

HERE = os.path.dirname(os.path.abspath(__file__))
EXAMPLES = os.path.join(HERE, "examples")
DOCUMENT = os.path.join(HERE, "..", "..", "shared", "DOC.md")


def names():
    return sorted(name[:-len(".txt")] for name in os.listdir(EXAMPLES) if name.endswith(".txt"))


def text_of(path):
    with open(path, encoding="utf-8") as told:
        return told.read()


class ExamplesTest(unittest.TestCase):
    def test_examples(self):
        self.assertEqual(len(names()), 34)
        for name in names():
            with self.subTest(module=name):
                examples = doctest.DocTestParser().get_doctest(
                    text_of(os.path.join(EXAMPLES, name + ".txt")), {}, name, name, 0)
                told = []
                results = doctest.DocTestRunner().run(examples, out=told.append)
                self.assertGreater(results.attempted, 1)
                self.assertEqual(results.failed, 0, "".join(told))

    @unittest.skipUnless(os.path.exists(DOCUMENT), "the document is not here")
    def test_they_are_those_of_the_document(self):
        for part in re.split(r"\n(?=## listwindow/)", text_of(DOCUMENT))[1:]:
            name = re.match(r"## listwindow/(\w+)\.py", part)[1]
            if name in names():
                blocks = "".join(re.findall(r"```\n(.*?)```", part, re.S))
                self.assertEqual(text_of(os.path.join(EXAMPLES, name + ".txt")), blocks, name)
