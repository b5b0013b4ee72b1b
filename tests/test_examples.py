"""The examples of the document, chapters 3 to 18."""

import doctest
import importlib
import os
import unittest

HERE = os.path.dirname(os.path.abspath(__file__))
CHAPTERS = {
    3: "standings pours",
    4: "tokens errands errandtexts reading",
    5: "diskcode diskmachine asrows standings pours",
    6: "powers depths depthtrees partings gains",
    7: "below belowpapers running readbounds",
    8: "turned digitlayings exchanges digitrows planes enough anywish",
    9: "standings patterns leastpours layers",
    10: "asks furthest askpapers dearpages",
    11: "merging mergepapers mergecounts",
    12: "searching searchtrees searchweights cuttings",
    13: "layingvisits partingtrees halves manysizes",
    14: "sorting networks blocknetworks",
    15: "shadows loopbounds walks smallloops",
    16: "living livingchanges lives",
    17: "counting spread rounds",
    18: "houses sheets desk",
}


class ExamplesTest(unittest.TestCase):
    def test_examples(self):
        with open(os.path.join(HERE, "examples.txt"), encoding="utf-8") as told:
            parts = told.read().split("chapter ")[1:]
        self.assertEqual([int(part.split()[0]) for part in parts], sorted(CHAPTERS))
        for part in parts:
            chapter = int(part.split()[0])
            names = {}
            for module in CHAPTERS[chapter].split():
                names.update(vars(importlib.import_module("fewestpours." + module)))
            if chapter == 4:
                names.update(vars(importlib.import_module("fewestpours.standings")))
            examples = doctest.DocTestParser().get_doctest(part, names, "chapter " + str(chapter), "examples.txt", 0)
            self.assertGreaterEqual(len(examples.examples), 3)
            told = []
            result = doctest.DocTestRunner(verbose=False).run(examples, out=told.append)
            self.assertEqual(result.failed, 0, "".join(told))


if __name__ == "__main__":
    unittest.main()
