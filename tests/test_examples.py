"""Each example of the document, as it stands there."""

import unittest

from tests.examples import FOLDER, examples_in, shown
from tests.support import Case

STAGES = ("stage01", "stage02", "stage03", "stage04", "stage05", "stage06", "stage07", "stage08", "stage09", "stage10",
          "stage11", "stage12", "stage13", "stage14", "stage15", "stage16", "stage17", "stage18", "stage19", "stage20",
          "stage21", "stage22", "stage23", "stage24", "stage25", "stage26", "stage27", "stage28", "stage30",
          "stage31", "stage32")
# How many examples of these stages show something.
MANY = {"stage01": 4, "stage02": 2, "stage03": 3, "stage04": 5, "stage05": 4, "stage06": 1, "stage07": 1,
        "stage08": 1, "stage09": 3, "stage10": 3, "stage11": 4,
        "stage12": 4, "stage13": 3, "stage14": 2, "stage15": 3, "stage16": 3, "stage17": 2, "stage18": 1, "stage19": 3,
        "stage20": 2, "stage21": 2, "stage22": 2,
        "stage23": 2, "stage24": 3, "stage25": 3, "stage26": 3, "stage27": 2, "stage28": 4,
        "stage30": 4, "stage31": 3, "stage32": 3}


class Examples(Case):
    def test_each_example_shows_what_the_document_says(self):
        names = {}
        for source, _ in examples_in("names.txt"):
            exec(source, names)
        for stage in STAGES:
            count = 0
            for source, below in examples_in(stage + ".txt"):
                with self.subTest(stage=stage, source=source):
                    self.assertEqual(shown(source, names), below)
                count += below is not None
            self.assertEqual(count, MANY[stage], stage)

    def test_each_file_is_run(self):
        files = sorted(path.name for path in FOLDER.iterdir())
        self.assertEqual(files, ["names.txt"] + [stage + ".txt" for stage in STAGES])


if __name__ == "__main__":
    unittest.main()
