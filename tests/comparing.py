"""A test case that tells in short where two long values differ."""

import unittest


class Comparing(unittest.TestCase):
    def setUp(self):
        # unittest's own account of two lists as long as memory takes minutes to make.
        self.addTypeEqualityFunc(list, self.compare_lists)
        self.addTypeEqualityFunc(dict, self.compare_dicts)

    def compare_lists(self, found, expected, msg=None):
        if len(found) != len(expected):
            self.fail(f"{msg or ''} {len(found)} of them, not {len(expected)}: {str(found[:8])[:80]}")
        for place, pair in enumerate(zip(found, expected)):
            if pair[0] != pair[1]:
                self.fail(f"{msg or ''} at {place}: {str(pair[0])[:80]}, not {str(pair[1])[:80]}")

    def compare_dicts(self, found, expected, msg=None):
        self.assertEqual(sorted(found), sorted(expected), msg)
        for name in sorted(found):
            self.assertEqual(found[name], expected[name], name)
