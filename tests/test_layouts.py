import unittest

from quietsmith.layouts import is_code_file, is_layout, is_memory, layout_end, region_at

PART = (10, 5, "secret", 99)
CODE = (("halt",),)


def many(count):
    return tuple((at * 2, 1, "public", at) for at in range(count))


class LayoutsTest(unittest.TestCase):
    def right(self, *regions):
        self.assertIs(is_layout(regions), True, regions)

    def wrong(self, *regions):
        self.assertIs(is_layout(regions), False, regions)

    def test_numbers_of_regions(self):
        for count in (0, 1, 2, 255, 256):
            self.right(*many(count))
        self.wrong(*many(257))
        self.wrong(*many(300))

    def test_starts(self):
        for start in (0, 1, 4094, 4095):
            self.right((start, 1, "public", 0))
        for start in (-1, 4096, 5000, True, False, None, "0", [0], (0,), (), 10 ** 40):
            self.wrong((start, 1, "public", 0))

    def test_sizes(self):
        for size in (1, 2, 4095, 4096):
            self.right((0, size, "secret", 5))
        for size in (0, -1, 4097, True, False, None, "1", [1], (1,), (), 10 ** 40):
            self.wrong((0, size, "secret", 5))

    def test_ends(self):
        for start, size in ((0, 4096), (1, 4095), (4000, 96), (4095, 1), (2048, 2048)):
            self.right((start, size, "public", 1))
            self.wrong((start, size + 1, "public", 1))

    def test_flows(self):
        self.right((0, 1, "public", 1))
        self.right((0, 1, "secret", 1))
        for flow in ("", "Public", "secret ", "turn", True, None, 0, ["public"], ("public",), ("public", "secret")):
            self.wrong((0, 1, flow, 1))

    def test_mosts(self):
        for most in (0, 1, 65534, 65535):
            self.right((0, 1, "public", most))
        for most in (-1, 65536, True, False, None, "1", [1], (), 10 ** 40):
            self.wrong((0, 1, "public", most))

    def test_order(self):
        self.right(PART, (15, 1, "public", 1))
        self.right(PART, (16, 1, "public", 1))
        self.wrong(PART, (14, 1, "public", 1))
        self.wrong(PART, PART)
        self.wrong(PART, (0, 10, "public", 1))
        self.wrong(PART, (10, 1, "public", 1))
        self.wrong(PART, (0, 4096, "public", 1))
        self.right((0, 10, "public", 1), PART, (15, 4081, "secret", 1))
        self.wrong((0, 11, "public", 1), PART)
        self.wrong((0, 1, "public", 1), (15, 1, "public", 1), (14, 1, "public", 1))

    def test_other_forms(self):
        for value in ([], [PART], None, True, 0, "", "region", PART, (list(PART),), ((),), (PART[:3],), (PART + (1,),),
                      (None,), (5,), (PART, None), (PART, []), ((PART,),), ("abcd",)):
            self.assertIs(is_layout(value), False, value)

    def test_code_files(self):
        for value in (((), CODE), ((PART,), CODE), (many(256), CODE * 20000)):
            self.assertIs(is_code_file(value), True)
        for value in ([(), CODE], ((), CODE, ()), ((),), (), None, True, 3, "", CODE, (CODE, ()), ((), ()), ((), [("halt",)]),
                      ([], CODE), (many(257), CODE), ((), CODE * 20001), ((PART, PART), CODE), ((), ("halt",)), ("ab")):
            self.assertIs(is_code_file(value), False)

    def test_ends_of_layouts(self):
        self.assertEqual(layout_end(()), 0)
        self.assertEqual(layout_end((PART,)), 15)
        self.assertEqual(layout_end((PART, (20, 3, "public", 1))), 23)
        self.assertEqual(layout_end(((0, 4096, "public", 1),)), 4096)
        self.assertEqual(layout_end(((4095, 1, "public", 1),)), 4096)
        self.assertEqual(layout_end(many(256)), 511)

    def test_regions_at_addresses(self):
        layout = ((2, 3, "public", 1), (5, 1, "secret", 1), (8, 4, "public", 2))
        found = [region_at(layout, address) for address in range(-2, 14)]
        self.assertEqual(found, [-1, -1, -1, -1, 0, 0, 0, 1, -1, -1, 2, 2, 2, 2, -1, -1])
        for address in (-1, -100000, 12, 4095, 4096, 65535, 10 ** 30, -(10 ** 30)):
            self.assertEqual(region_at(layout, address), -1)
        for address in (0, -1, 5):
            self.assertEqual(region_at((), address), -1)
        self.assertEqual([region_at(many(256), address) for address in (0, 1, 2, 509, 510, 511)], [0, -1, 1, -1, 255, -1])

    def test_memories(self):
        layout = ((1, 2, "secret", 9), (4, 1, "public", 65535), (5, 1, "public", 0))
        for words in ([0] * 6, [65535, 9, 9, 65535, 65535, 0], [7, 0, 9, 40000, 10, 0]):
            self.assertIs(is_memory(layout, words), True, words)
        right = [65535, 9, 9, 65535, 65535, 0]
        for at in range(6):
            for wrong in (-1, 65536, True, False, None, "0", [0], (0,), 10 ** 30):
                self.assertIs(is_memory(layout, right[:at] + [wrong] + right[at + 1:]), False, (at, wrong))
        for at, most in ((1, 9), (2, 9), (5, 0)):
            self.assertIs(is_memory(layout, right[:at] + [most + 1] + right[at + 1:]), False, at)
        for value in (right[:-1], right + [0], [], tuple(right), None, True, 6, "000000", [right], (right,)):
            self.assertIs(is_memory(layout, value), False, value)

    def test_memories_of_other_layouts(self):
        self.assertIs(is_memory((), []), True)
        for value in ([0], (), None, 0, False):
            self.assertIs(is_memory((), value), False)
        whole = ((0, 4096, "secret", 65535),)
        self.assertIs(is_memory(whole, [65535] * 4096), True)
        self.assertIs(is_memory(whole, [0] * 4095), False)
        self.assertIs(is_memory(whole, [0] * 4097), False)
        self.assertIs(is_memory(((3, 1, "secret", 0),), [65535, 65535, 65535, 0]), True)
        self.assertIs(is_memory(((3, 1, "secret", 0),), [0, 0, 0, 1]), False)


if __name__ == "__main__":
    unittest.main()
