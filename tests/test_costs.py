import random
import unittest

from quietsmith.costs import Cache, Predictor, base_cycles
from tests.test_instructions import GREATEST


class CostsTest(unittest.TestCase):
    def test_cycles_of_each_name(self):
        others = {"mul": 4, "high": 4, "downby": 2, "jump": 2, "call": 2, "ret": 2, "div": 2}
        for name in GREATEST:
            self.assertEqual(base_cycles(name), others.get(name, 1), name)

    def test_cache_at_the_start(self):
        self.assertEqual(Cache().lines(), [-1] * 8)

    def test_blocks(self):
        cache = Cache()
        self.assertEqual([cache.access(address) for address in (0, 1, 2, 3, 4, 7, 0, 5)], [6, 1, 1, 1, 6, 1, 1, 1])
        self.assertEqual(cache.lines(), [0, 1, -1, -1, -1, -1, -1, -1])

    def test_blocks_that_share_a_line(self):
        cache = Cache()
        self.assertEqual([cache.access(address) for address in (0, 32, 0, 3, 35, 34, 64)], [6, 6, 6, 1, 6, 1, 6])
        self.assertEqual(cache.lines(), [16] + [-1] * 7)
        self.assertEqual([cache.access(address) for address in (28, 60, 28, 31)], [6, 6, 6, 1])
        self.assertEqual(cache.lines(), [16] + [-1] * 6 + [7])

    def test_eight_lines(self):
        cache = Cache()
        self.assertEqual([cache.access(4 * at) for at in range(8)], [6] * 8)
        self.assertEqual([cache.access(4 * at + 3) for at in range(8)], [1] * 8)
        self.assertEqual(cache.access(4095), 6)
        self.assertEqual(cache.lines(), [0, 1, 2, 3, 4, 5, 6, 1023])
        self.assertEqual(cache.access(4092), 1)

    def test_lines_are_new(self):
        cache = Cache()
        cache.lines()[0] = 0
        self.assertEqual(cache.lines(), [-1] * 8)
        self.assertEqual(cache.access(0), 6)

    def test_caches_share_nothing(self):
        Cache().access(0)
        self.assertEqual(Cache().access(0), 6)

    def test_random_accesses(self):
        numbers = random.Random(7)
        cache = Cache()
        lines = [-1] * 8
        for _ in range(2000):
            address = numbers.choice((numbers.randrange(4096), numbers.randrange(80)))
            block = address // 4
            self.assertEqual(cache.access(address), 1 if lines[block % 8] == block else 6)
            lines[block % 8] = block
            self.assertEqual(cache.lines(), lines)

    def test_predictor_at_the_start(self):
        self.assertEqual(Predictor().counters(), [1] * 16)

    def test_each_counter(self):
        """From each counter, with a jump and with none."""
        for counter, ways in ((0, (False,)), (1, ()), (2, (True,)), (3, (True, True))):
            for jumps in (True, False):
                predictor = Predictor()
                for way in ways:
                    predictor.branch(5, way)
                self.assertEqual(predictor.counters()[5], counter)
                right = predictor.branch(5, jumps)
                self.assertIs(right, (counter >= 2) == jumps)
                after = min(counter + 1, 3) if jumps else max(counter - 1, 0)
                self.assertEqual(predictor.counters(), [1] * 5 + [after] + [1] * 10)

    def test_places_that_share_a_counter(self):
        predictor = Predictor()
        self.assertIs(predictor.branch(3, True), False)
        self.assertIs(predictor.branch(19, True), True)
        self.assertIs(predictor.branch(19987, True), True)
        self.assertIs(predictor.branch(4, True), False)
        self.assertEqual(predictor.counters(), [1, 1, 1, 3, 2] + [1] * 11)
        self.assertIs(predictor.branch(15, False), True)
        self.assertIs(predictor.branch(16, False), True)
        self.assertEqual(predictor.counters(), [0, 1, 1, 3, 2] + [1] * 10 + [0])

    def test_counters_are_new(self):
        predictor = Predictor()
        predictor.counters()[0] = 3
        self.assertEqual(predictor.counters(), [1] * 16)
        self.assertEqual(Predictor().counters(), [1] * 16)


if __name__ == "__main__":
    unittest.main()
