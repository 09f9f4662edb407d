"""Points 700 to 703: programs that are made."""

import unittest

from quietsmith.builders import inverse_program, ladder_program, power_program
from quietsmith.checker import check_program
from quietsmith.compiler import compile_program
from quietsmith.forms import check_shape
from quietsmith.meaning import run_program
from quietsmith.printing import program_text
from quietsmith.syntax import parse_program
from quietsmith.values import MOST
from tests.compiled import CompiledCase

PRIMES = (3, 5, 7, 11, 13, 101, 251, 257, 65521, 65537, 2 ** 31 - 1, 2 ** 61 - 1)
ODD = (9, 15, 21, 255, 65535, 2 ** 32 - 1, 2 ** 32 - 3)


def climbed(m, a, x, scalar, count):
    """The rule of point 702."""
    h = (a - 2) * pow(4, -1, m) % m
    p, q, u, v = 1, 0, x, 1
    for number in range(count - 1, -1, -1):
        bit = scalar >> number & 1
        if bit:
            p, q, u, v = u, v, p, q
        s, d = (p + q) ** 2, (p - q) ** 2
        e = s - d
        f, g = (u - v) * (p + q), (u + v) * (p - q)
        p, q, u, v = s * d % m, e * (s + h * e) % m, (f + g) ** 2 % m, x * (f - g) ** 2 % m
        if bit:
            p, q, u, v = u, v, p, q
    return (p, q)


def added(first, second, m, a):
    """The sum of two points of the curve `y ** 2 = x ** 3 + a * x ** 2 + x`; None is the point at infinity."""
    if first is None or second is None:
        return first or second
    (x, y), (u, v) = first, second
    if x == u and (y + v) % m == 0:
        return None
    if first == second:
        slope = (3 * x * x + 2 * a * x + 1) * pow(2 * y, -1, m)
    else:
        slope = (v - y) * pow(u - x, -1, m)
    across = (slope * slope - a - x - u) % m
    return (across, (slope * (x - across) - y) % m)


def is_square(n, m):
    return any(root * root % m == n % m for root in range(m))


def scalars(count):
    most = 2 ** count - 1
    return sorted({0, 1, most, most - 1, most // 3, (most + 1) // 2})


class BuildersCase(CompiledCase):
    def program(self, program, name, params, results):
        """The program, which the checker takes, and whose main function is this one."""
        self.assertEqual(check_program(check_shape(program)), program)
        self.assertEqual(program[-1][:3], (name, params, results))
        return program


class PowerTest(BuildersCase):
    def power(self, m, count):
        return self.program(power_program(m, count), "power",
                            (("base", "secret", m - 1, 0), ("scalar", "secret", 2 ** count - 1, 0)),
                            (("power", "secret", m - 1, 0),))

    def test_powers(self):
        for m in PRIMES + ODD + (MOST, MOST - 2, 2 ** 255 - 19):
            for count in (1, 2, 5, 16, 17, 64, 255):
                program = self.power(m, count)
                for base in (0, 1, 2, m // 2, m - 1):
                    for scalar in scalars(count)[:3] if count > 17 else scalars(count):
                        self.assertEqual(run_program(program, (base, scalar)), (pow(base, scalar, m),))

    def test_small_ones_throughout(self):
        for m in (3, 5, 9, 15):
            program = self.power(m, 4)
            for base in range(m):
                for scalar in range(16):
                    self.assertEqual(run_program(program, (base, scalar)), (pow(base, scalar, m),))

    def test_compiled(self):
        for m, count in ((3, 1), (7, 3), (15, 8), (65521, 16), (65537, 5), (2 ** 32 - 1, 20), (2 ** 61 - 1, 3)):
            program = self.power(m, count)
            binary = self.agrees(program, *[(base, scalar) for base in (0, 2, m - 1) for scalar in scalars(count)])
            self.assertLess(len(binary[1]), 20000)

    def test_the_greatest_modulus(self):
        for m, count in ((MOST, 3), (MOST, 255)):
            program = self.power(m, count)
            rows = [(MOST - 1, 0), (MOST // 7, 2 ** count - 1)] if count < 9 else []
            self.agrees(program, *rows)


class InverseTest(BuildersCase):
    def inverse(self, m):
        return self.program(inverse_program(m), "inverse", (("base", "secret", m - 1, 0),),
                            (("inverse", "secret", m - 1, 0),))

    def test_powers(self):
        for m in PRIMES + ODD + (MOST, 2 ** 255 - 19):
            program = self.inverse(m)
            for base in {0, 1, 2, 3 % m, m // 2, m - 2, m - 1}:
                (result,) = run_program(program, (base,))
                self.assertEqual(result, pow(base, m - 2, m))
                if m in PRIMES and base > 0:
                    self.assertEqual(base * result % m, 1)

    def test_compiled(self):
        for m in (3, 5, 9, 101, 65535, 65537, 2 ** 31 - 1, 2 ** 32 - 1):
            self.agrees(self.inverse(m), (0,), (1,), (2,), (m - 1,), (m // 3,))

    def test_the_greatest_modulus(self):
        self.agrees(self.inverse(MOST))
        self.agrees(self.inverse(2 ** 127 - 1), (2 ** 126,), (1,))


class LadderTest(BuildersCase):
    def ladder(self, m, a, count):
        return self.program(ladder_program(m, a, count), "ladder",
                            (("across", "secret", m - 1, 0), ("scalar", "secret", 2 ** count - 1, 0)),
                            (("top", "secret", m - 1, 0), ("bottom", "secret", m - 1, 0)))

    def test_the_rule(self):
        for m in PRIMES[1:] + ODD + (MOST, 2 ** 255 - 19):
            for a in {0, 1, 2, 3, m - 1, m // 2}:
                for count in (1, 2, 9):
                    program = self.ladder(m, a, count)
                    for scalar in scalars(count):
                        for x in (0, 1, m // 3, m - 1):
                            self.assertEqual(run_program(program, (x, scalar)), climbed(m, a, x, scalar, count))

    def test_the_longest_scalar(self):
        for m, a in ((2 ** 255 - 19, 486662), (MOST, MOST - 1), (101, 7)):
            program = self.ladder(m, a, 255)
            for scalar in (0, 1, 2 ** 255 - 1, 2 ** 254 + 12345):
                self.assertEqual(run_program(program, (9, scalar)), climbed(m, a, 9, scalar, 255))

    def test_adding_points(self):
        """Against adding a point again and again."""
        for m, a in ((11, 1), (13, 3), (19, 5), (23, 6), (31, 4), (101, 1)):
            if is_square(a * a - 4, m):
                a = next(other for other in range(3, m) if not is_square(other * other - 4, m))
            program = self.ladder(m, a, 6)
            for x in range(1, m):
                y = next((y for y in range(m) if (y * y - x ** 3 - a * x * x - x) % m == 0), None)
                if y is None:
                    continue
                point = None
                for scalar in range(20):
                    top, bottom = run_program(program, (x, scalar))
                    if point is None:
                        self.assertEqual(bottom, 0)
                    else:
                        self.assertEqual(top * pow(bottom, -1, m) % m, point[0], (m, a, x, scalar))
                    point = added(point, (x, y), m, a)

    def test_compiled(self):
        for m, a, count in ((5, 0, 3), (7, 6, 2), (15, 2, 4), (65521, 1, 9), (65537, 3, 4), (2 ** 31 - 1, 5, 12),
                            (2 ** 32 - 1, 2 ** 32 - 2, 3)):
            program = self.ladder(m, a, count)
            rows = [(x, scalar) for x in (0, 3, m - 1) for scalar in (0, 1, 2 ** count - 1)]
            self.agrees(program, *rows)
            for inputs in rows:
                self.assertEqual(run_program(program, inputs), climbed(m, a, *inputs, count))

    def test_the_greatest_modulus(self):
        self.agrees(self.ladder(MOST, MOST - 1, 2), (MOST - 1, 3), (5, 0))
        self.agrees(self.ladder(2 ** 255 - 19, 486662, 255))


class SizeTest(BuildersCase):
    def test_never_too_large(self):
        """For all moduli below 2 ** 32, and here for all others too."""
        for m in (3, 5, 255, 65535, 65537, 2 ** 32 - 1, 2 ** 64 - 1, 2 ** 128 - 1, MOST):
            for count in (1, 255):
                self.assertLess(len(compile_program(power_program(m, count))[1]), 20000)
                if m >= 5:
                    self.assertLess(len(compile_program(ladder_program(m, m - 1, count))[1]), 20000)
            self.assertLess(len(compile_program(inverse_program(m))[1]), 20000)

    def test_the_same_again(self):
        self.assertEqual(power_program(101, 9), power_program(101, 9))
        self.assertEqual(ladder_program(101, 3, 9), ladder_program(101, 3, 9))
        for program in (power_program(MOST, 255), inverse_program(MOST), ladder_program(MOST, MOST - 1, 255)):
            self.assertEqual(parse_program(program_text(program)), program)


if __name__ == "__main__":
    unittest.main()
