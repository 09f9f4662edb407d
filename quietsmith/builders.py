"""Programs for powers, inverses and curves.

All products are made by one function, so that the code of great moduli does not become too large.
"""

SECRET = "secret"
PRODUCT = "times"
ONE = ("int", 1)
TURN = ("name", "turn")


def power_program(m, count):
    """Returns the program that raises a base to the power of a secret scalar, modulo `m`."""
    chosen = ("pick", ("bit", ("name", "scalar"), TURN), ("name", "square"), ONE)
    turn = (
        times("power", m, ("name", "power"), chosen),
        times("square", m, ("name", "square"), ("name", "square")),
    )
    body = (
        ("set", "power", ONE),
        ("set", "square", ("name", "base")),
        ("loop", "turn", 0, count - 1, turn),
    )
    params = (residue("base", m), scalar(count))
    return (product_function(m), ("power", params, (residue("power", m),), (residue("square", m),), body))


def inverse_program(m):
    """Returns the program that raises a base to the power of `m - 2`, modulo `m`."""
    exponent = m - 2
    turn = (
        # The exponent is no secret, so it may choose the way.
        ("if", ("bit", ("int", exponent), TURN), (times("inverse", m, ("name", "inverse"), ("name", "square")),), ()),
        times("square", m, ("name", "square"), ("name", "square")),
    )
    body = (
        ("set", "inverse", ONE),
        ("set", "square", ("name", "base")),
        ("loop", "turn", 0, exponent.bit_length() - 1, turn),
    )
    params = (residue("base", m),)
    return (product_function(m), ("inverse", params, (residue("inverse", m),), (residue("square", m),), body))


def ladder_program(m, a, count):
    """Returns the program that multiplies a point of a curve by a secret scalar."""
    others = tuple([residue(name, m) for name in ("u", "v", "s", "d", "e", "f", "g")])
    body = (
        ("set", "top", ONE),
        ("set", "u", ("name", "across")),
        ("set", "v", ONE),
        ("loop", "turn", 0, count - 1, ladder_turn(m, a, count)),
    )
    params = (residue("across", m), scalar(count))
    results = (residue("top", m), residue("bottom", m))
    choice = ("choice", SECRET, 1, 0)
    return (product_function(m), ("ladder", params, results, (*others, choice), body))


def ladder_turn(m, a, count):
    """Returns what is done for one bit of the scalar.

    To exchange the pairs changes nothing but the sign of `f - g` in the new `(u, v)`, and `f - g`
    is squared. So it is enough to choose which pair the new `(p, q)` is made of, and to exchange
    the new pairs.
    """
    p, q, u, v = [("name", name) for name in ("top", "bottom", "u", "v")]
    s, d, e, f, g = [("name", name) for name in ("s", "d", "e", "f", "g")]
    choice = ("name", "choice")
    number = ("bit", ("name", "scalar"), ("sub", ("int", count - 1), TURN, 7))
    sums = [("addmod", p, q, m), ("addmod", u, v, m)]
    differences = [("submod", p, q, m), ("submod", u, v, m)]
    return (
        ("set", "choice", number),
        ("set", "s", ("pick", choice, sums[1], sums[0])),
        ("set", "d", ("pick", choice, differences[1], differences[0])),
        times("f", m, differences[1], sums[0]),
        times("g", m, sums[1], differences[0]),
        times("s", m, s, s),
        times("d", m, d, d),
        ("set", "e", ("submod", s, d, m)),
        times("u", m, e, ("int", quarter(a - 2, m))),
        times("e", m, e, ("addmod", s, u, m)),
        times("s", m, s, d),
        ("set", "d", ("addmod", f, g, m)),
        ("set", "f", ("submod", f, g, m)),
        times("d", m, d, d),
        times("f", m, f, f),
        times("f", m, f, ("name", "across")),
        # Now (s, e) is the pair that was doubled, and (d, f) the sum of both.
        ("set", "top", ("pick", choice, d, s)),
        ("set", "bottom", ("pick", choice, f, e)),
        ("set", "u", ("pick", choice, s, d)),
        ("set", "v", ("pick", choice, e, f)),
    )


def residue(name, m):
    """Returns a secret variable for numbers modulo `m`."""
    return (name, SECRET, m - 1, 0)


def scalar(count):
    """Returns the secret variable for a scalar with so many bits."""
    return ("scalar", SECRET, (1 << count) - 1, 0)


def product_function(m):
    """Returns the function that multiplies modulo `m`."""
    product = ("set", "z", ("mulmod", ("name", "x"), ("name", "y"), m))
    return (PRODUCT, (residue("x", m), residue("y", m)), (residue("z", m),), (), (product,))


def times(target, m, a, b):
    """Returns the statement that gives a variable the product of two expressions modulo `m`."""
    return ("call", (target,), PRODUCT, (a, b))


def quarter(n, m):
    """Returns the number that is `n` modulo `m` when it is multiplied by 4; `m` is odd."""
    fourth = (m + 1) // 4 if m % 4 == 3 else (3 * m + 1) // 4
    return n * fourth % m
