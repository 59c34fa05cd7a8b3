"""The field of 256, whose numbers are bytes: sums by exclusive or, products modulo a polynomial."""

# x^8 + x^4 + x^3 + x^2 + 1.
MODULUS = 0x11D


# The products of a factor with every byte. Bytes are sums of powers of x, so each power of x
# makes the second half of a table twice as long out of the first.
def products(factor):
    table = [0]
    power = factor
    for step in range(8):
        table = table + [product ^ power for product in table]
        power <<= 1
        if power > 255:
            power ^= MODULUS
    return table


def inverse(number):
    return products(number).index(1)


def scaled(factor, data):
    table = products(factor)
    return [table[byte] for byte in data]


def added(one, other):
    return [x ^ y for x, y in zip(one, other)]


# Each equation has its factors first, one for each unknown, and then the bytes that they make. What's
# given back are the bytes of each unknown. No pivot may become 0: the factors are to be such that
# each corner of them, cut off from the first one, can be solved by itself.
def solved(equations):
    rows = equations
    for step in range(len(equations)):
        chosen = scaled(inverse(rows[step][step]), rows[step])
        rows = [chosen if place == step else added(row, scaled(row[step], chosen)) for place, row in enumerate(rows)]
    return [row[len(equations):] for row in rows]
