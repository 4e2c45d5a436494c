"""What the points 31 to 57 say, carried out as they say it, on top of the model of the points before them.

Numbers are taken apart into digits, bits (as texts) and bytes, one by one, where the package takes whole numbers.
"""

import fractions
import math

from tests.model import Model, trimmed

HALF_UP = fractions.Fraction(1, 2)


class LaterModel(Model):
    """Methods with the names of the interface take and return integers in the place of Bigs."""

    def bits_of(self, row):
        """The bits of a row of digits, the greatest first, with all bits of each digit."""
        return "".join(f"{digit:0{self.bits}b}" for digit in row[::-1])

    # Points 31 to 34.

    def power(self, x, y, modulus=None):
        if modulus in (1, -1):
            return 0
        c = None if modulus is None else abs(modulus)
        if y < 0:
            x, y = self.inverse(x, c), -y
        if c is not None and (x < 0 or len(self.row(x)) > len(self.row(c))):
            x = self.modulo(x, c)
        digits = self.row(y)
        sizes = len(self.row(x)), len(digits)
        if y <= 3:
            self.enter("few", *sizes)
            z = self.few(x, y, c)
        elif len(digits) <= 60 // self.bits:
            self.enter("binary", *sizes)
            z = x
            for bit in bin(y)[3:]:
                z = self.square_by(z, c)
                if bit == "1":
                    z = self.product_by(z, x, c)
        else:
            self.enter("window", *sizes)
            z = self.window(x, self.bits_of(digits), c)
        return self.subtract(z, c) if modulus is not None and modulus < 0 and z != 0 else z

    def few(self, x, y, c):
        if y == 0:
            return 1
        if y == 1:
            return self.product_by(x, 1, c)
        z = self.square_by(x, c)
        return z if y == 2 else self.product_by(z, x, c)

    def window(self, x, bits, c):
        square = self.square_by(x, c)
        table = {1: x}
        for step in range(15):
            table[2 * step + 3] = self.product_by(table[2 * step + 1], square, c)
        z, row = 1, ""
        for place, bit in enumerate(bits):
            if row == "" and bit == "0":
                z = self.square_by(z, c)
                continue
            row += bit
            if len(row) == 5 or place == len(bits) - 1:
                kept = row.rstrip("0")
                for step in kept:
                    z = self.square_by(z, c)
                z = self.product_by(z, table[int(kept, 2)], c)
                for step in row[len(kept):]:
                    z = self.square_by(z, c)
                row = ""
        return z

    def square_by(self, u, c):
        return self.square(u) if c is None else self.modulo(self.square(u), c)

    def product_by(self, u, v, c):
        return self.multiply(u, v) if c is None else self.modulo(self.multiply(u, v), c)

    def inverse(self, x, y):
        self.enter("inverse", len(self.row(x)), len(self.row(y)))
        a, n, b, c = x, y, 1, 0
        while n != 0:
            q, r = self.divide_both(a, n)
            t = self.multiply(q, c)
            s = self.subtract(b, t)
            a, n, b, c = n, r, c, s
        assert self.compare(a, 1) == 0
        return b

    # Points 36 to 38.

    def gcd(self, x, y):
        m, n = len(self.row(x)), len(self.row(y))
        if max(m, n) <= 2:
            return self.plainly(abs(x), abs(y))
        self.enter("gcd", m, n)
        a, b = abs(x), abs(y)
        if self.compare(a, b) == -1:
            a, b = b, a
        while len(self.row(a)) > 2:
            if b == 0:
                return a
            quotients, (p, q, r, s) = self.lehmer_step(a, b)
            if quotients:
                self.enter("lehmer", len(self.row(a)), len(self.row(b)))
                for digit in self.row(a):
                    self.count("product", 2)
                a, b = p * a + q * b, r * a + s * b
            else:
                a, b = b, self.modulo(a, b)
        return self.plainly(a, b)

    def plainly(self, a, b):
        self.enter("euclid", len(self.row(a)), len(self.row(b)))
        self.count("short")
        while b:
            a, b = b, a % b
            self.count("quotient")
        return a

    def lehmer_step(self, a, b):
        bits = self.bits_of(self.row(a)).lstrip("0")
        others = self.bits_of(self.row(b) + [0] * (len(self.row(a)) - len(self.row(b))))[-len(bits):]
        x, y = int(bits[:2 * self.bits], 2), int(others[:2 * self.bits], 2)
        A, B, C, D = 1, 0, 0, 1
        taken = []
        while y != C:
            q = (x + A - 1) // (y - C)
            self.count("quotient")
            if B + q * D > x - q * y:
                break
            taken.append(q)
            x, y, A, B, C, D = y, x - q * y, D, C, B + q * D, A + q * C
        # The numbers with which the sums are made of a and b.
        return taken, ((A, -B, -C, D) if len(taken) % 2 == 0 else (-B, A, D, -C))

    def lcm(self, x, y):
        if x == 0 or y == 0:
            return 0
        return abs(self.multiply(self.floor_divide(x, self.gcd(x, y)), y))

    def gcd_many(self, values):
        if not values:
            return 0
        result = values[0]
        for item in values[1:]:
            if result != 1:
                result = self.gcd(result, item)
        return abs(result)

    def lcm_many(self, values):
        if not values:
            return 1
        result = values[0]
        for item in values[1:]:
            if result != 0:
                result = self.lcm(result, item)
        return abs(result)

    # Points 39 and 40.

    def isqrt(self, x):
        if x == 0:
            return 0
        c = (x.bit_length() - 1) // 2
        if c <= 31:
            self.count("short")
            return math.isqrt(x)
        self.enter("root", len(self.row(x)), c)
        b = len(bin(c)) - 2
        d = c // 2 ** (b - 5)
        a = first_root(self.shift_right(x, 2 * c - 62)) // 2 ** (31 - d)
        for s in range(b - 6, -1, -1):
            e, d = d, c // 2 ** s
            q = self.floor_divide(self.shift_right(x, 2 * c - d - e + 1), a)
            a = self.add(self.shift_left(a, d - 1 - e), q)
        return self.subtract(a, 1) if self.compare(x, self.square(a)) == -1 else a

    # Points 42 to 46.

    def to_text(self, x, base=10, most=4300):
        self.enter("write", len(self.row(x)), base)
        sign = "-" if x < 0 else ""
        if base != 10:
            text = {2: bin, 8: oct, 16: hex}[base](abs(x))[2:]
            self.count("shifted", len(text) if x else 0)
            return sign + text
        t, scale = self.group_of(10)
        items = []
        for digit in self.row(x)[::-1]:
            carry = digit
            for place in range(len(items)):
                carry, items[place] = divmod(items[place] * self.base + carry, scale)
                self.count("quotient")
            while carry:
                carry, item = divmod(carry, scale)
                items.append(item)
                self.count("quotient")
        if not items:
            return "0"
        return sign + str(items[-1]) + "".join(str(item).zfill(t) for item in items[-2::-1])

    def group_of(self, base):
        w = 1
        while base ** (w + 1) <= self.base:
            w += 1
        return w, base ** w

    def read_text(self, text, base=10, most=4300):
        text = text.strip(" \t\n")
        sign = -1 if text[0] == "-" else 1
        digits = text.lstrip("+-").replace("_", "").lower()
        for prefix, other in (("0x", 16), ("0o", 8), ("0b", 2)):
            if digits.startswith(prefix) and base in (0, other):
                digits, base = digits[2:], other
        return sign * self.number(self.read_digits(digits, base or 10))

    def read_digits(self, digits, base):
        self.enter("read", len(digits), base)
        if base in (2, 4, 8, 16, 32):
            bits = "".join(f"{int(digit, 36):0{base.bit_length() - 1}b}" for digit in digits)
            row = []
            while bits:
                bits, digit = bits[:-self.bits], bits[-self.bits:]
                row.append(int(digit, 2))
                self.count("shifted")
            return row
        w, scale = self.group_of(base)
        row = []
        while digits:
            group, digits = digits[:w], digits[w:]
            carry = int(group, base)
            for place in range(len(row)):
                carry, row[place] = divmod(row[place] * base ** len(group) + carry, self.base)
                self.count("product")
            if carry:
                row.append(carry)
        return row

    # Points 48 and 49.

    def to_bytes(self, x, length=1, order="big", signed=False):
        self.enter("to bytes", len(self.row(x)), length)
        row = self.row(x)
        if x < 0:
            row = self.row(-x - 1)
            row += [0] * (len(self.row(x)) - len(row))
            self.count("complemented", len(row))
        # The least bit first; of the last digit, no bits behind its uppermost bit 1.
        bits = self.bits_of(row[:-1])[::-1] + (f"{row[-1]:b}"[::-1] if row and row[-1] else "")
        found = []
        while bits:
            part, bits = bits[:8], bits[8:]
            found.append(int(part[::-1], 2))
            self.count("shifted")
        found += [0] * (length - len(found))
        if x < 0:
            found = [255 - byte for byte in found]
        return found if order == "little" else found[::-1]

    def from_bytes(self, row, order="big", signed=False):
        if not row:
            return 0
        self.enter("from bytes", len(row), 0)
        greatest_first = list(row) if order == "big" else row[::-1]
        below = signed and greatest_first[0] >= 128
        ahead = 0
        for byte in greatest_first:
            self.count("looked")
            if byte != (255 if below else 0):
                break
            ahead += 1
        if below and ahead:
            ahead -= 1
        kept = greatest_first[ahead:]
        number = 0
        for byte in kept:
            number = number * 256 + byte
            self.count("shifted")
            self.count("complemented", int(below))
        return number - 256 ** len(kept) if below else number

    # Points 50 to 53.

    def true_quotient(self, x, y):
        side = -1 if (x < 0) != (y < 0) else 1
        value = fractions.Fraction(abs(x), abs(y))
        told = (side, *rounded(value))
        if x == 0:
            return told
        if max(x.bit_length(), y.bit_length()) <= 53:
            self.count("short")
            return told
        a, b = self.row(x), self.row(y)
        distance = x.bit_length() - y.bit_length()
        if distance < -1075:
            assert told[1:] == (0, 0)
            return told
        self.enter("ratio", len(a), len(b))
        s = max(distance, -1021) - 55
        if s <= 0:
            w, r = divmod(-s, self.bits)
            a, over = self.shift_row_up(a, r)
            a = [0] * w + a + [over]
        else:
            a = self.moved_down(a, s)
        a = trimmed(a)
        if len(b) == 1:
            self.short_division("divide short", a, b[0])
        else:
            self.long_division(a, b)
        return told

    def moved_down(self, a, s):
        w, r = divmod(s, self.bits)
        result, over = self.shift_row_down(a[w:], r)
        if over == 0:
            for digit in a[:w][::-1]:
                self.count("looked")
                if digit:
                    break
        return result

    def nearest(self, x):
        told = (-1 if x < 0 else 1, *rounded(fractions.Fraction(abs(x))))
        a = self.row(x)
        length = x.bit_length()
        if len(a) <= 1:
            self.count("short")
            return told
        self.enter("nearest", len(a), length)
        if length <= 55:
            self.shift_row_up(a, (55 - length) % self.bits)
        else:
            self.moved_down(a, length - 55)
        return told

    def divide_near(self, x, y):
        quotient, rest = self.truncated(x, y)
        twice = self.shift_left(rest, 1)
        apart = (x < 0) != (y < 0)
        order = self.compare(-twice if apart else twice, y)
        beyond = order == 1 if y > 0 else order == -1
        if beyond or (order == 0 and quotient % 2):
            if apart:
                return self.subtract(quotient, 1), self.add(rest, y)
            return self.add(quotient, 1), self.subtract(rest, y)
        return quotient, rest

    def round_tens(self, x, places):
        if places == 0:
            return x
        ten = self.power(10, places)
        quotient, rest = self.divide_near(x, ten)
        return self.subtract(x, rest)

    # Points 54 to 57.

    def halves_divide(self, x, y, limit=4000):
        if y < 0:
            q, r = self.halves_divide(-x, -y, limit)
            return q, -r
        if x < 0:
            q, r = self.halves_divide(-x - 1, y, limit)
            return -q - 1, y - r - 1
        n = y.bit_length()
        bits = f"{x:b}" if x else ""
        pieces = []
        while bits:
            bits, piece = bits[:-n], bits[-n:]
            pieces.append(int(piece, 2))
        quotient, rest = 0, 0
        for piece in pieces[::-1]:
            q, rest = self.two_by_one(rest * 2 ** n + piece, y, n, limit)
            quotient = quotient * 2 ** n + q
        return quotient, rest

    def two_by_one(self, a, b, n, limit):
        assert b.bit_length() == n and a < b * 2 ** n
        self.enter("halves", a.bit_length(), n)
        if a.bit_length() - n <= limit:
            return self.divide_both(a, b)
        if n % 2:
            q, r = self.by_halves(2 * a, 2 * b, n + 1, limit)
            assert r % 2 == 0
            return q, r // 2
        return self.by_halves(a, b, n, limit)

    def by_halves(self, a, b, n, limit):
        h = n // 2
        first, rest = self.three_by_two(a // 2 ** n, a // 2 ** h % 2 ** h, b, h, limit)
        last, rest = self.three_by_two(rest, a % 2 ** h, b, h, limit)
        return first * 2 ** h + last, rest

    def three_by_two(self, f, g, b, h, limit):
        self.enter("thirds", f.bit_length(), h)
        u, v = divmod(b, 2 ** h)
        if f // 2 ** h == u:
            q, r = 2 ** h - 1, f - u * 2 ** h + u
        else:
            q, r = self.two_by_one(f, u, h, limit)
        rest = r * 2 ** h + g - self.multiply(q, v)
        while rest < 0:
            q, rest = q - 1, rest + b
            self.count("corrected")
        return q, rest

    def halves_read(self, text, limit=2048):
        known = {}

        def five(w):
            if w not in known:
                if w <= limit:
                    found = self.power(5, w)
                elif w - 1 in known:
                    found = self.multiply(known[w - 1], 5)
                elif w % 2 == 0:
                    found = self.square(five(w // 2))
                else:
                    low = five(w // 2)
                    found = self.multiply(low, five(w - w // 2))
                known[w] = found
            return known[w]

        def part(a, b):
            self.enter("part", a, b)
            if b - a <= limit:
                return self.read_text(text[a:b])
            c = (a + b + 1) // 2
            right = part(c, b)
            left = part(a, c)
            return self.add(right, self.shift_left(self.multiply(left, five(b - c)), b - c))

        return part(0, len(text))

    def factorial(self, n):
        if n <= 20:
            return math.factorial(n)
        inner, outer, low = 1, 1, 3
        for i in range(n.bit_length() - 2, -1, -1):
            w = n // 2 ** i
            if w > 2:
                high = w + 1 if w % 2 == 0 else w + 2
                inner = self.multiply(inner, self.odd_part(low, high))
                outer = self.multiply(outer, inner)
                low = high
        return self.shift_left(outer, n - bin(n).count("1"))

    def odd_part(self, low, high):
        self.enter("odd part", low, high)
        many = (high - low) // 2
        if many <= 64 and many * (high - 2).bit_length() <= 64:
            return math.prod(range(low, high, 2))
        middle = low + many if (low + many) % 2 else low + many + 1
        first = self.odd_part(low, middle)
        second = self.odd_part(middle, high)
        return self.multiply(first, second)

    def comb(self, n, k):
        return 0 if k > n else self.choice(n, min(k, n - k))

    def choice(self, n, k):
        self.enter("comb", n, k)
        value = math.comb(n, k)
        if k == 0 or (value < 2 ** 64 and n <= 127) or value * k < 2 ** 64:
            return value
        j = k // 2
        first = self.choice(n, j)
        second = self.choice(n - j, k - j)
        product = self.multiply(first, second)
        return self.floor_divide(product, self.choice(k, j))

    def perm(self, n, k):
        return 0 if k > n else self.arrangement(n, k)

    def arrangement(self, n, k):
        self.enter("perm", n, k)
        value = math.perm(n, k)
        if k == 0 or value < 2 ** 64:
            return value
        j = k // 2
        first = self.arrangement(n, j)
        return self.multiply(first, self.arrangement(n - j, k - j))


def first_root(n):
    """Point 41, with the nearest integer to a root found by trial."""
    k = n // 2 ** 56
    t = min(range(1, 256), key=lambda t: abs(math.sqrt(256 * k + 128) - t))
    t = t * 2 ** 7 + n // 2 ** 41 // t
    return t * 2 ** 15 + n // 2 ** 17 // t


def rounded(value):
    """Mantissa and exponent of a fraction from 0 on, the nearest of all that there are."""
    if value == 0:
        return 0, 0
    exponent = max(value.numerator.bit_length() - value.denominator.bit_length() - 54, -1074)
    while value >= fractions.Fraction(2) ** (exponent + 53):
        exponent += 1
    scaled = value / fractions.Fraction(2) ** exponent
    mantissa = scaled.numerator // scaled.denominator
    rest = scaled - mantissa
    if rest > HALF_UP or (rest == HALF_UP and mantissa % 2):
        mantissa += 1
    if mantissa == 2 ** 53:
        mantissa, exponent = 2 ** 52, exponent + 1
    return (mantissa, exponent) if mantissa else (0, 0)
