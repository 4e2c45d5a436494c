"""What the document promises of counts and walks, worked out from plain integers and sizes alone.

The package keeps rows of digits and loops over them. The model has no digits: it takes integers apart by
shifts and masks, and tells counts by formulas, so that both are unlikely to be wrong in the same way.
"""

WORDS = ["short", "sum", "product", "quotient", "corrected", "restored", "shifted", "combined", "complemented", "looked"]


class Model:
    def __init__(self, bits, cutoff):
        self.bits = bits
        self.cutoff = cutoff
        self.counts = dict.fromkeys(WORDS, 0)
        self.entered = []

    def tally(self):
        return [(word, self.counts[word]) for word in WORDS]

    def walk(self):
        return self.entered[:1000]

    def size(self, n):
        return -(-abs(n).bit_length() // self.bits)

    def are_compact(self, *numbers):
        return all(self.size(n) < 2 for n in numbers)

    def low(self, n, places):
        """The number of the first digits of n."""
        return n & ((1 << places * self.bits) - 1)

    def high(self, n, places):
        """The number of the digits of n behind the first ones."""
        return n >> places * self.bits

    def compare(self, x, y):
        if self.are_compact(x, y):
            self.counts["short"] += 1
        elif self.size(x) == self.size(y) and (x < 0) == (y < 0):
            self.look(abs(x), abs(y))
        return (x > y) - (x < y)

    def look(self, a, b):
        """Count how many digits of two numbers of one size are looked at; the place where they differ."""
        place = ((a ^ b).bit_length() - 1) // self.bits
        self.counts["looked"] += self.size(a) - max(place, 0)
        return place

    def add(self, x, y):
        if self.are_compact(x, y):
            self.counts["short"] += 1
        elif (x < 0) == (y < 0):
            self.adding(abs(x), abs(y))
        elif x < 0:
            self.taking(abs(y), abs(x))
        else:
            self.taking(abs(x), abs(y))
        return x + y

    def subtract(self, x, y):
        if self.are_compact(x, y):
            self.counts["short"] += 1
        elif (x < 0) != (y < 0):
            self.adding(abs(x), abs(y))
        elif x < 0:
            self.taking(abs(y), abs(x))
        else:
            self.taking(abs(x), abs(y))
        return x - y

    def adding(self, a, b):
        m, n = self.size(a), self.size(b)
        self.entered.append(("add", m, n))
        self.counts["sum"] += max(m, n)
        return a + b

    def taking(self, a, b):
        m, n = self.size(a), self.size(b)
        self.entered.append(("take", m, n))
        self.counts["sum"] += self.look(a, b) + 1 if m == n else max(m, n)

    def added_into(self, room, r, more, p):
        self.entered.append(("add into", r, p))
        top = (1 << self.bits) - 1
        self.spread(room, r, p, self.high(self.low(room, p) + more, p), top)
        return self.low(room + more, r), self.high(room + more, r)

    def taken_from(self, room, r, more, p):
        self.entered.append(("take from", r, p))
        self.spread(room, r, p, self.low(room, p) < more, 0)
        return self.low(room - more, r), int(room < more)

    def spread(self, room, r, p, carry, passes_on):
        """Count the digits that are gone through: p of them, and those that the carry reaches."""
        place = p
        while carry and place < r:
            carry = self.low(self.high(room, place), 1) == passes_on
            place += 1
        self.counts["sum"] += place

    def multiply_by_rows(self, x, y):
        return self.rows(x, self.size(x), y, self.size(y))

    def rows(self, a, m, b, n):
        self.entered.append(("rows", m, n))
        self.counts["product"] += m * n
        return a * b

    def square_by_rows(self, x):
        m = self.size(x)
        self.entered.append(("square", m, m))
        self.counts["product"] += m * (m + 1) // 2
        return x * x

    def multiply(self, x, y):
        if self.are_compact(x, y):
            self.counts["short"] += 1
        else:
            self.multiplied(abs(x), self.size(x), abs(y), self.size(y))
        return x * y

    def square(self, x):
        if self.are_compact(x):
            self.counts["short"] += 1
        else:
            self.squared(abs(x))
        return x * x

    def multiplied(self, a, m, b, n):
        if m > n:
            a, m, b, n = b, n, a, m
        if m == 0:
            pass
        elif m <= self.cutoff:
            self.rows(a, m, b, n)
        elif 2 * m <= n:
            self.lopsided(a, m, b, n)
        else:
            self.karatsuba(a, m, b, n)
        return a * b

    def lopsided(self, a, m, b, n):
        self.entered.append(("lopsided", m, n))
        room = 0
        for first in range(0, n, m):
            many = min(m, n - first)
            part = self.multiplied(a, m, self.low(self.high(b, first), many), many)
            rest = m + n - first
            above, carry = self.added_into(self.high(room, first), rest, part, self.size(part))
            assert carry == 0
            room = self.low(room, first) + (above << first * self.bits)
        assert room == a * b

    def karatsuba(self, a, m, b, n):
        self.entered.append(("karatsuba", m, n))
        s = n // 2
        low_a, high_a, low_b, high_b = self.low(a, s), self.high(a, s), self.low(b, s), self.high(b, s)
        high = self.multiplied(high_a, self.size(high_a), high_b, self.size(high_b))
        low = self.multiplied(low_a, self.size(low_a), low_b, self.size(low_b))
        room = self.outer(m + n, s, low, high)
        sum_a = self.adding(high_a, low_a)
        sum_b = self.adding(high_b, low_b)
        middle = self.multiplied(sum_a, self.size(sum_a), sum_b, self.size(sum_b))
        self.finish(room, m + n, s, low, middle, a * b)

    def squared(self, a):
        m = self.size(a)
        if m > 2 * self.cutoff:
            self.karatsuba_square(a, m)
        elif m > 0:
            self.square_by_rows(a)
        return a * a

    def karatsuba_square(self, a, m):
        self.entered.append(("karatsuba", m, m))
        s = m // 2
        low_a, high_a = self.low(a, s), self.high(a, s)
        high = self.squared(high_a)
        low = self.squared(low_a)
        room = self.outer(2 * m, s, low, high)
        middle = self.squared(self.adding(high_a, low_a))
        self.finish(room, 2 * m, s, low, middle, a * a)

    def outer(self, size, s, low, high):
        """The room from number s on, from which both outer products were taken."""
        room = self.high(low, s) + (high << s * self.bits)
        for part in (low, high):
            room, borrow = self.taken_from(room, size - s, part, self.size(part))
        return room

    def finish(self, room, size, s, low, middle, product):
        room, carry = self.added_into(room, size - s, middle, self.size(middle))
        assert self.low(low, s) + (room << s * self.bits) == product
