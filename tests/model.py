"""What the document says, carried out digit by digit on lists of digits, each step counted where it is made.

The package works on whole numbers and tells counts from sizes and from digits that change. The model does neither,
so that both are unlikely to be wrong in the same way. It is slow, and nothing is checked.
"""

WORDS = ["short", "sum", "product", "quotient", "corrected", "restored", "shifted", "combined", "complemented", "looked"]


def trimmed(row):
    """A row without the digits 0 at its end."""
    row = list(row)
    while row and row[-1] == 0:
        row.pop()
    return row


class Model:
    """Methods with the names of the interface take and return integers in the place of Bigs."""

    def __init__(self, bits, cutoff):
        self.bits = bits
        self.base = 2 ** bits
        self.cutoff = cutoff
        self.counts = dict.fromkeys(WORDS, 0)
        self.entered = []

    def tally(self):
        return [(word, self.counts[word]) for word in WORDS]

    def walk(self):
        return self.entered[:1000]

    def count(self, word, many=1):
        self.counts[word] += many

    def enter(self, word, m, n):
        self.entered.append((word, m, n))

    def row(self, n):
        """The digits of an integer without its sign."""
        row = []
        n = abs(n)
        while n:
            n, digit = divmod(n, self.base)
            row.append(digit)
        return row

    def number(self, row):
        found = 0
        for digit in row[::-1]:
            found = found * self.base + digit
        return found

    def are_compact(self, *numbers):
        return all(len(self.row(n)) <= 1 for n in numbers)

    # Point 7.

    def compare(self, x, y):
        if self.are_compact(x, y):
            self.count("short")
            return (x > y) - (x < y)
        signs = [(n > 0) - (n < 0) for n in (x, y)]
        reach = [sign * len(self.row(n)) for sign, n in zip(signs, (x, y))]
        if reach[0] != reach[1]:
            return 1 if reach[0] > reach[1] else -1
        a, b = self.row(x), self.row(y)
        place = self.look(a, b)
        if place is None:
            return 0
        return signs[0] if a[place] > b[place] else -signs[0]

    def look(self, a, b):
        """The last place where two rows of one size differ, or None."""
        for place in range(len(a) - 1, -1, -1):
            self.count("looked")
            if a[place] != b[place]:
                return place
        return None

    # Points 9 to 12.

    def add(self, x, y):
        if self.are_compact(x, y):
            self.count("short")
            return x + y
        a, b = self.row(x), self.row(y)
        if x < 0 and y < 0:
            return -self.number(self.adding(a, b))
        if x >= 0 and y >= 0:
            return self.number(self.adding(a, b))
        return self.taking(b, a) if x < 0 else self.taking(a, b)

    def subtract(self, x, y):
        if self.are_compact(x, y):
            self.count("short")
            return x - y
        a, b = self.row(x), self.row(y)
        if x < 0 and y >= 0:
            return -self.number(self.adding(a, b))
        if x >= 0 and y < 0:
            return self.number(self.adding(a, b))
        return self.taking(b, a) if x < 0 else self.taking(a, b)

    def adding(self, a, b):
        self.enter("add", len(a), len(b))
        if len(b) > len(a):
            a, b = b, a
        result, carry = [], 0
        for place in range(len(a)):
            carry, digit = divmod(a[place] + (b[place] if place < len(b) else 0) + carry, self.base)
            result.append(digit)
            self.count("sum")
        return result + [carry] if carry else result

    def taking(self, a, b):
        self.enter("take", len(a), len(b))
        sign = 1
        if len(b) > len(a):
            a, b, sign = b, a, -1
        elif len(a) == len(b):
            place = self.look(a, b)
            if place is None:
                return 0
            a, b = a[:place + 1], b[:place + 1]
            if a[place] < b[place]:
                a, b, sign = b, a, -1
        result, borrow = [], 0
        for place in range(len(a)):
            borrow, digit = divmod(a[place] - (b[place] if place < len(b) else 0) + borrow, self.base)
            result.append(digit)
            self.count("sum")
        assert borrow == 0
        return sign * self.number(result)

    def added_into(self, room, more):
        self.enter("add into", len(room), len(more))
        return self.joined(room, more, 1)

    def taken_from(self, room, more):
        self.enter("take from", len(room), len(more))
        return self.joined(room, more, -1)

    def joined(self, room, more, sign):
        room, carry = list(room), 0
        for place in range(len(room)):
            if place >= len(more) and carry == 0:
                break
            carry, room[place] = divmod(room[place] + sign * (more[place] if place < len(more) else 0) + carry, self.base)
            self.count("sum")
        return room, abs(carry)

    # Points 13 and 14.

    def multiply_by_rows(self, x, y):
        return (-1 if (x < 0) != (y < 0) else 1) * self.number(self.rows(self.row(x), self.row(y)))

    def rows(self, a, b):
        self.enter("rows", len(a), len(b))
        room = [0] * (len(a) + len(b))
        for i in range(len(a)):
            carry = 0
            for k in range(len(b)):
                carry, room[i + k] = divmod(room[i + k] + a[i] * b[k] + carry, self.base)
                self.count("product")
            room[i + len(b)] = carry
        return trimmed(room)

    def square_by_rows(self, x):
        return self.number(self.square_rows(self.row(x)))

    def square_rows(self, a):
        m = len(a)
        self.enter("square", m, m)
        room = [0] * (2 * m)
        for i in range(m):
            carry, room[2 * i] = divmod(room[2 * i] + a[i] * a[i], self.base)
            self.count("product")
            for k in range(i + 1, m):
                carry, room[i + k] = divmod(room[i + k] + 2 * a[i] * a[k] + carry, self.base)
                self.count("product")
            over, room[i + m] = divmod(room[i + m] + carry, self.base)
            if over:
                room[i + m + 1] = over
        return trimmed(room)

    # Points 16 to 18.

    def multiply(self, x, y):
        if self.are_compact(x, y):
            self.count("short")
            return x * y
        return (-1 if (x < 0) != (y < 0) else 1) * self.number(self.multiplied(self.row(x), self.row(y)))

    def square(self, x):
        if self.are_compact(x):
            self.count("short")
            return x * x
        return self.number(self.squared(self.row(x)))

    def multiplied(self, a, b):
        if len(b) < len(a):
            a, b = b, a
        if len(a) == 0:
            return []
        if len(a) <= self.cutoff:
            return self.rows(a, b)
        return self.lopsided(a, b) if 2 * len(a) <= len(b) else self.karatsuba(a, b)

    def squared(self, a):
        if len(a) == 0:
            return []
        return self.square_rows(a) if len(a) <= 2 * self.cutoff else self.karatsuba_square(a)

    def lopsided(self, a, b):
        m = len(a)
        self.enter("lopsided", m, len(b))
        room = [0] * (m + len(b))
        for first in range(0, len(b), m):
            product = self.multiplied(a, b[first:first + m])
            room[first:], carry = self.added_into(room[first:], product)
        return trimmed(room)

    def karatsuba(self, a, b):
        self.enter("karatsuba", len(a), len(b))
        s = len(b) // 2
        a_low, a_high, b_low, b_high = trimmed(a[:s]), trimmed(a[s:]), trimmed(b[:s]), trimmed(b[s:])
        high = self.multiplied(a_high, b_high)
        low = self.multiplied(a_low, b_low)
        room = self.outer(len(a) + len(b), s, low, high)
        a_sum = self.adding(a_high, a_low)
        b_sum = self.adding(b_high, b_low)
        room[s:], carry = self.added_into(room[s:], self.multiplied(a_sum, b_sum))
        return trimmed(room)

    def karatsuba_square(self, a):
        self.enter("karatsuba", len(a), len(a))
        s = len(a) // 2
        a_low, a_high = trimmed(a[:s]), trimmed(a[s:])
        high = self.squared(a_high)
        low = self.squared(a_low)
        room = self.outer(2 * len(a), s, low, high)
        room[s:], carry = self.added_into(room[s:], self.squared(self.adding(a_high, a_low)))
        return trimmed(room)

    def outer(self, size, s, low, high):
        """The room with both outer products in their places, and both taken from it from number s on."""
        room = [0] * size
        room[:len(low)] = low
        room[2 * s:2 * s + len(high)] = high
        for product in (low, high):
            room[s:], borrow = self.taken_from(room[s:], product)
        return room
