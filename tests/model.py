"""What the document says, carried out digit by digit on lists of digits, each step counted where it is made.

The package works on whole numbers and tells counts from sizes and from digits that change. The model does neither,
so that both are unlikely to be wrong in the same way. It is slow, and nothing is checked.
"""

WORDS = ["short", "sum", "product", "quotient", "corrected", "restored", "shifted", "combined", "complemented", "looked"]


def trimmed(row):
    """A row without the digits 0 at its end."""
    row = list(row)
    while row and row[-1] == 0:
        row.pop()
    return row


class Model:
    """Methods with the names of the interface take and return integers in the place of Bigs."""

    def __init__(self, bits, cutoff):
        self.bits = bits
        self.base = 2 ** bits
        self.cutoff = cutoff
        self.counts = dict.fromkeys(WORDS, 0)
        self.entered = []

    def tally(self):
        return [(word, self.counts[word]) for word in WORDS]

    def walk(self):
        return self.entered[:1000]

    def count(self, word, many=1):
        self.counts[word] += many

    def enter(self, word, m, n):
        self.entered.append((word, m, n))

    def row(self, n):
        """The digits of an integer without its sign."""
        row = []
        n = abs(n)
        while n:
            n, digit = divmod(n, self.base)
            row.append(digit)
        return row

    def number(self, row):
        found = 0
        for digit in row[::-1]:
            found = found * self.base + digit
        return found

    def are_compact(self, *numbers):
        return all(len(self.row(n)) <= 1 for n in numbers)

    # Point 7.

    def compare(self, x, y):
        if self.are_compact(x, y):
            self.count("short")
            return (x > y) - (x < y)
        signs = [(n > 0) - (n < 0) for n in (x, y)]
        reach = [sign * len(self.row(n)) for sign, n in zip(signs, (x, y))]
        if reach[0] != reach[1]:
            return 1 if reach[0] > reach[1] else -1
        a, b = self.row(x), self.row(y)
        place = self.look(a, b)
        if place is None:
            return 0
        return signs[0] if a[place] > b[place] else -signs[0]

    def look(self, a, b):
        """The last place where two rows of one size differ, or None."""
        for place in range(len(a) - 1, -1, -1):
            self.count("looked")
            if a[place] != b[place]:
                return place
        return None

    # Points 9 to 12.

    def add(self, x, y):
        if self.are_compact(x, y):
            self.count("short")
            return x + y
        a, b = self.row(x), self.row(y)
        if x < 0 and y < 0:
            return -self.number(self.adding(a, b))
        if x >= 0 and y >= 0:
            return self.number(self.adding(a, b))
        return self.taking(b, a) if x < 0 else self.taking(a, b)

    def subtract(self, x, y):
        if self.are_compact(x, y):
            self.count("short")
            return x - y
        a, b = self.row(x), self.row(y)
        if x < 0 and y >= 0:
            return -self.number(self.adding(a, b))
        if x >= 0 and y < 0:
            return self.number(self.adding(a, b))
        return self.taking(b, a) if x < 0 else self.taking(a, b)

    def adding(self, a, b):
        self.enter("add", len(a), len(b))
        if len(b) > len(a):
            a, b = b, a
        result, carry = [], 0
        for place in range(len(a)):
            carry, digit = divmod(a[place] + (b[place] if place < len(b) else 0) + carry, self.base)
            result.append(digit)
            self.count("sum")
        return result + [carry] if carry else result

    def taking(self, a, b):
        self.enter("take", len(a), len(b))
        sign = 1
        if len(b) > len(a):
            a, b, sign = b, a, -1
        elif len(a) == len(b):
            place = self.look(a, b)
            if place is None:
                return 0
            a, b = a[:place + 1], b[:place + 1]
            if a[place] < b[place]:
                a, b, sign = b, a, -1
        result, borrow = [], 0
        for place in range(len(a)):
            borrow, digit = divmod(a[place] - (b[place] if place < len(b) else 0) + borrow, self.base)
            result.append(digit)
            self.count("sum")
        assert borrow == 0
        return sign * self.number(result)

    def added_into(self, room, more):
        self.enter("add into", len(room), len(more))
        return self.joined(room, more, 1)

    def taken_from(self, room, more):
        self.enter("take from", len(room), len(more))
        return self.joined(room, more, -1)

    def joined(self, room, more, sign):
        room, carry = list(room), 0
        for place in range(len(room)):
            if place >= len(more) and carry == 0:
                break
            carry, room[place] = divmod(room[place] + sign * (more[place] if place < len(more) else 0) + carry, self.base)
            self.count("sum")
        return room, abs(carry)

    # Points 13 and 14.

    def multiply_by_rows(self, x, y):
        return (-1 if (x < 0) != (y < 0) else 1) * self.number(self.rows(self.row(x), self.row(y)))

    def rows(self, a, b):
        self.enter("rows", len(a), len(b))
        room = [0] * (len(a) + len(b))
        for i in range(len(a)):
            carry = 0
            for k in range(len(b)):
                carry, room[i + k] = divmod(room[i + k] + a[i] * b[k] + carry, self.base)
                self.count("product")
            room[i + len(b)] = carry
        return trimmed(room)

    def square_by_rows(self, x):
        return self.number(self.square_rows(self.row(x)))

    def square_rows(self, a):
        m = len(a)
        self.enter("square", m, m)
        room = [0] * (2 * m)
        for i in range(m):
            carry, room[2 * i] = divmod(room[2 * i] + a[i] * a[i], self.base)
            self.count("product")
            for k in range(i + 1, m):
                carry, room[i + k] = divmod(room[i + k] + 2 * a[i] * a[k] + carry, self.base)
                self.count("product")
            over, room[i + m] = divmod(room[i + m] + carry, self.base)
            if over:
                room[i + m + 1] = over
        return trimmed(room)

    # Points 16 to 18.

    def multiply(self, x, y):
        if self.are_compact(x, y):
            self.count("short")
            return x * y
        return (-1 if (x < 0) != (y < 0) else 1) * self.number(self.multiplied(self.row(x), self.row(y)))

    def square(self, x):
        if self.are_compact(x):
            self.count("short")
            return x * x
        return self.number(self.squared(self.row(x)))

    def multiplied(self, a, b):
        if len(b) < len(a):
            a, b = b, a
        if len(a) == 0:
            return []
        if len(a) <= self.cutoff:
            return self.rows(a, b)
        return self.lopsided(a, b) if 2 * len(a) <= len(b) else self.karatsuba(a, b)

    def squared(self, a):
        if len(a) == 0:
            return []
        return self.square_rows(a) if len(a) <= 2 * self.cutoff else self.karatsuba_square(a)

    def lopsided(self, a, b):
        m = len(a)
        self.enter("lopsided", m, len(b))
        room = [0] * (m + len(b))
        for first in range(0, len(b), m):
            product = self.multiplied(a, b[first:first + m])
            room[first:], carry = self.added_into(room[first:], product)
        return trimmed(room)

    def karatsuba(self, a, b):
        self.enter("karatsuba", len(a), len(b))
        s = len(b) // 2
        a_low, a_high, b_low, b_high = trimmed(a[:s]), trimmed(a[s:]), trimmed(b[:s]), trimmed(b[s:])
        high = self.multiplied(a_high, b_high)
        low = self.multiplied(a_low, b_low)
        room = self.outer(len(a) + len(b), s, low, high)
        a_sum = self.adding(a_high, a_low)
        b_sum = self.adding(b_high, b_low)
        room[s:], carry = self.added_into(room[s:], self.multiplied(a_sum, b_sum))
        return trimmed(room)

    def karatsuba_square(self, a):
        self.enter("karatsuba", len(a), len(a))
        s = len(a) // 2
        a_low, a_high = trimmed(a[:s]), trimmed(a[s:])
        high = self.squared(a_high)
        low = self.squared(a_low)
        room = self.outer(2 * len(a), s, low, high)
        room[s:], carry = self.added_into(room[s:], self.squared(self.adding(a_high, a_low)))
        return trimmed(room)

    def outer(self, size, s, low, high):
        """The room with both outer products in their places, and both taken from it from number s on."""
        room = [0] * size
        room[:len(low)] = low
        room[2 * s:2 * s + len(high)] = high
        for product in (low, high):
            room[s:], borrow = self.taken_from(room[s:], product)
        return room

    # Points 19 to 24.

    def truncated(self, x, y):
        return self.divided(x, y, "divide short")

    def divided(self, x, y, short_word):
        a, b = self.row(x), self.row(y)
        if self.is_first_door(a, b):
            return 0, x
        if len(b) == 1:
            quotient, rest = self.short_division(short_word, a, b[0])
        else:
            quotient, rest, told = self.long_division(a, b)
        sign = -1 if (x < 0) != (y < 0) else 1
        return sign * self.number(quotient), (-1 if x < 0 else 1) * self.number(rest)

    def is_first_door(self, a, b):
        return len(a) < len(b) or (len(a) == len(b) and a[-1] < b[-1])

    def short_division(self, word, a, divisor):
        self.enter(word, len(a), 1)
        quotient, rest = [0] * len(a), 0
        for place in range(len(a) - 1, -1, -1):
            quotient[place], rest = divmod(rest * self.base + a[place], divisor)
            self.count("quotient")
        return quotient, [rest]

    def long_division(self, a, b):
        """Quotient and rest as rows, and what `long_walk` tells."""
        m, n = len(a), len(b)
        self.enter("divide long", m, n)
        d = 0
        while b[-1] * 2 ** (d + 1) < self.base:
            d += 1
        b, over = self.shift_row_up(b, d)
        assert over == 0
        a, over = self.shift_row_up(a, d)
        if over != 0 or a[-1] >= b[-1]:
            a.append(over)
        quotient, told = [0] * (len(a) - n), []
        for j in range(len(a) - n - 1, -1, -1):
            guess, corrected = self.guessed(a, b, j, n)
            q, restored = self.take_times(a, b, j, n, guess - corrected)
            quotient[j] = q
            told.append((guess, corrected, restored, q))
        rest, lost = self.shift_row_down(a[:n], d)
        assert lost == 0
        return quotient, rest, told

    def guessed(self, a, b, j, n):
        q, r = divmod(a[j + n] * self.base + a[j + n - 1], b[n - 1])
        self.count("quotient")
        guess = q
        while r < self.base and b[n - 2] * q > r * self.base + a[j + n - 2]:
            q -= 1
            r += b[n - 1]
            self.count("corrected")
        return guess, guess - q

    def take_times(self, a, b, j, n, q):
        """Take q times b from a, from number j on; the digit of the quotient, and whether b was added back."""
        carry = 0
        for k in range(n):
            carry, a[j + k] = divmod(a[j + k] - q * b[k] + carry, self.base)
            self.count("product")
        left = a[j + n] + carry
        a[j + n] = 0
        if left == 0:
            return q, False
        assert left == -1
        carry = 0
        for k in range(n):
            carry, a[j + k] = divmod(a[j + k] + b[k] + carry, self.base)
            self.count("sum")
        assert carry == 1
        self.count("restored")
        return q - 1, True

    def divide_both(self, x, y):
        if len(self.row(x)) == 1 and len(self.row(y)) == 1:
            self.count("short")
            return x // y, x % y
        quotient, rest = self.truncated(x, y)
        if rest != 0 and (rest < 0) != (y < 0):
            rest = self.add(rest, y)
            quotient = self.subtract(quotient, 1)
        return quotient, rest

    def floor_divide(self, x, y):
        return self.divide_both(x, y)[0]

    def modulo(self, x, y):
        if len(self.row(x)) == 1 and len(self.row(y)) == 1:
            self.count("short")
            return x % y
        quotient, rest = self.divided(x, y, "rest short")
        return self.add(rest, y) if rest != 0 and (rest < 0) != (y < 0) else rest

    def long_walk(self, x, y):
        return self.long_division(self.row(x), self.row(y))[2]

    # Points 25 to 27.

    def shift_left(self, x, count):
        if x == 0:
            return 0
        a = self.row(x)
        w, r = divmod(count, self.bits)
        if w == 0 and len(a) == 1:
            self.count("short")
            return x * 2 ** r
        self.enter("left", len(a), count)
        result, over = [0] * w, 0
        for digit in a:
            over, found = divmod(digit * 2 ** r + over, self.base)
            result.append(found)
            self.count("shifted")
        return (-1 if x < 0 else 1) * self.number(result + [over])

    def shift_right(self, x, count):
        a = self.row(x)
        if x == 0 or (x < 0 and len(a) > 1 and count == 0):
            return x
        if len(a) == 1:
            self.count("short")
            return (x // 2 ** count) if count < self.bits else -1 if x < 0 else 0
        self.enter("right", len(a), count)
        w, r = divmod(count, self.bits)
        if x < 0 and r == 0:
            w, r = w - 1, self.bits
        if w >= len(a):
            return -1 if x < 0 else 0
        first = a[w]
        if x < 0:
            ahead = 0
            for digit in a[:w]:
                ahead = 1 if digit else ahead
                self.count("looked")
            first += 2 ** r - 1 + ahead
        result, over = [], first // 2 ** r
        for digit in a[w + 1:]:
            over, found = divmod(digit * 2 ** (self.bits - r) + over, self.base)
            result.append(found)
            self.count("shifted")
        return (-1 if x < 0 else 1) * self.number(result + [over])

    def shift_row_up(self, digits, count):
        self.enter("lift", len(digits), count)
        result, over = [], 0
        for digit in digits:
            over, found = divmod(digit * 2 ** count + over, self.base)
            result.append(found)
            self.count("shifted")
        return result, over

    def shift_row_down(self, digits, count):
        self.enter("lower", len(digits), count)
        result, rest = [], 0
        for digit in digits[::-1]:
            found, rest = divmod(rest * self.base + digit, 2 ** count)
            result.append(found)
            self.count("shifted")
        return result[::-1], rest

    # Points 28 to 30.

    def bit_and(self, x, y):
        return self.combined("and", x, y)

    def bit_or(self, x, y):
        return self.combined("or", x, y)

    def bit_xor(self, x, y):
        return self.combined("xor", x, y)

    def bit_not(self, x):
        if self.are_compact(x):
            self.count("short")
            return -x - 1
        return -self.add(x, 1)

    def join(self, word, one, other):
        """Join two digits, or the signs (1 for a negative number), bit by bit."""
        found, place = 0, 1
        while place < self.base:
            pair = one // place % 2 + other // place % 2
            found += place * {"and": pair == 2, "or": pair > 0, "xor": pair == 1}[word]
            place *= 2
        return found

    def combined(self, word, x, y):
        if self.are_compact(x, y):
            self.count("short")
            # Two digits more than both have hold the bits 1 ahead of a negative number.
            whole = self.base ** 3
            a, b = [self.row(n % whole) + [0] * 3 for n in (x, y)]
            found = self.number([self.join(word, one, other) for one, other in zip(a[:3], b[:3])])
            return found - whole if found * 2 >= whole else found
        a, b = self.row(x), self.row(y)
        self.enter(word, len(a), len(b))
        below = [x < 0, y < 0]
        if below[0]:
            a = self.complement(a)[0]
        if below[1]:
            b = self.complement(b)[0]
        if len(b) > len(a):
            a, b, below = b, a, below[::-1]
        result = []
        for one, other in zip(a, b):
            result.append(self.join(word, one, other))
            self.count("combined")
        for digit in a[len(b):]:
            if word == "xor" and below[1]:
                result.append(self.base - 1 - digit)
                self.count("combined")
            elif word == "xor" or (word == "and") == below[1]:
                result.append(digit)
        if not self.join(word, int(below[0]), int(below[1])):
            return self.number(result)
        return -self.number(self.complement(result + [self.base - 1])[0])

    def complement(self, digits):
        self.enter("complement", len(digits), 0)
        result, carry = [], 1
        for digit in digits:
            total = self.base - 1 - digit + carry
            carry = int(total == self.base)
            result.append(total % self.base)
            self.count("complemented")
        return result, carry
