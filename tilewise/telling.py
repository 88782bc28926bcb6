"""The numbers of bands told in bits, and heard from them again."""

from tilewise.refusals import NotACode

# So many bits 1 say that a number is told in full, in as many bits more.
LONGEST = 24


class BitWriter:
    def __init__(self):
        self.done = []
        self.rest = 0
        self.held = 0

    def tell(self, value, many):
        self.rest = (self.rest << many) | value
        self.held += many
        while self.held >= 8:
            self.held -= 8
            self.done.append(self.rest >> self.held)
            self.rest &= (1 << self.held) - 1

    def all_bytes(self):
        if self.held == 0:
            return list(self.done)
        return self.done + [self.rest << (8 - self.held)]


class BitReader:
    def __init__(self, told):
        self.told = told
        self.place = 0
        self.rest = 0
        self.held = 0

    def hear(self, many):
        while self.held < many:
            if self.place == len(self.told):
                raise NotACode()
            self.rest = (self.rest << 8) | self.told[self.place]
            self.place += 1
            self.held += 8
        self.held -= many
        value = self.rest >> self.held
        self.rest &= (1 << self.held) - 1
        return value


# How large the numbers of a band have been so far; both ways must keep it alike.
class Pace:
    def __init__(self):
        self.a = 16
        self.c = 1

    def low_bits(self):
        k = 0
        while self.c << k < self.a:
            k += 1
        return k

    def take(self, z):
        self.a += abs(z)
        self.c += 1
        if self.c == 64:
            self.a //= 2
            self.c //= 2


def unsigned(z):
    return 2 * z if z >= 0 else -2 * z - 1


def signed(m):
    return m // 2 if m % 2 == 0 else -(m + 1) // 2


def ones(many):
    return (1 << many) - 1


def tell_number(m, k, writer):
    q = m >> k
    if q < LONGEST:
        writer.tell(ones(q) << 1, q + 1)
        writer.tell(m & ones(k), k)
    else:
        writer.tell(ones(LONGEST), LONGEST)
        writer.tell(m, LONGEST)


def hear_number(k, reader):
    q = 0
    while q < LONGEST and reader.hear(1) == 1:
        q += 1
    if q < LONGEST:
        return (q << k) | reader.hear(k)
    return reader.hear(LONGEST)


def tell_band(band, writer):
    pace = Pace()
    for z in band:
        tell_number(unsigned(z), pace.low_bits(), writer)
        pace.take(z)


def hear_band(length, reader):
    pace = Pace()
    band = []
    for i in range(length):
        z = signed(hear_number(pace.low_bits(), reader))
        band.append(z)
        pace.take(z)
    return band
