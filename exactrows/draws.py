"""Draws: whole numbers that hang on a key, a stream and a place alone."""

# The greatest word, 2^32 - 1, and the greatest place, 2^64 - 1.
WORD_MASK = 4294967295
PLACE_MASK = 18446744073709551615

ROUNDS = 12
TRIES = 64


def turned(word, bits):
    """The word turned left by so many bits."""
    return ((word << bits) & WORD_MASK) | (word >> (32 - bits))


def mill_number(key, stream, place):
    """The mill's number of a key of four words, a stream and a place."""
    a = (place & WORD_MASK) ^ key[0]
    b = (place >> 32) ^ key[1]
    c = (stream & WORD_MASK) ^ key[2]
    d = (stream >> 32) ^ key[3]
    for r in range(ROUNDS):
        a = (a + b) & WORD_MASK
        d = turned(d ^ a, 16)
        c = (c + d * 2654435769) & WORD_MASK
        b = turned(b ^ c, 11)
        a = (a + b + key[r % 4]) & WORD_MASK
        d = turned(d ^ a, 7)
        c = c ^ turned(d, 19)
        b = (b + c * 2246822519 + r) & WORD_MASK
        # Each moves up by one, and what was a becomes d.
        former = a
        a = b
        b = c
        c = d
        d = former
    return a + (b << 32)


def below(key, stream, place, n):
    """A number below n, each as likely as another."""
    # How many numbers of 64 bits are left over where they're dealt out to n: so many are passed over.
    left_over = (1 << 64) % n
    number = 0
    for j in range(TRIES):
        number = mill_number([key[0], key[1], key[2], key[3] ^ j], stream, place)
        if number >= left_over:
            break
    return number % n


def drawn(key, stream, first, n, m):
    """A number below n for each of m places from the first on."""
    return [below(key, stream, (first + i) & PLACE_MASK, n) for i in range(m)]


def shuffled(key, stream, first, n):
    """The numbers from 0 to n - 1 in an order that is drawn."""
    row = list(range(n))
    for i in range(n - 1, 0, -1):
        j = below(key, stream, (first + n - 1 - i) & PLACE_MASK, i + 1)
        moved = row[i]
        row[i] = row[j]
        row[j] = moved
    return row
