"""Section 3 of the document written a second time, with none of the program's code, and backwards."""

WORD = 2 ** 32


def turn_left(word, bits):
    high, low = divmod(word, 2 ** (32 - bits))
    return low * 2 ** bits + high


def mix(state, key, r):
    """One round, step by step."""
    a, b, c, d = state
    a = (a + b) % WORD
    d = turn_left(d ^ a, 16)
    c = (c + d * 2654435769) % WORD
    b = turn_left(b ^ c, 11)
    a = (a + b + key[r % 4]) % WORD
    d = turn_left(d ^ a, 7)
    c = c ^ turn_left(d, 19)
    b = (b + c * 2246822519 + r) % WORD
    return b, c, d, a


def unmix(state, key, r):
    """What one round has made into the state."""
    b, c, d, a = state
    b = (b - c * 2246822519 - r) % WORD
    c = c ^ turn_left(d, 19)
    d = turn_left(d, 32 - 7) ^ a
    a = (a - b - key[r % 4]) % WORD
    b = turn_left(b, 32 - 11) ^ c
    c = (c - d * 2654435769) % WORD
    d = turn_left(d, 32 - 16) ^ a
    a = (a - b) % WORD
    return a, b, c, d


def mill(key, stream, place):
    words = [place % WORD, place // WORD, stream % WORD, stream // WORD]
    state = tuple(word ^ k for word, k in zip(words, key))
    for r in range(12):
        state = mix(state, key, r)
    return state[0] + WORD * state[1]


def unmill(key, state):
    """The stream and the place for which the mill ends in the state."""
    for r in reversed(range(12)):
        state = unmix(state, key, r)
    words = [word ^ k for word, k in zip(state, key)]
    return words[2] + WORD * words[3], words[0] + WORD * words[1]


def tries_of(key, stream, place, n):
    """The mill's numbers as far as they're tried."""
    numbers = []
    for j in range(64):
        numbers.append(mill(key[:3] + [key[3] ^ j], stream, place))
        if numbers[-1] >= 2 ** 64 % n:
            break
    return numbers


def below(key, stream, place, n):
    return tries_of(key, stream, place, n)[-1] % n


def again(stream, first, n, m, key):
    return [0] + [below(key, stream, (first + i) % 2 ** 64, n) for i in range(m)]


def shuffle(stream, first, n, key):
    row = list(range(n))
    for i in reversed(range(1, n)):
        j = below(key, stream, (first + n - 1 - i) % 2 ** 64, i + 1)
        row[i], row[j] = row[j], row[i]
    return [0] + row
