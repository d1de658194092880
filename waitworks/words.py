"""Random numbers: words, their hashes, and the draws that are made from them."""

GAMMA = 11400714819323198485


def mix(word):
    first = ((word ^ (word >> 30)) * 13787848793156543929) % 2 ** 64
    second = ((first ^ (first >> 27)) * 10723151780598845931) % 2 ** 64
    return second ^ (second >> 31)


def hash_word(seed, values):
    word = mix((seed + GAMMA) % 2 ** 64)
    for value in values:
        word = mix((word + GAMMA + value) % 2 ** 64)
    return word


def draw_between(low, high, word):
    return low + word * (high + 1 - low) // 2 ** 64
