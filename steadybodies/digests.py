"""Digests: short numbers by which texts are told apart."""

DIGEST_RANGE = 1000003


def digest(text):
    """The sum of (position + 1) times the code of the character, modulo 1000003."""
    return sum([(k + 1) * ord(character) for k, character in enumerate(text)]) % DIGEST_RANGE
