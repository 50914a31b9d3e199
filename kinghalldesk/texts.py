"""What all texts share: the decimal digits, and signs as bytes."""

DIGITS = "0123456789"


def as_bytes(text):
    return [ord(sign) for sign in text]
