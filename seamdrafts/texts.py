"""Bytes as texts of as many signs, and back."""

KNOWN = "ABCDEFGHIJKLMNOPQRSTUVWXYZabcdefghijklmnopqrstuvwxyz0123456789(),=+-*/;.# \n"
STRANGER = "?"


def text_of(t):
    """The bytes t as a text of as many signs, so that places stay the same."""
    known = dict([(ord(sign), sign) for sign in KNOWN])
    return "".join([known.get(byte, STRANGER) for byte in t])


def bytes_of(text):
    """A text as bytes."""
    return [ord(sign) for sign in text]
