"""Signs as the bytes that a sky's text holds."""

# Stands where a text has no further byte, so that it differs from every byte.
NO_BYTE = -1


def codes(word):
    return [ord(sign) for sign in word]


def is_digit(byte):
    return ord("0") <= byte <= ord("9")


def is_letter(byte):
    return ord("A") <= byte <= ord("Z") or ord("a") <= byte <= ord("z")
