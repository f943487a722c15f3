"""Whether bytes are well made UTF-8."""


def well_made(content):
    """Whether the bytes are whole signs of UTF-8, each in its shortest form, none a surrogate."""
    place = 0
    while place < len(content):
        length = sign_length(content[place])
        if length == 0 or not whole_sign(content[place:place + length], length):
            return False
        place += length
    return True


def sign_length(first):
    """How many bytes a sign has that begins with this byte; 0 if none begins so."""
    if first < 128:
        return 1
    if 192 <= first < 224:
        return 2
    if 224 <= first < 240:
        return 3
    if 240 <= first < 248:
        return 4
    return 0


def whole_sign(sign, length):
    """Whether these bytes are one sign of that length."""
    if length == 1:
        return True
    if len(sign) < length:
        return False
    # The first byte of a sign of n bytes carries 7 - n bits, each that follows 6.
    code = sign[0] & ((1 << (7 - length)) - 1)
    for byte in sign[1:]:
        if not 128 <= byte < 192:
            return False
        code = code * 64 + byte - 128
    return in_shortest_form(code, length) and not 0xD800 <= code <= 0xDFFF and code <= 0x10FFFF


def in_shortest_form(code, length):
    """Whether a sign with this code needs so many bytes."""
    least = (0, 0, 0x80, 0x800, 0x10000)
    return code >= least[length]
