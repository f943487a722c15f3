"""What is said, byte by byte, as it grows."""

DOUBLE_QUOTE = 34
QUOTE = 39


class Speech:
    """The bytes of what is said so far."""

    def __init__(self):
        self.content = []

    def put(self, spelling):
        """Say a text of the program's own."""
        self.content.extend(spelled_bytes(spelling))

    def put_byte(self, byte):
        """Say one byte."""
        self.content.append(byte)

    def put_name(self, name):
        """Say a name, in quotes."""
        self.put_between(DOUBLE_QUOTE, name)

    def put_text(self, inner):
        """Say the value that a text is."""
        self.put_between(QUOTE, inner)

    def put_between(self, sign, inner):
        """Say bytes between two signs, and such a sign among them twice."""
        self.content.append(sign)
        for byte in inner:
            self.content.append(byte)
            if byte == sign:
                self.content.append(byte)
        self.content.append(sign)


def spelled_bytes(spelling):
    """The bytes of a text of the program's own."""
    return [ord(sign) for sign in spelling]


def say_listed(speech, members, say_member):
    """Say each member as the function say_member does, with commas between."""
    for at, member in enumerate(members):
        if at > 0:
            speech.put(", ")
        say_member(speech, member)


def say_names(speech, names):
    """Say names in brackets, behind a blank."""
    speech.put(" (")
    say_listed(speech, names, say_name)
    speech.put(")")


def say_name(speech, name):
    """Say one name, as a member of a list."""
    speech.put_name(name)
