"""Signs, letters from a to z, and messages, texts of such signs."""

from textworths.errors import InvalidSigns, UnknownSign


def check_signs(signs):
    """Raises an error if a text is not one or more unlike signs in ascending order."""
    if signs == "":
        raise InvalidSigns(signs)
    last = ""
    for sign in signs:
        if not "a" <= sign <= "z" or sign <= last:
            raise InvalidSigns(signs)
        last = sign


def check_sign(signs, sign):
    """Raises an error if a text is not just one of the signs."""
    # A longer or an empty text may stand within the signs without being one.
    if len(sign) != 1 or sign not in signs:
        raise UnknownSign(sign)


def check_message(signs, message):
    """Raises an error for the first sign of a message that is none of the signs."""
    for sign in message:
        check_sign(signs, sign)


def messages_to(signs, length):
    """Returns all messages of at most so many signs, in their order; none if that is less than 0."""
    found, last = [], [""] if length >= 0 else []
    for _ in range(length + 1):
        found.extend(last)
        last = [message + sign for message in last for sign in signs]
    return found
