"""Questions: tariffs that are told by the worths of some messages."""

from itertools import combinations

from textworths.errors import InvalidNote, InvalidNumber
from textworths.forms import parts_of_form
from textworths.free import Free
from textworths.numbers import common_below, is_number, number
from textworths.signs import check_signs, messages_to
from textworths.steps import steps_by
from textworths.tariffs import check_like_signs, tariff_by


def asked(signs, size):
    """Returns all messages shorter than twice a size, in their order."""
    check_signs(signs)
    _check_count(size)
    return messages_to(signs, 2 * size - 1)


def next_message(signs, size, answers):
    """Returns the first message that is asked and has no answer, None if there is none."""
    wanted = asked(signs, size)
    return _first_missing(wanted, _told(signs, answers))


def told_back(signs, size, answers):
    """Returns the only tariff of at most so many heads that gives all answers, None if there is none."""
    wanted = asked(signs, size)
    worths = _told(signs, answers)
    _check_wanted(wanted, worths)
    # Rests of a tariff of this size are parted by messages shorter than it.
    columns = messages_to(signs, size - 1)
    free = Free(len(columns))
    whole = _whole(worths)
    heads, told = [], {}
    for message in messages_to(signs, size):
        if message == "" or message[:-1] in heads:
            found = free.told([whole[message + column] for column in columns])
            if found is None:
                heads.append(message)
            else:
                told[message] = found
    if len(heads) > size or any([len(head) == size for head in heads]):
        return None
    table = [[_row(heads, told, head + sign) for sign in signs] for head in heads]
    begin, roads, end = parts_of_form(signs, table, [worths[head] for head in heads])
    tariff = tariff_by(signs, steps_by(signs, begin, roads, end))
    return tariff if all([tariff(message) == worths[message] for message in wanted]) else None


def least_size(signs, half, answers):
    """Returns the number of free rows of the table of the answers to messages of two halves."""
    check_signs(signs)
    _check_count(half)
    worths = _told(signs, answers)
    _check_wanted(messages_to(signs, 2 * half), worths)
    columns = messages_to(signs, half)
    free = Free(len(columns))
    whole = _whole(worths)
    return len([row for row in columns if free.told([whole[row + column] for column in columns]) is None])


def first_false(tariff, answers):
    """Returns the first answer that a tariff does not give, None if there is none."""
    _told(tariff.signs, answers)
    return _first_unlike(tariff, answers)


def fitting(tariffs, answers):
    """Returns the indexes of the tariffs that give all answers."""
    check_like_signs(tariffs)
    _told(tariffs[0].signs, answers)
    return [at for at, tariff in enumerate(tariffs) if _first_unlike(tariff, answers) is None]


def fewest_messages(tariffs, length):
    """Returns the first shortest list of messages by which all unlike tariffs are apart, None if there is none."""
    _check_count(length)
    check_like_signs(tariffs)
    messages = messages_to(tariffs[0].signs, length)
    pairs = [(one, other) for other, tariff in enumerate(tariffs) for one in range(other) if tariffs[one] != tariff]
    parted_by = {message: _parted(tariffs, pairs, message) for message in messages}
    # One message more than were needed would part no tariffs that are not apart already.
    for many in range(len(tariffs)):
        for chosen in combinations(messages, many):
            if all([any([parted_by[message][at] for message in chosen]) for at in range(len(pairs))]):
                return list(chosen)
    return None


def _check_count(count):
    """Raises an error if an integer is less than 0."""
    if count < 0:
        raise InvalidNumber(count)


def _told(signs, answers):
    """Returns the numbers by the messages that have them; raises an error for the first wrong answer."""
    found = {}
    for answer in answers:
        message, worth = answer
        if message in found or not is_number(worth) or not all([sign in signs for sign in message]):
            raise InvalidNote(answer)
        found[message] = worth
    return found


def _first_missing(wanted, worths):
    """Returns the first message that is wanted and has no answer, None if there is none."""
    for message in wanted:
        if message not in worths:
            return message
    return None


def _check_wanted(wanted, worths):
    """Raises an error for the first message that is wanted and has no answer."""
    missing = _first_missing(wanted, worths)
    if missing is not None:
        raise InvalidNote(missing)


def _whole(worths):
    """Returns whole numbers in the place of numbers, all so many times as great."""
    _, aboves = common_below(list(worths.values()))
    return {message: above for message, above in zip(list(worths), aboves)}


def _row(heads, told, message):
    """Returns the numbers, one for each head, that tell the rest behind a message."""
    if message not in told:
        return [(1, 1) if head == message else (0, 1) for head in heads]
    below, aboves = told[message]
    return [number(above, below) for above in aboves] + [(0, 1)] * (len(heads) - len(aboves))


def _first_unlike(tariff, answers):
    """Returns the first answer that a tariff does not give, None if there is none."""
    for answer in answers:
        if tariff(answer[0]) != answer[1]:
            return answer
    return None


def _parted(tariffs, pairs, message):
    """Returns, for each pair of tariffs, whether a message parts them."""
    worths = [tariff(message) for tariff in tariffs]
    return [worths[one] != worths[other] for one, other in pairs]
