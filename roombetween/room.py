"""Calls on one line, handed in as one list of whole numbers, and what they answer."""

from roombetween.line import Line, NOT_BEGUN

BEGIN = 0
TOTAL = 1
CHANCE = 2
SWAP = 3
TURN = 4
BEST = 5
WORST = 6
WAYS = 7
OF = 8
PLACE = 9
WORTH = 10
NEED = 11
ORDER = 12
TURNED = 13
BOUND = 14
GAIN = 15
NECK = 16


def count_plain(number):
    if number in (CHANCE, SWAP, NEED):
        return 2
    if number in (TOTAL, GAIN):
        return 1
    return 0


def has_row(number):
    return number in (BEGIN, OF, PLACE, ORDER)


# Each call becomes (number, given), its plain numbers or its row: no call has both.
def split_calls(calls):
    found = []
    at = 0
    while at < len(calls):
        number = calls[at]
        start = at + 1
        many = count_plain(number)
        if has_row(number):
            many = calls[start]
            start = start + 1
        at = start + many
        found.append((number, calls[start:at]))
    return found


def answer_change(line, number, given):
    if number == TOTAL:
        return line.total(given[0])
    if number == CHANCE:
        return line.chance(given[0], given[1])
    if number == SWAP:
        return line.swap(given[0], given[1])
    return line.turn()


def answer_of_ways(line, number, given):
    if number == BEST:
        return line.best()
    if number == WORST:
        return line.worst()
    if number == WAYS:
        return line.ways()
    if number == OF:
        return line.of(given)
    return line.place(given)


def answer_of_what_if(line, number, given):
    if number == WORTH:
        return line.worth()
    if number == NEED:
        return line.need(given[0], given[1])
    if number == ORDER:
        return line.order(given)
    return line.turned()


def answer_of_machines(line, number, given):
    if number == BOUND:
        return line.bound()
    if number == GAIN:
        return line.gain(given[0])
    if number == NECK:
        return line.neck()
    return line.state()


def answer_call(line, number, given):
    if number == BEGIN:
        return line.begin(given)
    if not line.has_begun():
        return [NOT_BEGUN]
    if number <= TURN:
        return answer_change(line, number, given)
    if number <= PLACE:
        return answer_of_ways(line, number, given)
    if number <= TURNED:
        return answer_of_what_if(line, number, given)
    return answer_of_machines(line, number, given)


def answers(calls):
    line = Line()
    told = []
    for number, given in split_calls(calls):
        answer = answer_call(line, number, given)
        told.append(len(answer))
        told.extend(answer)
    return told
