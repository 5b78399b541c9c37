"""The yard: calls about one stem and the kinds of logs asked for, and what they answer."""

CALL_STEM = 0
CALL_KIND = 1
CALL_ORDER = 2
CALL_BEST = 3
CALL_CHECK = 4
CALL_MORE = 5

# These calls have a row behind them, and of the other ones so many whole numbers stand behind each.
CALLS_WITH_A_ROW = (0, 4)
WHOLE_NUMBERS = {1: 5, 2: 2, 3: 0, 5: 1, 6: 0}

NOT_AS_TOLD = -1
NO_SUCH_KIND = -2
NO_MORE_KINDS = -5
NO_CUTTING = -6

MOST_PARTS = 40
MOST_THICKNESS = 100
WORST_GRADE = 9
MOST_KINDS = 3
MOST_ORDERED = 4

# Of a kind: length, thickness, grade, price, how many are ordered.
LEAST_OF_KIND = (1, 0, 0, 0, 0)
MOST_OF_KIND = (40, 100, 9, 1000, 4)


class Part:
    """A decimetre of the stem."""

    def __init__(self, thickness, grade):
        self.thickness = thickness
        self.grade = grade


class Kind:
    """What is asked of a log, and what is paid for it."""

    def __init__(self, length, thickness, grade, price):
        self.length = length
        self.thickness = thickness
        self.grade = grade
        self.price = price


class Yard:
    """The stem's parts from below, the kinds, and how many of each kind are ordered."""

    def __init__(self):
        self.parts = []
        self.kinds = []
        self.ordered = []


class Log:
    """A log that may be cut: its place, the place behind it, its kind's number, its worth."""

    def __init__(self, place, end, number, worth):
        self.place = place
        self.end = end
        self.number = number
        self.worth = worth


class Outlook:
    """What the best cuttings from one place on, out of one stock of orders, come to.

    worth is what each is worth, ways how many they are, and log the one that
    the earliest of them has at the place itself, or None.
    """

    def __init__(self, worth, ways, log):
        self.worth = worth
        self.ways = ways
        self.log = log


def is_stem(parts):
    """Say whether the parts are such as a stem may have."""
    if len(parts) > MOST_PARTS:
        return False
    thickest = MOST_THICKNESS
    for part in parts:
        if part.thickness < 1 or part.thickness > thickest or part.grade > WORST_GRADE:
            return False
        thickest = part.thickness
    return True


def set_stem(yard, numbers):
    """Answer the call stem; numbers has each part's thickness and grade."""
    parts = [Part(numbers[at], numbers[at + 1]) for at in range(0, len(numbers), 2)]
    if not is_stem(parts):
        return [NOT_AS_TOLD]
    yard.parts = parts
    return [len(parts)]


def is_kind(numbers):
    """Say whether the five numbers are such as a kind may have."""
    for number, least, most in zip(numbers, LEAST_OF_KIND, MOST_OF_KIND):
        if number < least or number > most:
            return False
    return True


def add_kind(yard, numbers):
    """Answer the call kind."""
    if not is_kind(numbers):
        return [NOT_AS_TOLD]
    if len(yard.kinds) == MOST_KINDS:
        return [NO_MORE_KINDS]
    yard.kinds.append(Kind(numbers[0], numbers[1], numbers[2], numbers[3]))
    yard.ordered.append(numbers[4])
    return [len(yard.kinds) - 1]


def change_order(yard, number, many):
    """Answer the call order."""
    if number >= len(yard.kinds):
        return [NO_SUCH_KIND]
    if many > MOST_ORDERED:
        return [NOT_AS_TOLD]
    before = yard.ordered[number]
    yard.ordered[number] = many
    return [before]


def may_be_cut(parts, kind, place):
    """Say whether a log of the kind may be cut from the place on."""
    end = place + kind.length
    if end > len(parts):
        return False
    if parts[end - 1].thickness < kind.thickness:
        return False
    return all([part.grade <= kind.grade for part in parts[place:end]])


def cut_log(parts, kinds, number, place):
    """Make the log of the kind from the place on; it may be cut there."""
    kind = kinds[number]
    end = place + kind.length
    thickness = parts[end - 1].thickness
    return Log(place, end, number, kind.price * kind.length * thickness * thickness)


def count_waste(parts, logs):
    """Say how many parts are in none of a cutting's logs."""
    return len(parts) - sum([log.end - log.place for log in logs])


def logs_from(parts, kinds, place):
    """List the logs that may be cut from the place on, the highest kind first."""
    logs = []
    for number in range(len(kinds) - 1, -1, -1):
        if may_be_cut(parts, kinds[number], place):
            logs.append(cut_log(parts, kinds, number, place))
    return logs


def stock_steps(ordered):
    """Say by how much a stock falls when a log of each kind is taken; last, how many stocks there are.

    A stock, how many of each kind may still be cut, is one number, so that
    it can be a list's index: its digits are those counts, each in a base of its own.
    """
    steps = [1]
    for many in ordered:
        steps.append(steps[-1] * (many + 1))
    return steps


def in_stock(stock, steps, number):
    """Say whether a log of the kind may still be cut out of the stock."""
    return stock % steps[number + 1] >= steps[number]


def outlook_at(table, steps, place, stock, logs):
    """Weigh the logs that may be cut from the place on, and none there, against one another."""
    above = table[place + 1][stock]
    found = Outlook(above.worth, above.ways, None)
    # The logs come from the latest cutting to the earliest, so that of equals the one weighed last stays.
    for log in logs:
        if in_stock(stock, steps, log.number):
            rest = table[log.end][stock - steps[log.number]]
            worth = log.worth + rest.worth
            if worth > found.worth:
                found = Outlook(worth, rest.ways, log)
            elif worth == found.worth:
                found = Outlook(worth, found.ways + rest.ways, log)
    return found


def all_outlooks(parts, kinds, steps):
    """Make the table of outlooks, by place and by stock, from the stem's upper end down."""
    table = [[] for place in range(len(parts))]
    table.append([Outlook(0, 1, None) for stock in range(steps[-1])])
    for place in range(len(parts) - 1, -1, -1):
        logs = logs_from(parts, kinds, place)
        table[place] = [outlook_at(table, steps, place, stock, logs) for stock in range(steps[-1])]
    return table


def earliest_logs(table, steps):
    """List the logs of the earliest of the best cuttings, from below."""
    logs = []
    place = 0
    stock = steps[-1] - 1
    while place < len(table) - 1:
        log = table[place][stock].log
        if log is None:
            place += 1
        else:
            logs.append(log)
            place = log.end
            stock -= steps[log.number]
    return logs


def find_best(yard):
    """Answer the call best."""
    steps = stock_steps(yard.ordered)
    table = all_outlooks(yard.parts, yard.kinds, steps)
    whole = table[0][-1]
    logs = earliest_logs(table, steps)
    answer = [whole.worth, 2, whole.ways, count_waste(yard.parts, logs)]
    for log in logs:
        answer.extend([2, log.place, log.number])
    return answer


def cutting_of(yard, numbers):
    """Make the logs whose places and kinds the numbers are, or None if they are no cutting."""
    logs = []
    left = list(yard.ordered)
    free = 0
    for at in range(0, len(numbers), 2):
        place = numbers[at]
        number = numbers[at + 1]
        if number >= len(yard.kinds) or left[number] == 0 or place < free:
            return None
        if not may_be_cut(yard.parts, yard.kinds[number], place):
            return None
        log = cut_log(yard.parts, yard.kinds, number, place)
        logs.append(log)
        left[number] -= 1
        free = log.end
    return logs


def check_logs(yard, numbers):
    """Answer the call check; numbers has each log's place and kind."""
    logs = cutting_of(yard, numbers)
    if logs is None:
        return [NO_CUTTING]
    return [sum([log.worth for log in logs]), 1, count_waste(yard.parts, logs)]


def find_more(yard, number):
    """Answer the call more."""
    if number >= len(yard.kinds):
        return [NO_SUCH_KIND]
    ordered = list(yard.ordered)
    ordered[number] += 1
    steps = stock_steps(ordered)
    table = all_outlooks(yard.parts, yard.kinds, steps)
    # One table does for both: what is ordered now is the fullest stock with one log of the kind taken.
    fullest = steps[-1] - 1
    return [table[0][fullest].worth - table[0][fullest - steps[number]].worth]


def list_places(yard):
    """Answer the call places."""
    answer = [len(yard.parts)]
    for kind in yard.kinds:
        places = [place for place in range(len(yard.parts)) if may_be_cut(yard.parts, kind, place)]
        answer.append(len(places))
        answer.extend(places)
    return answer


def answer_call(yard, call, numbers):
    """Answer one call; numbers is what stands behind the call's number, a row without its count."""
    if call == CALL_STEM:
        return set_stem(yard, numbers)
    if call == CALL_KIND:
        return add_kind(yard, numbers)
    if call == CALL_ORDER:
        return change_order(yard, numbers[0], numbers[1])
    if call == CALL_BEST:
        return find_best(yard)
    if call == CALL_CHECK:
        return check_logs(yard, numbers)
    if call == CALL_MORE:
        return find_more(yard, numbers[0])
    return list_places(yard)


def answers(calls):
    """Answer the calls on a new yard, one behind another: each answer behind how many numbers it has."""
    yard = Yard()
    given_back = []
    at = 0
    while at < len(calls):
        call = calls[at]
        if call in CALLS_WITH_A_ROW:
            start = at + 2
            end = start + calls[at + 1]
        else:
            start = at + 1
            end = start + WHOLE_NUMBERS[call]
        answer = answer_call(yard, call, calls[start:end])
        given_back.append(len(answer))
        given_back.extend(answer)
        at = end
    return given_back
