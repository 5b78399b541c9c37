"""What the tests share: calls written as lists, answers taken apart, and a plain search."""

from logcuts.yard import answers

STEM = 0
KIND = 1
ORDER = 2
BEST = 3


def stem(parts):
    """The call stem; parts are pairs of a thickness and a grade."""
    numbers = [number for part in parts for number in part]
    return [STEM, len(numbers)] + numbers


def kind(length, thickness, grade, price, ordered):
    return [KIND, length, thickness, grade, price, ordered]


def order(number, many):
    return [ORDER, number, many]


def best():
    return [BEST]


def written(calls):
    """The calls one behind another, as they are handed in."""
    return [number for call in calls for number in call]


def run(*calls):
    """The answer to each call, each a list of whole numbers."""
    return split(answers(written(calls)))


def split(given_back):
    found = []
    at = 0
    while at < len(given_back):
        end = at + 1 + given_back[at]
        if end > len(given_back):
            raise AssertionError("an answer is shorter than it says")
        found.append(given_back[at + 1:end])
        at = end
    return found


def best_answer(worth, ways, waste, logs):
    """What best answers, as one list."""
    answer = [worth, 2, ways, waste]
    for place, number in logs:
        answer += [2, place, number]
    return answer


def is_log(parts, kinds, place, number):
    length, thickness, grade, price, ordered = kinds[number]
    if place + length > len(parts):
        return False
    taken = parts[place:place + length]
    return taken[-1][0] >= thickness and max(part[1] for part in taken) <= grade


def all_cuttings(parts, kinds):
    """Every cutting, by trying each log behind each cutting found so far."""
    found = [[]]
    for logs in found:
        free = logs[-1][0] + kinds[logs[-1][1]][0] if logs else 0
        for place in range(free, len(parts)):
            for number in range(len(kinds)):
                used = sum(1 for log in logs if log[1] == number)
                if used < kinds[number][4] and is_log(parts, kinds, place, number):
                    found.append(logs + [(place, number)])
    return found


def cutting_worth(parts, kinds, logs):
    worth = 0
    for place, number in logs:
        length, price = kinds[number][0], kinds[number][3]
        worth += price * length * parts[place + length - 1][0] ** 2
    return worth


def searched_best(parts, kinds):
    """What best must answer, found by going through all cuttings."""
    cuttings = all_cuttings(parts, kinds)
    most = max(cutting_worth(parts, kinds, logs) for logs in cuttings)
    equals = [logs for logs in cuttings if cutting_worth(parts, kinds, logs) == most]
    # A place no log can have stands behind the last log: to have a log there is earlier.
    earliest = min(equals, key=lambda logs: logs + [(1000, 0)])
    waste = len(parts) - sum(kinds[number][0] for place, number in earliest)
    return best_answer(most, len(equals), waste, earliest)


class Numbers:
    """Numbers that look mixed and are the same at every run."""

    def __init__(self, seed):
        self.state = seed

    def below(self, limit):
        self.state = (self.state * 6364136223846793005 + 1442695040888963407) % 2 ** 64
        return (self.state >> 33) % limit
