"""What the tests share: calls written as lists, answers taken apart, and a plain search."""

import pathlib
import subprocess
import sys

from logcuts.yard import answers

TOP_FOLDER = pathlib.Path(__file__).resolve().parent.parent

STEM = 0
KIND = 1
ORDER = 2
BEST = 3
CHECK = 4
MORE = 5
PLACES = 6

# The highest number that may be handed in.
TOP = 4294967295


def stem(parts):
    """The call stem; parts are pairs of a thickness and a grade."""
    numbers = [number for part in parts for number in part]
    return [STEM, len(numbers)] + numbers


def kind(length, thickness, grade, price, ordered):
    return [KIND, length, thickness, grade, price, ordered]


def order(number, many):
    return [ORDER, number, many]


def best():
    return [BEST]


def check(logs):
    """The call check; logs are pairs of a place and a kind."""
    numbers = [number for log in logs for number in log]
    return [CHECK, len(numbers)] + numbers


def more(number):
    return [MORE, number]


def places():
    return [PLACES]


def written(calls):
    """The calls one behind another, as they are handed in."""
    return [number for call in calls for number in call]


def run(*calls):
    """The answer to each call, each a list of whole numbers."""
    return split(answers(written(calls)))


def run_in_good_time(*calls):
    """Run the calls apart, so that a search that does not end is a failure and not a wait."""
    text = f"from logcuts.yard import answers; answers({written(calls)})"
    subprocess.run([sys.executable, "-c", text], cwd=TOP_FOLDER, check=True, timeout=60)


def split(given_back):
    found = []
    at = 0
    while at < len(given_back):
        end = at + 1 + given_back[at]
        if end > len(given_back):
            raise AssertionError("an answer is shorter than it says")
        found.append(given_back[at + 1:end])
        at = end
    return found


def best_answer(worth, ways, waste, logs):
    """What best answers, as one list."""
    answer = [worth, 2, ways, waste]
    for place, number in logs:
        answer += [2, place, number]
    return answer


def places_answer(many, *lists):
    """What places answers, as one list."""
    answer = [many]
    for found in lists:
        answer += [len(found)] + list(found)
    return answer


def is_log(parts, kinds, place, number):
    length, thickness, grade, price, ordered = kinds[number]
    if place + length > len(parts):
        return False
    taken = parts[place:place + length]
    return taken[-1][0] >= thickness and max(part[1] for part in taken) <= grade


def all_cuttings(parts, kinds):
    """Every cutting, by trying each log behind each cutting found so far."""
    found = [[]]
    for logs in found:
        free = logs[-1][0] + kinds[logs[-1][1]][0] if logs else 0
        for place in range(free, len(parts)):
            for number in range(len(kinds)):
                used = sum(1 for log in logs if log[1] == number)
                if used < kinds[number][4] and is_log(parts, kinds, place, number):
                    found.append(logs + [(place, number)])
    return found


def cutting_worth(parts, kinds, logs):
    worth = 0
    for place, number in logs:
        length, price = kinds[number][0], kinds[number][3]
        worth += price * length * parts[place + length - 1][0] ** 2
    return worth


def searched_best(parts, kinds):
    """What best must answer, found by going through all cuttings."""
    cuttings = all_cuttings(parts, kinds)
    most = max(cutting_worth(parts, kinds, logs) for logs in cuttings)
    equals = [logs for logs in cuttings if cutting_worth(parts, kinds, logs) == most]
    # A place no log can have stands behind the last log: to have a log there is earlier.
    earliest = min(equals, key=lambda logs: logs + [(1000, 0)])
    waste = len(parts) - sum(kinds[number][0] for place, number in earliest)
    return best_answer(most, len(equals), waste, earliest)


def searched_more(parts, kinds, number):
    """What more must answer, found by going through all cuttings twice."""
    length, thickness, grade, price, ordered = kinds[number]
    with_one_more = list(kinds)
    with_one_more[number] = (length, thickness, grade, price, ordered + 1)
    return [searched_best(parts, with_one_more)[0] - searched_best(parts, kinds)[0]]


def small_case(numbers):
    """A stem of up to 9 parts and up to 3 kinds, of few different numbers so that worths are often equal."""
    thickness = 1 + numbers.below(4)
    worst = numbers.below(3)
    parts = []
    for place in range(numbers.below(10)):
        parts.append((thickness, numbers.below(worst + 1)))
        thickness = max(1, thickness - numbers.below(3) // 2)
    kinds = []
    for number in range(numbers.below(4)):
        kinds.append((
            1 + numbers.below(3), numbers.below(4), numbers.below(3), numbers.below(3), numbers.below(5)))
    return parts, kinds


def set_up(parts, kinds):
    """The calls that bring a stem and its kinds."""
    return [stem(parts)] + [kind(*numbers) for numbers in kinds]


# A long stem and three kinds that fit in many places, of which as many as may be are ordered.
LONG_PARTS = [(100 - place // 2, place % 3) for place in range(40)]
LONG_KINDS = [(1, 0, 9, 7, 4), (2, 10, 9, 7, 4), (3, 20, 1, 9, 4)]


class Numbers:
    """Numbers that look mixed and are the same at every run."""

    def __init__(self, seed):
        self.state = seed

    def below(self, limit):
        self.state = (self.state * 6364136223846793005 + 1442695040888963407) % 2 ** 64
        return (self.state >> 33) % limit
