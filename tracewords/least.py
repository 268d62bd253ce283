"""Machines with the fewest states, and words that tell machines apart [73] to [76]."""
from tracewords.errors import UnlikeLetters
from tracewords.houses import on_the_line
from tracewords.machines import Machine, check_machine
from tracewords.sequence import free_words
from tracewords.solved import led_to, numbers_led, steps_of, whole_row, whole_steps
from tracewords.tables import columns_of


def least_machine(machine):
    """The least machine that tells the same."""
    check_machine(machine)
    seen = seen_lists(machine)
    pairs = state_pairs(machine, seen)
    states = [numbers_led(row, seen) for _, row in pairs]
    tables = [next_numbers(pairs, states, seen, columns_of(table)) for table in machine.tables()]
    start = [1 if len(word) == 0 else 0 for word, _ in pairs]
    return Machine(start, tables, [led_to(row, machine.ends()) for _, row in pairs])


def is_least(machine):
    """Whether no machine with fewer states tells the same."""
    return len(state_words(machine)) == machine.states


def state_words(machine):
    """The list of the state words, in sequence."""
    check_machine(machine)
    return [word for word, _ in state_pairs(machine, seen_lists(machine))]


def unlike_by(machine, other):
    """The first unlike word of both machines; None if they tell the same."""
    check_machine(machine)
    check_machine(other)
    if machine.many != other.many:
        raise UnlikeLetters()
    # What both machines do side by side, with the other one's ends turned, is the difference of their worths.
    letters = [columns_of(on_the_line(mine, its)) for mine, its in zip(machine.tables(), other.tables())]
    start = machine.start() + other.start()
    ends = machine.ends() + [-number for number in other.ends()]
    for word, row in free_words(start, letters, whole_led, whole_row):
        if led_to(row, ends).sign != 0:
            return word
    return None


def seen_lists(machine):
    """Free lists that lead two starts to unlike numbers exactly if some word tells the starts apart."""
    ends, tables = machine.ends(), machine.tables()
    return whole_steps([row for _, row in free_words(ends, tables, whole_led, whole_row)])


def state_pairs(machine, seen):
    """Tuples of each state word and its started row, in sequence."""
    start = machine.start()
    letters = [columns_of(table) for table in machine.tables()]
    return list(free_words(start, letters, numbers_led, lambda row: numbers_led(row, seen)))


def next_numbers(pairs, states, seen, columns):
    """The letter with these columns, in the least machine: by which numbers each state is led to the sum of states."""
    ahead = [numbers_led(numbers_led(row, columns), seen) for _, row in pairs]
    # The states are free, so steps that turn them, as columns, into the idle table tell the numbers beside it.
    beside = [[*row, *line] for row, line in zip(columns_of(states), columns_of(ahead))]
    return columns_of([row[len(states):] for row in steps_of(beside)])


def whole_led(row, others):
    """A multiple of the list of numbers to which these lists lead the row."""
    return whole_row(numbers_led(row, others))
