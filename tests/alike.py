"""What point 18 says of a translation, found out without the program's own functions for it."""

from random import Random

from translatory.registers import Registers
from translatory.strings import Strings
from translatory.turing import Turing


def equal(one, other):
    """Equality also of terms that are too deep for Python's own."""
    pairs = [(one, other)]
    while pairs:
        one, other = pairs.pop()
        if isinstance(one, tuple) and isinstance(other, tuple) and len(one) == len(other):
            pairs.extend(zip(one, other))
        elif isinstance(one, tuple) or isinstance(other, tuple) or one != other:
            return False
    return True


def check_alike(test, translation, configuration, steps):
    """Follows the source for at most `steps` steps; returns how many it made."""
    source, target = translation.source, translation.target
    check_instructions(test, target)
    place = translation.picture(configuration)
    made = 0
    while True:
        picture = translation.picture(configuration)
        test.assertTrue(equal(translation.read_back(picture), configuration))
        if isinstance(target, Strings):
            test.assertTrue(equal(translation.read_back(place), configuration))
        else:
            test.assertTrue(equal(place, picture))
        following = source.step(configuration)
        if following is None or made == steps:
            break
        cost = translation.cost(configuration)
        test.assertGreaterEqual(cost, 1)
        place = walked(test, target, place, cost)
        configuration = following
        made += 1
    if following is None:
        place = walked(test, target, place, translation.last_steps(configuration))
        test.assertIsNone(target.step(place))
        test.assertTrue(equal(translation.read_back(place), configuration))
    return made


def check_instructions(test, machine):
    """The instructions of a register program are formed as point 8 says."""
    if isinstance(machine, Registers):
        lengths = {"inc": 3, "dec": 4, "end": 1}
        for instruction in machine.instructions:
            test.assertEqual(len(instruction), lengths.get(instruction[0]))


def walked(test, machine, configuration, steps):
    """The configuration after exactly so many steps."""
    test.assertGreaterEqual(steps, 0)
    for _ in range(steps):
        configuration = machine.step(configuration)
        test.assertIsNotNone(configuration)
    return configuration


def some_turing(random, states, symbols):
    """A Turing machine with rules for most states and symbols, with all moves."""
    rules = [(state, symbol, random.randrange(symbols), random.randrange(-1, 2),
              random.randrange(states))
             for state in range(states) for symbol in range(symbols) if random.random() < 0.85]
    return Turing(states, symbols, rules)


def some_tape(random, machine, longest):
    """A configuration with sides of at most so many symbols."""
    return (random.randrange(machine.states), some_side(random, machine, longest),
            random.randrange(machine.symbols), some_side(random, machine, longest))


def some_side(random, machine, longest):
    side = [random.randrange(machine.symbols) for _ in range(random.randrange(longest + 1))]
    while side and side[-1] == 0:
        side.pop()
    return tuple(side)


def some_program(random, count, places):
    """A register program with jumps to everywhere."""
    instructions = []
    for _ in range(places):
        word = random.choice(["inc", "dec", "dec", "dec", "end"])
        if word == "inc":
            instructions.append((word, random.randrange(count), random.randrange(places)))
        elif word == "dec":
            instructions.append((word, random.randrange(count), random.randrange(places),
                                 random.randrange(places)))
        else:
            instructions.append((word,))
    return Registers(count, instructions)


def some_values(random, machine, greatest):
    """A configuration of a register program."""
    values = [random.randrange(greatest + 1) for _ in range(machine.count)]
    return random.randrange(len(machine.instructions)), tuple(values)


def check_tapes(test, make, sizes, steps, longest=3, seed=0):
    """Checks a translation of Turing machines with each (states, symbols)."""
    random = Random(seed)
    for states, symbols in sizes:
        translation = make(some_turing(random, states, symbols))
        for _ in range(3):
            check_alike(test, translation, some_tape(random, translation.source, longest), steps)


def check_programs(test, make, sizes, steps, greatest=3, seed=0):
    """Checks a translation of register programs with each (registers, places)."""
    random = Random(seed)
    for count, places in sizes:
        translation = make(some_program(random, count, places))
        for _ in range(3):
            check_alike(test, translation, some_values(random, translation.source, greatest), steps)


def turing_of_size(states, symbols):
    """A Turing machine with a rule for each state and symbol, with all moves."""
    return Turing(states, symbols, [(state, symbol, symbols - 1 - symbol, (state + symbol) % 3 - 1,
                                     (state * 7 + symbol) % states)
                                    for state in range(states) for symbol in range(symbols)])
