"""Expressions and words for the tests, and what is right, counted part by part."""

import random
from functools import lru_cache
from itertools import product

LETTERS = "abcd"


def words_up_to(length, letters=LETTERS):
    """All words with at most so many of the letters, in order by length."""
    return ["".join(word) for many in range(length + 1) for word in product(letters, repeat=many)]


def all_expressions(most_parts, leaves):
    """All expressions with at most so many parts, made from the leaves."""
    by_size = {1: list(leaves)}
    for size in range(2, most_parts + 1):
        made = [(word, part) for word in ("maybe", "many") for part in by_size[size - 1]]
        for word in ("join", "or"):
            made += [(word, row) for row in all_rows(word, size - 1, by_size) if len(row) > 1]
        by_size[size] = made
    return [each for size in by_size for each in by_size[size]]


def all_rows(word, size, by_size):
    """All tuples of expressions without this word, with so many parts together."""
    if size == 0:
        return [()]
    rows = []
    for begin in range(1, size + 1):
        parts = [each for each in by_size.get(begin, []) if each[:1] != (word,)]
        rows += [(part,) + row for part in parts for row in all_rows(word, size - begin, by_size)]
    return rows


def grown(numbers, parts, around="", leaves=("a", "b", "c", "d", "a", "b", "")):
    """An expression with about so many parts, as the numbers (a Random) tell."""
    if parts <= 1:
        return numbers.choice(leaves)
    words = [word for word in ("join", "or", "join", "or", "maybe", "many") if word != around]
    word = numbers.choice(words)
    if word in ("maybe", "many"):
        return (word, grown(numbers, parts - 1, "", leaves))
    many = numbers.randint(2, 4)
    return (word, tuple(grown(numbers, (parts - 1) // many, word, leaves) for _ in range(many)))


def leaf_letters(expression):
    """The letters of the places, from left to right."""
    if isinstance(expression, str):
        return expression
    word, inner = expression
    parts = inner if word in ("join", "or") else (inner,)
    return "".join(leaf_letters(part) for part in parts)


def depth(expression):
    if isinstance(expression, str):
        return 0
    word, inner = expression
    parts = inner if word in ("join", "or") else (inner,)
    return 1 + max(depth(part) for part in parts)


def part_count(expression):
    if isinstance(expression, str):
        return 1
    word, inner = expression
    parts = inner if word in ("join", "or") else (inner,)
    return 1 + sum(part_count(part) for part in parts)


def joined(first, second, length):
    return {one + other for one in first for other in second if len(one + other) <= length}


def repeated(base, length):
    found = {()}
    latest = {()}
    while latest:
        latest = joined(latest, base, length) - found
        found |= latest
    return found


def right_tuples(expression, length, symbols):
    """What is right, with at most so many symbols: the next one stands for each letter."""
    if expression == "":
        return {()}
    if isinstance(expression, str):
        symbol = next(symbols)
        return {(symbol,)} if length > 0 else set()
    word, inner = expression
    if word == "maybe":
        return {()} | right_tuples(inner, length, symbols)
    if word == "many":
        return repeated(right_tuples(inner, length, symbols), length)
    found = set() if word == "or" else {()}
    for part in inner:
        right = right_tuples(part, length, symbols)
        found = found | right if word == "or" else joined(found, right, length)
    return found


def right_words(expression, length):
    """The set of all right words with at most so many letters."""
    tuples = right_tuples(expression, length, iter(leaf_letters(expression)))
    return {"".join(word) for word in tuples}


def all_markings(expression, length):
    """The set of all markings of words with at most so many letters."""
    return right_tuples(expression, length, iter(range(len(leaf_letters(expression)))))


def word_of(expression, marking):
    letters = leaf_letters(expression)
    return "".join(letters[place] for place in marking)


def picked_word(expression, numbers, around=0):
    """A right word, as the numbers (a Random) tell; of any length."""
    if isinstance(expression, str):
        return expression
    word, inner = expression
    if word == "join":
        return "".join(picked_word(part, numbers, around) for part in inner)
    if word == "or":
        return picked_word(numbers.choice(inner), numbers, around)
    # Within others a "many" is not gone through often, or the word would have no end.
    times = numbers.randint(0, 3 if word == "many" and around < 2 else 1)
    return "".join(picked_word(inner, numbers, around + 1) for _ in range(times))


def right_by_cuts(expression, word):
    """Whether the word is right, by where a part's words can end that begin at a letter."""
    known = {}

    def ends(part, start):
        if (id(part), start) not in known:
            known[id(part), start] = sorted(ends_anew(part, start))
        return known[id(part), start]

    def ends_anew(part, start):
        if isinstance(part, str):
            return {start + len(part)} if word.startswith(part, start) else set()
        kind, inner = part
        if kind == "or":
            return {end for each in inner for end in ends(each, start)}
        found = {start}
        if kind == "join":
            for each in inner:
                found = {end for begin in found for end in ends(each, begin)}
            return found
        if kind == "maybe":
            return found | set(ends(inner, start))
        latest = [start]
        while latest:
            latest = sorted({end for begin in latest for end in ends(inner, begin)} - found)
            found |= set(latest)
        return found

    return len(word) in ends(expression, 0)


def words_about(expression, numbers):
    """Right words of at most 24 letters, if any is picked, some that are nearly right, and others."""
    picked = [picked_word(expression, numbers) for _ in range(20)]
    right = sorted({word for word in picked if len(word) <= 24})
    near = [word[:-1] + numbers.choice(LETTERS) for word in right if word]
    near += [word[1:] for word in right] + [(word + numbers.choice(LETTERS))[:24] for word in right]
    lengths = [numbers.randint(0, 24) for _ in range(10)]
    return right + near + ["".join(numbers.choice("ab") for _ in range(many)) for many in lengths]


def is_empty_right(expression):
    if isinstance(expression, str):
        return expression == ""
    word, inner = expression
    if word == "join":
        return all(is_empty_right(part) for part in inner)
    return word != "or" or any(is_empty_right(part) for part in inner)


def rows_behind(row, letter):
    """What can still come behind the letter: rows of expressions, if a row of them is there before it."""
    if not row:
        return set()
    part, rest = row[0], row[1:]
    found = rows_behind(rest, letter) if is_empty_right(part) else set()
    if isinstance(part, str):
        return found | ({rest} if part == letter else set())
    word, inner = part
    if word == "many":
        rest = row
    rows = [(each,) for each in inner] if word == "or" else [inner if word == "join" else (inner,)]
    return found | {each + rest for one in rows for each in rows_behind(one, letter)}


@lru_cache(maxsize=None)
def told_automaton(expression):
    """The automaton of the expression (points 41 to 43), by what can come behind the letters of words."""
    sets, moves = [frozenset([(expression,)])], []
    for at, rows in enumerate(sets):
        for letter in LETTERS:
            behind = frozenset(each for row in rows for each in rows_behind(row, letter))
            if behind:
                if behind not in sets:
                    sets.append(behind)
                moves.append((at, letter, sets.index(behind)))
    ends = [any(all(is_empty_right(part) for part in row) for row in rows) for rows in sets]
    return merged_automaton(ends, moves)


def merged_automaton(ends, moves):
    """The automaton with the same words: without two states that no word tells apart, numbered as they are found."""
    to = {(start, letter): end for start, letter, end in moves}
    states = range(-1, len(ends))
    told = {(one, other) for one in states for other in states
            if (one >= 0 and ends[one]) != (other >= 0 and ends[other])}
    before = None
    while before != len(told):
        before = len(told)
        told |= {(one, other) for one in states for other in states for letter in LETTERS
                 if (to.get((one, letter), -1), to.get((other, letter), -1)) in told}
    of = {state: min(other for other in states if (state, other) not in told) for state in states}
    found, rows = [of[0]], []
    for start in found:
        for letter in LETTERS:
            end = of[to.get((start, letter), -1)]
            if end != -1:
                if end not in found:
                    found.append(end)
                rows.append((found.index(start), letter, found.index(end)))
    return tuple(ends[state] for state in found), tuple(sorted(rows))


def run(automaton, word, state=0):
    """The state to which the word leads, or -1."""
    to = {(start, letter): end for start, letter, end in automaton[1]}
    for letter in word:
        state = to.get((state, letter), -1)
    return state


def takes(automaton, word, state=0):
    end = run(automaton, word, state)
    return end != -1 and automaton[0][end]


def told_system(expression):
    """The system of the automaton of the expression."""
    ends, moves = told_automaton(expression)
    return tuple(range(len(ends))), moves, tuple(state for state, end in enumerate(ends) if end)


@lru_cache(maxsize=None)
def told_reached(system, state):
    """The states that are reached from the state, by going along all moves again and again."""
    found = {state}
    while True:
        more = {end for start, _, end in system[1] if start in found}
        if more <= found:
            return tuple(sorted(found))
        found |= more


@lru_cache(maxsize=None)
def told_orbit(system, state):
    return tuple(other for other in told_reached(system, state) if state in told_reached(system, other))


def told_orbits(system):
    return sorted({told_orbit(system, state) for state in system[0]})


def told_round(system, orbit):
    return any({start, end} <= set(orbit) for start, _, end in system[1])


def told_exits(system, state):
    orbit = told_orbit(system, state)
    return tuple(sorted((letter, end) for start, letter, end in system[1] if start == state and end not in orbit))


def told_gates(system, orbit):
    return tuple(state for state in orbit if state in system[2] or told_exits(system, state))


def told_alike(system, one, other):
    return (one in system[2]) == (other in system[2]) and told_exits(system, one) == told_exits(system, other)


def told_consistent(system):
    """The consistent letters, each with its state."""
    found = []
    for letter in LETTERS:
        to = {start: end for start, by, end in system[1] if by == letter}
        ends = {to.get(state) for state in system[2]}
        if len(ends) == 1 and ends != {None}:
            found.append((letter, ends.pop()))
    return tuple(found)


def told_cut(system):
    letters = [letter for letter, _ in told_consistent(system)]
    moves = tuple(move for move in system[1] if not (move[0] in system[2] and move[1] in letters))
    return system[0], moves, system[2]


def told_inner(system, orbit):
    """The system to which one goes inward to an orbit of a system that is a cut."""
    moves = tuple(move for move in system[1] if {move[0], move[2]} <= set(orbit))
    return orbit, moves, told_gates(system, orbit)


def random_system(numbers, most_states, letters=LETTERS):
    """A system as the numbers (a Random) tell; often with several orbits, and with letters that are consistent."""
    states = sorted(numbers.sample(range(40), numbers.randint(1, most_states)))
    accepting = [state for state in states if numbers.random() < 0.4]
    density = numbers.choice((0.3, 0.5, 0.8))
    groups = numbers.choice((1, 2, 3))
    group = {state: numbers.randrange(groups) for state in states}
    to = {}
    for state in states:
        for letter in letters:
            if numbers.random() < density:
                # To an earlier group no move leads, and to a later one not often.
                near = [end for end in states if group[end] == group[state] or
                        (group[end] > group[state] and numbers.random() < 0.2)]
                to[state, letter] = numbers.choice(near)
    for letter in letters:
        if numbers.random() < 0.3:
            end = numbers.choice(states)
            to.update({(state, letter): end for state in accepting})
    return tuple(states), tuple((start, letter, end) for (start, letter), end in sorted(to.items())), tuple(accepting)


# Each state but the last one leads to the next one by a, and back again by b.
STAIRS = (tuple(range(40)), tuple(move for state in range(40) for move in (
    (state, "a", state + 1), (state, "b", state - 1)) if 0 <= move[2] < 40), (0,))


def random_stairs(numbers):
    """Stairs of some states, with some changes, so that one can often go far inward."""
    many = numbers.randint(3, 9)
    to = {(start, letter): end for start, letter, end in STAIRS[1] if max(start, end) < many}
    accepting = {0}
    for _ in range(numbers.randint(0, 3)):
        state = numbers.randrange(many)
        to[state, numbers.choice("abcd")] = numbers.choice((state, state, max(state - 1, 0), numbers.randrange(many)))
        if numbers.random() < 0.3:
            accepting.add(numbers.randrange(many))
    moves = tuple((start, letter, end) for (start, letter), end in sorted(to.items()))
    return tuple(range(many)), moves, tuple(sorted(accepting))


def larger_ones(seed, many, most_parts=120, long=True, leaves=("a", "b", "c", "d", "a", "b", "")):
    """Expressions as the seed tells, with some places: long ones, or those within the bounds of point 6."""
    numbers = random.Random(seed)
    found = [grown(numbers, numbers.randint(6, most_parts), "", leaves) for _ in range(many)]
    places, deep, parts = (40, 40, 200) if long else (8, 6, 24)
    return [each for each in found if 0 < len(leaf_letters(each)) <= places and depth(each) <= deep
            and part_count(each) <= parts]


def parts_within(expression):
    """The expression, and everything that it is made of."""
    if isinstance(expression, str):
        return [expression]
    word, inner = expression
    parts = inner if word in ("join", "or") else (inner,)
    return [expression] + [each for part in parts for each in parts_within(part)]


def wrapped(word, times, inside):
    """The expression in so many "maybe" or "many"."""
    for _ in range(times):
        inside = (word, inside)
    return inside


def deep_tuple(levels):
    """A value nested so deep, which has the form of an expression but for its depth."""
    return wrapped("maybe", levels, "a")


def deep_list(levels):
    value = []
    for _ in range(levels):
        value = [value]
    return value


def deep_row(levels):
    """Tuples of one item within one another."""
    value = ()
    for _ in range(levels):
        value = (value,)
    return value


# Forty places, forty deep and two hundred parts at once.
LARGEST = ("or", (wrapped("many", 39, "a"),) + ("b",) * 39 + ("",) * 120)

LONGEST = [
    "a",
    "",
    ("join", ("a", "b")),
    ("join", ("a",) * 40),
    ("or", ("a",) * 40),
    ("or", ("",) * 199),
    wrapped("maybe", 40, "a"),
    wrapped("many", 40, ""),
    LARGEST,
]

NO_EXPRESSIONS = [
    None,
    True,
    False,
    0,
    1,
    -1,
    10 ** 30,
    "e",
    "A",
    "ab",
    "aa",
    "abcd",
    " ",
    "a\n",
    "join",
    (),
    [],
    ("a",),
    ["a"],
    ("a", "b"),
    ("", ""),
    ("join",),
    ("join", ()),
    ("or", ()),
    ("join", ("a",)),
    ("or", ("a",)),
    ("join", ("",)),
    ("join", "ab"),
    ("or", "ab"),
    ("join", "a"),
    ("or", ""),
    ("join", "a", "b"),
    ("join", ("a", "b"), "a"),
    ("join", ("a", "b"), None),
    ("or", ("a", "b"), ()),
    ("maybe", "a", "a"),
    ("many", "a", None),
    ("maybe",),
    ("maybe", ()),
    ("maybe", ("a",)),
    ("many", ("a", "b")),
    ("many", None),
    ("many", True),
    ("many", 0),
    ("maybe", "ab"),
    ("maybe", "e"),
    ("join", ["a", "b"]),
    ("or", ["a", "b"]),
    ["join", ("a", "b")],
    ["many", "a"],
    ("many", ["a"]),
    ("many", ["maybe", "a"]),
    ("join", (("a",), "b")),
    ("join", ("a", ("b",))),
    ("or", (("a", "b"), "c")),
    ("join", ("a", None)),
    ("join", (True, "a")),
    ("or", (1, "a")),
    ("or", ("a", "e")),
    ("or", ("ab", "c")),
    ("and", ("a", "b")),
    ("Join", ("a", "b")),
    ("", ("a", "b")),
    ("MANY", "a"),
    ("many ", "a"),
    (None, "a"),
    (True, "a"),
    (0, ("a", "b")),
    (("many",), "a"),
    (["many"], "a"),
    ("join", ("a", ("join", ("b", "c")))),
    ("join", (("join", ("a", "b")), "c")),
    ("or", ("a", ("or", ("b", "c")))),
    ("or", (("or", ("a", "b")), "c")),
    ("many", ("join", ("a", ("join", ("b", "c"))))),
    ("join", ("a", ("join", ()))),
    ("or", ("a", ("or", "b"))),
    ("or", ("a", ())),
    deep_tuple(5000),
    deep_list(5000),
    deep_row(5000),
    ("join", (deep_tuple(3000), "a")),
    (deep_row(3000), "a"),
    ("or", (deep_row(3000), deep_list(3000))),
    ("or", ("a",) * 100000),
    b"a",
    1.5,
    {"a": 1},
]

NOT_LONG = NO_EXPRESSIONS + [
    ("join", ("a",) * 41),
    ("or", ("a",) * 20 + (("join", ("b",) * 21),)),
    ("or", ("",) * 200),
    ("or", ("a",) * 40 + ("",) * 160),
    wrapped("maybe", 41, "a"),
    wrapped("many", 41, ""),
    deep_tuple(1000),
]

NOT_SHORT = NOT_LONG + [
    ("join", ("a",) * 9),
    ("or", (("join", ("a",) * 5), ("join", ("b",) * 4))),
    ("or", ("",) * 24),
    ("or", ("a",) * 8 + ("",) * 16),
    wrapped("maybe", 7, "a"),
    wrapped("many", 7, ""),
    LARGEST,
]

# Its automaton has 40 states.
LARGE = ("or", (("many", "a"), ("many", ("join", (("or", ("a", "b")), ("maybe", "a"), "a", "a", "a", "a")))))

# Its automaton has 43 states: a number of letters is right if it is a sum of sevens and eights.
HUGE = ("many", ("join", ("a",) * 7 + (("maybe", "a"),)))

# Their automata have 41 states and more.
TOO_LARGE = [
    ("or", (("many", "a"), ("many", ("join", (("maybe", "b"), ("maybe", "a"), "a", "a", "a", "a", "a"))))),
    ("join", (("maybe", ("join", (("many", "a"), "b"))),
              ("many", ("join", ("a", ("maybe", "a"), "a", "a", "a", "a"))))),
    HUGE,
    ("many", ("join", (("maybe", "d"),) + ("d",) * 7)),
    ("maybe", ("many", ("join", ("c",) * 4 + (("or", ("c", "")),) + ("c",) * 3))),
]

NO_WORDS = [
    None,
    True,
    False,
    0,
    7,
    "e",
    "abx",
    "A",
    "a b",
    "ab\n",
    " ",
    "a" * 25,
    "abcd" * 6 + "a",
    "a" * 100000,
    (),
    [],
    ("a",),
    ["a"],
    ["a", "b"],
    ("a", "b"),
    deep_tuple(1000),
    deep_list(1000),
    b"a",
]

# What is judged can be any value; these have wrong forms for every judge.
STRANGE = [
    None,
    True,
    False,
    0,
    1,
    -1,
    10 ** 30,
    "",
    "a",
    "ab",
    [],
    [0],
    [()],
    [(0,)],
    (None,),
    (True,),
    (False,),
    ("",),
    ("a",),
    (0, None),
    (None, 0),
    (-1,),
    (-1, -1),
    (10 ** 30,),
    ((-1,),),
    ((10 ** 30,),),
    ((None,),),
    ((True,),),
    ((False,),),
    (("a",),),
    ("0",),
    ([0],),
    ((0, None), (0,)),
    (None, None),
    (((),),),
    (((0,),),),
    deep_tuple(1000),
    deep_list(1000),
    deep_row(1000),
    (deep_row(1000),),
    (deep_list(1000), deep_tuple(1000)),
    (0,) * 100000,
    ((0,) * 100000,),
    b"",
    1.5,
    (0.0,),
    ((0.0,),),
    {},
    {0: 1},
]


def assert_bad_values(case, function, names, good, wrong):
    """Each wrong value alone, and with all later arguments wrong, is told by its name.

    good has a right value for each name, wrong a list of wrong values.
    """
    from nodoubt.errors import BadValue, DoubtError

    for at, name in enumerate(names):
        for value in wrong[name]:
            right = [good[each] for each in names[at + 1:]]
            laters = [right, [wrong[each][0] for each in names[at + 1:]]]
            laters.append([wrong[each][-1] for each in names[at + 1:]])
            for later in laters:
                arguments = [good[each] for each in names[:at]] + [value] + later
                with case.assertRaises(BadValue) as caught:
                    function(*arguments)
                case.assertEqual(caught.exception.name, name)
                case.assertIsInstance(caught.exception, DoubtError)
                case.assertIsInstance(caught.exception, ValueError)
