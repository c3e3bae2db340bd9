"""The examples of the document, word for word."""

import doctest
import unittest

from nodoubt.errors import TextError
from nodoubt.reading import read_expression

EXPRESSIONS = '''
>>> from nodoubt.expressions import is_expression, matches, places, sizes
>>> from nodoubt.simple import greatest_length, least_length, renamed, simple, turned
>>> some = ("join", (("many", "a"), "b", ("or", ("c", "d"))))
>>> matches(some, "aabd"), matches(some, "ab"), places(some), sizes(some)
(True, False, 'abcd', (4, 2, 7))
>>> turned(some), renamed(some, "badc")
(('join', (('or', ('d', 'c')), 'b', ('many', 'a'))), ('join', (('many', 'b'), 'a', ('or', ('d', 'c')))))
>>> simple(("many", ("maybe", ("join", ("a", "")))))
('many', 'a')
>>> simple(("or", ("a", ("maybe", "b"), "", ("join", ("", "a")))))
('or', ('a', ('maybe', 'b')))
>>> least_length(some), greatest_length(some), greatest_length(("join", (("maybe", "a"), ("many", ""))))
(2, None, 1)
>>> is_expression(("join", ("a", ("join", ("b", "c"))))), is_expression(("or", ("a", "a")))
(False, True)
'''

MARKINGS = '''
>>> from nodoubt.markings import accepts_wrong, candidates, count_markings, first_marking, first_places, following, is_marking, last_places
>>> some = ("or", (("many", ("join", ("a", "b"))), "a"))
>>> first_places(some), last_places(some), following(some, 0), following(some, 1), following(some, 2)
((0, 2), (1, 2), (1,), (0,), ())
>>> candidates(some, "aba"), candidates(some, "abb")
([(0, 2), (1,), (0,)], [(0, 2), (1,), ()])
>>> twice = ("many", ("or", (("join", ("a", "a")), "a")))
>>> count_markings(twice, "aaa"), first_marking(twice, "aaa"), is_marking(twice, "aa", (2, 2)), is_marking(twice, "aa", (0, 0))
(3, (0, 1, 2), True, False)
>>> accepts_wrong(some, "ab", ((0, 2), (1,))), accepts_wrong(some, "aba", ((0, 2), (1,), (0,))), accepts_wrong(some, "aba", ((0, 2), (1,), (0, 2)))
(False, True, False)
'''

DOUBTS = '''
>>> from nodoubt.doubts import accepts_doubt, accepts_guide, conflicts, doubt_word, first_doubt, guide, is_sure, places_read
>>> some = ("or", (("many", ("join", ("a", "b"))), "a"))
>>> is_sure(some), conflicts(some), first_doubt(some), doubt_word(some)
(False, [(0, 2)], ((), 0, 2), 'a')
>>> late = ("join", (("or", ("b", "a")), ("or", ("c", ("join", ("c", "a"))))))
>>> first_doubt(late), doubt_word(late), accepts_doubt(late, ((0,), 2, 3)), accepts_doubt(late, ((0,), 3, 2))
(((1,), 2, 3), 'ac', True, False)
>>> clear = ("join", (("many", "a"), "b", ("or", ("c", "d"))))
>>> guide(clear)
((('a', 0), ('b', 1)), ((('a', 0), ('b', 1)), (('c', 2), ('d', 3)), (), ()))
>>> accepts_guide(clear, guide(clear)), guide(some) is None, places_read(clear, "aabda")
(True, True, (0, 0, 1, 3))
'''

AUTOMATA = '''
>>> from nodoubt.automata import automaton_of, count_words, first_words, is_automaton, state_behind
>>> from nodoubt.judging import accepts_automaton, automaton_evidence
>>> again = ("join", (("many", "a"), "a"))
>>> automaton_of(again), first_words(again)
(((False, True), ((0, 'a', 1), (1, 'a', 1))), ('', 'a'))
>>> ends = ("join", (("many", ("or", ("a", "b"))), "a"))
>>> automaton_of(ends)
((False, True), ((0, 'a', 1), (0, 'b', 0), (1, 'a', 1), (1, 'b', 0)))
>>> state_behind(ends, "abb"), state_behind(again, "ab") is None, count_words(ends, 5), count_words(again, 0)
(0, True, 16, 0)
>>> accepts_automaton(ends, automaton_of(ends), automaton_evidence(ends))
True
>>> accepts_automaton(again, automaton_of(again), (((1, (0, 1)),), ((0, 1, ""),)))
True
>>> accepts_automaton("a", ((False, True), ((0, "a", 1),)), (((1, (0,)),), ((0, 1, "a"),)))
True
>>> accepts_automaton("a", ((False, True), ((0, "a", 1),)), (((1, (0,)),), ())), is_automaton(((True,), ((0, "a", 1),)))
(False, False)
'''

LISTING = '''
>>> from nodoubt.comparing import accepts_equal, accepts_included, accepts_telling, are_equal, is_included, telling_word, told_relation
>>> from nodoubt.listing import count_up_to, nth_word, number_of, words_from
>>> even = ("many", ("join", ("a", "b")))
>>> odd = ("join", (even, ("maybe", "a")))
>>> is_included(even, odd), are_equal(even, odd), telling_word(even, odd)
(True, False, 'a')
>>> told_relation(even, odd), accepts_included(even, odd, told_relation(even, odd)), accepts_equal(even, odd, told_relation(even, odd))
(((-1, -1), (0, 0), (1, 1)), True, False)
>>> accepts_telling(even, odd, "aba"), accepts_telling(even, odd, "abab")
(True, False)
>>> count_up_to(odd, 4), nth_word(odd, 3), number_of(even, "abab"), number_of(even, "aba") is None
(5, 'aba', 2, True)
>>> words_from(odd, 2, 3), nth_word("a", 1), words_from("a", 0, 5)
(['ab', 'aba', 'abab'], None, ['a'])
'''

ORBITS = '''
>>> from nodoubt.orbits import consistent, cut, exits, gates, goes_round, orbits, reached, system_of, unlike_gates
>>> system = system_of(((False, True), ((0, "a", 1), (0, "b", 0), (1, "a", 1), (1, "b", 0))))
>>> system, orbits(system), consistent(system)
(((0, 1), ((0, 'a', 1), (0, 'b', 0), (1, 'a', 1), (1, 'b', 0)), (1,)), [(0, 1)], (('a', 1), ('b', 0)))
>>> cut(system), orbits(cut(system)), reached(cut(system), 0)
(((0, 1), ((0, 'a', 1), (0, 'b', 0)), (1,)), [(0,), (1,)], (0, 1))
>>> goes_round(cut(system), 0), goes_round(cut(system), 1), gates(cut(system), 0), exits(cut(system), 0)
(True, False, (0,), (('a', 1),))
>>> other = ((0, 1, 2), ((0, "a", 1), (0, "c", 2), (1, "b", 0), (1, "d", 2)), (2,))
>>> orbits(other), gates(other, 1), unlike_gates(other), unlike_gates(system)
([(0, 1), (2,)], (0, 1), (0, 1), None)
'''

INWARD = '''
>>> from nodoubt.inward import accepts_reason, behind, first_reason, inward, is_path, is_smooth, is_stuck, simple_paths
>>> smooth = ((0, 1), ((0, "a", 1), (0, "b", 0), (1, "a", 1), (1, "b", 0)), (1,))
>>> inward(smooth, 0), is_smooth(smooth), simple_paths(smooth), is_path(smooth, (1,))
(((0,), ((0, 'b', 0),), (0,)), True, [(), (0,)], False)
>>> stuck = ((0, 1), ((0, "a", 1), (1, "b", 0)), (0, 1))
>>> is_stuck(stuck), first_reason(stuck), behind(stuck, (1,)) == stuck, simple_paths(stuck)
(True, ((), ('stuck',)), True, [()])
>>> deeper = ((0, 1, 2), ((0, "d", 1), (1, "a", 2), (2, "b", 1)), (1, 2))
>>> first_reason(deeper), accepts_reason(deeper, ((2,), ("stuck",))), accepts_reason(deeper, ((), ("stuck",)))
(((1,), ('stuck',)), True, False)
>>> doors = ((0, 1, 2), ((0, "a", 1), (0, "c", 2), (1, "b", 0), (1, "d", 2)), (2,))
>>> first_reason(doors), accepts_reason(doors, ((), ("gates", 1, 0))), accepts_reason(doors, ((), ("gates", 0, 2)))
(((), ('gates', 0, 1)), True, False)
'''

MAKING = '''
>>> from nodoubt.making import count_made, made, made_behind
>>> ends = ("join", (("many", ("or", ("a", "b"))), "a"))
>>> made(ends)
('join', (('many', 'b'), 'a', ('many', ('or', ('a', ('join', ('b', ('many', 'b'), 'a')))))))
>>> count_made(ends), made_behind(ends, "a")
(6, ('many', ('or', ('a', ('join', ('b', ('many', 'b'), 'a'))))))
>>> made(("join", (("many", ("join", ("a", "b"))), ("maybe", "a")))), made_behind(ends, "c"), made_behind("a", "a")
(None, None, '')
>>> made(("or", ("a", ("join", ("a", "a"))))), made(("join", (("maybe", "a"), "b")))
(('join', ('a', ('maybe', 'a'))), ('or', (('join', ('a', 'b')), 'b')))
'''

CERTIFICATES = '''
>>> from nodoubt.certificates import accepts, can_be_sure, certificate, shortest_never
>>> pairs = ("join", (("many", ("join", ("a", "b"))), ("maybe", "a")))
>>> ends = ("join", (("many", ("or", ("a", "b"))), "a"))
>>> certificate(pairs), can_be_sure(pairs), can_be_sure(ends)
(('never', ((), ('stuck',))), False, True)
>>> accepts(ends, ("sure", ("join", (("many", "b"), "a", ("many", ("join", (("many", "b"), "a")))))))
True
>>> accepts(ends, ("sure", ends)), accepts(ends, ("sure", ("many", "a"))), accepts(pairs, ("never", ((1, 0), ("stuck",))))
(False, False, True)
>>> shortest_never(("join", ("d", ("many", ("join", ("a", "b"))), ("maybe", "a")))), shortest_never(ends)
(('never', ((1,), ('stuck',))), None)
'''

CHOICES = '''
>>> from nodoubt.choices import accepts_round, parts_conflicts, smallest_choice, told_round
>>> from nodoubt.colors import accepts_colors, color_grounds, color_number, greatest_crowd, separates, told_coloring
>>> three = ("many", ("join", (("maybe", "a"), ("maybe", "a"), ("maybe", "a"))))
>>> color_number(three), told_coloring(three), greatest_crowd(three), told_round(three)
(3, (0, 1, 2), (0, 1, 2), (0, 1, 2))
>>> two = ("or", (("join", ("a", "b")), ("join", ("a", "c")), "b"))
>>> color_number(two), told_coloring(two), smallest_choice(two), parts_conflicts(two, (2,)), smallest_choice(three) is None
(2, (0, 0, 1, 0, 0), (0,), True, True)
>>> separates(two, (3, 0, 4, 0, 0)), separates(two, (1, 0, 1, 0, 0)), accepts_round(three, (1, 2, 0)), accepts_round(two, (0, 2, 0))
(True, False, True, False)
>>> color_grounds(two), accepts_colors(three, 2, ((0, 1, 0), (0, 1)))
(((0, 0, 1, 0, 0), (0, 2)), False)
'''

READING = '''
>>> from nodoubt.reading import next_tokens, read_expression, read_word
>>> from nodoubt.writing import expression_text, word_text
>>> read_expression("a*b(c|d)?")
('join', (('many', 'a'), 'b', ('maybe', ('or', ('c', 'd')))))
>>> read_expression("((a)b)c|.|(d|a)"), read_word("abba"), read_word(".")
(('or', (('join', ('a', 'b', 'c')), '', 'd', 'a')), 'abba', '')
>>> expression_text(("many", ("join", ("a", ("or", ("b", "")))))), word_text("")
('(a(b|.))*', '.')
>>> next_tokens("(a", "expression"), next_tokens("a|", "expression"), next_tokens("", "word")
(['a letter', '"("', '")"', '"|"', '"?"', '"*"', '"."'], ['a letter', '"("', '"."'], ['a letter', '"."'])
'''

# The document tells in words what the last call raises.
READING_WRONG = '''
>>> from nodoubt.reading import read_expression
>>> read_expression("abcd abcd a")
Traceback (most recent call last):
nodoubt.errors.TextError: column 11: there are at most 8 letters
'''

JOURNALS = '''
>>> from nodoubt.journals import are_right, replayed
>>> from nodoubt.reader import Reader
>>> reader = Reader(("join", (("many", "a"), "b", ("or", ("c", "d")))))
>>> reader.may_follow(), reader.may_end(), reader.first_rest()
('ab', False, 'bc')
>>> reader.act(("read", "a")), reader.act(("read", "a")), reader.act(("read", "b")), reader.places(), reader.may_follow()
(1, 2, 3, (0, 0, 1), 'cd')
>>> reader.act(("read", "d")), reader.word(), reader.may_end(), reader.may_follow(), reader.act(("back",)), reader.word()
(4, 'aabd', True, '', 5, 'aab')
>>> are_right(("many", "a"), ((("read", "a"), 0, "aa"), (("back",), None, ""))), are_right(("many", "a"), ((("read", "a"), 0, "b"),))
(True, False)
>>> reader.undo(), reader.word(), replayed(("many", "a"), (("read", "a"), ("read", "a"))).places()
(('back',), 'aabd', (0, 0))
'''

POINT_18 = '''
>>> from nodoubt.expressions import matches, places, sizes
>>> some = ("join", (("many", "a"), "b", ("or", ("c", "d"))))
>>> places(some), sizes(some)[:2]
('abcd', (4, 2))
>>> matches(some, "bc"), matches(some, "aabd"), matches(some, "ab")
(True, True, False)
'''

POINT_29 = '''
>>> from nodoubt.expressions import places
>>> from nodoubt.markings import first_places, following, last_places
>>> some = ("or", (("many", ("join", ("a", "b"))), "a"))
>>> places(some)
'aba'
>>> first_places(some), last_places(some)
((0, 2), (1, 2))
>>> following(some, 0), following(some, 1)
((1,), (0,))
'''

POINT_40 = '''
>>> from nodoubt.doubts import conflicts, doubt_word, first_doubt, is_sure
>>> conflicts(("or", (("many", ("join", ("a", "b"))), "a")))
[(0, 2)]
>>> doubt_word(("or", (("many", ("join", ("a", "b"))), "a")))
'a'
>>> is_sure(("join", (("many", "a"), "b", ("or", ("c", "d")))))
True
'''

POINT_51 = '''
>>> from nodoubt.automata import automaton_of, first_words
>>> again = ("join", (("many", "a"), "a"))
>>> automaton_of(again)[0]
(False, True)
>>> first_words(again)
('', 'a')
'''

POINT_61 = '''
>>> from nodoubt.comparing import accepts_telling, telling_word
>>> even = ("many", ("join", ("a", "b")))
>>> telling_word(("join", (even, ("maybe", "a"))), even)
'a'
>>> accepts_telling(("join", (even, ("maybe", "a"))), even, "a")
True
'''

POINT_72 = '''
>>> from nodoubt.automata import automaton_of
>>> from nodoubt.orbits import consistent, cut, goes_round, orbits, system_of
>>> system = system_of(automaton_of(("join", (("many", ("or", ("a", "b"))), "a"))))
>>> system
((0, 1), ((0, 'a', 1), (0, 'b', 0), (1, 'a', 1), (1, 'b', 0)), (1,))
>>> consistent(system), cut(system)[1]
((('a', 1), ('b', 0)), ((0, 'a', 1), (0, 'b', 0)))
>>> orbits(cut(system)), goes_round(cut(system), 0), goes_round(cut(system), 1)
([(0,), (1,)], True, False)
'''

POINT_83 = '''
>>> from nodoubt.automata import automaton_of
>>> from nodoubt.inward import is_stuck
>>> from nodoubt.orbits import consistent, system_of
>>> system = system_of(automaton_of(("join", (("many", ("join", ("a", "b"))), ("maybe", "a")))))
>>> system
((0, 1), ((0, 'a', 1), (1, 'b', 0)), (0, 1))
>>> consistent(system), is_stuck(system)
((), True)
'''

POINT_93 = '''
>>> from nodoubt.doubts import is_sure
>>> from nodoubt.making import made
>>> is_sure(("join", (("many", ("or", ("a", "b"))), "a")))
False
>>> made(("join", (("many", ("or", ("a", "b"))), "a")))
('join', (('many', 'b'), 'a', ('many', ('or', ('a', ('join', ('b', ('many', 'b'), 'a')))))))
'''


POINT_104 = '''
>>> from nodoubt.automata import automaton_of
>>> from nodoubt.certificates import can_be_sure, certificate
>>> from nodoubt.orbits import consistent, goes_round, orbits, system_of
>>> pairs = ("join", (("many", ("join", ("a", "b"))), ("maybe", "a")))
>>> system = system_of(automaton_of(pairs))
>>> orbits(system), goes_round(system, 0), system[2], consistent(system)
([(0, 1)], True, (0, 1), ())
>>> can_be_sure(pairs), certificate(pairs)
(False, ('never', ((), ('stuck',))))
'''

POINT_114 = '''
>>> from nodoubt.colors import color_number, greatest_crowd
>>> from nodoubt.doubts import conflicts
>>> three = ("many", ("join", (("maybe", "a"), ("maybe", "a"), ("maybe", "a"))))
>>> conflicts(three)
[(0, 1), (0, 2), (1, 2)]
>>> color_number(three), greatest_crowd(three)
(3, (0, 1, 2))
'''


POINT_125 = '''
>>> from nodoubt.reading import read_expression
>>> read_expression("a*b(c|d)?")
('join', (('many', 'a'), 'b', ('maybe', ('or', ('c', 'd')))))
>>> from nodoubt.writing import expression_text
>>> expression_text(('join', (('many', 'a'), 'b', ('maybe', ('or', ('c', 'd'))))))
'a*b(c|d)?'
'''

POINT_136 = '''
>>> from nodoubt.journals import replayed
>>> from nodoubt.reading import read_expression
>>> reader = replayed(read_expression("a*b(c|d)"), (("read", "a"), ("read", "a"), ("read", "b")))
>>> reader.word(), reader.may_follow(), reader.may_end()
('aab', 'cd', False)
'''


class Examples(unittest.TestCase):
    def check(self, name, text):
        example = doctest.DocTestParser().get_doctest(text, {}, name, None, None)
        runner = doctest.DocTestRunner()
        result = runner.run(example)
        self.assertEqual((result.failed, result.attempted > 1), (0, True))

    def test_expressions(self):
        self.check("expressions", EXPRESSIONS)

    def test_markings(self):
        self.check("markings", MARKINGS)

    def test_point_18(self):
        self.check("point 18", POINT_18)

    def test_point_29(self):
        self.check("point 29", POINT_29)

    def test_doubts(self):
        self.check("doubts", DOUBTS)

    def test_automata(self):
        self.check("automata", AUTOMATA)

    def test_comparing_and_listing(self):
        self.check("comparing and listing", LISTING)

    def test_orbits(self):
        self.check("orbits", ORBITS)

    def test_inward(self):
        self.check("inward", INWARD)

    def test_making(self):
        self.check("making", MAKING)

    def test_point_40(self):
        self.check("point 40", POINT_40)

    def test_point_51(self):
        self.check("point 51", POINT_51)

    def test_point_61(self):
        self.check("point 61", POINT_61)

    def test_point_72(self):
        self.check("point 72", POINT_72)

    def test_point_83(self):
        self.check("point 83", POINT_83)

    def test_point_93(self):
        self.check("point 93", POINT_93)

    def test_certificates(self):
        self.check("certificates", CERTIFICATES)

    def test_colors_and_choices(self):
        self.check("colors and choices", CHOICES)

    def test_point_104(self):
        self.check("point 104", POINT_104)

    def test_point_114(self):
        self.check("point 114", POINT_114)

    def test_reading_and_writing(self):
        self.check("reading and writing", READING)
        self.check("reading what is wrong", READING_WRONG)

    def test_the_error_of_the_last_example(self):
        with self.assertRaises(TextError) as caught:
            read_expression("abcd abcd a")
        self.assertEqual((caught.exception.column, caught.exception.words), (11, "there are at most 8 letters"))

    def test_readers_and_journals(self):
        self.check("readers and journals", JOURNALS)

    def test_point_125(self):
        self.check("point 125", POINT_125)

    def test_point_136(self):
        self.check("point 136", POINT_136)
