"""The examples of the document, word for word."""

import doctest
import unittest

EXPRESSIONS = '''
>>> from nodoubt.expressions import is_expression, matches, places, sizes
>>> from nodoubt.simple import greatest_length, least_length, renamed, simple, turned
>>> some = ("join", (("many", "a"), "b", ("or", ("c", "d"))))
>>> matches(some, "aabd"), matches(some, "ab"), places(some), sizes(some)
(True, False, 'abcd', (4, 2, 7))
>>> turned(some), renamed(some, "badc")
(('join', (('or', ('d', 'c')), 'b', ('many', 'a'))), ('join', (('many', 'b'), 'a', ('or', ('d', 'c')))))
>>> simple(("many", ("maybe", ("join", ("a", "")))))
('many', 'a')
>>> simple(("or", ("a", ("maybe", "b"), "", ("join", ("", "a")))))
('or', ('a', ('maybe', 'b')))
>>> least_length(some), greatest_length(some), greatest_length(("join", (("maybe", "a"), ("many", ""))))
(2, None, 1)
>>> is_expression(("join", ("a", ("join", ("b", "c"))))), is_expression(("or", ("a", "a")))
(False, True)
'''

MARKINGS = '''
>>> from nodoubt.markings import accepts_wrong, candidates, count_markings, first_marking, first_places, following, is_marking, last_places
>>> some = ("or", (("many", ("join", ("a", "b"))), "a"))
>>> first_places(some), last_places(some), following(some, 0), following(some, 1), following(some, 2)
((0, 2), (1, 2), (1,), (0,), ())
>>> candidates(some, "aba"), candidates(some, "abb")
([(0, 2), (1,), (0,)], [(0, 2), (1,), ()])
>>> twice = ("many", ("or", (("join", ("a", "a")), "a")))
>>> count_markings(twice, "aaa"), first_marking(twice, "aaa"), is_marking(twice, "aa", (2, 2)), is_marking(twice, "aa", (0, 0))
(3, (0, 1, 2), True, False)
>>> accepts_wrong(some, "ab", ((0, 2), (1,))), accepts_wrong(some, "aba", ((0, 2), (1,), (0,))), accepts_wrong(some, "aba", ((0, 2), (1,), (0, 2)))
(False, True, False)
'''

POINT_18 = '''
>>> from nodoubt.expressions import matches, places, sizes
>>> some = ("join", (("many", "a"), "b", ("or", ("c", "d"))))
>>> places(some), sizes(some)[:2]
('abcd', (4, 2))
>>> matches(some, "bc"), matches(some, "aabd"), matches(some, "ab")
(True, True, False)
'''

POINT_29 = '''
>>> from nodoubt.expressions import places
>>> from nodoubt.markings import first_places, following, last_places
>>> some = ("or", (("many", ("join", ("a", "b"))), "a"))
>>> places(some)
'aba'
>>> first_places(some), last_places(some)
((0, 2), (1, 2))
>>> following(some, 0), following(some, 1)
((1,), (0,))
'''


class Examples(unittest.TestCase):
    def check(self, name, text):
        example = doctest.DocTestParser().get_doctest(text, {}, name, None, None)
        runner = doctest.DocTestRunner()
        result = runner.run(example)
        self.assertEqual((result.failed, result.attempted > 1), (0, True))

    def test_expressions(self):
        self.check("expressions", EXPRESSIONS)

    def test_markings(self):
        self.check("markings", MARKINGS)

    def test_point_18(self):
        self.check("point 18", POINT_18)

    def test_point_29(self):
        self.check("point 29", POINT_29)
