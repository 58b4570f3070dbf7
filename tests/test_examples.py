"""The examples of the interface, as they stand in the document."""

import doctest
import unittest

OFFICE = """
>>> from letterheld.office import Office
>>> ash = Office("ash")
>>> ash.create(40)
'ash-1'
>>> ash.give("ash-1", "bay")
[('deed', 'ash', 'bay', 'ash-1', 'ash', 40, 2)]
>>> bay = Office("bay")
>>> bay.receive(('deed', 'ash', 'bay', 'ash-1', 'ash', 40, 2))
[('receipt', 'bay', 'ash', 'ash-1', 2)]
>>> bay.entry("ash-1")
('ash-1', 'ash', 40, 2, 'held', None, False)
>>> bay.journal()
'got ash-1 ash 40 2 ash\\n'
"""
SESSION = """
>>> from letterheld.session import Session
>>> session = Session(["ash", "bay"])
>>> session.run("register ash 40")
['ash-1']
>>> session.run("give ash ash-1 bay")
['ok']
>>> session.run("deliver 0")
['deed ash bay ash-1 ash 40 2']
>>> session.run("holders")
['ash-1 held bay 2']
"""


class ExamplesTest(unittest.TestCase):
    def check(self, text, many):
        test = doctest.DocTestParser().get_doctest(text, {}, "example", None, 0)
        failed, tried = doctest.DocTestRunner().run(test)
        self.assertEqual((failed, tried), (0, many))

    def test_office(self):
        self.check(OFFICE, 8)

    def test_session(self):
        self.check(SESSION, 6)


if __name__ == "__main__":
    unittest.main()
