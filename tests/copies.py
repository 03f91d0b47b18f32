"""Point 2 for any calls: what the tests of several files share."""

import copy

from meetonce.books import Book
from meetonce.intervals import Interval
from meetonce.nets import Net
from tests.samples import deep_list, deep_tuple, spoil


def facts(answer):
    """What an answer tells, without objects in it."""
    if isinstance(answer, Net):
        return ("net", answer.widths, answer.roads, answer.size, answer.pairs, list(answer))
    if isinstance(answer, Book):
        return ("book", facts(answer.net), answer.routes, list(answer), answer.next_table())
    if isinstance(answer, Interval):
        return ("interval", facts(answer.lower), facts(answer.upper), answer.sure_routes(), answer.single())
    return copy.deepcopy(answer)


class CopiesTests:
    """Tests for a `GuideCase` with a method `calls`.

    It returns functions with their arguments, new each time; what is a list holds lists wherever it can.
    """

    def test_lists_and_tuples_count_the_same(self):
        for call, *values in self.calls():
            with self.subTest(call.__name__):
                answer = facts(call(*values))
                for change in (deep_tuple, deep_list, tuple):
                    changed = [change(value) if isinstance(value, list) else value for value in values]
                    self.same(answer, facts(call(*changed)))

    def test_arguments_stay_as_they_were_and_may_be_changed(self):
        for call, *values in self.calls():
            with self.subTest(call.__name__):
                lists = [value for value in values if isinstance(value, list)]
                objects = [facts(value) for value in values if not isinstance(value, list)]
                inner = [list(value) for value in lists]
                before = repr(lists)
                answer = call(*values)
                told = facts(answer)
                self.assertEqual(before, repr(lists))
                self.assertTrue(inner == lists)
                self.same(objects, [facts(value) for value in values if not isinstance(value, list)])
                for value in lists:
                    spoil(value)
                self.same(told, facts(answer))

    def test_answers_may_be_changed(self):
        for (call, *values), (again, *others) in zip(self.calls(), self.calls()):
            with self.subTest(call.__name__):
                answer = call(*values)
                told = facts(answer)
                if isinstance(answer, (list, tuple)):
                    spoil(answer)
                self.same(told, facts(call(*values)))
                self.same(told, facts(again(*others)))
