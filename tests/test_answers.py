import contextlib
import io
import unittest

from tests.helper import START, STATE, STATUS, apart, ask, read, say, state, tale, told
from toldtale.tales import NoCall, answers


class Watched(list):
    """A list that tells when it is changed, were it only for a while."""

    def refuse(self, *given):
        raise AssertionError("what is handed in was changed")

    append = clear = extend = insert = pop = remove = reverse = sort = refuse
    __setitem__ = __delitem__ = __iadd__ = __imul__ = refuse


def all_calls():
    return (read("no tale") + read(tale()) + START + STATUS + say("no") + say("Go") + STATE + STATUS + say("go")
            + say("x" * 256) + START + STATE)


class Answers(unittest.TestCase):
    def test_how_many_numbers_ahead_of_each_answer(self):
        self.assertEqual(answers(all_calls()),
                         [1, -71, 1, 0, 1, 0, 1, 0, 1, 0, 5, 2, 103, 111, 110, 101, 25, 1, 1] + [0] * 23
                         + [1, 1, 1, -1, 1, -22, 1, 0, 25, 1] + [0] * 24)

    def test_one_call(self):
        self.assertEqual(answers(read(tale())), [1, 0])
        self.assertEqual(answers(read("")), [1, -71])
        self.assertEqual(answers(read("x" * 29000)), [1, -22])

    def test_a_number_of_no_call(self):
        for number in (-1, 5):
            with self.assertRaises(NoCall):
                answers(read(tale()) + START + [number])

    def test_kinds(self):
        given = answers(all_calls())
        self.assertIs(type(given), list)
        self.assertEqual({type(number) for number in given}, {int})

    def test_calls_are_not_changed(self):
        calls = Watched(all_calls())
        before = list(calls)
        given = answers(calls)
        self.assertEqual(list(calls), before)
        self.assertEqual(given, answers(before))

    def test_what_is_given_back_is_a_list_of_its_own(self):
        calls = all_calls()
        given = answers(calls)
        once = list(given)
        given.clear()
        self.assertEqual(answers(calls), once)

    def test_the_same_twice(self):
        calls = all_calls()
        self.assertEqual(answers(calls), answers(calls))

    def test_nothing_is_kept_for_the_next_time(self):
        walk = 'var a = x y z; when "go" if a is x do a is y say "b"; won if a is z;'
        first = ask(read(walk), START, say("go"), STATE)
        ask(read(tale()), START, say("go"), say("go"), read(""))
        self.assertEqual(ask(read(walk), START, say("go"), STATE), first)
        self.assertEqual(first, [[0], [0], told("b"), state(1)])

    def test_nothing_is_printed(self):
        out, err = io.StringIO(), io.StringIO()
        with contextlib.redirect_stdout(out), contextlib.redirect_stderr(err):
            answers(all_calls())
        self.assertEqual((out.getvalue(), err.getvalue()), ("", ""))


class LargestLists(unittest.TestCase):
    def test_300_calls(self):
        calls = [read(tale()), START] + [say("no"), STATUS, STATE] * 99 + [say("go")]
        self.assertEqual(len(calls), 300)
        self.assertEqual(ask(*calls), [[0], [0]] + [[0], [0], state(0)] * 99 + [told("gone")])

    def test_30000_numbers_and_300_calls(self):
        small = tale(whens='when "go" do a is x say "b";')
        calls = [read(small), START] + [say(" " * 90 + "go")] * 297
        room = 30000 - len(sum(calls, []))
        calls.insert(0, read(" " * (room - 2)))
        self.assertEqual((len(calls), len(sum(calls, []))), (300, 30000))
        self.assertEqual(ask(*calls), [[-71], [0], [0]] + [told("b")] * 297)

    def test_the_longest_text_of_many_words(self):
        names = "var a = x y;" + "var b = p q;"
        sentence = 'when "go" if a is x and b is p do b is p say "b";'
        text = names + sentence * 128 + "won if a is y;"
        text += 'show "' + "s" * 200 + '" if a is x;' + " \n" * 6000
        text = text[:24576]
        given = ask(read(text), START, say("go"), read(text[:5000]), STATE)
        self.assertEqual(given, [[0], [0], told("b\n" + "s" * 200), [-71], state(0, 0)])

    def test_texts_as_long_as_may_be_that_are_no_tales(self):
        for piece in ("a", "a ", '"', '"" ', ";", "=", "\n", "var a = x y;", "won if a is x and ", "and ", '"a'):
            text = (piece * 24576)[:24576]
            self.assertEqual(answers(read(text)), [1, -71], piece)

    def test_a_condition_as_long_as_the_text(self):
        text = 'var a = x y; when "go" say "b"; won if a is x'
        text += " and a is x" * ((24575 - len(text)) // 11) + ";"
        self.assertEqual(answers(read(text)), [1, -71])

    def test_the_longest_lines(self):
        calls = [read(tale()), START] + [say([k % 256] * 400) for k in range(60)] + [say([k] * 255) for k in range(10)]
        self.assertEqual(ask(*calls), [[0], [0]] + [[-22]] * 60 + [[0]] * 10)

    def test_much_is_told_often(self):
        text = tale(whens='when "a" say "' + "b" * 255 + '";', more=('show "' + "s" * 255 + '";') * 64)
        calls = read(text) + START + say("a") * 298
        self.assertEqual(apart(answers(calls))[2:], [told("b" * 255 + ("\n" + "s" * 255) * 64)] * 298)


if __name__ == "__main__":
    unittest.main()
