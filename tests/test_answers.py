import contextlib
import io
import random
import unittest

from tests.helper import (CELLAR, LOOK, START, STATE, STATUS, apart, ask, best, read, read_ahead, say, state, stuck,
                          stuck_one, tale, told)
from toldtale.tales import NoCall, answers


class Watched(list):
    """A list that tells when it is changed, were it only for a while."""

    def refuse(self, *given):
        raise AssertionError("what is handed in was changed")

    append = clear = extend = insert = pop = remove = reverse = sort = refuse
    __setitem__ = __delitem__ = __iadd__ = __imul__ = refuse


# Who takes the wrong way at first is stuck.
FORK = ('var a = x y z; when "wrong" if a is x do a is z say ""; when "go" if a is x do a is y say "b"; won if a is y;')


def all_calls():
    return (read("no tale") + read(tale()) + START + STATUS + say("no") + say("Go") + STATE + STATUS + say("go")
            + say("x" * 256) + START + STATE)


def calls_ahead():
    return (read_ahead("no tale") + read_ahead(FORK) + best() + best(1) + best(2) + best(3) + LOOK + stuck(0)
            + stuck(1) + stuck(4294967295) + read_ahead("x" * 24577) + LOOK)


class Answers(unittest.TestCase):
    def test_how_many_numbers_ahead_of_each_answer(self):
        self.assertEqual(answers(all_calls()),
                         [1, -71, 1, 0, 1, 0, 1, 0, 1, 0, 5, 2, 103, 111, 110, 101, 25, 1, 1] + [0] * 23
                         + [1, 1, 1, -1, 1, -22, 1, 0, 25, 1] + [0] * 24)

    def test_how_many_numbers_ahead_of_each_answer_of_part_2(self):
        self.assertEqual(answers(calls_ahead()),
                         [1, -71, 1, 0, 2, 1, 1, 1, 0, 1, -1, 1, -2, 5, 0, 3, 1, 0, 1, 25, 0, 2] + [0] * 23
                         + [1, -2, 1, -2, 1, -22, 5, 0, 3, 1, 0, 1])

    def test_one_call(self):
        self.assertEqual(answers(read(tale())), [1, 0])
        self.assertEqual(answers(read("")), [1, -71])
        self.assertEqual(answers(read("x" * 29000)), [1, -22])
        self.assertEqual(answers(read_ahead(tale())), [1, 0])
        self.assertEqual(answers(read_ahead("")), [1, -71])
        self.assertEqual(answers(read_ahead("x" * 29000)), [1, -22])

    def test_a_number_of_no_call(self):
        for number in (-1, 5, 9, 14):
            with self.assertRaises(NoCall):
                answers(read(tale()) + START + read_ahead(tale()) + [number])

    def test_kinds(self):
        given = answers(all_calls() + calls_ahead())
        self.assertIs(type(given), list)
        self.assertEqual({type(number) for number in given}, {int})

    def test_calls_are_not_changed(self):
        calls = Watched(all_calls() + calls_ahead())
        before = list(calls)
        given = answers(calls)
        self.assertEqual(list(calls), before)
        self.assertEqual(given, answers(before))

    def test_what_is_given_back_is_a_list_of_its_own(self):
        calls = all_calls() + calls_ahead()
        given = answers(calls)
        once = list(given)
        given.clear()
        self.assertEqual(answers(calls), once)

    def test_the_same_twice(self):
        calls = all_calls() + calls_ahead()
        self.assertEqual(answers(calls), answers(calls))

    def test_nothing_is_kept_for_the_next_time(self):
        walk = 'var a = x y z; when "go" if a is x do a is y say "b"; won if a is z;'
        first = ask(read(walk), START, say("go"), STATE)
        ask(read(tale()), START, say("go"), say("go"), read(""))
        self.assertEqual(ask(read(walk), START, say("go"), STATE), first)
        self.assertEqual(first, [[0], [0], told("b"), state(1)])

    def test_nothing_of_part_2_is_kept_for_the_next_time(self):
        first = ask(read_ahead(FORK), LOOK, best(), stuck(0))
        ask(read_ahead(CELLAR), LOOK, read_ahead(""), best(1))
        self.assertEqual(ask(read_ahead(FORK), LOOK, best(), stuck(0)), first)
        self.assertEqual(first, [[0], [0, 3, 1, 0, 1], [1, 1], stuck_one(2)])

    def test_nothing_is_printed(self):
        out, err = io.StringIO(), io.StringIO()
        with contextlib.redirect_stdout(out), contextlib.redirect_stderr(err):
            answers(all_calls() + calls_ahead())
        self.assertEqual((out.getvalue(), err.getvalue()), ("", ""))


class BothParts(unittest.TestCase):
    PLAY = [read("no tale"), read(CELLAR), START, say("light lamp"), STATE, say("go down"), STATUS, read(""), STATE,
            say("take key"), START, STATE, read(tale()), START, say("go"), STATUS, STATE]
    AHEAD = [read_ahead(""), read_ahead(FORK), best(), best(2), LOOK, stuck(0), read_ahead("x"), LOOK, stuck(1),
             best(0, 1), read_ahead(CELLAR), LOOK, best(0, 1), stuck(0), best(1, 0, 0), best(2, 1, 1), LOOK]

    def check_mixed(self, order):
        """Order tells, call by call, whether the next is one of Part 1."""
        play, ahead = ask(*self.PLAY), ask(*self.AHEAD)
        calls = {True: list(self.PLAY), False: list(self.AHEAD)}
        expected = {True: list(play), False: list(ahead)}
        given = ask(*[calls[part].pop(0) for part in order])
        self.assertEqual(given, [expected[part].pop(0) for part in order])

    def test_apart(self):
        self.assertEqual(ask(*self.PLAY)[-5:], [[0], [0], told("gone"), [1], state(1)])
        self.assertEqual(ask(*self.AHEAD), [[-71], [0], [1, 1], [-1], [0, 3, 1, 0, 1], stuck_one(2), [-71],
                                            [0, 3, 1, 0, 1], [-2], [-2], [0], [1, 7, 1, 1, 0], [4, 1], [-2], [-1], [0],
                                            [1, 7, 1, 1, 0]])

    def test_one_behind_another(self):
        self.check_mixed([True] * 17 + [False] * 17)
        self.check_mixed([False] * 17 + [True] * 17)

    def test_in_turns(self):
        self.check_mixed([True, False] * 17)
        self.check_mixed([False, True] * 17)

    def test_in_many_orders(self):
        for seed in range(30):
            order = [True] * 17 + [False] * 17
            random.Random(seed).shuffle(order)
            self.check_mixed(order)

    def test_a_read_of_one_part_is_none_of_the_other(self):
        given = ask(read(CELLAR), START, say("light lamp"), read_ahead(FORK), STATE, say("go"), best(), STATE,
                    read_ahead(tale()), STATE, read(FORK), START, LOOK, say("wrong"), LOOK, STATE, stuck(0))
        self.assertEqual(given[3:], [[0], state(0, 1, 0), [0], [1, 1], state(0, 1, 0), [0], state(0, 1, 0), [0], [0],
                                     [1, 2, 1, 0, 0], [2], [1, 2, 1, 0, 0], state(2), [-2]])

    def test_where_a_call_ends(self):
        """Numbers within a call that would be calls of their own."""
        given = ask(read_ahead(FORK), stuck(13), stuck(0), stuck(12), LOOK, best(*[12] * 24), best(*[13] * 24), stuck(10),
                    read_ahead([10, 12, 13]), stuck(11), LOOK)
        self.assertEqual(given, [[0], [-2], stuck_one(2), [-2], [0, 3, 1, 0, 1], [-2], [-2], [-2], [-71], [-2],
                                 [0, 3, 1, 0, 1]])


class LargestLists(unittest.TestCase):
    def test_300_calls(self):
        calls = [read(tale()), START] + [say("no"), STATUS, STATE] * 99 + [say("go")]
        self.assertEqual(len(calls), 300)
        self.assertEqual(ask(*calls), [[0], [0]] + [[0], [0], state(0)] * 99 + [told("gone")])

    def test_30000_numbers_and_300_calls(self):
        small = tale(whens='when "go" do a is x say "b";')
        calls = [read(small), START] + [say(" " * 90 + "go")] * 297
        room = 30000 - len(sum(calls, []))
        calls.insert(0, read(" " * (room - 2)))
        self.assertEqual((len(calls), len(sum(calls, []))), (300, 30000))
        self.assertEqual(ask(*calls), [[-71], [0], [0]] + [told("b")] * 297)

    def test_300_calls_of_part_2(self):
        calls = [read_ahead(FORK)] + [best(), best(2), LOOK] * 99 + [stuck(0), stuck(1)]
        self.assertEqual(len(calls), 300)
        self.assertEqual(ask(*calls), [[0]] + [[1, 1], [-1], [0, 3, 1, 0, 1]] * 99 + [stuck_one(2), [-2]])

    def test_many_turns_between_many_states(self):
        values = " ".join(f"x{k}" for k in range(16))
        text = "".join(f"var v{var}={values};" for var in range(4))
        text += "".join(f'when"{name}{var} {k}"do v{var} is x{k} say"";'
                        for name in "ab" for var in range(4) for k in range(16))
        text += "won if v0 is x15 and v1 is x15 and v2 is x15 and v3 is x15;"
        self.assertEqual(ask(read_ahead(text), LOOK, best(), best(15, 14, 15), best(15, 15, 15, 14)),
                         [[0], [1, 65536, 1, 0, 0], [4, 15], [2, 31], [1, 63]])

    def test_a_way_as_long_as_there_are_states(self):
        """A count of four signs, which a turn makes one higher: nothing may be nested so deep."""
        values = " ".join(f"x{k}" for k in range(16))
        text = "".join(f"var v{var}={values};" for var in range(4))
        for var in range(4):
            full = "".join(f" and v{low} is x15" for low in range(var))
            none = "".join(f" and v{low} is x0" for low in range(var))
            text += "".join(f'when"n"if v{var} is x{k}{full} do v{var} is x{k + 1}{none} say"";' for k in range(15))
        text += "won if v0 is x15 and v1 is x15 and v2 is x15 and v3 is x15;"
        self.assertEqual(ask(read_ahead(text), LOOK, best(), best(15, 15, 15, 14), best(14, 15, 15, 15)),
                         [[0], [1, 65536, 1, 0, 0], [65535, 0], [4096, 59], [1, 14]])

    def test_the_longest_text_of_many_words(self):
        names = "var a = x y;" + "var b = p q;"
        sentence = 'when "go" if a is x and b is p do b is p say "b";'
        text = names + sentence * 128 + "won if a is y;"
        text += 'show "' + "s" * 200 + '" if a is x;' + " \n" * 6000
        text = text[:24576]
        given = ask(read(text), START, say("go"), read(text[:5000]), STATE)
        self.assertEqual(given, [[0], [0], told("b\n" + "s" * 200), [-71], state(0, 0)])

    def test_texts_as_long_as_may_be_that_are_no_tales(self):
        for piece in ("a", "a ", '"', '"" ', ";", "=", "\n", "var a = x y;", "won if a is x and ", "and ", '"a'):
            text = (piece * 24576)[:24576]
            self.assertEqual(answers(read(text)), [1, -71], piece)

    def test_a_condition_as_long_as_the_text(self):
        text = 'var a = x y; when "go" say "b"; won if a is x'
        text += " and a is x" * ((24575 - len(text)) // 11) + ";"
        self.assertEqual(answers(read(text)), [1, -71])

    def test_the_longest_lines(self):
        calls = [read(tale()), START] + [say([k % 256] * 400) for k in range(60)] + [say([k] * 255) for k in range(10)]
        self.assertEqual(ask(*calls), [[0], [0]] + [[-22]] * 60 + [[0]] * 10)

    def test_much_is_told_often(self):
        text = tale(whens='when "a" say "' + "b" * 255 + '";', more=('show "' + "s" * 255 + '";') * 64)
        calls = read(text) + START + say("a") * 298
        self.assertEqual(apart(answers(calls))[2:], [told("b" * 255 + ("\n" + "s" * 255) * 64)] * 298)


if __name__ == "__main__":
    unittest.main()
