"""Points 1, 8 and 9: what a dealing has looked at, and its place in the row."""

import unittest

from keptrow.errors import Late, Over, Taken
from keptrow.shelf import Shelf
from helpers import Case, put


class Looking(Case):
    """Whether one has looked at a name shows in its place: a later one that writes it stands behind."""

    def assert_looked(self, do, name, wanted):
        """Do something with a dealing, keep it, then keep an older one that wrote the name, which
        looks at a name that the first one wrote: if the first one looked, there is no place for it."""
        shelf = Shelf()
        put(shelf, k=1)
        older = shelf.begin()
        number = shelf.begin()
        shelf.write(number, "mark", 1)
        do(shelf, number)
        shelf.read(older, "mark")
        shelf.keep(number)
        shelf.write(older, name, 5)
        if wanted:
            self.assert_crossed(shelf, older)
        else:
            self.assert_same(shelf.keep(older), shelf.order().index(number) - 1)

    def test_nothing_read(self):
        self.assert_looked(lambda shelf, number: None, "a", False)

    def test_a_name_read_while_none_of_its_own_writes_stood(self):
        self.assert_looked(lambda shelf, number: shelf.read(number, "a"), "a", True)
        self.assert_looked(lambda shelf, number: shelf.read(number, "k"), "k", True)
        self.assert_looked(lambda shelf, number: shelf.read(number, "ab"), "a", False)
        self.assert_looked(lambda shelf, number: shelf.read(number, "a"), "ab", False)

    def test_a_name_read_behind_its_own_write(self):
        def do(shelf, number):
            shelf.write(number, "a", 1)
            shelf.read(number, "a")
            shelf.back(number, 1)

        self.assert_looked(do, "a", False)

    def test_a_name_read_behind_its_own_none(self):
        def do(shelf, number):
            shelf.write(number, "a", None)
            shelf.read(number, "a")
            shelf.back(number, 1)

        self.assert_looked(do, "a", False)

    def test_a_name_read_behind_a_write_that_was_taken_back(self):
        def do(shelf, number):
            shelf.write(number, "a", 1)
            shelf.back(number, 1)
            shelf.read(number, "a")

        self.assert_looked(do, "a", True)

    def test_a_name_read_while_one_of_two_writes_stood(self):
        def do(shelf, number):
            shelf.write(number, "a", 1)
            shelf.write(number, "a", 2)
            shelf.back(number, 2)
            shelf.read(number, "a")
            shelf.back(number, 1)

        self.assert_looked(do, "a", False)

    def test_a_name_read_ahead_of_a_write_that_was_taken_back(self):
        def do(shelf, number):
            shelf.read(number, "a")
            shelf.write(number, "a", 1)
            shelf.back(number, 1)

        self.assert_looked(do, "a", True)

    def test_a_name_read_behind_a_write_to_another(self):
        def do(shelf, number):
            shelf.write(number, "b", 1)
            shelf.read(number, "a")

        self.assert_looked(do, "a", True)

    def test_what_another_dealing_wrote_is_no_write_of_its_own(self):
        def do(shelf, number):
            other = shelf.begin()
            shelf.write(other, "a", 1)
            shelf.read(number, "a")
            shelf.drop(other)

        self.assert_looked(do, "a", True)

    def test_heads_whether_or_not_a_name_has_a_value(self):
        for head in ["", "a", "ab", "ab."]:
            self.assert_looked(lambda shelf, number: shelf.under(number, head), "ab.c", True)
        for head in ["b", "ab.c.", "ac", ".c"]:
            self.assert_looked(lambda shelf, number: shelf.under(number, head), "ab.c", False)
        for head in ["", "k"]:
            self.assert_looked(lambda shelf, number: shelf.under(number, head), "k", True)
        self.assert_looked(lambda shelf, number: shelf.under(number, "ab.c"), "ab.c", True)

    def test_a_head_under_which_only_the_dealing_itself_wrote(self):
        def do(shelf, number):
            shelf.write(number, "a", 1)
            shelf.under(number, "a")
            shelf.back(number, 1)

        self.assert_looked(do, "a", True)

    def test_a_head_read_behind_its_own_none(self):
        def do(shelf, number):
            shelf.write(number, "k", None)
            shelf.under(number, "")
            shelf.back(number, 1)

        self.assert_looked(do, "k", True)

    def test_a_reading_that_was_refused_looks_at_nothing(self):
        def do(shelf, number):
            for call, thing in [(shelf.read, ""), (shelf.read, "A"), (shelf.under, "A"), (shelf.under, None)]:
                with self.assertRaises(ValueError):
                    call(number, thing)

        self.assert_looked(do, "a", False)

    def test_another_dealings_reading_looks_at_nothing(self):
        def do(shelf, number):
            other = shelf.begin()
            shelf.read(other, "a")
            shelf.under(other, "")

        self.assert_looked(do, "a", False)


class Ends(Case):
    def setUp(self):
        self.shelf = Shelf()

    def test_nothing_in_common_goes_to_the_end(self):
        for number in range(4):
            self.shelf.begin()
            self.shelf.read(number, "r" + str(number))
            self.shelf.write(number, "w" + str(number), 1)
        self.assert_same([self.shelf.keep(number) for number in [2, 0, 3, 1]], [0, 1, 2, 3])
        self.assert_same(self.shelf.order(), [2, 0, 3, 1])
        self.assert_same(self.shelf.moment(), 4)
        self.assert_same([self.shelf.ended(number) for number in range(4)], ["kept"] * 4)

    def test_dealings_that_did_nothing(self):
        for _ in range(3):
            self.shelf.begin()
        self.assert_same([self.shelf.keep(number) for number in [1, 0, 2]], [0, 1, 2])
        self.assert_same(self.shelf.order(), [1, 0, 2])

    def test_one_that_read_and_wrote_the_same_name(self):
        number = self.shelf.begin()
        self.shelf.read(number, "a")
        self.shelf.write(number, "a", 1)
        self.shelf.under(number, "")
        self.assert_same(self.shelf.keep(number), 0)

    def test_ahead_writers_of_the_same_name(self):
        put(self.shelf, a=1)
        number = self.shelf.begin()
        self.shelf.write(number, "a", 2)
        self.assert_same(self.shelf.keep(number), 1)
        self.assert_same(self.shelf.value("a"), 2)

    def test_ahead_those_that_looked_at_a_name_that_it_writes(self):
        one, other = self.shelf.begin(), self.shelf.begin()
        self.shelf.read(one, "a")
        self.shelf.keep(one)
        self.shelf.write(other, "a", 1)
        self.assert_same(self.shelf.keep(other), 1)

    def test_ahead_those_that_wrote_ahead_of_the_start_what_it_looked_at(self):
        one = put(self.shelf, a=1)
        number = self.shelf.begin()
        self.shelf.read(number, "a")
        self.assert_same(self.shelf.keep(number), 1)
        self.assert_same(self.shelf.order(), [one, number])

    def test_behind_those_that_kept_later_what_it_looked_at(self):
        number = self.shelf.begin()
        self.shelf.read(number, "a")
        one = put(self.shelf, a=1)
        self.assert_same(self.shelf.keep(number), 0)
        self.assert_same(self.shelf.order(), [number, one])
        self.assert_same(self.shelf.moment(), 2)

    def test_behind_whether_it_looked_ahead_of_the_keeping_or_later(self):
        number = self.shelf.begin()
        one = put(self.shelf, a=1)
        self.assert_same(self.shelf.read(number, "a"), None)
        self.assert_same(self.shelf.keep(number), 0)
        self.assert_same(self.shelf.order(), [number, one])

    def test_kept_right_at_the_start_is_ahead_and_one_later_is_behind(self):
        one = put(self.shelf, a=1)
        number = self.shelf.begin()
        two = put(self.shelf, a=2)
        self.assert_same(self.shelf.read(number, "a"), 1)
        self.assert_same(self.shelf.keep(number), 1)
        self.assert_same(self.shelf.order(), [one, number, two])

    def test_the_moment_counts_and_not_the_place(self):
        reader = self.shelf.begin()
        one = put(self.shelf, a=1)
        self.shelf.read(reader, "a")
        self.shelf.write(reader, "b", 1)
        self.shelf.keep(reader)
        self.assert_same(self.shelf.order(), [reader, one])
        number = self.shelf.begin()
        self.assert_same(self.shelf.read(number, "b"), 1)
        self.assert_same(self.shelf.keep(number), 2)
        self.assert_same(self.shelf.versions("b"), [(2, 1)])


class Between(Case):
    """Places between others, at the beginning, and none at all."""

    def setUp(self):
        self.shelf = Shelf()

    def test_the_beginning_the_middle_and_the_end(self):
        readers = [self.shelf.begin() for _ in range(3)]
        first = put(self.shelf, a=1)
        second = put(self.shelf, b=1)
        third = put(self.shelf, c=1)
        for number, name in zip(readers, ["a", "b", "c"]):
            self.shelf.read(number, name)
        self.assert_same([self.shelf.keep(number) for number in readers], [0, 2, 4])
        self.assert_same(self.shelf.order(), [readers[0], first, readers[1], second, readers[2], third])

    def test_right_ahead_of_the_first_of_several_behind(self):
        number = self.shelf.begin()
        first = put(self.shelf, a=1)
        second = put(self.shelf, b=1)
        third = put(self.shelf, c=1)
        self.shelf.read(number, "c")
        self.shelf.read(number, "b")
        self.assert_same(self.shelf.keep(number), 1)
        self.assert_same(self.shelf.order(), [first, number, second, third])

    def test_ahead_by_a_write_and_behind_by_a_look(self):
        number = self.shelf.begin()
        looker = self.shelf.begin()
        self.shelf.read(looker, "a")
        self.shelf.keep(looker)
        writer = put(self.shelf, b=1)
        self.shelf.read(number, "b")
        self.shelf.write(number, "a", 1)
        self.assert_same(self.shelf.keep(number), 1)
        self.assert_same(self.shelf.order(), [looker, number, writer])

    def test_the_looker_stands_beyond_the_writer(self):
        number = self.shelf.begin()
        looker = self.shelf.begin()
        put(self.shelf, b=1)
        self.shelf.read(looker, "a")
        self.shelf.keep(looker)
        self.shelf.read(number, "b")
        self.shelf.write(number, "a", 1)
        self.assert_crossed(self.shelf, number)

    def test_one_that_must_be_ahead_and_behind_at_once(self):
        one, other = self.shelf.begin(), self.shelf.begin()
        self.shelf.read(one, "a")
        self.shelf.write(one, "b", 1)
        self.shelf.read(other, "b")
        self.shelf.write(other, "a", 1)
        self.assert_same(self.shelf.keep(one), 0)
        self.assert_crossed(self.shelf, other)
        self.assert_same(self.shelf.order(), [one])
        self.assert_same(self.shelf.moment(), 1)
        self.assert_same(self.shelf.versions("a"), [])

    def test_one_that_looked_by_a_head(self):
        one, other = self.shelf.begin(), self.shelf.begin()
        self.shelf.under(one, "a")
        self.shelf.write(one, "b.1", 1)
        self.shelf.under(other, "b.")
        self.shelf.write(other, "a.new", 1)
        self.shelf.keep(one)
        self.assert_crossed(self.shelf, other)

    def test_between_a_kept_reader_and_the_writer_it_did_not_see(self):
        number = self.shelf.begin()
        reader = self.shelf.begin()
        self.shelf.read(reader, "a")
        put(self.shelf, a=1)
        self.shelf.write(reader, "b", 1)
        self.shelf.keep(reader)
        self.shelf.read(number, "a")
        self.assert_refused(Late, self.shelf, self.shelf.write, number, "b", 2)
        later = self.shelf.begin()
        self.shelf.write(later, "b", 2)
        self.assert_same(self.shelf.keep(later), 2)
        self.assert_same(self.shelf.keep(number), 1)
        self.assert_same(self.shelf.order(), [reader, number, 2, later])

    def test_one_kept_late_that_stands_early_is_behind_all_the_same(self):
        early = self.shelf.begin()
        writer = put(self.shelf, w=1, a=1)
        number = self.shelf.begin()
        last = put(self.shelf, c=1)
        self.shelf.write(early, "c2", 1)
        self.shelf.read(early, "c")
        self.assert_same(self.shelf.keep(early), 1)
        self.assert_same(self.shelf.order(), [writer, early, last])
        self.shelf.write(number, "a", 2)
        self.shelf.read(number, "c2")
        self.assert_same(self.shelf.keep(number), 1)
        self.assert_same(self.shelf.order(), [writer, number, early, last])

    def test_each_kind_ahead_that_does_stand_ahead(self):
        for kind in ["wrote what it writes", "looked at what it writes", "wrote what it looked at"]:
            with self.subTest(kind):
                shelf = Shelf()
                old = shelf.begin()
                shelf.read(old, "p")
                if kind == "looked at what it writes":
                    shelf.read(old, "q")
                else:
                    shelf.write(old, "q", 1)
                first = put(shelf, p=1)
                # The old one is kept last, yet stands ahead of the first one.
                self.assert_same(shelf.keep(old), 0)
                number = shelf.begin()
                after = put(shelf, s=1)
                if kind == "wrote what it looked at":
                    shelf.read(number, "q")
                else:
                    shelf.write(number, "q", 2)
                shelf.read(number, "s")
                self.assert_same(shelf.keep(number), 2)
                self.assert_same(shelf.order(), [old, first, number, after])

    def crossing(self, kind):
        """A row "early, late" and an open dealing, behind which late must be of the kind ahead, early behind."""
        shelf = Shelf()
        early = shelf.begin()
        put(shelf, mark=1)
        late = shelf.begin()
        if kind == "looked at what it writes":
            shelf.read(late, "q")
        else:
            shelf.write(late, "q", 1)
        shelf.keep(late)
        number = shelf.begin()
        shelf.read(early, "mark")
        shelf.write(early, "e", 1)
        self.assert_same(shelf.keep(early), 0)
        shelf.read(number, "e")
        if kind == "wrote what it looked at":
            shelf.read(number, "q")
        elif kind != "none":
            shelf.write(number, "q", 2)
        return shelf, number

    def test_each_kind_ahead_beyond_the_place(self):
        for kind in ["wrote what it writes", "looked at what it writes", "wrote what it looked at"]:
            with self.subTest(kind):
                shelf, number = self.crossing(kind)
                self.assert_crossed(shelf, number)
        shelf, number = self.crossing("none")
        self.assert_same(shelf.keep(number), 0)

    def test_two_kinds_at_once(self):
        shelf, number = self.crossing("wrote what it writes")
        shelf.read(number, "mark")
        self.assert_crossed(shelf, number)

    def test_among_four(self):
        shelf = self.shelf
        numbers = [shelf.begin() for _ in range(4)]
        for at, number in enumerate(numbers):
            shelf.read(number, "n" + str((at + 1) % 4))
            shelf.write(number, "n" + str(at), at)
        # Each one looks at what the next one writes, so each must stand ahead of the next one.
        self.assert_same(shelf.keep(numbers[2]), 0)
        self.assert_same(shelf.keep(numbers[1]), 0)
        self.assert_same(shelf.keep(numbers[3]), 2)
        self.assert_same(shelf.order(), [1, 2, 3])
        self.assert_crossed(shelf, numbers[0])
        self.assert_same(shelf.order(), [1, 2, 3])
        self.assert_same(shelf.value("n0"), None)

    def test_among_three_in_each_turn(self):
        for turn in [(0, 1, 2), (0, 2, 1), (1, 0, 2), (1, 2, 0), (2, 0, 1), (2, 1, 0)]:
            with self.subTest(turn):
                shelf = Shelf()
                for number in range(3):
                    shelf.begin()
                    shelf.read(number, "n" + str((number + 1) % 3))
                    shelf.write(number, "n" + str(number), number)
                shelf.keep(turn[0])
                shelf.keep(turn[1])
                self.assert_crossed(shelf, turn[2])
                first, second = turn[:2]
                wanted = [first, second] if (first + 1) % 3 == second else [second, first]
                self.assert_same(shelf.order(), wanted)

    def test_crossed_is_dropped_and_in_nobodys_way(self):
        one, other = self.shelf.begin(), self.shelf.begin()
        self.shelf.read(one, "a")
        self.shelf.write(one, "b", 1)
        self.shelf.read(other, "b")
        self.shelf.write(other, "a", 1)
        self.shelf.keep(one)
        third = self.shelf.begin()
        self.assert_refused(Taken, self.shelf, self.shelf.write, third, "a", 1)
        self.assert_crossed(self.shelf, other)
        self.assert_same(self.shelf.ended(other), "dropped")
        for call, things in [
            (self.shelf.read, (other, "a")), (self.shelf.keep, (other,)), (self.shelf.drop, (other,)),
        ]:
            self.assert_refused(Over, self.shelf, call, *things)
        self.shelf.write(third, "a", 1)
        self.assert_same(self.shelf.keep(third), 1)
        self.assert_same(self.shelf.versions("a"), [(2, 1)])

    def test_a_write_taken_back_binds_nobody(self):
        one, other = self.shelf.begin(), self.shelf.begin()
        self.shelf.read(one, "a")
        self.shelf.write(one, "b", 1)
        self.shelf.read(other, "b")
        self.shelf.write(other, "a", 1)
        self.shelf.keep(one)
        self.shelf.back(other, 0)
        self.assert_same(self.shelf.keep(other), 0)
        self.assert_same(self.shelf.order(), [other, one])


class WithoutWrites(Case):
    def test_it_must_later_be_ahead_of_another(self):
        shelf = Shelf()
        writer = shelf.begin()
        reader = shelf.begin()
        shelf.read(reader, "a")
        self.assert_same(shelf.keep(reader), 0)
        shelf.write(writer, "a", 1)
        self.assert_same(shelf.keep(writer), 1)
        self.assert_same(shelf.order(), [reader, writer])
        self.assert_same(shelf.moment(), 2)

    def test_it_makes_another_cross(self):
        shelf = Shelf()
        writer = shelf.begin()
        shelf.write(writer, "a", 1)
        put(shelf, b=1)
        reader = shelf.begin()
        shelf.read(reader, "a")
        shelf.read(reader, "b")
        self.assert_same(shelf.keep(reader), 1)
        shelf.read(writer, "b")
        self.assert_crossed(shelf, writer)

    def test_it_is_crossed_itself(self):
        # The reader sees what the second one kept, but not what the first one kept, which stands ahead of it.
        shelf = Shelf()
        first = shelf.begin()
        shelf.read(first, "b")
        shelf.write(first, "a", 1)
        second = put(shelf, b=1)
        reader = shelf.begin()
        self.assert_same(shelf.keep(first), 0)
        self.assert_same(shelf.read(reader, "b"), 1)
        self.assert_same(shelf.read(reader, "a"), None)
        self.assert_crossed(shelf, reader)
        self.assert_same(shelf.order(), [first, second])
        self.assert_same(shelf.moment(), 2)

    def test_each_half_of_that_alone_has_a_place(self):
        for name, wanted in [("a", 0), ("b", 2)]:
            shelf = Shelf()
            first = shelf.begin()
            shelf.read(first, "b")
            shelf.write(first, "a", 1)
            put(shelf, b=1)
            reader = shelf.begin()
            shelf.keep(first)
            shelf.read(reader, name)
            self.assert_same(shelf.keep(reader), wanted)


if __name__ == "__main__":
    unittest.main()
