"""The deeds of a tree: put, drop and turn, page by page. [13] [14] [34] to [39]"""

import random
import unittest

from helpers import as_lists, is_plain, mixed
from makers import small_box, speed_of
from model import ModelTree, flaws_of

from boundstead.errors import BadValue, NoItem, OutOfRange, SpatialError, TakenKey, TooMany
from boundstead.trees import Tree

LIMIT = 1000000
NO_KEYS = (-1, 1000000001, True, False, None, "1", "", (1,), [1], (), [])
NO_TIMES = (-1, 1001, True, None, "0", (0,), [])


def no_boxes(axes):
    """What is no box of so many axes."""
    return (
        ((0, 1),) * (axes - 1), ((0, 1),) * (axes + 1), ((0, 1),) * (axes - 1) + ((1, 0),),
        ((0, LIMIT + 1),) + ((0, 1),) * (axes - 1), ((0, True),) * axes, ((0,),) * axes, (0, 1), None, True, 5, "ab", [[]],
    )


def no_speeds(axes):
    """What is no speed of so many axes, other than None."""
    return ((0,) * (axes - 1), (0,) * (axes + 1), (101,) * axes, (-101,) * axes, (True,) * axes, (None,) * axes,
            "0", 0, True, False, "", ((0,),) * axes)


class DeedsTest(unittest.TestCase):
    def error(self, kind, value, call, *args, **named):
        """The call raises this error, which keeps this value."""
        with self.assertRaises(SpatialError) as caught:
            call(*args, **named)
        self.assertIs(type(caught.exception), kind)
        held = list(vars(caught.exception).values())
        self.assertEqual((held, type(held[0])), ([value], type(value)))

    def refused(self, tree, kind, value, call, *args, **named):
        """The call raises this error and changes nothing."""
        before = tree.pages()
        self.error(kind, value, call, *args, **named)
        self.assertEqual(tree.pages(), before)

    def same(self, tree, model):
        self.assertEqual(tree.pages(), model.pages())
        self.assertTrue(is_plain(tree.pages()))


class GrowthTest(DeedsTest):
    def grow(self, rng, axes, most, many, room, width, fastest):
        tree, model = Tree(axes, most=most), ModelTree(axes, most)
        keys = rng.sample(range(10 ** 9 + 1), many)
        for key in keys:
            box, speed = small_box(rng, axes, room, width), speed_of(rng, axes, fastest)
            self.assertIsNone(tree.put(key, box, speed=speed))
            model.put(key, box, speed)
            self.same(tree, model)
        return tree, model, keys

    def shrink(self, rng, tree, model, keys):
        rng.shuffle(keys)
        for key in keys:
            self.assertIsNone(tree.drop(key))
            model.drop(key)
            self.same(tree, model)
        self.assertEqual(tree.pages(), ((tree.root, 0, ()),))

    def test_each_most_and_number_of_axes(self):
        rng = random.Random(36)
        for most in range(6, 13):
            for axes in (1, 2, 3, 4):
                tree, model, keys = self.grow(rng, axes, most, 60, 100, 20, 5)
                self.assertEqual(flaws_of(tree, tree.all_items()), [])
                self.shrink(rng, tree, model, keys)

    def test_two_hundred_items(self):
        rng = random.Random(37)
        levels = set()
        for axes, most, room, width, fastest in (
            (1, 6, LIMIT // 2, 1000, 100), (2, 6, 300, 9, 3), (4, 8, 50, 9, 1), (3, 12, 20, 2, 0), (2, 6, 3, 1, 0),
        ):
            tree, model, keys = self.grow(rng, axes, most, 200, room, width, fastest)
            levels.add(tree.pages()[0][1])
            self.refused(tree, TooMany, "items", tree.put, 10 ** 9, ((0, 1),) * axes)
            self.refused(tree, TakenKey, keys[5], tree.put, keys[5], ((0, 1),) * axes)
            self.shrink(rng, tree, model, keys)
        self.assertTrue(levels >= {2, 3}, levels)

    def test_equal_items_and_lines(self):
        for axes in (1, 2):
            for boxes in (
                [((5, 9),) * axes] * 50,
                [((at, at),) * axes for at in range(50)],
                [((-at, at),) * axes for at in range(50)],
                [((at % 3, 5),) * axes for at in range(50)],
            ):
                tree, model = Tree(axes, most=6), ModelTree(axes, 6)
                for key, box in enumerate(boxes):
                    tree.put(key, box)
                    model.put(key, box)
                    self.same(tree, model)
                for key in [*range(0, 50, 2), *range(1, 50, 2)]:
                    tree.drop(key)
                    model.drop(key)
                    self.same(tree, model)

    def test_first_split_of_the_root(self):
        tree = Tree(1, most=6)
        for key in range(6):
            tree.put(key, ((10 * key, 10 * key + 1),))
        self.assertEqual([row[:2] for row in tree.pages()], [(0, 0)])
        tree.put(6, ((60, 61),))
        # The cuts after three and after four cost the same 0, 22 + 32 and 32 + 22.
        self.assertEqual(tree.pages(), (
            (2, 1, (0, 1)),
            (0, 0, tuple((key, ((10 * key, 10 * key + 1),), (0,)) for key in (0, 1, 2))),
            (1, 0, tuple((key, ((10 * key, 10 * key + 1),), (0,)) for key in (3, 4, 5, 6))),
        ))
        self.assertEqual(tree.root, 2)
        tree.drop(0)
        # Page 0 has two items left and is merged with its only mate, into six; the root has one kid and goes.
        self.assertEqual([(number, level, len(entries)) for number, level, entries in tree.pages()], [(0, 0, 6)])


class MixedDeedsTest(DeedsTest):
    """Deeds of all kinds, refused ones between, on small and large values."""

    def one_deed(self, rng, tree, model, items, room, fastest):
        axes = tree.axes
        key = rng.choice(sorted(items)) if items and rng.random() < 0.8 else rng.randint(0, 10 ** 9)
        deed = rng.choice(("put", "put", "drop", "turn"))
        if deed == "put":
            box, speed = small_box(rng, axes, room, room // 4), speed_of(rng, axes, fastest)
            if key in items:
                if rng.random() < 0.7:
                    key = max(items) + 1
                else:
                    self.refused(tree, TakenKey, key, tree.put, key, box, speed=speed)
                    return
            if len(items) == 200:
                self.refused(tree, TooMany, "items", tree.put, key, box, speed=speed)
                return
            tree.put(key, rng.choice((as_lists, mixed, tuple))(box), speed=rng.choice((list, tuple))(speed))
            model.put(key, box, speed)
            items[key] = (key, box, speed)
        elif key not in items:
            self.refused(tree, NoItem, key, tree.drop, key)
            self.refused(tree, NoItem, key, tree.turn, key, 5, speed=(0,) * axes)
        elif deed == "drop":
            tree.drop(key)
            model.drop(key)
            del items[key]
        else:
            time, speed = rng.randint(0, 20), speed_of(rng, axes, fastest)
            _, box, old = items[key]
            moved = tuple(
                (low + (one - two) * time, high + (one - two) * time) for (low, high), one, two in zip(box, old, speed)
            )
            if any(low < -LIMIT or high > LIMIT for low, high in moved):
                self.refused(tree, OutOfRange, key, tree.turn, key, time, speed=speed)
                return
            tree.turn(key, time, speed=rng.choice((list, tuple))(speed))
            model.turn(key, time, speed)
            items[key] = (key, moved, speed)

    def test_random_deeds(self):
        rng = random.Random(38)
        for axes, most, room, fastest, many in (
            (1, 6, 40, 3, 400), (2, 6, 40, 3, 400), (3, 7, 100, 9, 300), (4, 9, 20, 2, 300), (2, 12, 9, 1, 300),
            (2, 6, LIMIT - LIMIT // 4, 100, 300), (1, 8, 4, 1, 300),
        ):
            tree, model, items = Tree(axes, most=most), ModelTree(axes, most), {}
            for count in range(many):
                self.one_deed(rng, tree, model, items, room, fastest)
                self.same(tree, model)
                if count % 10 == 0:
                    self.assertEqual(flaws_of(tree, items.values()), [])
            self.assertGreater(len(items), 5)

    def test_about_two_hundred_items(self):
        rng = random.Random(39)
        tree, model, items = Tree(2, most=6), ModelTree(2, 6), {}
        for key in range(195):
            box = small_box(rng, 2, 100, 20)
            tree.put(key, box)
            model.put(key, box)
            items[key] = (key, box, (0, 0))
        for _ in range(60):
            self.one_deed(rng, tree, model, items, 100, 3)
            self.same(tree, model)
            self.assertEqual(flaws_of(tree, items.values()), [])

    def test_numbers_that_became_free(self):
        # Dropping frees numbers in the middle, which later splits and roots get again.
        rng = random.Random(40)
        reused = 0
        for _ in range(20):
            tree, model = Tree(1, most=6), ModelTree(1, 6)
            for key in range(60):
                box = small_box(rng, 1, 500, 9)
                tree.put(key, box)
                model.put(key, box)
            for key in rng.sample(range(60), 35):
                tree.drop(key)
                model.drop(key)
                self.same(tree, model)
            numbers = {row[0] for row in tree.pages()}
            reused += max(numbers) >= len(numbers)
            for key in range(100, 160):
                box = small_box(rng, 1, 500, 9)
                tree.put(key, box)
                model.put(key, box)
                self.same(tree, model)
        self.assertGreater(reused, 10)


class PutTest(DeedsTest):
    def test_resting_items(self):
        for axes in (1, 2, 3, 4):
            tree = Tree(axes)
            tree.put(1, ((0, 1),) * axes)
            tree.put(2, ((0, 1),) * axes, speed=None)
            tree.put(box=[[0, 1]] * axes, key=3, speed=[0] * axes)
            for key in (1, 2, 3):
                self.assertEqual(tree.item(key), (key, ((0, 1),) * axes, (0,) * axes))

    def test_ends_of_the_ranges(self):
        tree = Tree(2)
        tree.put(0, ((-LIMIT, LIMIT), (LIMIT, LIMIT)), speed=(100, -100))
        tree.put(10 ** 9, ((-LIMIT, -LIMIT), (0, 0)), speed=(-100, 100))
        self.assertEqual(tree.all_items(), (
            (0, ((-LIMIT, LIMIT), (LIMIT, LIMIT)), (100, -100)), (10 ** 9, ((-LIMIT, -LIMIT), (0, 0)), (-100, 100)),
        ))

    def test_lists_that_change_behind_the_call(self):
        tree = Tree(2)
        box, speed = [[0, 1], [2, 3]], [4, 5]
        tree.put(7, box, speed=speed)
        self.assertEqual((box, speed), ([[0, 1], [2, 3]], [4, 5]))
        box[0][0], box[1], speed[0] = -99, [9, 9], 99
        self.assertEqual(tree.item(7), (7, ((0, 1), (2, 3)), (4, 5)))
        self.assertTrue(is_plain(tree.pages()))

    def test_wrong_arguments(self):
        for axes in (1, 2, 3, 4):
            tree = Tree(axes, most=6)
            for key in range(10):
                tree.put(key, ((key, key + 1),) * axes)
            box, speed = ((0, 1),) * axes, (0,) * axes
            for shape in (tuple, as_lists):
                for wrong in NO_KEYS:
                    self.refused(tree, BadValue, 0, tree.put, wrong, box)
                    self.refused(tree, BadValue, 0, tree.put, wrong, None, speed="")
                for wrong in no_boxes(axes):
                    wrong = shape(wrong) if isinstance(wrong, tuple) else wrong
                    self.refused(tree, BadValue, 1, tree.put, 50, wrong)
                    self.refused(tree, BadValue, 1, tree.put, 5, wrong, speed=True)
                    self.refused(tree, BadValue, 0, tree.put, True, wrong, speed=speed)
                for wrong in no_speeds(axes):
                    wrong = shape(wrong) if isinstance(wrong, tuple) else wrong
                    self.refused(tree, BadValue, 2, tree.put, 50, box, speed=wrong)
                    self.refused(tree, BadValue, 2, tree.put, 5, box, speed=wrong)
            self.refused(tree, TakenKey, 5, tree.put, 5, box, speed=speed)
            self.refused(tree, TakenKey, 5, tree.put, 5, box)

    def test_which_of_taken_key_and_too_many_comes_first(self):
        tree = Tree.packed(1, [(key, ((key, key),), (0,)) for key in range(200)])
        self.refused(tree, TakenKey, 7, tree.put, 7, ((0, 1),))
        self.refused(tree, TooMany, "items", tree.put, 200, ((0, 1),))
        self.refused(tree, BadValue, 2, tree.put, 7, ((0, 1),), speed=(0, 0))
        tree.drop(7)
        tree.put(200, ((0, 1),))
        self.assertEqual(len(tree), 200)
        self.refused(tree, TooMany, "items", tree.put, 7, ((0, 1),))

    def test_speed_by_name_alone(self):
        tree = Tree(1)
        with self.assertRaises(TypeError):
            tree.put(1, ((0, 1),), (0,))
        self.assertEqual(len(tree), 0)


class DropTest(DeedsTest):
    def test_wrong_arguments(self):
        tree = Tree(1, most=6)
        for key in range(20):
            tree.put(key, ((key, key),))
        for wrong in NO_KEYS:
            self.refused(tree, BadValue, 0, tree.drop, wrong)
        for missing in (20, 10 ** 9, 21):
            self.refused(tree, NoItem, missing, tree.drop, missing)
        tree.drop(key=3)
        self.refused(tree, NoItem, 3, tree.drop, 3)

    def test_down_to_no_item_and_up_again(self):
        tree = Tree(1, most=6)
        for key in range(7):
            tree.put(key, ((key, key),))
        for key in range(7):
            tree.drop(key)
        self.assertEqual((len(tree), tree.all_items()), (0, ()))
        self.assertEqual(tree.pages(), ((tree.root, 0, ()),))
        self.refused(tree, NoItem, 0, tree.drop, 0)
        tree.put(5, ((1, 2),))
        self.assertEqual(tree.pages(), ((tree.root, 0, ((5, ((1, 2),), (0,)),)),))

    def page(self, *lows):
        return tuple((low % 1000, ((low, low),), (0,)) for low in lows)

    def test_merge_with_the_mate_of_least_reach(self):
        rows = (
            (7, 1, (1, 2, 5)),
            (1, 0, self.page(100, 101, 102)),
            (2, 0, self.page(1200, 1201, 1202)),
            (5, 0, self.page(310, 311, 312)),
        )
        tree = Tree.from_pages(1, rows, most=6)
        tree.drop(312)
        # From 100 to 311 are 212, from 310 to 1202 are more: page 1 is the mate and has the lesser number.
        self.assertEqual(tree.pages(), ((7, 1, (1, 2)), (1, 0, self.page(100, 101, 102, 310, 311)), rows[2]))

    def test_equal_mates(self):
        rows = (
            (7, 1, (1, 2, 5)),
            (1, 0, self.page(300, 301, 302)),
            (2, 0, self.page(200, 201, 202)),
            (5, 0, self.page(100, 101, 102)),
        )
        tree = Tree.from_pages(1, rows, most=6)
        tree.drop(201)
        # Both joined bounds reach 103 points.
        self.assertEqual(tree.pages(), ((7, 1, (1, 5)), (1, 0, self.page(200, 202, 300, 301, 302)), rows[3]))

    def test_merge_that_overflows_is_split(self):
        rows = (
            (3, 1, (4, 9)),
            (4, 0, self.page(100, 101, 102)),
            (9, 0, self.page(110, 111, 120, 121, 122, 123)),
        )
        tree = Tree.from_pages(1, rows, most=6)
        tree.drop(100)
        # Eight items on page 4; page 9 is free, but 0 is the least number for the new page.
        self.assertEqual(tree.pages(), (
            (3, 1, (0, 4)),
            (0, 0, self.page(120, 121, 122, 123)),
            (4, 0, self.page(101, 102, 110, 111)),
        ))

    def test_levels_go(self):
        rng = random.Random(41)
        tree, model = Tree(2, most=6), ModelTree(2, 6)
        for key in range(120):
            box = small_box(rng, 2, 500, 5)
            tree.put(key, box)
            model.put(key, box)
        levels = [tree.pages()[0][1]]
        for key in rng.sample(range(120), 120):
            tree.drop(key)
            model.drop(key)
            self.same(tree, model)
            levels.append(tree.pages()[0][1])
        self.assertEqual(sorted(set(levels)), list(range(levels[0] + 1)))
        self.assertEqual(levels, sorted(levels, reverse=True))
        self.assertGreaterEqual(levels[0], 2)


class TurnTest(DeedsTest):
    def test_same_place_at_the_time(self):
        tree = Tree(2)
        tree.put(4, ((0, 5), (10, 20)), speed=(3, -2))
        self.assertIsNone(tree.turn(4, 10, speed=[1, 0]))
        self.assertEqual(tree.item(4), (4, ((20, 25), (-10, 0)), (1, 0)))
        tree.turn(speed=(-1, 100), time=0, key=4)
        self.assertEqual(tree.item(4), (4, ((20, 25), (-10, 0)), (-1, 100)))
        tree.turn(4, 1000, speed=(-1, 100))
        self.assertEqual(tree.item(4), (4, ((20, 25), (-10, 0)), (-1, 100)))

    def test_same_speed_changes_the_pages_as_drop_and_put(self):
        rng = random.Random(42)
        changed = 0
        for _ in range(30):
            tree, model = Tree(2, most=6), ModelTree(2, 6)
            for key in range(30):
                box, speed = small_box(rng, 2, 20, 8), speed_of(rng, 2, 2)
                tree.put(key, box, speed=speed)
                model.put(key, box, speed)
            for key in range(30):
                before = tree.pages()
                item = tree.item(key)
                tree.turn(key, rng.randint(0, 1000), speed=item[2])
                model.drop(key)
                model.put(*item)
                self.same(tree, model)
                self.assertEqual(tree.item(key), item)
                changed += tree.pages() != before
        self.assertGreater(changed, 50)

    def test_out_of_range(self):
        tree = Tree(2, most=6)
        for key in range(15):
            tree.put(key, ((key, key + 1), (0, 5)), speed=(0, 1))
        tree.put(50, ((999990, 1000000), (-1000000, -999990)), speed=(0, 0))
        self.refused(tree, OutOfRange, 50, tree.turn, 50, 1, speed=(-1, 0))
        self.refused(tree, OutOfRange, 50, tree.turn, 50, 1, speed=(0, 1))
        self.refused(tree, OutOfRange, 50, tree.turn, 50, 1000, speed=(-100, 100))
        self.refused(tree, OutOfRange, 50, tree.turn, 50, 1000, speed=(-100, -100))
        tree.turn(50, 0, speed=(-100, 100))
        self.assertEqual(tree.item(50), (50, ((999990, 1000000), (-1000000, -999990)), (-100, 100)))
        tree.turn(50, 1000, speed=(-99, 99))
        self.assertEqual(tree.item(50), (50, ((998990, 999000), (-999000, -998990)), (-99, 99)))
        # Just at the ends.
        tree.turn(50, 1000, speed=(-100, 100))
        self.assertEqual(tree.item(50)[1], ((999990, 1000000), (-1000000, -999990)))
        tree.turn(3, 1000, speed=(0, -100))
        self.assertEqual(tree.item(3)[1], ((3, 4), (101000, 101005)))

    def test_wrong_arguments(self):
        for axes in (1, 2, 3, 4):
            tree = Tree(axes, most=6)
            for key in range(10):
                tree.put(key, ((1000000, 1000000),) * axes)
            speed = (-100,) * axes
            for wrong in NO_KEYS:
                self.refused(tree, BadValue, 0, tree.turn, wrong, 0, speed=speed)
                self.refused(tree, BadValue, 0, tree.turn, wrong, -1, speed=None)
            for wrong in NO_TIMES:
                self.refused(tree, BadValue, 1, tree.turn, 5, wrong, speed=speed)
                self.refused(tree, BadValue, 1, tree.turn, 77, wrong, speed=None)
            for wrong in (*no_speeds(axes), None):
                self.refused(tree, BadValue, 2, tree.turn, 5, 1, speed=wrong)
                self.refused(tree, BadValue, 2, tree.turn, 77, 1, speed=wrong)
            self.refused(tree, NoItem, 77, tree.turn, 77, 1, speed=speed)
            self.refused(tree, OutOfRange, 5, tree.turn, 5, 1, speed=speed)
            tree.turn(5, 0, speed=speed)

    def test_arguments_stay(self):
        tree = Tree(1)
        tree.put(1, ((0, 1),))
        speed = [5]
        tree.turn(1, 3, speed=speed)
        self.assertEqual(speed, [5])
        speed[0] = 77
        self.assertEqual(tree.item(1), (1, ((-15, -14),), (5,)))


if __name__ == "__main__":
    unittest.main()
