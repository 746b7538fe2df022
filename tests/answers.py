"""What several tests ask of an answer and of the lists that are handed in."""

SQUARES = 0
TRIANGLES = 1
HONEYCOMB = 2
KINDS = (SQUARES, TRIANGLES, HONEYCOMB)
HOW_MANY_STEPS = {SQUARES: 4, TRIANGLES: 6, HONEYCOMB: 3}
# The greatest n that is asked of each kind where walks are counted.
GREATEST_ASKED = {SQUARES: 7, TRIANGLES: 6, HONEYCOMB: 9}
MOST_SHOWN = 250
GREATEST_KIND = 2**31 - 1
GREATEST_NUMBER = 2**32 - 1
KINDS_OUT_OF_RANGE = (3, 4, 255, GREATEST_KIND - 1, GREATEST_KIND)
NUMBERS_ABOVE_16 = (17, 18, 255, 4096, 2**31, GREATEST_NUMBER - 1, GREATEST_NUMBER)


def same_answer(test, answer, wanted):
    """Equal, and of the promised kinds: True would be equal to 1, but is no whole number here."""
    test.assertIs(type(answer), list)
    for number in answer:
        test.assertIs(type(number), int)
    if len(wanted) > MOST_SHOWN:
        # assertEqual would show how they differ, and take very long for lists of this size.
        test.assertTrue(answer == wanted, "these long lists differ")
    test.assertEqual(answer, wanted)


class Untouched(list):
    """A list that fails at every change, also at one that would be taken back."""

    def refuse(self, *args, **kwargs):
        raise AssertionError("what is handed in was changed")

    append = extend = insert = pop = remove = clear = sort = reverse = refuse
    __setitem__ = __delitem__ = __iadd__ = __imul__ = refuse
