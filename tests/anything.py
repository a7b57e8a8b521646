"""What the tests hand in where the document says "of anything", and what they all ask of it."""

import copy


def within_one_another(thing, deep=10):
    """The thing in lists, tuples and dicts by turns."""
    for k in range(deep):
        thing = ([thing], (thing,), {"a": thing})[k % 3]
    return thing


# Things of all kinds; new lists and dicts at each call, so that none is changed for the next test.
def things():
    return [
        None, True, False, 0, 1, -1, 2, 10 ** 6, 10 ** 12, -10 ** 30,
        "", " ", "\n", "a", "anna", "0", "1", "near", "None", "[0]", "x" * 8000, "9" * 8000,
        [], [0], [1], [None], [True], ["anna"], [[]], [[0]], [0, 1], [1, "a"], [()], [{}],
        (), (0,), (1,), (None,), ("anna",), (0, 1), ((),), ([],),
        {}, {0: 1}, {"anna": 40}, {"at": 0}, {(0, 1): [None]},
        within_one_another(None), within_one_another(0), within_one_another("anna"),
    ]


def no_texts():
    return [thing for thing in things() if not isinstance(thing, str)]


def one_sign_away(word, signs):
    """All texts with one sign of the word dropped, changed, added, or a pair turned about."""
    found = {word}
    for k in range(len(word) + 1):
        found.add(word[:k] + word[k + 1:])
        found.add(word[:k] + word[k:k + 2][::-1] + word[k + 2:])
        for sign in signs:
            found.add(word[:k] + sign + word[k:])
            found.add(word[:k] + sign + word[k + 1:])
    return sorted(found)


def assert_equal_both_ways(test, one, other, equal):
    test.assertIs(one == other, equal)
    test.assertIs(other == one, equal)
    test.assertIs(one != other, not equal)
    test.assertIs(other != one, not equal)


def assert_refused(test, refusal, fields, ask, *handed, **named):
    """The refusal bears the fields told, and what was handed in stayed as it was."""
    before = copy.deepcopy((handed, named))
    with test.assertRaises(refusal) as caught:
        ask(*handed, **named)
    test.assertIs(type(caught.exception), refusal)
    test.assertEqual(vars(caught.exception), fields)
    for name, thing in fields.items():
        test.assertIs(type(getattr(caught.exception, name)), type(thing))
    test.assertEqual((handed, named), before)
    return caught.exception
