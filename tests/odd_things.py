"""Things of every kind, for the functions that are told anything."""


def odd_things():
    """Tell a new list of things that are no whole number, no truth, no work and no works."""
    return [
        None, "", "0", "7", "True", "None", "best of all", "a\tb\n~", "x" * 2000,
        (), [], {}, (None,), [None], {"a": None}, ("",), ("best",), ["best"], {"best": "best"},
        (0,), [0], {0: 0}, (0, 0, "best"), [0, 0, "best"], {"drop": 0, "cut": 0, "second": "best"},
        (((((1,),),),),), [[[[[1]]]]], {"a": {"b": {"c": {"d": {"e": 1}}}}},
        ({"a": [(1, None)]}, [{"b": (True, "c")}]), [(7, 10, False)], {(7, 10, False): (7, 10, False)},
        tuple([None] * 899), list(range(899)), {k: k for k in range(449)},
        0.0, 1.5, float("nan"), b"", b"best", b"abc", {1, 2}, range(3), object(), len, int, ValueError("a"),
    ]
