"""Values that several tests use."""

NAMES = ["a", "z", "x", "ab", "zz", "use", "join", "bind", "aaaaaaaa", "abcdefgh", "zzzzzzzz"]

NO_TEXTS = [
    None, True, False, 0, 1, -3, 1.5, b"a", [], ["a"], (), ("a",), ("a", "b"),
    {}, {"a": "a"}, set(), {"a"}, object(), str, NotImplemented, ("use", "x"),
]

# The signs just beside the small letters are ` and {.
NO_NAMES = [
    "", "abcdefghi", "a" * 9, "a" * 400, "A", "Ab", "aB", "aaaaaaaB", "a1", "1", "a_b", "_", "a b", " ", " a", "a ",
    "\n", "a\n", "\na", "a-b", "a`", "a{", "`", "{", "~", "a.b", "a|", "()",
]
