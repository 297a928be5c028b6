"""What each call that makes a term makes, and what it names."""

# Both stand by the call's number: number, array, read, store, filled, pickNumber, pickArray.
MADE = ("number", "array", "number", "array", "array", "number", "array")
NAMED = (
    (),
    (),
    ("array", "number"),
    ("array", "number", "number"),
    ("number",),
    ("number", "number", "number", "number"),
    ("number", "number", "array", "array"),
)

MOST_TERMS = {"number": 6, "array": 8}
