"""The calls that make terms: what each makes, and what it names."""

ARRAY = 1
READ = 2
STORE = 3
PICK_NUMBER = 5
PICK_ARRAY = 6

# Both stand by the call's number: number, array, read, store, filled, pickNumber, pickArray.
MADE = ("number", "array", "number", "array", "array", "number", "array")
NAMED = (
    (),
    (),
    ("array", "number"),
    ("array", "number", "number"),
    ("number",),
    ("number", "number", "number", "number"),
    ("number", "number", "array", "array"),
)

MOST_TERMS = {"number": 6, "array": 8}
MOST_NAMED = 4
