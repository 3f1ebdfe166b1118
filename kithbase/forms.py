"""How acts are made up: what codes and readings have in common."""

# The words of the acts, each with the forms of its fields. The place of an act in this list is its number in bytes.
ACTS = (
    ("table", ("string",)),
    ("column", ("spot", "string", "holds")),
    ("unique", ("spot", "spots")),
    ("row", ("spot",)),
    ("drop", ("spot",)),
    ("put", ("spot", "spot", "value")),
    ("refer", ("spot", "spot", "optional spot")),
    ("add", ("spot", "spot", "integer")),
    ("insert", ("spot", "spot", "optional mark", "string")),
    ("remove", ("mark",)),
    ("undo", ("name",)),
)
# What a column can hold but references, whose number is the one behind these.
HOLDS = ("integer", "text", "boolean", "counter", "letters")
