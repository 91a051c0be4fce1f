"""The limits that the functions and classes of the package keep to."""

# Places of a row, and the size of a tree.
MAX_PLACES = 12

# Places of the foldable rows that are counted and numbered.
MAX_COUNT = 60

# Entries of a plan.
MAX_ENTRIES = 20

# Places of the rising selections that are counted.
MAX_LENGTH = 4

# Edits that may stand in a bench.
EDITS = 60

# Edits of one run of a bench.
BATCH = 20
