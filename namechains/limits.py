"""The limits of the document (section 11)."""

# The greatest day and the greatest tag.
LIMIT = 10 ** 30

# Letters of a word.
MAX_LETTERS = 8

# Names of a chain in a statement.
MAX_NAMES = 4

# Names of a chain that is asked about.
MAX_ASKED = 8

# Statements of a book.
MAX_STATEMENTS = 24

# Chains of a subject.
MAX_CHAINS = 4

# The greatest bound on how often a Leave may be passed on.
MAX_TIMES = 9
