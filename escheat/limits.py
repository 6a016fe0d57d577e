"""The limits of texts, trees, programs, runs, memory and certificates."""

# Characters of a text.
MAX_TEXT = 6000
# Levels of forms, of expressions and of blocks.
MAX_DEPTH = 12
# Expressions of a tree.
MAX_NODES = 400
# Steps of a flat program or of a region program, without new and end.
MAX_STEPS = 1200
# Regions of a function: formal ones and those that it begins.
MAX_REGIONS = 64
# Elements of an array.
MAX_ARRAY = 12
# Ticks of a run.
MAX_FUEL = 200
# Parameters of the main function.
MAX_ARGUMENTS = 3
# Parameters of a function, fields of a constructor, parts of a tuple, arms of a handle.
MAX_PARTS = 6
# Constructors of a data kind.
MAX_CONSTRUCTORS = 8
# Kinds in a kind: itself and all kinds in it.
MAX_KIND = 32
# Words of a page.
PAGE_WORDS = 8
# What a pointer has more than the address of its cell.
FIRST_ADDRESS = 64
# A number of a linear expression.
MAX_COEFFICIENT = 1000000000000
