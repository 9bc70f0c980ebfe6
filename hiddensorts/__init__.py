"""Hidden sorts behind looks that were seen two by two, in exact ratios."""
