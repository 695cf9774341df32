"""Which light it was, by what was seen."""
