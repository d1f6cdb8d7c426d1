"""Sharp rises: how likely an answer about bits is yes, as the chance of each bit grows."""
