"""A store of sealed records that mends itself."""
