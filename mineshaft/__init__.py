"""A mine's shaft: its cage, rope, levels, persons and locks."""
