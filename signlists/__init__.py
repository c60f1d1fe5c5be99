"""Lists of signs: their names, shapes and sounds."""
