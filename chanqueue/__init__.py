"""A transputer: three registers in a row, processes, channels, choices."""
