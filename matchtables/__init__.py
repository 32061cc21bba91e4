"""Table analyzer for packet switches: counts what the entries of a match table do."""
