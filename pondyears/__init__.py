"""Plants on a round pond, season by season."""
