"""Where it went wrong: which answers of a disputation are bad, how, and what would make it right."""
