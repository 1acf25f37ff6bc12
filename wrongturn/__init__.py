"""Where it went wrong: which answers of a disputation are bad, and how."""
