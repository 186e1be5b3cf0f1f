"""Ships in a row of any length: what shots by a plan surely hit."""
