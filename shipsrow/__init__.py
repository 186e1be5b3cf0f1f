"""Ships in a row of any length: what plans surely hit, what answers leave, and a game."""
