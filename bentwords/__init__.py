"""Forms of words, made of them by rules."""
