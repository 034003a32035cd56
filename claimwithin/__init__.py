"""One claim within others: words, things, patterns, and what falls under what."""
