"""Tables of forms: what stands in each cell of a word, and why."""
