"""Which of a part's cuts a tool can reach, and when."""
