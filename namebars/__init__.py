"""Names alike, and which of them is barred."""
