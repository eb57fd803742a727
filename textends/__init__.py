"""A text by its ends: where each row of bytes stands and what comes twice."""
