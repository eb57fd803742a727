"""A text by its ends: where each row of bytes stands, what comes twice, the text turned by its order and back."""
