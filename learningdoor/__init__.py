"""A door that learns from the cards that it is shown."""
