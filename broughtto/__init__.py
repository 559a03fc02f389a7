"""From what is to what's wanted, whole."""
