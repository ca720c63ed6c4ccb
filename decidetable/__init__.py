"""Tables that decide, whole."""
