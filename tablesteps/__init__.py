"""Tables that are asked in steps."""
