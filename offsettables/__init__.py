"""Tables of offsets: measures in feet, inches, eighths."""
