"""Tables of next rooms, pressed."""
