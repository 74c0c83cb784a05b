"""Which engine goes to which fire, and which fires lack engines."""
