"""How sides and points divide the plane; shapes and drawings rest on this."""
