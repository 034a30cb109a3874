"""A store brought over in pieces, whole."""
