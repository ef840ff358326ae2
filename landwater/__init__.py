"""Water over land, whole."""
