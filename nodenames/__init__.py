"""Names over nodes that meet again."""
