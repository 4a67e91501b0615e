"""A passage: a boat that beats to a mark, among shoals, against a wind that shifts."""
