"""What keeps it alive: a heap examined, whole."""
