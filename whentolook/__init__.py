"""When to look: an inspector's season of looks against somebody's misdeeds."""
