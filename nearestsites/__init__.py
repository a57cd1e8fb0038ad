"""Who's nearest: sites in a square land, and which of them is nearest from where."""
