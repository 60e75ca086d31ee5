"""Plans of looks: an inspector's lots over a few days, and what the other can get at best."""
