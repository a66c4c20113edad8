"""Hidden mines, played and weighed."""
