"""Which systems run beside one another."""
