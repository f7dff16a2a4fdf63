"""A calendar of things that wait: one clock, four chains."""
