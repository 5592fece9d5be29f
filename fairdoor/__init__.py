"""A server of many: who comes in, whose requests are worked at, and when."""
