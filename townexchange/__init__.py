"""A telephone exchange: lines, numbers, groups, calls and the switches between them."""
