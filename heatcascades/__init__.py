"""Cascaded heat supply: users of heat, their load and the cascades that serve them."""
