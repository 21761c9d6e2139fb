"""A lottery wheel: tickets that are bought, draws, and what is right on them."""
