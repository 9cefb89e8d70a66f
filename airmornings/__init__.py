"""A morning at an airport: who lands when, and where each one stands."""
