"""A controller's numbers: reckoned exactly, put once."""
