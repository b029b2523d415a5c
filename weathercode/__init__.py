"""Weather told in code: short reports, read and written strictly, and what may come of them."""
