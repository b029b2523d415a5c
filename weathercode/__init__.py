"""Weather told in code: short reports, read strictly."""
