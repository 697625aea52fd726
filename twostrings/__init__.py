"""Two strings that are twisted and turned, and the fractions of their figures."""
