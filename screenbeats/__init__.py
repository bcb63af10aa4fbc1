"""Where turned screens of dots come back together."""
