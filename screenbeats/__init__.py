"""Where turned screens of dots come back together, which dots meet, and the beats between them."""
