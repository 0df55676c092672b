"""A screen shown far away, over a line of bytes (RFB 3.8): the showing end."""
