"""Pages of dots: black and white pages, thirty-two places to a word."""
