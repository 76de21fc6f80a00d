"""Many requests over one line at once: the server's end of such a line."""
