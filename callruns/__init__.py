"""Where programs with calls can come to."""
