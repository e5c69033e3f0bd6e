"""The numbers that mean something of their own in a rule."""

# As a rule's when it fits any value, as its set_to it lets the value stay.
ANY = 4

GO = 0
CALL = 1
COME_BACK = 2
