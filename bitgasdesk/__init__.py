"""A gas of bits, whole: bitgasdesk.board answers the calls."""
