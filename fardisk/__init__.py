"""A disk given over a line: the target's end of iSCSI, after RFC 7143."""
