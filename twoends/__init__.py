"""One end of a tunnel between two, with WireGuard's messages."""
