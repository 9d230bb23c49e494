"""A TMS 9900, whose registers are words of memory, run by steps over 65536 bytes."""
