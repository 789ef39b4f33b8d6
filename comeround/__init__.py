"""Points that come round: maps drawn by straight lines between dots."""
