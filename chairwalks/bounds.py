"""The numbers that limit what the package accepts."""

LIMIT = 1000000
MAX_STATIONS = 10
MAX_CHAIRS = 50
MAX_WALKERS = 40
MAX_WANT = 500
SMALL_STAGES = 12
MAX_EDITS = 60
BATCH = 20
