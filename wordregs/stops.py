"""Why a run stops, as the numbers that it answers."""

# While a run is going on this says that nothing stops it; once its steps are over, it is what is answered.
GOES_ON = 0
NO_SUCH = 1
OUTSIDE = 2
IDLES = 3
BY_ITSELF = 4
