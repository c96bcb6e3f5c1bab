"""A machine of marbles: marbles fall over gates that tilt, and come out of exits."""
