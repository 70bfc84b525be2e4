"""Speech by regular pulses: GSM 06.10, full rate, coded and decoded to the bit."""
