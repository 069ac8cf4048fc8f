"""Rain barrels that overflow into each other."""
