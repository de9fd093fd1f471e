"""Places for the values of programs whose steps run in no told order."""
