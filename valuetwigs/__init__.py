"""Trees of values, asked and changed; the calls are in valuetwigs.twigs."""
