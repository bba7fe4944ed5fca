"""Who waits for whom: passengers board an aeroplane, one behind another, each to a row."""
