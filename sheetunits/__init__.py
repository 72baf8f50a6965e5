"""What unit comes out: the most general units of what a sheet names."""
