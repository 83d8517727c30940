"""One end of a connection over a net that loses, doubles, delays and disorders."""
