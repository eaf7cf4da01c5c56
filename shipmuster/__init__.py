"""A muster by stations: who came in where at a drill, as far as each station has heard."""
