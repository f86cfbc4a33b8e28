"""Few registers: code of blocks, built and asked about by calls."""
