"""Store location on a road network: k-center, k-median and robust k-center."""
