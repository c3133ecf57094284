"""Route origin validation and prefix hijack analysis."""
