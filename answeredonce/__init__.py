"""Asked, and answered once: callers, servers, and the letters between them."""
