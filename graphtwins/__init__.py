"""graphtwins: graphs of objects, held alike by several peers."""
