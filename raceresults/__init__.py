"""A totalisator's day, layer e: how races came in."""
