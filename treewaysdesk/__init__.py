"""A forest linked, cut and rooted anew, with values along its ways."""
