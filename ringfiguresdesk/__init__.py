"""Figures in the plane, put together exactly: see ringfiguresdesk.plane.answers."""
