"""Frames: calls, throws and stacks that are cut. The way in is answers in throwstack.desk."""
