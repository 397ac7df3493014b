"""Cells of fifty-three bytes: found in a stream, mended, and put together to messages."""
