"""Cells of fifty-three bytes: found in a stream, mended, put together to messages, and made of messages."""
