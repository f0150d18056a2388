"""Blocks of sound as bytes, and back again bit for bit: bitsound.blocks.answers is the way in."""
