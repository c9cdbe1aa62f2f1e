"""Onlythedirt: films of layers, where only what an edit changes is worked out anew."""
