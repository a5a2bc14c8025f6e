"""Shut off: how strangers' bases cut a railway company off from its goals."""
