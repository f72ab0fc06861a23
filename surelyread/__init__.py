"""surelyread: pages read whole under a grammar, and what is sure about it."""
