"""Documents changed by operations: the calls are in patchwords.documents."""
