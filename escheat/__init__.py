"""Escheat: a language whose memory is given back by kinds."""
