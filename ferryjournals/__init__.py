"""Journals of translators' work: sets of records, of which heads, conflicts and what stands are told."""
