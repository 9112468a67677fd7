"""Who can have heard of what: stations, facts, letters and claims."""
