"""Electric networks over all frequencies, exact: the calls are in wirequotients.networks."""
