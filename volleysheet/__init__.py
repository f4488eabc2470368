"""A volleyball match's sheet: volleysheet.match.answers answers the calls about one match."""
