"""Moving on a page: where one comes to, in what order the focus goes, and what cells are said as."""
