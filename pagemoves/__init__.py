"""Moving on a page: where one comes to, and in what order the focus goes."""
