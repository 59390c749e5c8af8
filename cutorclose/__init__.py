"""Cutorclose: books reckoned place by place, in every order."""
