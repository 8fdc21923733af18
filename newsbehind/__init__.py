"""Newsbehind: houses that go by late news, and when they come to rest."""
