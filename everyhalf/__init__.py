"""Every half of a company just once, one exchange an evening."""
