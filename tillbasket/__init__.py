"""Tillbasket: a basket of goods, offers that want the same pieces, and the least that it costs."""
