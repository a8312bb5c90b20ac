"""Listings: a desk as a text."""


def line_of(desk, part):
    """The line of a part, without a line feed."""
    verdict = desk.verdict(part)
    begin, end = desk.market.runs[part]
    low, high = (0, 0) if verdict == "kept" else desk.notes.stretches[part]
    return f"{part} {begin}-{end} {ends_text(low, high)} {verdict}"


def ends_text(low, high):
    """Two ends with two full stops between them, or one of them if they are equal."""
    return str(low) if low == high else f"{low}..{high}"


def listing(desk):
    """The text of a desk: its state, its parts, what is to be paid and whether that is sure."""
    market = desk.market
    lines = [f"{market.KIND} of {market.size}, wanted {desk.wanted}, spent {desk.spent}, deeds {len(desk)}"]
    for part in range(market.many):
        lines.append(line_of(desk, part))
    if desk.short:
        lines.append("short")
    else:
        low, high = desk.pay_ends()
        lines.append(f"to pay {ends_text(low, high)}")
    stock = desk.sure_stock()
    if stock is None:
        lines.append("not sure")
    else:
        lines.append(" ".join(["sure"] + [str(part) for part in stock]))
    return "".join([f"{line}\n" for line in lines])
