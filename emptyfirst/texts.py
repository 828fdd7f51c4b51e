"""The texts of services and nets."""


def show_service(service):
    """Return the text of a service."""
    return " ".join([show_room(steps) for steps in service.rooms])


def show_net(net):
    """Return the text of a net."""
    services = [f"{name}: {show_service(net[name])}" for name in net.services]
    joins = [f"{name}.{line}={other}.{other_line}" for name, line, other, other_line in net.joins]
    return "; ".join(services + joins)


def show_room(steps):
    """Return the text of a room, given by its steps."""
    return ",".join([f"{sign}{line}.{word}>{room}" for sign, line, word, room in steps]) if steps else "."
