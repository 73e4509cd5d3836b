"""What is told of a world, number by number."""


def one_if(yes):
    return 1 if yes else 0


# joined tells for each number who it is, in the order in which they began or came.
def told_of_joined(joined):
    numbers = [len(joined)]
    for number, who in joined.items():
        numbers.extend([number, who])
    return numbers


def told_of_links(links):
    numbers = [len(links)]
    for q in sorted(links):
        numbers.extend([q, links[q]])
    return numbers


def told_of_process(process):
    numbers = [process.node, one_if(process.lives), process.why, process.traps]
    numbers.extend(told_of_links(process.links))
    numbers.extend(told_of_joined(process.watches))
    numbers.extend(told_of_joined(process.watched_by))
    return numbers


def told_of_box(box):
    numbers = [len(box)]
    for note in box:
        numbers.extend(note)
    return numbers


def told_of_air(air):
    numbers = [len(air)]
    for p, q, signal, connection in air:
        numbers.extend([p, q])
        numbers.extend(signal)
        numbers.append(connection)
    return numbers


def told_of_wires(world):
    numbers = []
    for a, b in world.broken:
        numbers.extend([world.connections[(a, b)], world.connections[(b, a)], one_if(world.broken[(a, b)])])
    return numbers
