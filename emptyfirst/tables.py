"""Tables of rows of words, from graphs in which some ways have no word.

A graph is a list of the ways from each node, as lists of (word, node), with None where there is no word. Sets of
nodes are masks here: integers, each bit of which tells whether a node is among them.
"""

from emptyfirst.rooms import least_rooms


def members(mask):
    """Return the ascending list of the nodes of a mask."""
    return [node for node in range(mask.bit_length()) if mask >> node & 1]


def mask_of(nodes):
    """Return the mask of a list of nodes, each of which stands in it once."""
    return sum([1 << node for node in nodes])


def union_of(masks):
    """Return the mask of the nodes that are in any mask of a list."""
    union = 0
    for mask in masks:
        union = union | mask
    return union


def settled(changed, graph, masks):
    """Return masks once they stay as they are when changed, a function of a graph and of masks, makes new ones."""
    others = changed(graph, masks)
    while others != masks:
        masks = others
        others = changed(graph, masks)
    return masks


def silent_masks(graph):
    """Return for each node the mask of the nodes to which it leads without a word, itself among them."""
    return settled(wider_masks, graph, [1 << node for node in range(len(graph))])


def wider_masks(graph, masks):
    """Return for each node its mask together with those of the nodes to which one way without a word leads."""
    return [
        masks[node] | union_of([masks[goal] for word, goal in ways if word is None])
        for node, ways in enumerate(graph)
    ]


def word_masks(graph):
    """Return for each node a dict from each word that can come next to the mask of the nodes to which it leads."""
    silent = silent_masks(graph)
    leads = []
    for node in range(len(graph)):
        goals = {}
        for passed in members(silent[node]):
            for word, goal in graph[passed]:
                if word is not None:
                    goals[word] = goals.get(word, 0) | silent[goal]
        leads.append(goals)
    return leads


def next_words(leads, mask):
    """Return the ascending list of the words that can come next at some node of a mask."""
    return sorted({word for node in members(mask) for word in leads[node]})


def mask_behind(leads, mask, word):
    """Return the mask of the nodes to which a word leads from those of a mask."""
    return union_of([leads[node].get(word, 0) for node in members(mask)])


def covering_masks(leads):
    """Return for each node the mask of those that cover it: from which at least the same leads on, word by word."""
    # Graphs go round: a node may cover another one unless something behind it does not, so all of them do at first.
    return settled(fewer_covers, leads, [mask_of(list(range(len(leads)))) for _ in leads])


def fewer_covers(leads, covers):
    """Return for each node the mask of those that cover it if the given masks were right one word further on."""
    kept = {}
    fewer = []
    for node, goals in enumerate(leads):
        mask = covers[node]
        for word in goals:
            if (word, goals[word]) not in kept:
                kept[(word, goals[word])] = covering(leads, covers, word, goals[word])
            mask = mask & kept[(word, goals[word])]
        fewer.append(mask)
    return fewer


def covering(leads, covers, word, mask):
    """Return the mask of the nodes from which a word leads, for each node of a mask, to one that covers it."""
    wanted = sorted({covers[node] for node in members(mask)})
    return mask_of([
        node for node, goals in enumerate(leads)
        if all([goals.get(word, 0) & cover > 0 for cover in wanted])
    ])


def widened(covers, mask):
    """Return a mask with all the nodes that are covered by one of its own."""
    return mask_of([node for node, cover in enumerate(covers) if cover & mask])


def least_table(leads, first):
    """Return the least table of the rows of words that lead on from the nodes of a mask."""
    covers = covering_masks(leads)
    # The same rows lead on from widened masks, which are far fewer: else small tables may need very many masks.
    order = [widened(covers, first)]
    numbers = {order[0]: 0}
    rooms = []
    while len(rooms) < len(order):
        mask = order[len(rooms)]
        steps = []
        for word in next_words(leads, mask):
            behind = widened(covers, mask_behind(leads, mask, word))
            if behind not in numbers:
                numbers[behind] = len(order)
                order.append(behind)
            steps.append(("!", "", word, numbers[behind]))
        rooms.append(steps)
    return [[(word, room) for _, _, word, room in steps] for steps in least_rooms(rooms)]


def most_words(leads, first):
    """Return the greatest number of words that lead on from the nodes of a mask, None if any number does."""
    mask = first
    # A row of as many words as there are nodes comes to some node twice, and can go round there.
    for count in range(len(leads)):
        mask = union_of([mask_behind(leads, mask, word) for word in next_words(leads, mask)])
        if mask == 0:
            return count
    return None
