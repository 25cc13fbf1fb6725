"""Worlds that several tests share."""

import random

from boundstone.world import World

KEYS = "bcdfgklmpt"


def world_of(servers, clients, *acts):
    """A new world after these acts."""
    world = World(servers, clients)
    for act in acts:
        world.act(act)
    return world


def look(world, servers, clients):
    """All that can be seen of a world."""
    named = [world.client(name) for name in range(-clients, 0)]
    return {
        "time": world.time(),
        "packets": world.packets(),
        "up": [world.is_up(me) for me in range(servers)],
        "shards": [world.shards(me) for me in range(servers)],
        "contents": [world.content(me, *shard[:3]) for me in range(servers) for shard in world.shards(me)],
        "holdings": world.holdings(),
        "clients": [(client.pending(), client.accepted(), client.pieces()) for client in named],
        "pieces": world.pieces(),
        "history": world.history().events(),
    }


def some_operation(chance):
    key = chance.choice(KEYS)
    return chance.choice((("get", key), ("put", key, chance.choice("xyz")), ("put", key, "it's 5"), ("drop", key),
                          ("swap", key, chance.choice("xyz"), "v"), ("page", key, 2), ("page", "", 3)))


def some_order(chance, world, servers):
    """An order about some shard, which may be possible."""
    me = chance.randrange(servers)
    shards = world.shards(me) or [("", None, 1, "open")]
    low, high, epoch, _ = chance.choice(shards)
    kind = chance.choice(("move", "move", "split", "join"))
    if kind == "move":
        return ("order", me, ("move", low, high, epoch, chance.randrange(servers)))
    if kind == "split":
        inside = [key for key in KEYS if low < key and (high is None or key < high)]
        return ("order", me, ("split", low, high, epoch, chance.choice(inside))) if inside else ("round",)
    others = [shard for shard in shards if shard[0] == high]
    if not others:
        return ("round",)
    _, end, other, _ = chance.choice(others)
    return ("order", me, ("join", low, high, epoch, end, other))


def some_trouble(chance, world, servers, flying):
    me = chance.randrange(servers)
    if not world.is_up(me):
        return ("restart", me, chance.choice((0, 1, 5, 30, 1000)))
    kind = chance.choice(("lose", "double", "move", "move", "crash", "arm"))
    if kind == "crash":
        return ("crash", me) if chance.random() < 0.2 else ("round",)
    if kind == "arm":
        return ("arm", me, chance.randint(0, 9)) if chance.random() < 0.5 else ("round",)
    return (kind, chance.randrange(flying)) if flying else ("tick", 1)


def some_act(chance, world, servers, clients):
    """An act that is possible."""
    flying = len(world.packets())
    luck = chance.random()
    if luck < 0.15 and clients:
        return ("submit", -chance.randint(1, clients), some_operation(chance))
    if luck < 0.25:
        return ("tick", 1) if chance.random() < 0.8 else ("tick", 2)
    if luck < 0.28:
        return ("calm", chance.randint(1, 3))
    if luck < 0.31:
        return some_order(chance, world, servers)
    if luck < 0.41:
        return some_trouble(chance, world, servers, flying)
    if luck < 0.45:
        return ("round",)
    # Most packets are delivered soon, but some overtake many others.
    reach = flying if chance.random() < 0.2 else min(5, flying)
    return ("deliver", chance.randrange(reach)) if flying else ("tick", 1)


def go_on(chance, world, servers, clients, steps):
    """Let a world live on, and return its acts."""
    acts = []
    for _ in range(steps):
        acts.append(some_act(chance, world, servers, clients))
        world.act(acts[-1])
    return acts


def live(seed, steps):
    """Let a new world live, and return it with its numbers of servers and clients, and its acts."""
    chance = random.Random(seed)
    servers, clients = chance.randint(1, 4), chance.randint(0, 5)
    world = World(servers, clients)
    return world, servers, clients, go_on(chance, world, servers, clients, steps)


def bring_up(world, servers):
    """Let all servers be up, with disks that are not armed."""
    for me in range(servers):
        if world.is_up(me):
            world.act(("crash", me))
        world.act(("restart", me, 7))
