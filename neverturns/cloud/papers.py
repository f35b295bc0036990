"""Clouds of maps, and the papers and recipes that are made of them."""

from neverturns.errors import InvalidNumber, InvalidOperation
from neverturns.base.machines import check_two
from neverturns.base.words import has_only, is_between, is_word
from neverturns.cloud.images import hits_of, image_of, is_map_of
from neverturns.still.actions import composed

MOST_STEPS = 400
LONGEST_STEP = 60
MOST_TIMES = 60


def is_cloud_of_maps(one, other, value):
    """Tell whether the value is a cloud of maps of two machines."""
    check_two(one, other)
    return is_cloud_for(one, other, value)


def cloud_product(one, other, left, right):
    """Return the product of two clouds."""
    check_two(one, other)
    check_cloud(one, other, left)
    check_cloud(one, other, right)
    return multiplied(left, right)


def cloud_power(one, other, cloud, times):
    """Return the cloud repeated."""
    check_two(one, other)
    check_cloud(one, other, cloud)
    if not is_between(times, 1, MOST_TIMES):
        raise InvalidNumber(times)
    trail, back = powers(cloud)
    return tuple(sorted(list(power_at(trail, back, times))))


def often(one, other, cloud):
    """Return the cloud taken often."""
    check_two(one, other)
    check_cloud(one, other, cloud)
    return taken_often(cloud)


def often_number(one, other, cloud):
    """Return the least number for which the cloud repeated, and repeated twice as often, are equal."""
    check_two(one, other)
    check_cloud(one, other, cloud)
    trail, back = powers(cloud)
    return settled_number(trail, back)


def is_bad(one, other, cloud):
    """Tell whether a cloud is bad."""
    check_two(one, other)
    check_cloud(one, other, cloud)
    return is_bad_for(one, other, cloud)


def is_clear_paper(one, other, value):
    """Tell whether the value is a clear paper."""
    check_two(one, other)
    if not isinstance(value, tuple) or not all([is_cloud_for(one, other, cloud) for cloud in value]):
        return False
    if not is_ascending(value) or any([is_bad_for(one, other, cloud) for cloud in value]):
        return False
    owners = owners_of(value)
    if not all([image_of(one, other, word) in owners for word in ("",) + tuple(list(one.letters))]):
        return False
    return has_products(value, owners) and all([common_owners(taken_often(cloud), owners) for cloud in value])


def recipe_clouds(one, other, recipe):
    """Return the tuple of the clouds of all steps of a recipe."""
    check_two(one, other)
    check_recipe(one, recipe)
    return clouds_of(one, other, recipe)


def is_recipe(one, other, value):
    """Tell whether the value is a recipe."""
    check_two(one, other)
    return is_recipe_for(one, value)


def is_blur(one, other, value):
    """Tell whether the value is a blur."""
    check_two(one, other)
    return is_blur_for(one, other, value)


def is_ascending(rows):
    """Tell whether each row is less than the next one."""
    return all([low < high for low, high in zip(rows, rows[1:])])


def is_cloud_for(one, other, value):
    """Tell whether the value is a non-empty ascending tuple of maps."""
    if not isinstance(value, tuple) or value == ():
        return False
    return all([is_map_of(one, other, leads) for leads in value]) and is_ascending(value)


def check_cloud(one, other, value):
    """Raise InvalidOperation if the value is no cloud of maps of two machines."""
    if not is_cloud_for(one, other, value):
        raise InvalidOperation("this is no cloud of maps of the two machines")


def is_bad_for(one, other, cloud):
    """Tell whether a cloud hits an end of the one, and an end of the other machine."""
    found = [hits_of(one, other, leads) for leads in cloud]
    return any([first for first, _ in found]) and any([second for _, second in found])


def products_of(rows, part, rights):
    """Return the products of a part of a map with others, from a dict of those that are known."""
    if part not in rows:
        rows[part] = [composed(part, right) for right in rights]
    return rows[part]


def multiplied(left, right):
    """Return the product of two clouds."""
    firsts = [first for first, _ in right]
    seconds = [second for _, second in right]
    first_rows = {}
    second_rows = {}
    found = {}
    for first, second in left:
        for goal in zip(products_of(first_rows, first, firsts), products_of(second_rows, second, seconds)):
            found[goal] = True
    return tuple(sorted(list(found)))


def powers(cloud):
    """Return dicts of the maps of the cloud repeated once and more often, and where they begin again.

    Mostly few maps come and go from one power to the next one; so it is counted in how
    many ways each map is made, and only what comes and goes changes that.
    """
    firsts = [first for first, _ in cloud]
    seconds = [second for _, second in cloud]
    first_rows = {}
    second_rows = {}
    ways = {}
    trail = [{leads: True for leads in cloud}]
    changes = [(leads, 1) for leads in cloud]
    while True:
        for (first, second), more in changes:
            for goal in zip(products_of(first_rows, first, firsts), products_of(second_rows, second, seconds)):
                ways[goal] = ways.get(goal, 0) + more
        now = {leads: True for leads in ways if ways[leads] > 0}
        if now in trail:
            return trail, trail.index(now)
        last = trail[-1]
        changes = [(leads, 1) for leads in now if leads not in last]
        changes = changes + [(leads, -1) for leads in last if leads not in now]
        trail.append(now)


def power_at(trail, back, times):
    """Return the dict of the maps of the cloud repeated so often, by what powers returns."""
    if times <= len(trail):
        return trail[times - 1]
    return trail[back + (times - 1 - back) % (len(trail) - back)]


def settled_number(trail, back):
    """Return the least multiple of the length of the round that is not ahead of the round."""
    length = len(trail) - back
    return (back + length) // length * length


def taken_often(cloud):
    """Return the cloud taken often."""
    trail, back = powers(cloud)
    number = settled_number(trail, back)
    found = {leads: True for leads in power_at(trail, back, number)}
    for leads in power_at(trail, back, number + 1):
        found[leads] = True
    return tuple(sorted(list(found)))


def owners_of(clouds):
    """Return a dict from the maps of some clouds to numbers whose bits tell the clouds that have them."""
    owners = {}
    for at, cloud in enumerate(clouds):
        for leads in cloud:
            owners[leads] = owners.get(leads, 0) | 1 << at
    return owners


def common_owners(cloud, owners):
    """Return the number whose bits tell the clouds that have all maps of a cloud."""
    found = -1
    for leads in cloud:
        found = found & owners.get(leads, 0)
    return found


def has_products(clouds, owners):
    """Tell whether for each two clouds some cloud has all maps of their product."""
    rights = list(owners)
    firsts = [first for first, _ in rights]
    seconds = [second for _, second in rights]
    first_rows = {}
    second_rows = {}
    for cloud in clouds:
        marks = [-1] * len(rights)
        for first, second in cloud:
            goals = list(zip(products_of(first_rows, first, firsts), products_of(second_rows, second, seconds)))
            marks = [mark & owners.get(goal, 0) for mark, goal in zip(marks, goals)]
        # By each map: the clouds that have all products of this cloud with the map.
        behind = {leads: mark for leads, mark in zip(rights, marks)}
        if not all([common_owners(right, behind) for right in clouds]):
            return False
    return True


def is_recipe_for(one, value):
    """Tell whether the value is a recipe of machines with the letters of the one."""
    if not isinstance(value, tuple) or not 1 <= len(value) <= MOST_STEPS:
        return False
    return all([is_step(one.letters, step, at) for at, step in enumerate(value)])


def is_step(letters, value, at):
    """Tell whether the value is a step of a recipe that can stand behind so many others."""
    if not is_step_form(value, at):
        return False
    return value[0] != "word" or len(value[1]) <= LONGEST_STEP and has_only(value[1], letters)


def is_step_form(value, at):
    """Tell whether the value is a step that can stand behind so many others, but for its word."""
    if not isinstance(value, tuple) or not 2 <= len(value) <= 3:
        return False
    if value[0] == "word":
        return len(value) == 2 and is_word(value[1])
    if value[0] not in ("both", "often") or len(value) != (3 if value[0] == "both" else 2):
        return False
    return all([is_between(index, 0, at - 1) for index in value[1:]])


def check_recipe(one, value):
    """Raise InvalidOperation if the value is no recipe."""
    if not is_recipe_for(one, value):
        raise InvalidOperation("this is no recipe of the two machines")


def clouds_of(one, other, recipe):
    """Return the tuple of the clouds of all steps of a recipe."""
    clouds = []
    for step in recipe:
        clouds.append(step_cloud(one, other, step, clouds))
    return tuple(clouds)


def step_cloud(one, other, step, clouds):
    """Return the cloud of a step, by those of the earlier steps."""
    if step[0] == "word":
        return (image_of(one, other, step[1]),)
    if step[0] == "both":
        return multiplied(clouds[step[1]], clouds[step[2]])
    return taken_often(clouds[step[1]])


def needed_steps(steps, last):
    """Return the ascending list of the indices of the steps of which one is made, and its own."""
    needed = {last: True}
    for at in range(last, -1, -1):
        if at in needed:
            for source in sources_of(steps[at]):
                needed[source] = True
    return sorted(list(needed))


def sources_of(step):
    """Return the list of the indices of the earlier steps of which a step is made."""
    return [source for source in step[1:] if isinstance(source, int)]


def picked_steps(steps, last):
    """Return the tuple of the steps of which one is made, up to this one, with their new indices."""
    numbers = {}
    picked = []
    for at in needed_steps(steps, last):
        numbers[at] = len(picked)
        picked.append(tuple([numbers[part] if isinstance(part, int) else part for part in steps[at]]))
    return tuple(picked)


def is_blur_for(one, other, value):
    """Tell whether the value is a recipe whose last cloud is bad."""
    return is_recipe_for(one, value) and is_bad_for(one, other, clouds_of(one, other, value)[-1])
