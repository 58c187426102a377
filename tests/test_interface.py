"""The interface: each name under its file, with its parameters, defined there; each method in its class itself."""

import ast
import os
import unittest

ROOT = os.path.dirname(os.path.dirname(os.path.abspath(__file__)))
# The headings of the document, by file; those of methods begin with the class.
INTERFACE = {
    "shapekinds": (
        "is_shape(thing), is_plain(thing)",
        "queues_of(form), nodes_of(form), forks_above(form)",
    ),
    "shapetexts": (
        "shape_text(form)",
        "read_shape(text)",
    ),
    "trees": (
        "ShapeTree(form)",
        "ShapeTree: form_of(), bough_of(node), parent_of(node), kids_of(node), depth_of(node)",
        "ShapeTree: low_of(node), high_of(node), node_of(queue), queue_at(node), path_of(queue)",
        "ShapeTree: meet_of(one, other), lies_in(node, top), toward(node, down)",
    ),
    "plainforms": (
        "plain_form(form), plain_nodes(form)",
    ),
    "turnings": (
        "turned_form(form), are_turns(one, other)",
    ),
    "clans": (
        "clans_of(form)",
        "crossing_of(many, rows), shape_of_clans(many, rows)",
    ),
    "cutting": (
        "kept_queues(form, queues)",
        "struck(form, queue)",
        "contracted(form, fork)",
        "replaced_bough(form, node, other)",
    ),
    "shapelists": (
        "list_shapes(many), count_shapes(many)",
    ),
    "rankkinds": (
        "is_rank(thing)",
        "is_line(thing)",
        "are_ranks(form, queue, thing)",
        "events_fit(form, thing)",
    ),
    "entrylines": (
        "put_place(line, rank)",
        "put_entry(line, rank, item)",
    ),
    "standings": (
        "Standing(form)",
        "Standing: form_of(), push(number, queue, ranks)",
        "Standing: depart()",
        "Standing: line_of(node), all_lines(), order()",
        "Standing: lies_at(number), present(), many_present()",
        "Standing: twin(), same_as(other)",
    ),
    "standingmakers": (
        "lets_lines(form, thing)",
        "standing_of(form, lines)",
    ),
    "boughparts": (
        "bough_standing(standing, node)",
        "grafted(standing, node, form)",
    ),
    "playing": (
        "play_events(form, events)",
    ),
    "orders": (
        "order_of(standing, node)",
        "place_of(standing, node, number)",
        "may_turn(form, queue, one, other)",
    ),
    "insertings": (
        "rank_at(line, place, gap)",
        "ranks_at(standing, queue, places, gap)",
        "plain_places(standing, queue, node, place)",
    ),
    "futures": (
        "parting_of(one, other)",
        "lets_parting(one, other, test)",
    ),
    "layingkinds": (
        "is_laying(plain, chip, thing), top_of(plain, chip, images, node)",
    ),
    "packing": (
        "greatest_masks(plain, chip, fork, node), can_lay(plain, chip)",
    ),
    "leastlayings": (
        "least_laying(plain, chip, weights)",
    ),
    "layingcounts": (
        "count_layings(plain, chip), count_begun(plain, chip, begun)",
    ),
    "layingnumbers": (
        "nth_laying(plain, chip, number), number_of_laying(plain, chip, images), layings_from(plain, chip, number, many)",
    ),
    "whynots": (
        "why_not(plain, chip), lets_why_not(plain, chip, table)",
    ),
    "fulltrees": (
        "full_tree(width, height), height_for(plain, width), least_full(plain), all_carrying(many), queues_of_all(many)",
    ),
    "comparing": (
        "compare_shapes(one, other)",
    ),
    "sparing": (
        "spared_chip(chip, plains)",
    ),
    "plans": (
        "Plan(plain, chip, images)",
        "Plan: plain_of(), chip_of(), images_of(), image_of(queue), top_at(node), owner_at(node)",
    ),
    "ways": (
        "way_of(plan, queue, ranks)",
    ),
    "writing": (
        "write_standing(plan, standing)",
    ),
    "reading": (
        "follows_plan(plan, standing)",
        "read_standing(plan, standing)",
        "move_standing(plan, standing, other)",
    ),
    "plankeepers": (
        "PlanKeeper(plan)",
        "PlanKeeper: push(number, queue, ranks), depart(), chip_standing(), plain_standing()",
        "twin_run(plan, events)",
    ),
    "composing": (
        "led_on(plan, other)",
        "cut_plan(plan)",
    ),
    "besides": (
        "beside_of(plains)",
        "part_images(plains, images, part)",
    ),
    "wants": (
        "is_seats(plain, chip, thing), first_shared(plain, chip, seats), first_broken(plain, chip, seats)",
    ),
    "seatlayings": (
        "seat_laying(plain, chip, seats)",
    ),
    "steps": (
        "back_ranks(standing, queue)",
        "hop_ranks(standing, queue, one, other)",
    ),
    "neighbours": (
        "neighbour_pushes(standing, one, other)",
    ),
    "foes": (
        "most_challenges(plain, chip), most_pushes(plain, chip), Foe(plain, chip)",
        "Foe: next_push(), answer(queue, ranks), verdict(), answers(), seats_now()",
    ),
    "keepings": (
        "keeping_answers(standing, number, wish)",
    ),
    "mimics": (
        "Mimic(plain, chip, kind, choices)",
        "Mimic: push(number, queue, ranks), depart(), chip_standing()",
    ),
    "foretold": (
        "Foretold(plain, chip, events)",
        "Foretold: push(number, queue, ranks), depart()",
    ),
    "defeats": (
        "lets_defeat(plain, chip, defeat), play_foe(plain, chip, kind, choices)",
    ),
    "factkinds": (
        "is_name(thing), is_worth(thing), is_facts(thing)",
    ),
    "exprtexts": (
        "read_expr(text), expr_text(tree)",
    ),
    "worths": (
        "worth_of(tree, names)",
    ),
    "policies": (
        "are_parts(thing), Policy(parts)",
        "Policy: parts(), shape_of(), names_of(), route_for(number)",
    ),
    "policytexts": (
        "read_policy(text)",
    ),
    "putins": (
        "put_in(steps), unread_lets(steps)",
    ),
    "runners": (
        "Runner(policy)",
        "Runner: arrive(facts), depart(), standing_of_now(), order(), keeps_now(), taken()",
    ),
    "freepolicies": (
        "free_policy(plain), free_facts(plain, queue, ranks)",
    ),
    "codes": (
        "section_codes(steps), run_codes(rows, names), folded(tree)",
    ),
    "routetables": (
        "route_table(policy, plan)",
    ),
    "chiprunners": (
        "ChipRunner(policy, plan)",
        "ChipRunner: arrive(facts), depart(), order(), keeps_now(), taken(), chip_standing(), read_back()",
    ),
    "melts": (
        "can_melt(policy, kind, node), melted(policy, kind, node)",
    ),
    "leaning": (
        "lean_policy(policy), lets_melts(policy, melts)",
    ),
    "ranksets": (
        "rank_sets(policy), node_lanes(policy, plan)",
    ),
    "lanelines": (
        "LaneLine(ranks)",
        "LaneLine: put(rank, item), take(), lanes_now()",
        "LaneRunner(policy, plan, lanes)",
        "LaneRunner: arrive(facts), depart(), order(), keeps_now(), taken(), chip_standing()",
    ),
    "lanerows": (
        "least_lanes(kind, many, children), lane_row(kind, many, children)",
    ),
    "disciplines": (
        "discipline_policy(text)",
    ),
    "strides": (
        "turn_strides(weights), turns_bound(weights, one, other)",
        "meeting_deeds(weights, one, other)",
    ),
    "logs": (
        "are_deeds(policy, thing)",
        "fork_log(policy, deeds, fork)",
        "is_log(thing), waiting(log, place)",
    ),
    "stretches": (
        "worst_stretch(log, weights, one, other)",
        "longest_wait(log, one, other)",
    ),
    "isolating": (
        "bough_events(form, events, node)",
    ),
    "operators": (
        "read_operator(text)",
    ),
    "composites": (
        "composite_shape(text, shapes), place_nodes(text, shapes), can_mount(chip, text, shapes)",
    ),
    "tenants": (
        "tenant_policy(text, lean)",
    ),
    "exchanging": (
        "exchanged(standing, node, form, queues)",
    ),
    "switches": (
        "Switch(chip, text, room)",
        "Switch: mount(place, text, room, lean), unmount(place), exchange(place, text), move_to(chip)",
        "Switch: arrive(place, facts), depart()",
        "Switch: order(), counts_of(place), keeps_of(place), images_now(), chip_standing(), read_back()",
        "Switch: deeds(), snapshot()",
    ),
    "snapshots": (
        "restored(snapshot)",
    ),
    "journals": (
        "replayed(chip, text, room, deeds)",
    ),
    "plainruns": (
        "plain_run(chip, text, room, deeds), audit_of(switch, standing)",
    ),
    "ranktexts": (
        "rank_text(rank), read_rank(text)",
        "way_text(queue, ranks), read_way(text)",
    ),
    "standingtexts": (
        "standing_text(standing), read_standing_text(text)",
    ),
    "plantexts": (
        "plan_text(plan), read_plan(text)",
    ),
    "tabletexts": (
        "table_text(table), read_table(text)",
    ),
    "defeattexts": (
        "defeat_text(defeat), read_defeat(text)",
    ),
    "shows": (
        "show_value(thing)",
    ),
    "commandwords": (
        "read_command(line)",
    ),
    "commands": (
        "run_commands(text)",
    ),
}


def defined(name):
    """The functions of the file, and the methods of its classes, each with its parameters, and what is imported."""
    with open(os.path.join(ROOT, "nextbough", f"{name}.py"), encoding="utf-8") as held:
        tree = ast.parse(held.read())
    found = {}
    for node in tree.body:
        if isinstance(node, ast.FunctionDef):
            found[node.name] = parameters(node)
        elif isinstance(node, ast.ClassDef):
            for part in node.body:
                if isinstance(part, ast.FunctionDef):
                    key = node.name if part.name == "__init__" else f"{node.name}.{part.name}"
                    found[key] = parameters(part)[1:]
    return found


def parameters(node):
    assert not (node.args.vararg or node.args.kwarg or node.args.kwonlyargs or node.args.posonlyargs or node.args.defaults)
    return [part.arg for part in node.args.args]


def told(heading):
    """The pairs of a name and its parameters in a heading."""
    holder, colon, rest = heading.partition(": ")
    if not colon:
        holder, rest = "", heading
    for call in rest.split("), "):
        name, _, words = call.rstrip(")").partition("(")
        yield (f"{holder}.{name}" if holder else name), [word for word in words.split(", ") if word]


class InterfaceTest(unittest.TestCase):
    def test_headings_are_read(self):
        self.assertEqual(list(told("Switch: mount(place, text, room, lean), depart()")),
                         [("Switch.mount", ["place", "text", "room", "lean"]), ("Switch.depart", [])])
        self.assertEqual(list(told("is_log(thing), waiting(log, place)")), [("is_log", ["thing"]), ("waiting", ["log", "place"])])

    def test_each_name_under_its_file(self):
        for name, headings in INTERFACE.items():
            found = defined(name)
            for heading in headings:
                for key, words in told(heading):
                    self.assertIn(key, found, name)
                    self.assertEqual(found[key], words, (name, key))


if __name__ == "__main__":
    unittest.main()
