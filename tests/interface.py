"""The interface as the document lists it: for each file its functions, with the names of their arguments."""

import importlib
import re

ERRORS = (
    ("NoCell", LookupError, ("number",)),
    ("NoWord", LookupError, ("word",)),
    ("NothingDone", LookupError, ()),
    ("Unfit", ValueError, ()),
    ("NoPaper", ValueError, ()),
    ("TooMany", ValueError, ()),
    ("BadText", ValueError, ("place",)),
    ("BadLine", ValueError, ("number",)),
)

LISTED = {
    "digits": """is_prime(thing) is_digit(p, thing) is_row(p, thing) digit_sum(p, digits) contrary_digit(p, digit)
        inverse_digit(p, digit) divided_digit(p, one, other) zero_row(many) unit_row(many, place)
        row_sum(p, one, other) row_less(p, one, other) row_times(p, digit, row) row_product(p, one, other)
        sum_of_multiples(p, many, rows, digits) marked_places(row) led_row(p, row) are_multiples(p, one, other)
        row_number(p, row) row_at(p, many, number) figures_for(p, number) all_rows(p, many) led_rows(p, many)""",
    "grids": """is_grid(p, many, thing) is_stepped(p, many, thing) stepped_grid(p, many, rows)
        lead_places(p, many, rows) grid_rank(p, many, rows) same_span(p, many, one, other)
        is_spanned(p, many, rows, row) multiples_for(p, many, rows, row) is_multiples(p, many, rows, row, thing)
        ways_count(p, many, rows, row) bar_row(p, many, rows, row) is_bar_row(p, many, rows, row, thing)
        unmarked_rows(p, many, rows) relations(p, many, rows) turned_grid(p, many, rows) fresh_rows(p, many, rows)
        span_count(p, many, rows) spanned_rows(p, many, rows) common_span(p, many, one, other)""",
    "pictures": """is_picture(thing) shape_of(picture) like_shape(one, other) cells_in(picture) greys(picture)
        picture_of(top, wide, tones) grey_at(picture, cell) with_grey(picture, cell, grey) place_of(picture, cell)
        cell_at(picture, row, column) neighbours(picture, cell) edge_cells(picture) touched_cells(one, other)
        rests(picture, p) cells_grey(picture, low, high) turned(picture) mirrored(picture) cells_turned(picture)
        cells_mirrored(picture) cut_out(picture, row, column, high, wide) cells_cut(picture, row, column, high, wide)
        put_over(picture, part, row, column)""",
    "prices": """is_prices(picture, thing) even_prices(picture, weight) roughness(picture, cell)
        rough_prices(picture, most) barring(prices, lot) weighing(prices, lot, weight) free_cells(prices)
        barred_cells(prices) both_prices(one, other) barred_touched(one, other, prices) cost(one, other, prices)
        within(one, other, prices, budget) greys_for(picture, p, rest) cheapest_grey(picture, cell, p, rest)
        rest_prices(picture, prices, cell, p) with_rests(picture, p, digits)
        cost_of_rests(picture, prices, p, digits)""",
    "keys": """is_key(thing) is_band(thing) is_message(key, thing) is_word(key, thing) band_key(band)
        band_for(key, length) key_rows(key) key_by_rows(p, size, rows) stacked(one, other) unstacked(key, many)
        without_cells(key, lot) walked(key, order) walked_back(key, order) led_key(key, rows)
        marked_cells(key, word) alike_keys(one, other) parting_picture(one, other)
        is_parting_picture(one, other, thing) tells(one, other) led_by(one, other) untold(one, other)
        is_untold(one, other, thing)""",
    "reading": """reading(picture, key) lack(picture, key, message) reading_of_rests(key, digits)
        part_reading(picture, key, lot) readings_along(picture, key) reading_behind(key, row, touches)
        same_reading(near, far, key) read_cells(key) digit_cells(key, place) can_be_read(key, message)
        rests_for(key, message) silent_word(key, message) is_silent_word(key, message, thing) rests_alike(key)
        how_many_read(key, top, message) read_counts(key, top)""",
    "hiding": """can_hide(picture, prices, key, message) hiding_rests(picture, prices, key, message)
        is_hiding_rests(picture, prices, key, message, thing) hiding_picture(picture, prices, key, message)
        is_hiding(picture, prices, key, message, thing) word_against(picture, prices, key, message)
        is_bar(picture, prices, key, message, thing) how_many_rests(picture, prices, key, message)
        rests_there(picture, prices, key, message, cell) kept_always(picture, prices, key, message)
        moved_always(picture, prices, key, message) how_many_hidden(prices, key) always_hides(prices, key)
        least_freed(picture, prices, key, message) least_to_bar(picture, prices, key, message)""",
    "rooms": """open_rows(key, place) widths(key) widest(key) closing_rows(key, cell) idle_rows(key)
        rooms_at(key, place) room_behind(key, message, cell, room, rest) step_price(picture, prices, key, cell, rest)
        steps_at(picture, prices, key, message, cell) is_way(key, message, thing) rooms_along(key, message, way)
        ways_on(key, message, place, room) how_many_ways(key, message) way_price(picture, prices, key, way)""",
    "cheapest": """least_slope(picture, prices, key, message) is_right_slope(picture, prices, key, message, thing)
        end_of(slope) least_cost(picture, prices, key, message) cheapest_way(picture, prices, key, message)
        cheapest(picture, prices, key, message) is_cheapest(picture, prices, key, message, thing)
        cheapest_paper(picture, prices, key, message) is_cheapest_paper(picture, prices, key, message, thing)
        case_of(picture, prices, key, message) is_case(picture, prices, key, message, thing)
        ways_within(picture, prices, key, message, most) how_many_cheapest(picture, prices, key, message)
        next_cost(picture, prices, key, message) cost_with(picture, prices, key, message, cell, weight)
        may_touch(picture, prices, key, message) must_touch(picture, prices, key, message)""",
    "most": """columns_needed(key, row) needs_counted(key) most_touches(key) mean_touches(key) worst_rows(key)
        few_columns(key, row) is_few_columns(key, row, thing) far_paper(key, row)
        is_far_paper(key, row, number, thing) touches_needed(picture, key, message)
        touched_least(picture, key, message) is_touched_least(picture, key, message, thing)
        worst_messages(picture, key) counted_bound(prime, many, cells)""",
    "anylots": """marks_counted(key) shortest_words(key) most_barred(key) bars(key, lot) barring_word(key, lot)
        is_barring_word(key, lot, thing) all_paper(key, lot) is_all_paper(key, lot, thing) left_many(key, lot)
        left_messages(picture, key, lot) left_words(key, lot) bare_lots(key) least_lots(key) any_paper(key, number)
        is_any_paper(key, number, thing) worst_lot(key, number) is_worst_lot(key, number, thing)""",
    "guards": """is_guarded(picture, guard) is_forging(key, thing) sums_of(key, guard, forging)
        forged_picture(picture, p, forging) forging_between(one, other, p) least_false(key, guard)
        false_forging(key, guard) is_false_forging(key, guard, most, thing) mends(key, guard, most)
        most_mended(key, guard) most_told(key, guard) messages_behind(key, guard, picture, most)
        mended(key, guard, picture, most) forging_behind(key, guard, picture, message, most)
        is_forging_behind(key, guard, picture, message, most, thing) two_forgeries(key, guard, picture, most)
        is_two_forgeries(key, guard, most, thing)""",
    "holes": """word_read(key, guard, lost, word) read_paper(key, guard, lost, word)
        is_read_paper(key, guard, lost, word, thing) told_product(key, guard, picture, lost, word)
        words_read(key, guard, lost) digits_read(key, guard, lost) message_read(key, guard, picture, lost)
        messages_left(key, guard, picture, lost) hole_forging(key, guard, lost, word)
        is_hole_forging(key, guard, lost, word, thing) two_alike(key, guard, picture, lost, word)
        is_two_alike(key, guard, lost, word, thing) may_lose(key, guard, lost) lot_map(key, guard, lost)
        is_lot_map(key, guard, lost, thing) may_lose_any(key, guard, many) most_lost(key, guard)
        greatest_lots(key, guard)""",
    "several": """readings(picture, keys) kept_readings(picture, other, keys) can_all(picture, prices, keys, messages)
        hide_all(picture, prices, keys, messages) clash(picture, prices, keys, messages)
        is_clash(picture, prices, keys, messages, thing) least_clash(picture, prices, keys, messages)
        binding(keys, lot) is_binding(keys, lot, thing) always_all(keys, lot) always_quiet(keys, lot, number)
        loud_binding(keys, lot, number) hide_quietly(picture, prices, keys, number, message)
        disturbed(picture, prices, keys, number, message) cover_key(picture, key, message)
        is_cover_key(picture, key, message, thing)""",
    "watchers": """fits_pairs(p, pairs, key) some_key(p, pairs) how_many_keys(p, pairs) odd_row(p, pairs)
        is_odd_row(p, pairs, thing) needless_pairs(p, pairs) is_told(p, pairs, picture)
        told_message(p, pairs, picture) telling(p, pairs, picture) is_telling(p, pairs, picture, thing)
        two_keys(p, pairs, picture) is_two_keys(p, pairs, picture, thing)
        keys_that_read(p, pairs, picture, message) told_apart(p, pairs, near, far) columns_told(p, pairs)
        column_told(p, pairs, cell) least_pairs(p, pairs, picture) cells_to_ask(p, pairs)""",
    "retouched": """is_task(thing) is_edit(task, thing) edited(task, edit) edited_by(task, edits) edit_back(task, edit)
        way_back(task, edits) last_kept(task, edit) regrown(task, slope, place) stage_of(task) is_stage(thing)
        next_stage(stage, edit) stages_by(stage, edits) stage_picture(stage) followed(task, shown, edit)
        still_cheapest(task, shown, edit) anew_and_on(task, shown, edit) all_ends(picture, prices, key)""",
    "letters": """text_digits(p, text) digits_text(p, row) is_sheet(p, thing) sheet_of(p, many, text)
        sheet_text(p, sheet) sheet_faults(p, table) sheet_near(p, table) sheet_with(p, table, row)
        rows_needed(p, many, signs) most_signs(p, many, rows) album_hidden(pictures, prices, key, text)
        album_bar(pictures, prices, key, text) is_album_bar(pictures, prices, key, text, thing)
        album_text(pictures, key) album_without(pictures, key, number)""",
    "before": """is_past(picture, prices, key, message, most, thing) past_counts(picture, prices, key, message, most)
        how_many_pasts(picture, prices, key, message, most) fewest_touched(picture, prices, key, message)
        past_at(picture, prices, key, message, most, number) past_number(picture, prices, key, message, most, past)
        all_pasts(picture, prices, key, message, most) surely_touched(picture, prices, key, message, most)
        surely_kept(picture, prices, key, message, most) touched_part(picture, prices, key, message, most, cell)
        grey_counts(picture, prices, key, message, most, cell) message_counts(picture, prices, key, most)
        likeliest(picture, prices, key, most)""",
    "judge": """is_claim(thing) is_so(claim) paper(claim) is_paper(claim, thing) shows(claim, thing) not_so(claims)
        words_so(claims)""",
    "texts": """row_text(row) read_row(p, text) picture_text(picture) prices_text(prices) key_text(key)
        slope_text(slope) case_text(case) read_picture(text) read_prices(text) read_key(text) read_slope(text)
        read_case(p, text) touched_text(one, other) with_touched(picture, text)""",
    "desk": """first_desk() is_request(thing) requests(text) scene_after(scene, request) said(scene, request)
        worked(desk, request) session(desk, text)""",
}

# In this order a file draws from those ahead of it alone; plain is private.
ORDER = ("plain", "errors") + tuple(LISTED)


def listed():
    """For each function of the interface the pair (its file, the names of its arguments)."""
    return {
        name: (file, tuple(names.split(", ")) if names else ())
        for file, text in LISTED.items()
        for name, names in re.findall(r"(\w+)\(([^)]*)\)", text)
    }


def everything():
    """All functions and errors of the interface by their names."""
    modules = {file: importlib.import_module(f"drycells.{file}") for file in ORDER}
    found = {name: getattr(modules[file], name) for name, (file, _) in listed().items()}
    found.update({name: getattr(modules["errors"], name) for name, _, _ in ERRORS})
    return found
