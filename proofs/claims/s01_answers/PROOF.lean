import PyProof.Rows.All
import Wide.All
import OpenK.AllK
import Wide.FinOn
import KE.KStateDown
import PyProof.EqAt
import PyProof.EqKinds
import PyProof.TupleCall
import KE.DataMinMax
import Open.SpecLaws
import KE.OsHead
import KE.OsGo
import HandS.ForSpec
import HandS.Comp
import HandS.Iter
import HandS.TupAny
import HandS.Evl
import HandS.Defaults
import HandS.Head4
import HandS.HeadHook2
import PySem.Challenge.RW_treegiven_s01_answers
set_option Elab.async false
set_option linter.all false
set_option maxRecDepth 100000
set_option maxHeartbeats 4000000
namespace Tg
open PySem PySem.Spec PyProof.Rows L2
/-! ### the text by places -/
def topS (i : Nat) : Stmt := PySem.Challenge.pw_treegiven_s01_answers.main.body.getD i (.Pass ⟨0, 0, 0, 0⟩)
abbrev s_Release_init : Stmt := inClass (topS 11) 0
abbrev s_Package_init : Stmt := inClass (topS 12) 0
abbrev s_Step_init : Stmt := inClass (topS 13) 0
abbrev s_House_init : Stmt := inClass (topS 14) 0
abbrev s_Need_init : Stmt := inClass (topS 23) 0
abbrev s_Call_init : Stmt := inClass (topS 51) 0
abbrev s_raised : Stmt := topS 24
abbrev s_numbers_to_first_not_zero : Stmt := topS 25
abbrev s_numbers_to_share : Stmt := topS 26
abbrev s_holds : Stmt := topS 27
abbrev s_mates : Stmt := topS 30
abbrev s_mates_differ : Stmt := topS 31
abbrev s_version_ahead : Stmt := topS 32
abbrev s_need_lasts : Stmt := topS 33
abbrev s_level_asked : Stmt := topS 34
abbrev s_all_asked : Stmt := topS 35
abbrev s_least_levels : Stmt := topS 36
abbrev s_need_ahead : Stmt := topS 37
abbrev s_step_of : Stmt := topS 38
abbrev s_steps_now : Stmt := topS 39
abbrev s_is_ready : Stmt := topS 40
abbrev s_ready_packages : Stmt := topS 41
abbrev s_steps_told : Stmt := topS 43
abbrev s_answer_look : Stmt := topS 44
abbrev s_answer_plan : Stmt := topS 45
abbrev s_answer_ready : Stmt := topS 46
abbrev s_give_out : Stmt := topS 47
abbrev s_answer_out : Stmt := topS 48
abbrev s_answer_drop : Stmt := topS 49
abbrev s_counted : Stmt := topS 52
abbrev s_read_lists : Stmt := topS 53
abbrev s_read_call : Stmt := topS 54
abbrev s_call_length : Stmt := topS 55
abbrev s_read_calls : Stmt := topS 56
abbrev s_releases_left : Stmt := topS 58
abbrev s_release_of : Stmt := topS 59
abbrev s_found_for : Stmt := topS 60
abbrev s_needs_left : Stmt := topS 61
abbrev s_finds_only : Stmt := topS 62
abbrev s_yank_refusal : Stmt := topS 63
abbrev s_answer_yank : Stmt := topS 64
abbrev s_answer_resolve : Stmt := topS 65
abbrev s_release_told : Stmt := topS 66
abbrev s_answer_log : Stmt := topS 67
abbrev s_rise : Stmt := topS 73
abbrev s_need_from : Stmt := topS 74
abbrev s_need_is_formed : Stmt := topS 75
abbrev s_needs_are_formed : Stmt := topS 76
abbrev s_fits : Stmt := topS 77
abbrev s_package_refusal : Stmt := topS 78
abbrev s_answer_package : Stmt := topS 79
abbrev s_note_refusal : Stmt := topS 80
abbrev s_answer_note : Stmt := topS 81
abbrev s_answer_tree : Stmt := topS 82
abbrev s_answer_to : Stmt := topS 95
abbrev s_answers : Stmt := topS 96
/-! ### scopes -/
abbrev n_Release_init : List Str := ["self", "version", "needs", "notes"]
abbrev p_Release_init : List Str := ["self", "version", "needs", "notes"]
theorem sc_Release_init : FnScope n_Release_init p_Release_init (defScope s_Release_init) := ⟨rfl, rfl, rfl, by decide +kernel, rfl, by decide +kernel, by decide +kernel⟩
abbrev n_Package_init : List Str := ["self", "version", "group", "needs"]
abbrev p_Package_init : List Str := ["self", "version", "group", "needs"]
theorem sc_Package_init : FnScope n_Package_init p_Package_init (defScope s_Package_init) := ⟨rfl, rfl, rfl, by decide +kernel, rfl, by decide +kernel, by decide +kernel⟩
abbrev n_Step_init : List Str := ["self", "package", "level", "version", "needs", "notes"]
abbrev p_Step_init : List Str := ["self", "package", "level", "version", "needs", "notes"]
theorem sc_Step_init : FnScope n_Step_init p_Step_init (defScope s_Step_init) := ⟨rfl, rfl, rfl, by decide +kernel, rfl, by decide +kernel, by decide +kernel⟩
abbrev n_House_init : List Str := ["self"]
abbrev p_House_init : List Str := ["self"]
theorem sc_House_init : FnScope n_House_init p_House_init (defScope s_House_init) := ⟨rfl, rfl, rfl, by decide +kernel, rfl, by decide +kernel, by decide +kernel⟩
abbrev n_Need_init : List Str := ["self", "package", "kind", "version"]
abbrev p_Need_init : List Str := ["self", "package", "kind", "version"]
theorem sc_Need_init : FnScope n_Need_init p_Need_init (defScope s_Need_init) := ⟨rfl, rfl, rfl, by decide +kernel, rfl, by decide +kernel, by decide +kernel⟩
abbrev n_Call_init : List Str := ["self", "number", "whole", "lists"]
abbrev p_Call_init : List Str := ["self", "number", "whole", "lists"]
theorem sc_Call_init : FnScope n_Call_init p_Call_init (defScope s_Call_init) := ⟨rfl, rfl, rfl, by decide +kernel, rfl, by decide +kernel, by decide +kernel⟩
abbrev n_raised : List Str := ["version", "level", "first", "second", "third"]
abbrev p_raised : List Str := ["version", "level"]
theorem sc_raised : FnScope n_raised p_raised (defScope s_raised) := ⟨rfl, rfl, rfl, by decide +kernel, rfl, by decide +kernel, by decide +kernel⟩
abbrev n_numbers_to_first_not_zero : List Str := ["version"]
abbrev p_numbers_to_first_not_zero : List Str := ["version"]
theorem sc_numbers_to_first_not_zero : FnScope n_numbers_to_first_not_zero p_numbers_to_first_not_zero (defScope s_numbers_to_first_not_zero) := ⟨rfl, rfl, rfl, by decide +kernel, rfl, by decide +kernel, by decide +kernel⟩
abbrev n_numbers_to_share : List Str := ["need"]
abbrev p_numbers_to_share : List Str := ["need"]
theorem sc_numbers_to_share : FnScope n_numbers_to_share p_numbers_to_share (defScope s_numbers_to_share) := ⟨rfl, rfl, rfl, by decide +kernel, rfl, by decide +kernel, by decide +kernel⟩
abbrev n_holds : List Str := ["need", "version", "shared"]
abbrev p_holds : List Str := ["need", "version"]
theorem sc_holds : FnScope n_holds p_holds (defScope s_holds) := ⟨rfl, rfl, rfl, by decide +kernel, rfl, by decide +kernel, by decide +kernel⟩
abbrev n_mates : List Str := ["house", "number", "group", "other"]
abbrev p_mates : List Str := ["house", "number"]
theorem sc_mates : FnScope n_mates p_mates (defScope s_mates) := ⟨rfl, rfl, rfl, by decide +kernel, rfl, by decide +kernel, by decide +kernel⟩
abbrev n_mates_differ : List Str := ["house", "number", "version", "mate"]
abbrev p_mates_differ : List Str := ["house", "number"]
theorem sc_mates_differ : FnScope n_mates_differ p_mates_differ (defScope s_mates_differ) := ⟨rfl, rfl, rfl, by decide +kernel, rfl, by decide +kernel, by decide +kernel⟩
abbrev n_version_ahead : List Str := ["house", "levels", "number", "highest", "mate"]
abbrev p_version_ahead : List Str := ["house", "levels", "number"]
theorem sc_version_ahead : FnScope n_version_ahead p_version_ahead (defScope s_version_ahead) := ⟨rfl, rfl, rfl, by decide +kernel, rfl, by decide +kernel, by decide +kernel⟩
abbrev n_need_lasts : List Str := ["house", "levels", "need"]
abbrev p_need_lasts : List Str := ["house", "levels", "need"]
theorem sc_need_lasts : FnScope n_need_lasts p_need_lasts (defScope s_need_lasts) := ⟨rfl, rfl, rfl, by decide +kernel, rfl, by decide +kernel, by decide +kernel⟩
abbrev n_level_asked : List Str := ["house", "levels", "number", "package", "asked", "mate", "note", "need"]
abbrev p_level_asked : List Str := ["house", "levels", "number"]
theorem sc_level_asked : FnScope n_level_asked p_level_asked (defScope s_level_asked) := ⟨rfl, rfl, rfl, by decide +kernel, rfl, by decide +kernel, by decide +kernel⟩
abbrev n_all_asked : List Str := ["house", "levels", "number"]
abbrev p_all_asked : List Str := ["house", "levels"]
theorem sc_all_asked : FnScope n_all_asked p_all_asked (defScope s_all_asked) := ⟨rfl, rfl, rfl, by decide +kernel, rfl, by decide +kernel, by decide +kernel⟩
abbrev n_least_levels : List Str := ["house", "levels", "asked", "package"]
abbrev p_least_levels : List Str := ["house"]
theorem sc_least_levels : FnScope n_least_levels p_least_levels (defScope s_least_levels) := ⟨rfl, rfl, rfl, by decide +kernel, rfl, by decide +kernel, by decide +kernel⟩
abbrev n_need_ahead : List Str := ["house", "levels", "need"]
abbrev p_need_ahead : List Str := ["house", "levels", "need"]
theorem sc_need_ahead : FnScope n_need_ahead p_need_ahead (defScope s_need_ahead) := ⟨rfl, rfl, rfl, by decide +kernel, rfl, by decide +kernel, by decide +kernel⟩
abbrev n_step_of : List Str := ["house", "levels", "number", "package", "needs", "notes", "need"]
abbrev p_step_of : List Str := ["house", "levels", "number"]
theorem sc_step_of : FnScope n_step_of p_step_of (defScope s_step_of) := ⟨rfl, rfl, rfl, by decide +kernel, rfl, by decide +kernel, by decide +kernel⟩
abbrev n_steps_now : List Str := ["house", "levels", "number"]
abbrev p_steps_now : List Str := ["house"]
theorem sc_steps_now : FnScope n_steps_now p_steps_now (defScope s_steps_now) := ⟨rfl, rfl, rfl, by decide +kernel, rfl, by decide +kernel, by decide +kernel⟩
abbrev n_is_ready : List Str := ["plan", "step", "planned", "other", "need"]
abbrev p_is_ready : List Str := ["plan", "step"]
theorem sc_is_ready : FnScope n_is_ready p_is_ready (defScope s_is_ready) := ⟨rfl, rfl, rfl, by decide +kernel, rfl, by decide +kernel, by decide +kernel⟩
abbrev n_ready_packages : List Str := ["plan", "step"]
abbrev p_ready_packages : List Str := ["plan"]
theorem sc_ready_packages : FnScope n_ready_packages p_ready_packages (defScope s_ready_packages) := ⟨rfl, rfl, rfl, by decide +kernel, rfl, by decide +kernel, by decide +kernel⟩
abbrev n_steps_told : List Str := ["steps", "told", "step"]
abbrev p_steps_told : List Str := ["steps"]
theorem sc_steps_told : FnScope n_steps_told p_steps_told (defScope s_steps_told) := ⟨rfl, rfl, rfl, by decide +kernel, rfl, by decide +kernel, by decide +kernel⟩
abbrev n_answer_look : List Str := ["house"]
abbrev p_answer_look : List Str := ["house"]
theorem sc_answer_look : FnScope n_answer_look p_answer_look (defScope s_answer_look) := ⟨rfl, rfl, rfl, by decide +kernel, rfl, by decide +kernel, by decide +kernel⟩
abbrev n_answer_plan : List Str := ["house"]
abbrev p_answer_plan : List Str := ["house"]
theorem sc_answer_plan : FnScope n_answer_plan p_answer_plan (defScope s_answer_plan) := ⟨rfl, rfl, rfl, by decide +kernel, rfl, by decide +kernel, by decide +kernel⟩
abbrev n_answer_ready : List Str := ["house", "packages"]
abbrev p_answer_ready : List Str := ["house"]
theorem sc_answer_ready : FnScope n_answer_ready p_answer_ready (defScope s_answer_ready) := ⟨rfl, rfl, rfl, by decide +kernel, rfl, by decide +kernel, by decide +kernel⟩
abbrev n_give_out : List Str := ["package", "step", "note"]
abbrev p_give_out : List Str := ["package", "step"]
theorem sc_give_out : FnScope n_give_out p_give_out (defScope s_give_out) := ⟨rfl, rfl, rfl, by decide +kernel, rfl, by decide +kernel, by decide +kernel⟩
abbrev n_answer_out : List Str := ["house", "number", "planned", "step"]
abbrev p_answer_out : List Str := ["house", "number"]
theorem sc_answer_out : FnScope n_answer_out p_answer_out (defScope s_answer_out) := ⟨rfl, rfl, rfl, by decide +kernel, rfl, by decide +kernel, by decide +kernel⟩
abbrev n_answer_drop : List Str := ["house", "packages", "step"]
abbrev p_answer_drop : List Str := ["house"]
theorem sc_answer_drop : FnScope n_answer_drop p_answer_drop (defScope s_answer_drop) := ⟨rfl, rfl, rfl, by decide +kernel, rfl, by decide +kernel, by decide +kernel⟩
abbrev n_counted : List Str := ["numbers", "at"]
abbrev p_counted : List Str := ["numbers", "at"]
theorem sc_counted : FnScope n_counted p_counted (defScope s_counted) := ⟨rfl, rfl, rfl, by decide +kernel, rfl, by decide +kernel, by decide +kernel⟩
abbrev n_read_lists : List Str := ["numbers", "at", "lists", "place"]
abbrev p_read_lists : List Str := ["numbers", "at"]
theorem sc_read_lists : FnScope n_read_lists p_read_lists (defScope s_read_lists) := ⟨rfl, rfl, rfl, by decide +kernel, rfl, by decide +kernel, by decide +kernel⟩
abbrev n_read_call : List Str := ["numbers", "at", "whole"]
abbrev p_read_call : List Str := ["numbers", "at"]
theorem sc_read_call : FnScope n_read_call p_read_call (defScope s_read_call) := ⟨rfl, rfl, rfl, by decide +kernel, rfl, by decide +kernel, by decide +kernel⟩
abbrev n_call_length : List Str := ["call", "one"]
abbrev p_call_length : List Str := ["call"]
theorem sc_call_length : FnScope n_call_length p_call_length (defScope s_call_length) := ⟨rfl, rfl, rfl, by decide +kernel, rfl, by decide +kernel, by decide +kernel⟩
abbrev n_read_calls : List Str := ["numbers", "calls", "at", "call"]
abbrev p_read_calls : List Str := ["numbers"]
theorem sc_read_calls : FnScope n_read_calls p_read_calls (defScope s_read_calls) := ⟨rfl, rfl, rfl, by decide +kernel, rfl, by decide +kernel, by decide +kernel⟩
abbrev n_releases_left : List Str := ["house", "number", "release"]
abbrev p_releases_left : List Str := ["house", "number"]
theorem sc_releases_left : FnScope n_releases_left p_releases_left (defScope s_releases_left) := ⟨rfl, rfl, rfl, by decide +kernel, rfl, by decide +kernel, by decide +kernel⟩
abbrev n_release_of : List Str := ["house", "number", "version", "release"]
abbrev p_release_of : List Str := ["house", "number", "version"]
theorem sc_release_of : FnScope n_release_of p_release_of (defScope s_release_of) := ⟨rfl, rfl, rfl, by decide +kernel, rfl, by decide +kernel, by decide +kernel⟩
abbrev n_found_for : List Str := ["house", "need", "release"]
abbrev p_found_for : List Str := ["house", "need"]
theorem sc_found_for : FnScope n_found_for p_found_for (defScope s_found_for) := ⟨rfl, rfl, rfl, by decide +kernel, rfl, by decide +kernel, by decide +kernel⟩
abbrev n_needs_left : List Str := ["house", "needs", "number", "release"]
abbrev p_needs_left : List Str := ["house"]
theorem sc_needs_left : FnScope n_needs_left p_needs_left (defScope s_needs_left) := ⟨rfl, rfl, rfl, by decide +kernel, rfl, by decide +kernel, by decide +kernel⟩
abbrev n_finds_only : List Str := ["house", "need", "number", "version"]
abbrev p_finds_only : List Str := ["house", "need", "number", "version"]
theorem sc_finds_only : FnScope n_finds_only p_finds_only (defScope s_finds_only) := ⟨rfl, rfl, rfl, by decide +kernel, rfl, by decide +kernel, by decide +kernel⟩
abbrev n_yank_refusal : List Str := ["house", "number", "version", "need"]
abbrev p_yank_refusal : List Str := ["house", "number", "version"]
theorem sc_yank_refusal : FnScope n_yank_refusal p_yank_refusal (defScope s_yank_refusal) := ⟨rfl, rfl, rfl, by decide +kernel, rfl, by decide +kernel, by decide +kernel⟩
abbrev n_answer_yank : List Str := ["house", "number", "version", "refusal", "release"]
abbrev p_answer_yank : List Str := ["house", "number", "version"]
theorem sc_answer_yank : FnScope n_answer_yank p_answer_yank (defScope s_answer_yank) := ⟨rfl, rfl, rfl, by decide +kernel, rfl, by decide +kernel, by decide +kernel⟩
abbrev n_answer_resolve : List Str := ["house", "number", "version", "release", "told", "need"]
abbrev p_answer_resolve : List Str := ["house", "number", "version"]
theorem sc_answer_resolve : FnScope n_answer_resolve p_answer_resolve (defScope s_answer_resolve) := ⟨rfl, rfl, rfl, by decide +kernel, rfl, by decide +kernel, by decide +kernel⟩
abbrev n_release_told : List Str := ["release", "told"]
abbrev p_release_told : List Str := ["release"]
theorem sc_release_told : FnScope n_release_told p_release_told (defScope s_release_told) := ⟨rfl, rfl, rfl, by decide +kernel, rfl, by decide +kernel, by decide +kernel⟩
abbrev n_answer_log : List Str := ["house", "number", "releases", "told", "release"]
abbrev p_answer_log : List Str := ["house", "number"]
theorem sc_answer_log : FnScope n_answer_log p_answer_log (defScope s_answer_log) := ⟨rfl, rfl, rfl, by decide +kernel, rfl, by decide +kernel, by decide +kernel⟩
abbrev n_rise : List Str := ["numbers", "at"]
abbrev p_rise : List Str := ["numbers"]
theorem sc_rise : FnScope n_rise p_rise (defScope s_rise) := ⟨rfl, rfl, rfl, by decide +kernel, rfl, by decide +kernel, by decide +kernel⟩
abbrev n_need_from : List Str := ["numbers"]
abbrev p_need_from : List Str := ["numbers"]
theorem sc_need_from : FnScope n_need_from p_need_from (defScope s_need_from) := ⟨rfl, rfl, rfl, by decide +kernel, rfl, by decide +kernel, by decide +kernel⟩
abbrev n_need_is_formed : List Str := ["house", "need"]
abbrev p_need_is_formed : List Str := ["house", "need"]
theorem sc_need_is_formed : FnScope n_need_is_formed p_need_is_formed (defScope s_need_is_formed) := ⟨rfl, rfl, rfl, by decide +kernel, rfl, by decide +kernel, by decide +kernel⟩
abbrev n_needs_are_formed : List Str := ["house", "needs", "need"]
abbrev p_needs_are_formed : List Str := ["house", "needs"]
theorem sc_needs_are_formed : FnScope n_needs_are_formed p_needs_are_formed (defScope s_needs_are_formed) := ⟨rfl, rfl, rfl, by decide +kernel, rfl, by decide +kernel, by decide +kernel⟩
abbrev n_fits : List Str := ["house", "package", "need", "other"]
abbrev p_fits : List Str := ["house", "package"]
theorem sc_fits : FnScope n_fits p_fits (defScope s_fits) := ⟨rfl, rfl, rfl, by decide +kernel, rfl, by decide +kernel, by decide +kernel⟩
abbrev n_package_refusal : List Str := ["house", "package"]
abbrev p_package_refusal : List Str := ["house", "package"]
theorem sc_package_refusal : FnScope n_package_refusal p_package_refusal (defScope s_package_refusal) := ⟨rfl, rfl, rfl, by decide +kernel, rfl, by decide +kernel, by decide +kernel⟩
abbrev n_answer_package : List Str := ["house", "version", "group", "needs", "package", "refusal"]
abbrev p_answer_package : List Str := ["house", "version", "group", "needs"]
theorem sc_answer_package : FnScope n_answer_package p_answer_package (defScope s_answer_package) := ⟨rfl, rfl, rfl, by decide +kernel, rfl, by decide +kernel, by decide +kernel⟩
abbrev n_note_refusal : List Str := ["house", "level", "numbers"]
abbrev p_note_refusal : List Str := ["house", "level", "numbers"]
theorem sc_note_refusal : FnScope n_note_refusal p_note_refusal (defScope s_note_refusal) := ⟨rfl, rfl, rfl, by decide +kernel, rfl, by decide +kernel, by decide +kernel⟩
abbrev n_answer_note : List Str := ["house", "level", "numbers", "refusal", "note", "number"]
abbrev p_answer_note : List Str := ["house", "level", "numbers"]
theorem sc_answer_note : FnScope n_answer_note p_answer_note (defScope s_answer_note) := ⟨rfl, rfl, rfl, by decide +kernel, rfl, by decide +kernel, by decide +kernel⟩
abbrev n_answer_tree : List Str := ["house", "told", "package"]
abbrev p_answer_tree : List Str := ["house"]
theorem sc_answer_tree : FnScope n_answer_tree p_answer_tree (defScope s_answer_tree) := ⟨rfl, rfl, rfl, by decide +kernel, rfl, by decide +kernel, by decide +kernel⟩
abbrev n_answer_to : List Str := ["house", "call", "needs", "numbers"]
abbrev p_answer_to : List Str := ["house", "call"]
theorem sc_answer_to : FnScope n_answer_to p_answer_to (defScope s_answer_to) := ⟨rfl, rfl, rfl, by decide +kernel, rfl, by decide +kernel, by decide +kernel⟩
abbrev n_answers : List Str := ["calls", "told", "house", "call", "answer"]
abbrev p_answers : List Str := ["calls"]
theorem sc_answers : FnScope n_answers p_answers (defScope s_answers) := ⟨rfl, rfl, rfl, by decide +kernel, rfl, by decide +kernel, by decide +kernel⟩
/-! ### facts of the top -/
def faL : List He.Fa := [.glo "Release", .cls "Release", .mkr "Release", .noat "Release" "version", .noat "Release" "needs", .noat "Release" "notes", .noat "Release" "withdrawn", .glo "Package", .cls "Package", .mkr "Package", .noat "Package" "version", .noat "Package" "group", .noat "Package" "needs", .noat "Package" "waiting", .noat "Package" "releases", .glo "Step", .cls "Step", .mkr "Step", .noat "Step" "package", .noat "Step" "level", .noat "Step" "version", .noat "Step" "needs", .noat "Step" "notes", .glo "House", .cls "House", .mkr "House", .noat "House" "packages", .noat "House" "note_levels", .noat "House" "plan", .glo "Need", .cls "Need", .mkr "Need", .noat "Need" "package", .noat "Need" "kind", .noat "Need" "version", .glo "Call", .cls "Call", .mkr "Call", .noat "Call" "number", .noat "Call" "whole", .noat "Call" "lists", .glo "raised", .glo "numbers_to_first_not_zero", .glo "numbers_to_share", .glo "holds", .glo "mates", .glo "mates_differ", .glo "version_ahead", .glo "need_lasts", .glo "level_asked", .glo "all_asked", .glo "least_levels", .glo "need_ahead", .glo "step_of", .glo "steps_now", .glo "is_ready", .glo "ready_packages", .glo "steps_told", .glo "answer_look", .glo "answer_plan", .glo "answer_ready", .glo "give_out", .glo "answer_out", .glo "answer_drop", .glo "counted", .glo "read_lists", .glo "read_call", .glo "call_length", .glo "read_calls", .glo "releases_left", .glo "release_of", .glo "found_for", .glo "needs_left", .glo "finds_only", .glo "yank_refusal", .glo "answer_yank", .glo "answer_resolve", .glo "release_told", .glo "answer_log", .glo "rise", .glo "need_from", .glo "need_is_formed", .glo "needs_are_formed", .glo "fits", .glo "package_refusal", .glo "answer_package", .glo "note_refusal", .glo "answer_note", .glo "answer_tree", .glo "answer_to", .glo "answers", .int "ACCEPTED" 0, .int "BAD_FORM" (-1), .int "UNKNOWN" (-2), .int "WRONG_TIME" (-3), .int "NOT_PLANNED" (-4), .int "IN_THE_TREE" (-4), .int "DOES_NOT_FIT" (-5), .int "NOT_READY" (-5), .int "NEEDED" (-6), .int "FULL" (-7), .int "MEND" 1, .int "NEW" 2, .int "BREAK" 3, .int "ONLY_THAT" 0, .int "SAME_SECOND" 1, .int "COMPATIBLE" 2, .int "ANY_LATER" 3, .int "NO_GROUP" 0, .int "MOST_HANDED" 1000, .int "MOST_NEEDS" 4, .int "MOST_PACKAGES" 6, .int "MOST_NOTES" 30, .int "BEGINS" 0, .int "PACKAGE" 1, .int "NOTE" 2, .int "LOOK" 3, .int "PLAN" 4, .int "READY" 5, .int "OUT" 6, .int "DROP" 7, .int "YANK" 8, .int "RESOLVE" 9, .int "LOG" 10, .free "all", .free "any", .free "len", .free "list", .free "max", .free "range", .free "sum", .free "tuple"]
def d_Release_init : He.DefD := ⟨("Release", some "__init__"), "__init__", "Release.__init__", defArgs s_Release_init, defBody s_Release_init, defScope s_Release_init, [], []⟩
def d_Package_init : He.DefD := ⟨("Package", some "__init__"), "__init__", "Package.__init__", defArgs s_Package_init, defBody s_Package_init, defScope s_Package_init, [], []⟩
def d_Step_init : He.DefD := ⟨("Step", some "__init__"), "__init__", "Step.__init__", defArgs s_Step_init, defBody s_Step_init, defScope s_Step_init, [], []⟩
def d_House_init : He.DefD := ⟨("House", some "__init__"), "__init__", "House.__init__", defArgs s_House_init, defBody s_House_init, defScope s_House_init, [], []⟩
def d_Need_init : He.DefD := ⟨("Need", some "__init__"), "__init__", "Need.__init__", defArgs s_Need_init, defBody s_Need_init, defScope s_Need_init, [], []⟩
def d_Call_init : He.DefD := ⟨("Call", some "__init__"), "__init__", "Call.__init__", defArgs s_Call_init, defBody s_Call_init, defScope s_Call_init, [], []⟩
def d_raised : He.DefD := ⟨("raised", none), "raised", "raised", defArgs s_raised, defBody s_raised, defScope s_raised, [], []⟩
def d_numbers_to_first_not_zero : He.DefD := ⟨("numbers_to_first_not_zero", none), "numbers_to_first_not_zero", "numbers_to_first_not_zero", defArgs s_numbers_to_first_not_zero, defBody s_numbers_to_first_not_zero, defScope s_numbers_to_first_not_zero, [], []⟩
def d_numbers_to_share : He.DefD := ⟨("numbers_to_share", none), "numbers_to_share", "numbers_to_share", defArgs s_numbers_to_share, defBody s_numbers_to_share, defScope s_numbers_to_share, [], []⟩
def d_holds : He.DefD := ⟨("holds", none), "holds", "holds", defArgs s_holds, defBody s_holds, defScope s_holds, [], []⟩
def d_mates : He.DefD := ⟨("mates", none), "mates", "mates", defArgs s_mates, defBody s_mates, defScope s_mates, [], []⟩
def d_mates_differ : He.DefD := ⟨("mates_differ", none), "mates_differ", "mates_differ", defArgs s_mates_differ, defBody s_mates_differ, defScope s_mates_differ, [], []⟩
def d_version_ahead : He.DefD := ⟨("version_ahead", none), "version_ahead", "version_ahead", defArgs s_version_ahead, defBody s_version_ahead, defScope s_version_ahead, [], []⟩
def d_need_lasts : He.DefD := ⟨("need_lasts", none), "need_lasts", "need_lasts", defArgs s_need_lasts, defBody s_need_lasts, defScope s_need_lasts, [], []⟩
def d_level_asked : He.DefD := ⟨("level_asked", none), "level_asked", "level_asked", defArgs s_level_asked, defBody s_level_asked, defScope s_level_asked, [], []⟩
def d_all_asked : He.DefD := ⟨("all_asked", none), "all_asked", "all_asked", defArgs s_all_asked, defBody s_all_asked, defScope s_all_asked, [], []⟩
def d_least_levels : He.DefD := ⟨("least_levels", none), "least_levels", "least_levels", defArgs s_least_levels, defBody s_least_levels, defScope s_least_levels, [], []⟩
def d_need_ahead : He.DefD := ⟨("need_ahead", none), "need_ahead", "need_ahead", defArgs s_need_ahead, defBody s_need_ahead, defScope s_need_ahead, [], []⟩
def d_step_of : He.DefD := ⟨("step_of", none), "step_of", "step_of", defArgs s_step_of, defBody s_step_of, defScope s_step_of, [], []⟩
def d_steps_now : He.DefD := ⟨("steps_now", none), "steps_now", "steps_now", defArgs s_steps_now, defBody s_steps_now, defScope s_steps_now, [], []⟩
def d_is_ready : He.DefD := ⟨("is_ready", none), "is_ready", "is_ready", defArgs s_is_ready, defBody s_is_ready, defScope s_is_ready, [], []⟩
def d_ready_packages : He.DefD := ⟨("ready_packages", none), "ready_packages", "ready_packages", defArgs s_ready_packages, defBody s_ready_packages, defScope s_ready_packages, [], []⟩
def d_steps_told : He.DefD := ⟨("steps_told", none), "steps_told", "steps_told", defArgs s_steps_told, defBody s_steps_told, defScope s_steps_told, [], []⟩
def d_answer_look : He.DefD := ⟨("answer_look", none), "answer_look", "answer_look", defArgs s_answer_look, defBody s_answer_look, defScope s_answer_look, [], []⟩
def d_answer_plan : He.DefD := ⟨("answer_plan", none), "answer_plan", "answer_plan", defArgs s_answer_plan, defBody s_answer_plan, defScope s_answer_plan, [], []⟩
def d_answer_ready : He.DefD := ⟨("answer_ready", none), "answer_ready", "answer_ready", defArgs s_answer_ready, defBody s_answer_ready, defScope s_answer_ready, [], []⟩
def d_give_out : He.DefD := ⟨("give_out", none), "give_out", "give_out", defArgs s_give_out, defBody s_give_out, defScope s_give_out, [], []⟩
def d_answer_out : He.DefD := ⟨("answer_out", none), "answer_out", "answer_out", defArgs s_answer_out, defBody s_answer_out, defScope s_answer_out, [], []⟩
def d_answer_drop : He.DefD := ⟨("answer_drop", none), "answer_drop", "answer_drop", defArgs s_answer_drop, defBody s_answer_drop, defScope s_answer_drop, [], []⟩
def d_counted : He.DefD := ⟨("counted", none), "counted", "counted", defArgs s_counted, defBody s_counted, defScope s_counted, [], []⟩
def d_read_lists : He.DefD := ⟨("read_lists", none), "read_lists", "read_lists", defArgs s_read_lists, defBody s_read_lists, defScope s_read_lists, [], []⟩
def d_read_call : He.DefD := ⟨("read_call", none), "read_call", "read_call", defArgs s_read_call, defBody s_read_call, defScope s_read_call, [], []⟩
def d_call_length : He.DefD := ⟨("call_length", none), "call_length", "call_length", defArgs s_call_length, defBody s_call_length, defScope s_call_length, [], []⟩
def d_read_calls : He.DefD := ⟨("read_calls", none), "read_calls", "read_calls", defArgs s_read_calls, defBody s_read_calls, defScope s_read_calls, [], []⟩
def d_releases_left : He.DefD := ⟨("releases_left", none), "releases_left", "releases_left", defArgs s_releases_left, defBody s_releases_left, defScope s_releases_left, [], []⟩
def d_release_of : He.DefD := ⟨("release_of", none), "release_of", "release_of", defArgs s_release_of, defBody s_release_of, defScope s_release_of, [], []⟩
def d_found_for : He.DefD := ⟨("found_for", none), "found_for", "found_for", defArgs s_found_for, defBody s_found_for, defScope s_found_for, [], []⟩
def d_needs_left : He.DefD := ⟨("needs_left", none), "needs_left", "needs_left", defArgs s_needs_left, defBody s_needs_left, defScope s_needs_left, [], []⟩
def d_finds_only : He.DefD := ⟨("finds_only", none), "finds_only", "finds_only", defArgs s_finds_only, defBody s_finds_only, defScope s_finds_only, [], []⟩
def d_yank_refusal : He.DefD := ⟨("yank_refusal", none), "yank_refusal", "yank_refusal", defArgs s_yank_refusal, defBody s_yank_refusal, defScope s_yank_refusal, [], []⟩
def d_answer_yank : He.DefD := ⟨("answer_yank", none), "answer_yank", "answer_yank", defArgs s_answer_yank, defBody s_answer_yank, defScope s_answer_yank, [], []⟩
def d_answer_resolve : He.DefD := ⟨("answer_resolve", none), "answer_resolve", "answer_resolve", defArgs s_answer_resolve, defBody s_answer_resolve, defScope s_answer_resolve, [], []⟩
def d_release_told : He.DefD := ⟨("release_told", none), "release_told", "release_told", defArgs s_release_told, defBody s_release_told, defScope s_release_told, [], []⟩
def d_answer_log : He.DefD := ⟨("answer_log", none), "answer_log", "answer_log", defArgs s_answer_log, defBody s_answer_log, defScope s_answer_log, [], []⟩
def d_rise : He.DefD := ⟨("rise", none), "rise", "rise", defArgs s_rise, defBody s_rise, defScope s_rise, [], []⟩
def d_need_from : He.DefD := ⟨("need_from", none), "need_from", "need_from", defArgs s_need_from, defBody s_need_from, defScope s_need_from, [], []⟩
def d_need_is_formed : He.DefD := ⟨("need_is_formed", none), "need_is_formed", "need_is_formed", defArgs s_need_is_formed, defBody s_need_is_formed, defScope s_need_is_formed, [], []⟩
def d_needs_are_formed : He.DefD := ⟨("needs_are_formed", none), "needs_are_formed", "needs_are_formed", defArgs s_needs_are_formed, defBody s_needs_are_formed, defScope s_needs_are_formed, [], []⟩
def d_fits : He.DefD := ⟨("fits", none), "fits", "fits", defArgs s_fits, defBody s_fits, defScope s_fits, [], []⟩
def d_package_refusal : He.DefD := ⟨("package_refusal", none), "package_refusal", "package_refusal", defArgs s_package_refusal, defBody s_package_refusal, defScope s_package_refusal, [], []⟩
def d_answer_package : He.DefD := ⟨("answer_package", none), "answer_package", "answer_package", defArgs s_answer_package, defBody s_answer_package, defScope s_answer_package, [], []⟩
def d_note_refusal : He.DefD := ⟨("note_refusal", none), "note_refusal", "note_refusal", defArgs s_note_refusal, defBody s_note_refusal, defScope s_note_refusal, [], []⟩
def d_answer_note : He.DefD := ⟨("answer_note", none), "answer_note", "answer_note", defArgs s_answer_note, defBody s_answer_note, defScope s_answer_note, [], []⟩
def d_answer_tree : He.DefD := ⟨("answer_tree", none), "answer_tree", "answer_tree", defArgs s_answer_tree, defBody s_answer_tree, defScope s_answer_tree, [], []⟩
def d_answer_to : He.DefD := ⟨("answer_to", none), "answer_to", "answer_to", defArgs s_answer_to, defBody s_answer_to, defScope s_answer_to, [], []⟩
def d_answers : He.DefD := ⟨("answers", none), "answers", "answers", defArgs s_answers, defBody s_answers, defScope s_answers, [], []⟩
def fnL : List He.DefD := [d_Release_init, d_Package_init, d_Step_init, d_House_init, d_Need_init, d_Call_init, d_raised, d_numbers_to_first_not_zero, d_numbers_to_share, d_holds, d_mates, d_mates_differ, d_version_ahead, d_need_lasts, d_level_asked, d_all_asked, d_least_levels, d_need_ahead, d_step_of, d_steps_now, d_is_ready, d_ready_packages, d_steps_told, d_answer_look, d_answer_plan, d_answer_ready, d_give_out, d_answer_out, d_answer_drop, d_counted, d_read_lists, d_read_call, d_call_length, d_read_calls, d_releases_left, d_release_of, d_found_for, d_needs_left, d_finds_only, d_yank_refusal, d_answer_yank, d_answer_resolve, d_release_told, d_answer_log, d_rise, d_need_from, d_need_is_formed, d_needs_are_formed, d_fits, d_package_refusal, d_answer_package, d_note_refusal, d_answer_note, d_answer_tree, d_answer_to, d_answers]
/-- what the top has left -/
structure Txt (K : PySem.W.Frag) (mg : Str → Option Value) : Prop where
  g_Release : mg "Release" = some (.ref (He.ga K "Release"))
  cl_Release : Cls K (He.ga K "Release")
  mk_Release : Mk K (He.ga K "Release") (He.ma K (He.ga K "Release") "__init__")
  na_Release_version : NoAttr K (He.ga K "Release") "version"
  na_Release_needs : NoAttr K (He.ga K "Release") "needs"
  na_Release_notes : NoAttr K (He.ga K "Release") "notes"
  na_Release_withdrawn : NoAttr K (He.ga K "Release") "withdrawn"
  g_Package : mg "Package" = some (.ref (He.ga K "Package"))
  cl_Package : Cls K (He.ga K "Package")
  mk_Package : Mk K (He.ga K "Package") (He.ma K (He.ga K "Package") "__init__")
  na_Package_version : NoAttr K (He.ga K "Package") "version"
  na_Package_group : NoAttr K (He.ga K "Package") "group"
  na_Package_needs : NoAttr K (He.ga K "Package") "needs"
  na_Package_waiting : NoAttr K (He.ga K "Package") "waiting"
  na_Package_releases : NoAttr K (He.ga K "Package") "releases"
  g_Step : mg "Step" = some (.ref (He.ga K "Step"))
  cl_Step : Cls K (He.ga K "Step")
  mk_Step : Mk K (He.ga K "Step") (He.ma K (He.ga K "Step") "__init__")
  na_Step_package : NoAttr K (He.ga K "Step") "package"
  na_Step_level : NoAttr K (He.ga K "Step") "level"
  na_Step_version : NoAttr K (He.ga K "Step") "version"
  na_Step_needs : NoAttr K (He.ga K "Step") "needs"
  na_Step_notes : NoAttr K (He.ga K "Step") "notes"
  g_House : mg "House" = some (.ref (He.ga K "House"))
  cl_House : Cls K (He.ga K "House")
  mk_House : Mk K (He.ga K "House") (He.ma K (He.ga K "House") "__init__")
  na_House_packages : NoAttr K (He.ga K "House") "packages"
  na_House_note_levels : NoAttr K (He.ga K "House") "note_levels"
  na_House_plan : NoAttr K (He.ga K "House") "plan"
  g_Need : mg "Need" = some (.ref (He.ga K "Need"))
  cl_Need : Cls K (He.ga K "Need")
  mk_Need : Mk K (He.ga K "Need") (He.ma K (He.ga K "Need") "__init__")
  na_Need_package : NoAttr K (He.ga K "Need") "package"
  na_Need_kind : NoAttr K (He.ga K "Need") "kind"
  na_Need_version : NoAttr K (He.ga K "Need") "version"
  g_Call : mg "Call" = some (.ref (He.ga K "Call"))
  cl_Call : Cls K (He.ga K "Call")
  mk_Call : Mk K (He.ga K "Call") (He.ma K (He.ga K "Call") "__init__")
  na_Call_number : NoAttr K (He.ga K "Call") "number"
  na_Call_whole : NoAttr K (He.ga K "Call") "whole"
  na_Call_lists : NoAttr K (He.ga K "Call") "lists"
  g_raised : mg "raised" = some (.ref (He.ga K "raised"))
  g_numbers_to_first_not_zero : mg "numbers_to_first_not_zero" = some (.ref (He.ga K "numbers_to_first_not_zero"))
  g_numbers_to_share : mg "numbers_to_share" = some (.ref (He.ga K "numbers_to_share"))
  g_holds : mg "holds" = some (.ref (He.ga K "holds"))
  g_mates : mg "mates" = some (.ref (He.ga K "mates"))
  g_mates_differ : mg "mates_differ" = some (.ref (He.ga K "mates_differ"))
  g_version_ahead : mg "version_ahead" = some (.ref (He.ga K "version_ahead"))
  g_need_lasts : mg "need_lasts" = some (.ref (He.ga K "need_lasts"))
  g_level_asked : mg "level_asked" = some (.ref (He.ga K "level_asked"))
  g_all_asked : mg "all_asked" = some (.ref (He.ga K "all_asked"))
  g_least_levels : mg "least_levels" = some (.ref (He.ga K "least_levels"))
  g_need_ahead : mg "need_ahead" = some (.ref (He.ga K "need_ahead"))
  g_step_of : mg "step_of" = some (.ref (He.ga K "step_of"))
  g_steps_now : mg "steps_now" = some (.ref (He.ga K "steps_now"))
  g_is_ready : mg "is_ready" = some (.ref (He.ga K "is_ready"))
  g_ready_packages : mg "ready_packages" = some (.ref (He.ga K "ready_packages"))
  g_steps_told : mg "steps_told" = some (.ref (He.ga K "steps_told"))
  g_answer_look : mg "answer_look" = some (.ref (He.ga K "answer_look"))
  g_answer_plan : mg "answer_plan" = some (.ref (He.ga K "answer_plan"))
  g_answer_ready : mg "answer_ready" = some (.ref (He.ga K "answer_ready"))
  g_give_out : mg "give_out" = some (.ref (He.ga K "give_out"))
  g_answer_out : mg "answer_out" = some (.ref (He.ga K "answer_out"))
  g_answer_drop : mg "answer_drop" = some (.ref (He.ga K "answer_drop"))
  g_counted : mg "counted" = some (.ref (He.ga K "counted"))
  g_read_lists : mg "read_lists" = some (.ref (He.ga K "read_lists"))
  g_read_call : mg "read_call" = some (.ref (He.ga K "read_call"))
  g_call_length : mg "call_length" = some (.ref (He.ga K "call_length"))
  g_read_calls : mg "read_calls" = some (.ref (He.ga K "read_calls"))
  g_releases_left : mg "releases_left" = some (.ref (He.ga K "releases_left"))
  g_release_of : mg "release_of" = some (.ref (He.ga K "release_of"))
  g_found_for : mg "found_for" = some (.ref (He.ga K "found_for"))
  g_needs_left : mg "needs_left" = some (.ref (He.ga K "needs_left"))
  g_finds_only : mg "finds_only" = some (.ref (He.ga K "finds_only"))
  g_yank_refusal : mg "yank_refusal" = some (.ref (He.ga K "yank_refusal"))
  g_answer_yank : mg "answer_yank" = some (.ref (He.ga K "answer_yank"))
  g_answer_resolve : mg "answer_resolve" = some (.ref (He.ga K "answer_resolve"))
  g_release_told : mg "release_told" = some (.ref (He.ga K "release_told"))
  g_answer_log : mg "answer_log" = some (.ref (He.ga K "answer_log"))
  g_rise : mg "rise" = some (.ref (He.ga K "rise"))
  g_need_from : mg "need_from" = some (.ref (He.ga K "need_from"))
  g_need_is_formed : mg "need_is_formed" = some (.ref (He.ga K "need_is_formed"))
  g_needs_are_formed : mg "needs_are_formed" = some (.ref (He.ga K "needs_are_formed"))
  g_fits : mg "fits" = some (.ref (He.ga K "fits"))
  g_package_refusal : mg "package_refusal" = some (.ref (He.ga K "package_refusal"))
  g_answer_package : mg "answer_package" = some (.ref (He.ga K "answer_package"))
  g_note_refusal : mg "note_refusal" = some (.ref (He.ga K "note_refusal"))
  g_answer_note : mg "answer_note" = some (.ref (He.ga K "answer_note"))
  g_answer_tree : mg "answer_tree" = some (.ref (He.ga K "answer_tree"))
  g_answer_to : mg "answer_to" = some (.ref (He.ga K "answer_to"))
  g_answers : mg "answers" = some (.ref (He.ga K "answers"))
  k_ACCEPTED : ∃ t, mg "ACCEPTED" = some (.int 0 t)
  k_BAD_FORM : ∃ t, mg "BAD_FORM" = some (.int (-1) t)
  k_UNKNOWN : ∃ t, mg "UNKNOWN" = some (.int (-2) t)
  k_WRONG_TIME : ∃ t, mg "WRONG_TIME" = some (.int (-3) t)
  k_NOT_PLANNED : ∃ t, mg "NOT_PLANNED" = some (.int (-4) t)
  k_IN_THE_TREE : ∃ t, mg "IN_THE_TREE" = some (.int (-4) t)
  k_DOES_NOT_FIT : ∃ t, mg "DOES_NOT_FIT" = some (.int (-5) t)
  k_NOT_READY : ∃ t, mg "NOT_READY" = some (.int (-5) t)
  k_NEEDED : ∃ t, mg "NEEDED" = some (.int (-6) t)
  k_FULL : ∃ t, mg "FULL" = some (.int (-7) t)
  k_MEND : ∃ t, mg "MEND" = some (.int 1 t)
  k_NEW : ∃ t, mg "NEW" = some (.int 2 t)
  k_BREAK : ∃ t, mg "BREAK" = some (.int 3 t)
  k_ONLY_THAT : ∃ t, mg "ONLY_THAT" = some (.int 0 t)
  k_SAME_SECOND : ∃ t, mg "SAME_SECOND" = some (.int 1 t)
  k_COMPATIBLE : ∃ t, mg "COMPATIBLE" = some (.int 2 t)
  k_ANY_LATER : ∃ t, mg "ANY_LATER" = some (.int 3 t)
  k_NO_GROUP : ∃ t, mg "NO_GROUP" = some (.int 0 t)
  k_MOST_HANDED : ∃ t, mg "MOST_HANDED" = some (.int 1000 t)
  k_MOST_NEEDS : ∃ t, mg "MOST_NEEDS" = some (.int 4 t)
  k_MOST_PACKAGES : ∃ t, mg "MOST_PACKAGES" = some (.int 6 t)
  k_MOST_NOTES : ∃ t, mg "MOST_NOTES" = some (.int 30 t)
  k_BEGINS : ∃ t, mg "BEGINS" = some (.int 0 t)
  k_PACKAGE : ∃ t, mg "PACKAGE" = some (.int 1 t)
  k_NOTE : ∃ t, mg "NOTE" = some (.int 2 t)
  k_LOOK : ∃ t, mg "LOOK" = some (.int 3 t)
  k_PLAN : ∃ t, mg "PLAN" = some (.int 4 t)
  k_READY : ∃ t, mg "READY" = some (.int 5 t)
  k_OUT : ∃ t, mg "OUT" = some (.int 6 t)
  k_DROP : ∃ t, mg "DROP" = some (.int 7 t)
  k_YANK : ∃ t, mg "YANK" = some (.int 8 t)
  k_RESOLVE : ∃ t, mg "RESOLVE" = some (.int 9 t)
  k_LOG : ∃ t, mg "LOG" = some (.int 10 t)
  f_all : mg "all" = none
  f_any : mg "any" = none
  f_len : mg "len" = none
  f_list : mg "list" = none
  f_max : mg "max" = none
  f_range : mg "range" = none
  f_sum : mg "sum" = none
  f_tuple : mg "tuple" = none
  e_Release_init : ∃ fd, FunD K "__init__" "Release.__init__" (defArgs s_Release_init) (defBody s_Release_init) (defScope s_Release_init) [] [] (He.ma K (He.ga K "Release") "__init__") fd
  e_Package_init : ∃ fd, FunD K "__init__" "Package.__init__" (defArgs s_Package_init) (defBody s_Package_init) (defScope s_Package_init) [] [] (He.ma K (He.ga K "Package") "__init__") fd
  e_Step_init : ∃ fd, FunD K "__init__" "Step.__init__" (defArgs s_Step_init) (defBody s_Step_init) (defScope s_Step_init) [] [] (He.ma K (He.ga K "Step") "__init__") fd
  e_House_init : ∃ fd, FunD K "__init__" "House.__init__" (defArgs s_House_init) (defBody s_House_init) (defScope s_House_init) [] [] (He.ma K (He.ga K "House") "__init__") fd
  e_Need_init : ∃ fd, FunD K "__init__" "Need.__init__" (defArgs s_Need_init) (defBody s_Need_init) (defScope s_Need_init) [] [] (He.ma K (He.ga K "Need") "__init__") fd
  e_Call_init : ∃ fd, FunD K "__init__" "Call.__init__" (defArgs s_Call_init) (defBody s_Call_init) (defScope s_Call_init) [] [] (He.ma K (He.ga K "Call") "__init__") fd
  e_raised : ∃ fd, FunD K "raised" "raised" (defArgs s_raised) (defBody s_raised) (defScope s_raised) [] [] (He.ga K "raised") fd
  e_numbers_to_first_not_zero : ∃ fd, FunD K "numbers_to_first_not_zero" "numbers_to_first_not_zero" (defArgs s_numbers_to_first_not_zero) (defBody s_numbers_to_first_not_zero) (defScope s_numbers_to_first_not_zero) [] [] (He.ga K "numbers_to_first_not_zero") fd
  e_numbers_to_share : ∃ fd, FunD K "numbers_to_share" "numbers_to_share" (defArgs s_numbers_to_share) (defBody s_numbers_to_share) (defScope s_numbers_to_share) [] [] (He.ga K "numbers_to_share") fd
  e_holds : ∃ fd, FunD K "holds" "holds" (defArgs s_holds) (defBody s_holds) (defScope s_holds) [] [] (He.ga K "holds") fd
  e_mates : ∃ fd, FunD K "mates" "mates" (defArgs s_mates) (defBody s_mates) (defScope s_mates) [] [] (He.ga K "mates") fd
  e_mates_differ : ∃ fd, FunD K "mates_differ" "mates_differ" (defArgs s_mates_differ) (defBody s_mates_differ) (defScope s_mates_differ) [] [] (He.ga K "mates_differ") fd
  e_version_ahead : ∃ fd, FunD K "version_ahead" "version_ahead" (defArgs s_version_ahead) (defBody s_version_ahead) (defScope s_version_ahead) [] [] (He.ga K "version_ahead") fd
  e_need_lasts : ∃ fd, FunD K "need_lasts" "need_lasts" (defArgs s_need_lasts) (defBody s_need_lasts) (defScope s_need_lasts) [] [] (He.ga K "need_lasts") fd
  e_level_asked : ∃ fd, FunD K "level_asked" "level_asked" (defArgs s_level_asked) (defBody s_level_asked) (defScope s_level_asked) [] [] (He.ga K "level_asked") fd
  e_all_asked : ∃ fd, FunD K "all_asked" "all_asked" (defArgs s_all_asked) (defBody s_all_asked) (defScope s_all_asked) [] [] (He.ga K "all_asked") fd
  e_least_levels : ∃ fd, FunD K "least_levels" "least_levels" (defArgs s_least_levels) (defBody s_least_levels) (defScope s_least_levels) [] [] (He.ga K "least_levels") fd
  e_need_ahead : ∃ fd, FunD K "need_ahead" "need_ahead" (defArgs s_need_ahead) (defBody s_need_ahead) (defScope s_need_ahead) [] [] (He.ga K "need_ahead") fd
  e_step_of : ∃ fd, FunD K "step_of" "step_of" (defArgs s_step_of) (defBody s_step_of) (defScope s_step_of) [] [] (He.ga K "step_of") fd
  e_steps_now : ∃ fd, FunD K "steps_now" "steps_now" (defArgs s_steps_now) (defBody s_steps_now) (defScope s_steps_now) [] [] (He.ga K "steps_now") fd
  e_is_ready : ∃ fd, FunD K "is_ready" "is_ready" (defArgs s_is_ready) (defBody s_is_ready) (defScope s_is_ready) [] [] (He.ga K "is_ready") fd
  e_ready_packages : ∃ fd, FunD K "ready_packages" "ready_packages" (defArgs s_ready_packages) (defBody s_ready_packages) (defScope s_ready_packages) [] [] (He.ga K "ready_packages") fd
  e_steps_told : ∃ fd, FunD K "steps_told" "steps_told" (defArgs s_steps_told) (defBody s_steps_told) (defScope s_steps_told) [] [] (He.ga K "steps_told") fd
  e_answer_look : ∃ fd, FunD K "answer_look" "answer_look" (defArgs s_answer_look) (defBody s_answer_look) (defScope s_answer_look) [] [] (He.ga K "answer_look") fd
  e_answer_plan : ∃ fd, FunD K "answer_plan" "answer_plan" (defArgs s_answer_plan) (defBody s_answer_plan) (defScope s_answer_plan) [] [] (He.ga K "answer_plan") fd
  e_answer_ready : ∃ fd, FunD K "answer_ready" "answer_ready" (defArgs s_answer_ready) (defBody s_answer_ready) (defScope s_answer_ready) [] [] (He.ga K "answer_ready") fd
  e_give_out : ∃ fd, FunD K "give_out" "give_out" (defArgs s_give_out) (defBody s_give_out) (defScope s_give_out) [] [] (He.ga K "give_out") fd
  e_answer_out : ∃ fd, FunD K "answer_out" "answer_out" (defArgs s_answer_out) (defBody s_answer_out) (defScope s_answer_out) [] [] (He.ga K "answer_out") fd
  e_answer_drop : ∃ fd, FunD K "answer_drop" "answer_drop" (defArgs s_answer_drop) (defBody s_answer_drop) (defScope s_answer_drop) [] [] (He.ga K "answer_drop") fd
  e_counted : ∃ fd, FunD K "counted" "counted" (defArgs s_counted) (defBody s_counted) (defScope s_counted) [] [] (He.ga K "counted") fd
  e_read_lists : ∃ fd, FunD K "read_lists" "read_lists" (defArgs s_read_lists) (defBody s_read_lists) (defScope s_read_lists) [] [] (He.ga K "read_lists") fd
  e_read_call : ∃ fd, FunD K "read_call" "read_call" (defArgs s_read_call) (defBody s_read_call) (defScope s_read_call) [] [] (He.ga K "read_call") fd
  e_call_length : ∃ fd, FunD K "call_length" "call_length" (defArgs s_call_length) (defBody s_call_length) (defScope s_call_length) [] [] (He.ga K "call_length") fd
  e_read_calls : ∃ fd, FunD K "read_calls" "read_calls" (defArgs s_read_calls) (defBody s_read_calls) (defScope s_read_calls) [] [] (He.ga K "read_calls") fd
  e_releases_left : ∃ fd, FunD K "releases_left" "releases_left" (defArgs s_releases_left) (defBody s_releases_left) (defScope s_releases_left) [] [] (He.ga K "releases_left") fd
  e_release_of : ∃ fd, FunD K "release_of" "release_of" (defArgs s_release_of) (defBody s_release_of) (defScope s_release_of) [] [] (He.ga K "release_of") fd
  e_found_for : ∃ fd, FunD K "found_for" "found_for" (defArgs s_found_for) (defBody s_found_for) (defScope s_found_for) [] [] (He.ga K "found_for") fd
  e_needs_left : ∃ fd, FunD K "needs_left" "needs_left" (defArgs s_needs_left) (defBody s_needs_left) (defScope s_needs_left) [] [] (He.ga K "needs_left") fd
  e_finds_only : ∃ fd, FunD K "finds_only" "finds_only" (defArgs s_finds_only) (defBody s_finds_only) (defScope s_finds_only) [] [] (He.ga K "finds_only") fd
  e_yank_refusal : ∃ fd, FunD K "yank_refusal" "yank_refusal" (defArgs s_yank_refusal) (defBody s_yank_refusal) (defScope s_yank_refusal) [] [] (He.ga K "yank_refusal") fd
  e_answer_yank : ∃ fd, FunD K "answer_yank" "answer_yank" (defArgs s_answer_yank) (defBody s_answer_yank) (defScope s_answer_yank) [] [] (He.ga K "answer_yank") fd
  e_answer_resolve : ∃ fd, FunD K "answer_resolve" "answer_resolve" (defArgs s_answer_resolve) (defBody s_answer_resolve) (defScope s_answer_resolve) [] [] (He.ga K "answer_resolve") fd
  e_release_told : ∃ fd, FunD K "release_told" "release_told" (defArgs s_release_told) (defBody s_release_told) (defScope s_release_told) [] [] (He.ga K "release_told") fd
  e_answer_log : ∃ fd, FunD K "answer_log" "answer_log" (defArgs s_answer_log) (defBody s_answer_log) (defScope s_answer_log) [] [] (He.ga K "answer_log") fd
  e_rise : ∃ fd, FunD K "rise" "rise" (defArgs s_rise) (defBody s_rise) (defScope s_rise) [] [] (He.ga K "rise") fd
  e_need_from : ∃ fd, FunD K "need_from" "need_from" (defArgs s_need_from) (defBody s_need_from) (defScope s_need_from) [] [] (He.ga K "need_from") fd
  e_need_is_formed : ∃ fd, FunD K "need_is_formed" "need_is_formed" (defArgs s_need_is_formed) (defBody s_need_is_formed) (defScope s_need_is_formed) [] [] (He.ga K "need_is_formed") fd
  e_needs_are_formed : ∃ fd, FunD K "needs_are_formed" "needs_are_formed" (defArgs s_needs_are_formed) (defBody s_needs_are_formed) (defScope s_needs_are_formed) [] [] (He.ga K "needs_are_formed") fd
  e_fits : ∃ fd, FunD K "fits" "fits" (defArgs s_fits) (defBody s_fits) (defScope s_fits) [] [] (He.ga K "fits") fd
  e_package_refusal : ∃ fd, FunD K "package_refusal" "package_refusal" (defArgs s_package_refusal) (defBody s_package_refusal) (defScope s_package_refusal) [] [] (He.ga K "package_refusal") fd
  e_answer_package : ∃ fd, FunD K "answer_package" "answer_package" (defArgs s_answer_package) (defBody s_answer_package) (defScope s_answer_package) [] [] (He.ga K "answer_package") fd
  e_note_refusal : ∃ fd, FunD K "note_refusal" "note_refusal" (defArgs s_note_refusal) (defBody s_note_refusal) (defScope s_note_refusal) [] [] (He.ga K "note_refusal") fd
  e_answer_note : ∃ fd, FunD K "answer_note" "answer_note" (defArgs s_answer_note) (defBody s_answer_note) (defScope s_answer_note) [] [] (He.ga K "answer_note") fd
  e_answer_tree : ∃ fd, FunD K "answer_tree" "answer_tree" (defArgs s_answer_tree) (defBody s_answer_tree) (defScope s_answer_tree) [] [] (He.ga K "answer_tree") fd
  e_answer_to : ∃ fd, FunD K "answer_to" "answer_to" (defArgs s_answer_to) (defBody s_answer_to) (defScope s_answer_to) [] [] (He.ga K "answer_to") fd
  e_answers : ∃ fd, FunD K "answers" "answers" (defArgs s_answers) (defBody s_answers) (defScope s_answers) [] [] (He.ga K "answers") fd
theorem txt_of {K : PySem.W.Frag} {h : Heap} {mg : Str → Option Value} (X : K.In h) (G : h.Ns mainGlobals mg) (c : He.SaysD faL fnL K) : Txt K mg where
  g_Release := He.glo_ok X G (c.fact 0 rfl)
  cl_Release := He.cls_ok (c.fact 1 rfl)
  mk_Release := He.mkr_ok (c.fact 2 rfl)
  na_Release_version := He.noat_ok (c.fact 3 rfl)
  na_Release_needs := He.noat_ok (c.fact 4 rfl)
  na_Release_notes := He.noat_ok (c.fact 5 rfl)
  na_Release_withdrawn := He.noat_ok (c.fact 6 rfl)
  g_Package := He.glo_ok X G (c.fact 7 rfl)
  cl_Package := He.cls_ok (c.fact 8 rfl)
  mk_Package := He.mkr_ok (c.fact 9 rfl)
  na_Package_version := He.noat_ok (c.fact 10 rfl)
  na_Package_group := He.noat_ok (c.fact 11 rfl)
  na_Package_needs := He.noat_ok (c.fact 12 rfl)
  na_Package_waiting := He.noat_ok (c.fact 13 rfl)
  na_Package_releases := He.noat_ok (c.fact 14 rfl)
  g_Step := He.glo_ok X G (c.fact 15 rfl)
  cl_Step := He.cls_ok (c.fact 16 rfl)
  mk_Step := He.mkr_ok (c.fact 17 rfl)
  na_Step_package := He.noat_ok (c.fact 18 rfl)
  na_Step_level := He.noat_ok (c.fact 19 rfl)
  na_Step_version := He.noat_ok (c.fact 20 rfl)
  na_Step_needs := He.noat_ok (c.fact 21 rfl)
  na_Step_notes := He.noat_ok (c.fact 22 rfl)
  g_House := He.glo_ok X G (c.fact 23 rfl)
  cl_House := He.cls_ok (c.fact 24 rfl)
  mk_House := He.mkr_ok (c.fact 25 rfl)
  na_House_packages := He.noat_ok (c.fact 26 rfl)
  na_House_note_levels := He.noat_ok (c.fact 27 rfl)
  na_House_plan := He.noat_ok (c.fact 28 rfl)
  g_Need := He.glo_ok X G (c.fact 29 rfl)
  cl_Need := He.cls_ok (c.fact 30 rfl)
  mk_Need := He.mkr_ok (c.fact 31 rfl)
  na_Need_package := He.noat_ok (c.fact 32 rfl)
  na_Need_kind := He.noat_ok (c.fact 33 rfl)
  na_Need_version := He.noat_ok (c.fact 34 rfl)
  g_Call := He.glo_ok X G (c.fact 35 rfl)
  cl_Call := He.cls_ok (c.fact 36 rfl)
  mk_Call := He.mkr_ok (c.fact 37 rfl)
  na_Call_number := He.noat_ok (c.fact 38 rfl)
  na_Call_whole := He.noat_ok (c.fact 39 rfl)
  na_Call_lists := He.noat_ok (c.fact 40 rfl)
  g_raised := He.glo_ok X G (c.fact 41 rfl)
  g_numbers_to_first_not_zero := He.glo_ok X G (c.fact 42 rfl)
  g_numbers_to_share := He.glo_ok X G (c.fact 43 rfl)
  g_holds := He.glo_ok X G (c.fact 44 rfl)
  g_mates := He.glo_ok X G (c.fact 45 rfl)
  g_mates_differ := He.glo_ok X G (c.fact 46 rfl)
  g_version_ahead := He.glo_ok X G (c.fact 47 rfl)
  g_need_lasts := He.glo_ok X G (c.fact 48 rfl)
  g_level_asked := He.glo_ok X G (c.fact 49 rfl)
  g_all_asked := He.glo_ok X G (c.fact 50 rfl)
  g_least_levels := He.glo_ok X G (c.fact 51 rfl)
  g_need_ahead := He.glo_ok X G (c.fact 52 rfl)
  g_step_of := He.glo_ok X G (c.fact 53 rfl)
  g_steps_now := He.glo_ok X G (c.fact 54 rfl)
  g_is_ready := He.glo_ok X G (c.fact 55 rfl)
  g_ready_packages := He.glo_ok X G (c.fact 56 rfl)
  g_steps_told := He.glo_ok X G (c.fact 57 rfl)
  g_answer_look := He.glo_ok X G (c.fact 58 rfl)
  g_answer_plan := He.glo_ok X G (c.fact 59 rfl)
  g_answer_ready := He.glo_ok X G (c.fact 60 rfl)
  g_give_out := He.glo_ok X G (c.fact 61 rfl)
  g_answer_out := He.glo_ok X G (c.fact 62 rfl)
  g_answer_drop := He.glo_ok X G (c.fact 63 rfl)
  g_counted := He.glo_ok X G (c.fact 64 rfl)
  g_read_lists := He.glo_ok X G (c.fact 65 rfl)
  g_read_call := He.glo_ok X G (c.fact 66 rfl)
  g_call_length := He.glo_ok X G (c.fact 67 rfl)
  g_read_calls := He.glo_ok X G (c.fact 68 rfl)
  g_releases_left := He.glo_ok X G (c.fact 69 rfl)
  g_release_of := He.glo_ok X G (c.fact 70 rfl)
  g_found_for := He.glo_ok X G (c.fact 71 rfl)
  g_needs_left := He.glo_ok X G (c.fact 72 rfl)
  g_finds_only := He.glo_ok X G (c.fact 73 rfl)
  g_yank_refusal := He.glo_ok X G (c.fact 74 rfl)
  g_answer_yank := He.glo_ok X G (c.fact 75 rfl)
  g_answer_resolve := He.glo_ok X G (c.fact 76 rfl)
  g_release_told := He.glo_ok X G (c.fact 77 rfl)
  g_answer_log := He.glo_ok X G (c.fact 78 rfl)
  g_rise := He.glo_ok X G (c.fact 79 rfl)
  g_need_from := He.glo_ok X G (c.fact 80 rfl)
  g_need_is_formed := He.glo_ok X G (c.fact 81 rfl)
  g_needs_are_formed := He.glo_ok X G (c.fact 82 rfl)
  g_fits := He.glo_ok X G (c.fact 83 rfl)
  g_package_refusal := He.glo_ok X G (c.fact 84 rfl)
  g_answer_package := He.glo_ok X G (c.fact 85 rfl)
  g_note_refusal := He.glo_ok X G (c.fact 86 rfl)
  g_answer_note := He.glo_ok X G (c.fact 87 rfl)
  g_answer_tree := He.glo_ok X G (c.fact 88 rfl)
  g_answer_to := He.glo_ok X G (c.fact 89 rfl)
  g_answers := He.glo_ok X G (c.fact 90 rfl)
  k_ACCEPTED := He.int_ok X G (c.fact 91 rfl)
  k_BAD_FORM := He.int_ok X G (c.fact 92 rfl)
  k_UNKNOWN := He.int_ok X G (c.fact 93 rfl)
  k_WRONG_TIME := He.int_ok X G (c.fact 94 rfl)
  k_NOT_PLANNED := He.int_ok X G (c.fact 95 rfl)
  k_IN_THE_TREE := He.int_ok X G (c.fact 96 rfl)
  k_DOES_NOT_FIT := He.int_ok X G (c.fact 97 rfl)
  k_NOT_READY := He.int_ok X G (c.fact 98 rfl)
  k_NEEDED := He.int_ok X G (c.fact 99 rfl)
  k_FULL := He.int_ok X G (c.fact 100 rfl)
  k_MEND := He.int_ok X G (c.fact 101 rfl)
  k_NEW := He.int_ok X G (c.fact 102 rfl)
  k_BREAK := He.int_ok X G (c.fact 103 rfl)
  k_ONLY_THAT := He.int_ok X G (c.fact 104 rfl)
  k_SAME_SECOND := He.int_ok X G (c.fact 105 rfl)
  k_COMPATIBLE := He.int_ok X G (c.fact 106 rfl)
  k_ANY_LATER := He.int_ok X G (c.fact 107 rfl)
  k_NO_GROUP := He.int_ok X G (c.fact 108 rfl)
  k_MOST_HANDED := He.int_ok X G (c.fact 109 rfl)
  k_MOST_NEEDS := He.int_ok X G (c.fact 110 rfl)
  k_MOST_PACKAGES := He.int_ok X G (c.fact 111 rfl)
  k_MOST_NOTES := He.int_ok X G (c.fact 112 rfl)
  k_BEGINS := He.int_ok X G (c.fact 113 rfl)
  k_PACKAGE := He.int_ok X G (c.fact 114 rfl)
  k_NOTE := He.int_ok X G (c.fact 115 rfl)
  k_LOOK := He.int_ok X G (c.fact 116 rfl)
  k_PLAN := He.int_ok X G (c.fact 117 rfl)
  k_READY := He.int_ok X G (c.fact 118 rfl)
  k_OUT := He.int_ok X G (c.fact 119 rfl)
  k_DROP := He.int_ok X G (c.fact 120 rfl)
  k_YANK := He.int_ok X G (c.fact 121 rfl)
  k_RESOLVE := He.int_ok X G (c.fact 122 rfl)
  k_LOG := He.int_ok X G (c.fact 123 rfl)
  f_all := He.free_ok X G (c.fact 124 rfl)
  f_any := He.free_ok X G (c.fact 125 rfl)
  f_len := He.free_ok X G (c.fact 126 rfl)
  f_list := He.free_ok X G (c.fact 127 rfl)
  f_max := He.free_ok X G (c.fact 128 rfl)
  f_range := He.free_ok X G (c.fact 129 rfl)
  f_sum := He.free_ok X G (c.fact 130 rfl)
  f_tuple := He.free_ok X G (c.fact 131 rfl)
  e_Release_init := c.def_ 0 rfl
  e_Package_init := c.def_ 1 rfl
  e_Step_init := c.def_ 2 rfl
  e_House_init := c.def_ 3 rfl
  e_Need_init := c.def_ 4 rfl
  e_Call_init := c.def_ 5 rfl
  e_raised := c.def_ 6 rfl
  e_numbers_to_first_not_zero := c.def_ 7 rfl
  e_numbers_to_share := c.def_ 8 rfl
  e_holds := c.def_ 9 rfl
  e_mates := c.def_ 10 rfl
  e_mates_differ := c.def_ 11 rfl
  e_version_ahead := c.def_ 12 rfl
  e_need_lasts := c.def_ 13 rfl
  e_level_asked := c.def_ 14 rfl
  e_all_asked := c.def_ 15 rfl
  e_least_levels := c.def_ 16 rfl
  e_need_ahead := c.def_ 17 rfl
  e_step_of := c.def_ 18 rfl
  e_steps_now := c.def_ 19 rfl
  e_is_ready := c.def_ 20 rfl
  e_ready_packages := c.def_ 21 rfl
  e_steps_told := c.def_ 22 rfl
  e_answer_look := c.def_ 23 rfl
  e_answer_plan := c.def_ 24 rfl
  e_answer_ready := c.def_ 25 rfl
  e_give_out := c.def_ 26 rfl
  e_answer_out := c.def_ 27 rfl
  e_answer_drop := c.def_ 28 rfl
  e_counted := c.def_ 29 rfl
  e_read_lists := c.def_ 30 rfl
  e_read_call := c.def_ 31 rfl
  e_call_length := c.def_ 32 rfl
  e_read_calls := c.def_ 33 rfl
  e_releases_left := c.def_ 34 rfl
  e_release_of := c.def_ 35 rfl
  e_found_for := c.def_ 36 rfl
  e_needs_left := c.def_ 37 rfl
  e_finds_only := c.def_ 38 rfl
  e_yank_refusal := c.def_ 39 rfl
  e_answer_yank := c.def_ 40 rfl
  e_answer_resolve := c.def_ 41 rfl
  e_release_told := c.def_ 42 rfl
  e_answer_log := c.def_ 43 rfl
  e_rise := c.def_ 44 rfl
  e_need_from := c.def_ 45 rfl
  e_need_is_formed := c.def_ 46 rfl
  e_needs_are_formed := c.def_ 47 rfl
  e_fits := c.def_ 48 rfl
  e_package_refusal := c.def_ 49 rfl
  e_answer_package := c.def_ 50 rfl
  e_note_refusal := c.def_ 51 rfl
  e_answer_note := c.def_ 52 rfl
  e_answer_tree := c.def_ 53 rfl
  e_answer_to := c.def_ 54 rfl
  e_answers := c.def_ 55 rfl
end Tg
namespace Tg
open PySem PySem.Spec PyProof.Rows L2
/-! ### defs and classes of the top, by their names -/
/-- the def x keeps the promise sp -/
structure Ok (P : Program) (w : World) (K : PySem.W.Frag) (mg : Str → Option Value) (base : Heap) (k : Nat) (x : Str) (ps : List Str) (sp : Sp) : Prop where
  ex : ∃ fd, PySem.W.keepIn K (.ref (He.ga K x)) = true ∧ (∀ (s : Shared) (us : List Value), us.length = ps.length → BindsTo s fd ⟨us, []⟩ (ps.zip us)) ∧ FnOk P w K mg base CX0 k (He.ga K x) fd ps sp
  g : mg x = some (.ref (He.ga K x))
/-- the class x makes its instances by an __init__ that keeps sp -/
structure OkC (P : Program) (w : World) (K : PySem.W.Frag) (mg : Str → Option Value) (base : Heap) (k : Nat) (x : Str) (ps : List Str) (sp : Sp) : Prop where
  ex : ∃ fd, Binds K fd ps [] ∧ FnOk P w K mg base CX0 k (He.ma K (He.ga K x) "__init__") fd ps sp
  mkr : Mk K (He.ga K x) (He.ma K (He.ga K x) "__init__")
  g : mg x = some (.ref (He.ga K x))
theorem binds_of {K : PySem.W.Frag} {fd : FuncData} {ps : List Str} (b : ∀ (s : Shared) (us : List Value), us.length = ps.length → BindsTo s fd ⟨us, []⟩ (ps.zip us)) : Binds K fd ps [] := fun s us _ hl => by
  rw [List.append_nil] at hl ⊢
  exact b s us hl
section
variable {P : Program} {w : World} {K : PySem.W.Frag} {mg : Str → Option Value} {base : Heap}
theorem Ok.of {x : Str} {st : Stmt} {ps N : List Str} {k : Nat} {sp : Sp} (e : ∃ fd, FunD K x x (defArgs st) (defBody st) (defScope st) [] [] (He.ga K x) fd) (g : mg x = some (.ref (He.ga K x))) (S : FnScope N ps (defScope st))
    (hb : ∀ (kV doc pm : Value) (an : Option Addr) (cdv ct : Value) (us : List Value), us.length = ps.length → bindArgs (PySem.W.fnOf x x (defArgs st) (defBody st) (defScope st) .none kV doc pm an cdv ct) ⟨us, []⟩ = pure (ps.zip us))
    (len : ∀ vs H Q E, sp vs H Q E → vs.length = ps.length)
    (body : ∀ (cdv : Value) (A : Around) (outer : List Env) (s : Shared) (H : Hp) (vs : List V) (Q : VK) (E : XK), Room k (A.deeper (envOfC x (defScope st) s.heap.objs.size (He.ga K x) cdv)) → sp vs H Q E →
      ∃ t, PSs (cxOf CX0 P w K mg base N x (defScope st) (He.ga K x) cdv A outer s H E).nox (defBody st) t ∧ t { nx := fun _ H' => Q .non H', rt := Q } (start N vs) H) : Ok P w K mg base (k + 1) x ps sp := by
  obtain ⟨fd, F⟩ := e
  refine ⟨⟨fd, F.kp, F.bindsA hb, F.ok S len fun cdv A outer s H vs Q E hr h => ?_⟩, g⟩
  obtain ⟨t, h1, h2⟩ := body cdv A outer s H vs Q E hr h
  exact ⟨t, h1.nox, h2⟩
theorem OkC.of {x q : Str} {st : Stmt} {ps N : List Str} {k : Nat} {sp : Sp} (e : ∃ fd, FunD K "__init__" q (defArgs st) (defBody st) (defScope st) [] [] (He.ma K (He.ga K x) "__init__") fd) (g : mg x = some (.ref (He.ga K x)))
    (mk : Mk K (He.ga K x) (He.ma K (He.ga K x) "__init__")) (S : FnScope N ps (defScope st))
    (hb : ∀ (kV doc pm : Value) (an : Option Addr) (cdv ct : Value) (us : List Value), us.length = ps.length → bindArgs (PySem.W.fnOf "__init__" q (defArgs st) (defBody st) (defScope st) .none kV doc pm an cdv ct) ⟨us, []⟩ = pure (ps.zip us))
    (len : ∀ vs H Q E, sp vs H Q E → vs.length = ps.length)
    (body : ∀ (cdv : Value) (A : Around) (outer : List Env) (s : Shared) (H : Hp) (vs : List V) (Q : VK) (E : XK), Room k (A.deeper (envOfC q (defScope st) s.heap.objs.size (He.ma K (He.ga K x) "__init__") cdv)) → sp vs H Q E →
      ∃ t, PSs (cxOf CX0 P w K mg base N q (defScope st) (He.ma K (He.ga K x) "__init__") cdv A outer s H E).nox (defBody st) t ∧ t { nx := fun _ H' => Q .non H', rt := Q } (start N vs) H) : OkC P w K mg base (k + 1) x ps sp := by
  obtain ⟨fd, F⟩ := e
  refine ⟨⟨fd, F.bindsN hb, F.ok S len fun cdv A outer s H vs Q E hr h => ?_⟩, mk, g⟩
  obtain ⟨t, h1, h2⟩ := body cdv A outer s H vs Q E hr h
  exact ⟨t, h1.nox, h2⟩
end
section
variable {X : Cx} {k : Nat} {x : Str} {ps : List Str} {sp : Sp} {p pos : Pos} {e : Expr} {es : List Expr} {t : TA}
theorem pe_callO (O : Ok X.prog X.w X.K X.mg X.base k x ps sp) (hr : Room k X.A) (hg : Gl X x) (ha : PA X (e :: es) t) (hdb : (x == ("__debug__" : Str)) = false := by decide)
    (he : starEach (e :: es) X.env = (false, eval e X.env) :: starEach es X.env := by rfl) (hpl : (backTo pos (starEach es X.env)).any (·.1) = false := by rfl) : PE X (.Call (.Name x p) (e :: es) [] pos) (tCall sp [] E0 t) := by
  obtain ⟨⟨fd, kp, b, F⟩, g⟩ := O
  exact pe_call F hr hg g kp (binds_of b) .nil pass0 ha hdb he hpl
theorem pe_callO0 (O : Ok X.prog X.w X.K X.mg X.base k x ps sp) (hr : Room k X.A) (hg : Gl X x) (hdb : (x == ("__debug__" : Str)) = false := by decide) : PE X (.Call (.Name x p) [] [] pos) (tCall sp [] E0 tNil) := by
  obtain ⟨⟨fd, kp, b, F⟩, g⟩ := O
  exact pe_call0 F hr hg g kp (binds_of b) .nil pass0 hdb
theorem pe_makeO (O : OkC X.prog X.w X.K X.mg X.base k x ps sp) (hr : Room (k + 1) X.A) (hg : Gl X x) (ha : PA X (e :: es) t) (hdb : (x == ("__debug__" : Str)) = false := by decide)
    (he : starEach (e :: es) X.env = (false, eval e X.env) :: starEach es X.env := by rfl) (hpl : (backTo pos (starEach es X.env)).any (·.1) = false := by rfl) : PE X (.Call (.Name x p) (e :: es) [] pos) (tMake (He.ga X.K x) sp [] E0 t) := by
  obtain ⟨⟨fd, b, F⟩, mk, g⟩ := O
  exact pe_make mk F hr hg g b .nil pass0 ha hdb he hpl
theorem pe_makeO0 (O : OkC X.prog X.w X.K X.mg X.base k x ps sp) (hr : Room (k + 1) X.A) (hg : Gl X x) (hdb : (x == ("__debug__" : Str)) = false := by decide) : PE X (.Call (.Name x p) [] [] pos) (tMake (He.ga X.K x) sp [] E0 tNil) := by
  obtain ⟨⟨fd, b, F⟩, mk, g⟩ := O
  exact pe_make0 mk F hr hg g b .nil pass0 hdb
theorem pe_gint {i : Int} (h : ∃ tk, X.mg x = some (.int i tk)) (hg : Gl X x := by rfl) (hd : (x == ("__debug__" : Str)) = false := by decide) : PE X (.Name x pos) (tC (.int i)) := by
  obtain ⟨tk, h⟩ := h
  exact pe_glob hg h ⟨_, rfl⟩ hd
end
/-! ### xs.extend(t), t a tuple -/
theorem extT_meets (l : Addr) (items : Array Value) (n : Nat) (b : Addr) (items2 : Array Value) (n2 : Nat) (dd : Option Addr) (sl : Array (Option Value)) (h0 : ¬(!items.isEmpty && Builtin.List.listTooLong (items.size + items2.size)) = true)
    (h1 : items.size ≤ sizeLine) (h2 : items.size + items2.size ≤ sizeLine + 1) : Meets (Builtin.«list.extend» ⟨[.ref l, .ref b], []⟩)
      (fun _ R s => s.heap.get? l = some { cls := .type "list", dict := none, data := .seq items n, slots := #[] } ∧ s.heap.get? b = some { cls := .type "tuple", dict := dd, data := .seq items2 n2, slots := sl } ∧
        R (.ok (.ret Value.none)) { s with heap := s.heap.update l (Obj.mapSeq fun x => x ++ items2), toks := s.toks }) := .of_wp fun prog w A R s h => by
  obtain ⟨hp, g, d, tk, os⟩ := s
  obtain ⟨hl, hb, h⟩ := h
  have f1 := AutoSeq1.idx_int
  have f2 := AutoSeq1.sub_tuple_tuple
  have f3 := AutoSeq1.sub_list_list
  have f4 := AutoSeq1.sub_tuple_list
  have f5 := AutoSeq1.sub_list_tuple
  have hz' : (items ++ items2).size ≤ sizeLine + 1 := by
    rw [Array.size_append]
    exact h2
  wp_walk using (wpAny_updateSeq hl rfl (hz := h1) (_hz' := hz')), AutoSeq1.wpAny_loadPart' hl, AutoSeq1.wpAny_loadPart' hb
  exact ⟨_, rfl, h⟩
section
variable {X : Cx}
def rExtT (K : PySem.W.Frag) : V → List V → Hp → VK → Prop := fun x vs H Q => ∃ l b xs zs, x = .ref l ∧ vs = [.ref b] ∧ H l = some (.lst xs) ∧ SqT K H b zs ∧ xs.length + zs.length ≤ sizeLine ∧ Q .non (upd H l (.lst (xs ++ zs)))
theorem mt_extendT : MtM X "list.extend" (rExtT X.K) := by
  intro pins s σ H x vs v us Q I rx rv h
  obtain ⟨l, b, xs, zs, rfl, rfl, hH, hB, hz, q⟩ := h
  cases rx
  obtain ⟨u, rfl, ru⟩ := rv.one
  cases ru
  obtain ⟨z, its, n, r, hl, e⟩ := I.lstM hH
  obtain ⟨its2, r2, ⟨⟨c2, dd, dt, sl⟩, e2, hc2, n2, hd2⟩, z2⟩ := I.tuple hB
  have hl2 := r2.length
  simp only at hc2 hd2
  subst hc2 hd2
  have hsz : its.toArray.size + its2.toArray.size ≤ sizeLine := by rw [List.size_toArray, List.size_toArray]; omega
  have hlong : ¬ (!its.toArray.isEmpty && Builtin.List.listTooLong (its.toArray.size + its2.toArray.size)) = true := by
    rw [notLongL hsz, Bool.and_false]
    exact Bool.false_ne_true
  refine call_meets F.slot_list_extend ⟨_, e, rfl⟩ F.entry_list_extend (F.args_list_extend_2 _ _) (extT_meets l its.toArray n b its2.toArray n2 dd sl hlong (by rw [List.size_toArray]; omega) (by omega)) ⟨e, e2, ?_⟩
  refine ⟨.non, _, I.lset (its' := its ++ its2) hH e (by simp) (r.append r2) ?_, rfl, q⟩
  rw [List.length_append]
  omega
/-! ### max of a tuple of whole numbers; of a list of such tuples -/
theorem foldl_max_int : ∀ (l : List Int) (a : Int), (l.map PyData.int).foldl (fun a y => if PySem.W.dataLt a y then y else a) (.int a) = .int (l.foldl (fun a y => if a < y then y else a) a)
  | [], a => rfl
  | b :: l, a => by
    show (l.map PyData.int).foldl _ (if PySem.W.dataLt (PyData.int a) (PyData.int b) then PyData.int b else PyData.int a) = PyData.int (l.foldl _ (if a < b then b else a))
    rw [PySem.W.dataLt_int]
    by_cases h : a < b
    · rw [if_pos h, decide_eq_true h, if_pos rfl]
      exact foldl_max_int l b
    · rw [if_neg h, decide_eq_false h, if_neg Bool.false_ne_true]
      exact foldl_max_int l a
theorem dpAll_ints {K : PySem.W.Frag} {H : Hp} : ∀ ns : List Int, DpAll K H (ns.map V.int) (ns.map PyData.int)
  | [] => .nil
  | n :: r => .cons (.int n) (dpAll_ints r)
theorem alike_ints (ns : List Int) : PySem.W.AlikeAll (ns.map PyData.int) := by
  refine ⟨fun x hx y hy => ?_, fun x hx => ?_⟩
  · obtain ⟨i, _, rfl⟩ := List.mem_map.mp hx
    obtain ⟨j, _, rfl⟩ := List.mem_map.mp hy
    rfl
  · obtain ⟨i, _, rfl⟩ := List.mem_map.mp hx
    intro e
    cases e
theorem depth_ints : ∀ ns : List Int, PyData.depthAll (ns.map PyData.int) = 0
  | [] => rfl
  | n :: r => by
    show max 0 (PyData.depthAll (r.map PyData.int)) = 0
    rw [depth_ints r] <;> rfl
def maxI : List Int → Int
  | [] => 0
  | a :: l => l.foldl (fun a y => if a < y then y else a) a
def rMaxT (K : PySem.W.Frag) : List V → Hp → VK → Prop := fun vs H Q => ∃ (a : Addr) (ns : List Int), vs = [V.ref a] ∧ SqT K H a (ns.map V.int) ∧ ns ≠ [] ∧ Q (.int (maxI ns)) H
theorem cr_maxT {k : Nat} (hr : Room k X.A) (hc : X.calm = true) : CallR X (.builtin "max") (rMaxT X.K) := by
  intro pins s σ H vs us Q I r h
  obtain ⟨a, ns, rfl, hs, hne, q⟩ := h
  obtain ⟨its, rv, hl, _⟩ := I.tuple hs
  rw [Vals.ref1 r]
  cases ns with
  | nil => exact absurd rfl hne
  | cons n ns =>
    obtain ⟨as, hrd⟩ := Dp.readsAll I _ _ _ (dpAll_ints (n :: ns)) rv
    refine PySem.W.max_tuple_data (x := .int n) (xs := ns.map PyData.int) (I.ok.hd hc) hl hrd (alike_ints (n :: ns)) ?_ fun i v h' tk bs hv hrd' hk => ?_
    · have e0 : PyData.depthAll (.int n :: ns.map PyData.int) = 0 := depth_ints (n :: ns)
      have := hr.un
      omega
    · have e : PySem.W.maxD (.int n) (ns.map PyData.int) = .int (maxI (n :: ns)) := foldl_max_int ns n
      rw [e] at hrd'
      cases hrd' with
      | int i t => exact ⟨.int _, H, I.kept hk, ⟨_, rfl⟩, q⟩
theorem eqv_int (x y : Int) : PyData.eqv (.int x) (.int y) = decide (x = y) := by
  rw [PyData.eqv, Bool.beq_eq_decide_eq]
theorem lexToks : ∀ xs ys : List Int, PyProof.Rows.lexLt itemOrd (PySem.W.keyToksAll (xs.map PyData.int)) (PySem.W.keyToksAll (ys.map PyData.int)) = HT.lexLt xs ys
  | [], [] => by simp [PySem.W.keyToksAll, lex_irrefl, HT.lexLt_nil_nil]
  | [], y :: ys => by
    rw [List.map_cons, PySem.W.toks_all_cons, HT.lexLt_nil_cons]
    simp only [List.map_nil, PySem.W.keyToksAll]
    rw [lex_diff (O := itemOrd) (by simp)]
    simp [itemLt]
  | x :: xs, [] => by
    rw [List.map_cons, PySem.W.toks_all_cons, HT.lexLt_cons_nil]
    simp only [List.map_nil, PySem.W.keyToksAll]
    rw [lex_diff (O := itemOrd) (by simp)]
    simp [itemLt]
  | x :: xs, y :: ys => by
    rw [List.map_cons, List.map_cons, HT.lexLt_cons]
    by_cases h : x = y
    · rw [PySem.W.dataLt_all_yes (by rfl) (by rw [eqv_int, decide_eq_true h]), if_pos h]
      exact lexToks xs ys
    · rw [PySem.W.dataLt_all_no (by rfl) (by rw [eqv_int, decide_eq_false h]), if_neg h, PySem.W.dataLt_int]
theorem dataLt_tupI (xs ys : List Int) : PySem.W.dataLt (.tuple (xs.map PyData.int)) (.tuple (ys.map PyData.int)) = HT.lexLt xs ys := by
  rw [PySem.W.dataLt_tuple, lexToks]
abbrev tupD (n : List Int) : PyData := .tuple (n.map PyData.int)
def maxL (x : List Int) (xs : List (List Int)) : List Int := xs.foldl (fun a y => if HT.lexLt a y then y else a) x
theorem maxD_tup : ∀ (xs : List (List Int)) (x : List Int), PySem.W.maxD (tupD x) (xs.map tupD) = tupD (maxL x xs)
  | [], x => rfl
  | y :: xs, x => by
    show PySem.W.maxD (if PySem.W.dataLt (tupD x) (tupD y) then tupD y else tupD x) (xs.map tupD) = tupD (maxL (if HT.lexLt x y then y else x) xs)
    rw [dataLt_tupI]
    cases h : HT.lexLt x y with
    | true => exact maxD_tup xs y
    | false => exact maxD_tup xs x
theorem maxL_mem : ∀ (xs : List (List Int)) (x : List Int), maxL x xs ∈ x :: xs
  | [], x => List.mem_cons_self ..
  | y :: xs, x => by
    show maxL (if HT.lexLt x y then y else x) xs ∈ x :: y :: xs
    cases h : HT.lexLt x y with
    | true =>
      have := maxL_mem xs y
      exact List.mem_cons_of_mem _ this
    | false =>
      have := maxL_mem xs x
      rcases List.mem_cons.mp this with e | m
      · show maxL x xs ∈ x :: y :: xs
        rw [e]
        exact List.mem_cons_self ..
      · exact List.mem_cons_of_mem _ (List.mem_cons_of_mem _ m)
theorem alike_tupI : ∀ xs ys : List Int, PySem.W.alikeAll (xs.map PyData.int) (ys.map PyData.int) = true
  | [], _ => by rw [List.map_nil, PySem.W.alikeAll]
  | x :: xs, [] => by rw [List.map_cons, List.map_nil, PySem.W.alikeAll]
  | x :: xs, y :: ys => by
    rw [List.map_cons, List.map_cons, PySem.W.alikeAll, alike_tupI xs ys] <;> rfl
theorem alike_tups (ns : List (List Int)) : PySem.W.AlikeAll (ns.map tupD) := by
  refine ⟨fun x hx y hy => ?_, fun x hx => ?_⟩
  · obtain ⟨i, _, rfl⟩ := List.mem_map.mp hx
    obtain ⟨j, _, rfl⟩ := List.mem_map.mp hy
    show PySem.W.alike (tupD i) (tupD j) = true
    rw [PySem.W.alike]
    exact alike_tupI i j
  · obtain ⟨i, _, rfl⟩ := List.mem_map.mp hx
    intro e
    cases e
theorem depth_tups : ∀ ns : List (List Int), PyData.depthAll (ns.map tupD) ≤ 1
  | [] => Nat.zero_le _
  | n :: r => by
    show max (PyData.depthAll (n.map PyData.int) + 1) (PyData.depthAll (r.map tupD)) ≤ 1
    rw [depth_ints]
    have := depth_tups r
    omega
/-- the tuples that stand at these places -/
inductive TupsAt (K : PySem.W.Frag) (H : Hp) : List Addr → List (List Int) → Prop
  | nil : TupsAt K H [] []
  | cons {p : Addr} {ps : List Addr} {n : List Int} {ns : List (List Int)} : SqT K H p (n.map V.int) → TupsAt K H ps ns → TupsAt K H (p :: ps) (n :: ns)
theorem TupsAt.dp {K : PySem.W.Frag} {H : Hp} {ps : List Addr} {ns : List (List Int)} (h : TupsAt K H ps ns) : DpAll K H (ps.map V.ref) (ns.map tupD) := by
  induction h with
  | nil => exact .nil
  | cons a _ ih => exact .cons (.tup a (dpAll_ints _)) ih
theorem TupsAt.get {K : PySem.W.Frag} {H : Hp} {ps : List Addr} {ns : List (List Int)} (h : TupsAt K H ps ns) : ∀ {i : Nat} {p : Addr}, ps[i]? = some p → ∃ n, ns[i]? = some n ∧ SqT K H p (n.map V.int) := by
  induction h with
  | nil => intro i p e; cases e
  | cons a _ ih =>
    intro i p e
    cases i with
    | zero =>
      have e2 := Option.some.inj e
      subst e2
      exact ⟨_, rfl, a⟩
    | succ i => exact ih e
theorem vals_refs {ps : List Addr} : ∀ {its : List Value}, Vals (ps.map V.ref) its → its = ps.map Value.ref := by
  induction ps with
  | nil =>
    intro its h
    cases h
    rfl
  | cons p ps ih =>
    intro its h
    cases h with
    | cons a b =>
      cases a
      rw [ih b] <;> rfl
/-- max of a list of tuples of whole numbers: one of its items, that reads as the greatest -/
def rMaxV (K : PySem.W.Frag) : List V → Hp → VK → Prop := fun vs H Q => ∃ (a : Addr) (ps : List Addr) (n : List Int) (ns : List (List Int)), vs = [V.ref a] ∧ SqL K H a (ps.map V.ref) ∧ TupsAt K H ps (n :: ns) ∧
  ∀ (i : Nat) (p : Addr), ps[i]? = some p → (n :: ns)[i]? = some (maxL n ns) → Q (.ref p) H
theorem map_int_inj : ∀ {a b : List Int}, a.map PyData.int = b.map PyData.int → a = b
  | [], [], _ => rfl
  | [], _ :: _, h => by cases h
  | _ :: _, [], h => by cases h
  | x :: a, y :: b, h => by
    rw [List.map_cons, List.map_cons] at h
    obtain ⟨h1, h2⟩ := List.cons.inj h
    cases h1
    rw [map_int_inj h2]
theorem cr_maxV {k : Nat} (hr : Room k X.A) (hc : X.calm = true) : CallR X (.builtin "max") (rMaxV X.K) := by
  intro pins s σ H vs us Q I r h
  obtain ⟨a, ps, n, ns, rfl, hs, hT, q⟩ := h
  obtain ⟨its, rv, hl, _⟩ := I.list hs
  rw [Vals.ref1 r]
  have ei := vals_refs rv
  obtain ⟨as, hrd⟩ := Dp.readsAll I _ _ _ hT.dp rv
  refine PySem.W.max_list_data (x := tupD n) (xs := ns.map tupD) (I.ok.hd hc) hl.isList hrd (alike_tups (n :: ns)) ?_ fun i v h' tk bs hv hrd' hk => ?_
  · have e0 : PyData.depthAll (tupD n :: ns.map tupD) ≤ 1 := depth_tups (n :: ns)
    have := hr.un
    omega
  · rw [maxD_tup] at hrd'
    rw [ei] at hv
    have hv2 : (ps.map Value.ref)[i]? = some v := by simpa using hv
    rw [List.getElem?_map] at hv2
    cases ep : ps[i]? with
    | none =>
      rw [ep] at hv2
      cases hv2
    | some p =>
      rw [ep] at hv2
      have e2 : v = Value.ref p := (Option.some.inj hv2).symm
      subst e2
      obtain ⟨m, hm, hmt⟩ := hT.get ep
      have I' : Inv X pins σ H { s with heap := h', toks := tk } := I.kept hk
      obtain ⟨cs, hr2⟩ := Dp.reads I' (tupD m) (.ref p) (.ref p) (.tup hmt (dpAll_ints m)) rfl
      have ha : PySem.W.alike (tupD m) (tupD (maxL n ns)) = true := by
        rw [PySem.W.alike]
        exact alike_tupI _ _
      have e3 := PySem.W.alike_unique _ _ _ _ _ ha hr2 hrd'
      have e4 : m = maxL n ns := map_int_inj (PyData.tuple.inj e3)
      rw [e4] at hm
      exact ⟨.ref p, H, I', rfl, q i p ep hm⟩
end
end Tg
namespace Tg
open PySem PySem.Spec PyProof.Rows L2 Evl
/-! ### what is made on the way: B, what stays as it is for good; H, all that is known -/
/-- from (B, H) to (B', H'): all that was known stands, B' has B and new things alone -/
structure Gr (B H B' H' : Hp) : Prop where
  b : Ex B B'
  s : Ex B' H'
  h : Ex H H'
  n : ∀ a o, B' a = some o → B a = some o ∨ H a = none
section
variable {B B1 B2 B' H H1 H2 H' : Hp}
theorem Gr.refl (e : Ex B H) : Gr B H B H := ⟨Ex.refl _, e, Ex.refl _, fun _ _ h => .inl h⟩
theorem Gr.up (e : Ex B H) (h : Ex H H1) : Gr B H B H1 := ⟨Ex.refl _, e.trans h, h, fun _ _ h => .inl h⟩
theorem Gr.trans (a : Gr B H B1 H1) (c : Gr B1 H1 B2 H2) : Gr B H B2 H2 := ⟨a.b.trans c.b, c.s, a.h.trans c.h, fun x o h => by
  rcases c.n x o h with z | z
  · exact a.n x o z
  · exact .inr (fresh_back a.h z)⟩
/-- ahead of it more was known -/
theorem Gr.of (e : Ex H H1) (c : Gr B H1 B2 H2) : Gr B H B2 H2 := ⟨c.b, c.s, e.trans c.h, fun x o h => by
  rcases c.n x o h with z | z
  · exact .inl z
  · exact .inr (fresh_back e z)⟩
/-- a new thing, kept -/
theorem Gr.new {p : Addr} {o : HO} (e : Ex B H) (hp : H p = none) : Gr B H (upd B p o) (upd H p o) := ⟨Ex.new (fresh_back e hp), fun a u h => by
  by_cases q : a = p
  · subst q
    rw [upd_same] at h ⊢
    exact h
  · rw [upd_ne q] at h ⊢
    exact e a u h, Ex.new hp, fun a u h => by
  by_cases q : a = p
  · subst q
    exact .inr hp
  · rw [upd_ne q] at h
    exact .inl h⟩
theorem Gr.out {p : Addr} (g : Gr B H B' H') (hb : B p = none) (hh : H p ≠ none) : B' p = none := by
  cases e : B' p with
  | none => rfl
  | some o =>
    rcases g.n p o e with z | z
    · rw [hb] at z
      cases z
    · exact absurd z hh
end
abbrev Rep := V → Hp → Prop
/-- te gives some v of which R holds, over B and what is new -/
def EvR (te : TE) (σ : L2.St) (B H : Hp) (R : Rep) : Prop := ∀ H1, Ex H H1 → ∀ Q : VK, (∀ v B' H', Gr B H1 B' H' → R v B' → Q v H') → te σ H1 Q
def EvAR (ta : TA) (σ : L2.St) (B H : Hp) (R : List V → Hp → Prop) : Prop := ∀ H1, Ex H H1 → ∀ Q : List V → Hp → Prop, (∀ v B' H', Gr B H1 B' H' → R v B' → Q v H') → ta σ H1 Q
def SpR (sp : Sp) (vs : List V) (B H : Hp) (R : Rep) : Prop := ∀ H1, Ex H H1 → ∀ Q : VK, (∀ v B' H', Gr B H1 B' H' → R v B' → Q v H') → ∀ E : XK, sp vs H1 Q E
/-- the end of a promise -/
def RetR (B H : Hp) (R : Rep) (Q : VK) : Prop := ∀ v B' H', Gr B H B' H' → R v B' → Q v H'
section
variable {K : PySem.W.Frag} {σ : L2.St} {B B1 H H1 H' : Hp} {ta tb te tx : TE} {t u : TT} {x y z v : V} {r : R2} {R R' : Rep} {D : Ends} {tu tw tz : TS}
theorem evr_of (e : Ex B H) (h : Ev te σ H v) : EvR te σ B H (fun x _ => x = v) := fun H1 e1 Q q => h H1 e1 Q fun H2 e2 => q v B H2 (Gr.up (e.trans e1) e2) rfl
theorem evr_ofU {xs : List V} (e : Ex B H) (h : EvU te σ H xs) : EvR te σ B H (fun x B' => ∃ p, x = .ref p ∧ B' p = some (.tup xs)) := fun H1 e1 Q q => h H1 e1 Q fun p H2 hp e2 h2 =>
  q (.ref p) (upd B p (.tup xs)) H2 ⟨Ex.new (fresh_back (e.trans e1) hp), fun a o ha => by
    by_cases c : a = p
    · subst c
      rw [upd_same] at ha
      exact ha ▸ h2
    · rw [upd_ne c] at ha
      exact e2 a o (e1 a o (e a o ha)), e2, fun a o ha => by
    by_cases c : a = p
    · subst c
      exact .inr hp
    · rw [upd_ne c] at ha
      exact .inl ha⟩ ⟨p, rfl, upd_same⟩
theorem evr_ofL {xs : List V} (e : Ex B H) (h : EvL te σ H xs) : EvR te σ B H (fun x B' => ∃ p, x = .ref p ∧ B' p = some (.lst xs)) := fun H1 e1 Q q => h H1 e1 Q fun p H2 hp e2 h2 =>
  q (.ref p) (upd B p (.lst xs)) H2 ⟨Ex.new (fresh_back (e.trans e1) hp), fun a o ha => by
    by_cases c : a = p
    · subst c
      rw [upd_same] at ha
      exact ha ▸ h2
    · rw [upd_ne c] at ha
      exact e2 a o (e1 a o (e a o ha)), e2, fun a o ha => by
    by_cases c : a = p
    · subst c
      exact .inr hp
    · rw [upd_ne c] at ha
      exact .inl ha⟩ ⟨p, rfl, upd_same⟩
theorem evr_imp (h : EvR te σ B H R) (i : ∀ v B', Ex B B' → R v B' → R' v B') : EvR te σ B H R' := fun H1 e Q q => h H1 e Q fun v B' H' g hr => q v B' H' g (i v B' g.b hr)
theorem evr_mono (e : Ex H H') (h : EvR te σ B H R) : EvR te σ B H' R := fun H1 e1 Q q => h H1 (e.trans e1) Q q
/-- a value known through a fresh one: R lost -/
theorem ear_nil (e : Ex B H) : EvAR tNil σ B H (fun vs _ => vs = []) := fun H1 e1 _ q => q [] B H1 (Gr.refl (e.trans e1)) rfl
theorem ear_cons {tr : TA} {RA : List V → Hp → Prop} (h : EvR te σ B H R) (k : ∀ v B1 H1, Ex B B1 → Ex B1 H1 → Ex H H1 → R v B1 → EvAR tr σ B1 H1 (fun r B' => RA (v :: r) B')) : EvAR (tCons te tr) σ B H RA := fun H1 e1 Q q =>
  h H1 e1 _ fun v B1 H2 g hv => k v B1 H2 g.b g.s (e1.trans g.h) hv H2 (Ex.refl _) _ fun vs B2 H3 g2 hvs => q (v :: vs) B2 H3 (g.trans g2) hvs
theorem ear_consV {tr : TA} {RA : List V → Hp → Prop} (e : Ex B H) (h : Ev te σ H v) (k : EvAR tr σ B H (fun r B' => RA (v :: r) B')) : EvAR (tCons te tr) σ B H RA := fun H1 e1 Q q =>
  h H1 e1 _ fun H2 e2 => k H2 (e1.trans e2) _ fun vs B2 H3 g2 hvs => q (v :: vs) B2 H3 (Gr.of e2 g2) hvs
theorem evr_call {sp : Sp} {E : XK} {ta : TA} {RA : List V → Hp → Prop} (h : EvAR ta σ B H RA) (k : ∀ vs B1 H1, Ex B B1 → Ex B1 H1 → Ex H H1 → RA vs B1 → SpR sp (vs ++ []) B1 H1 R) : EvR (tCall sp [] E ta) σ B H R := fun H1 e1 Q q =>
  h H1 e1 _ fun vs B1 H2 g hvs => k vs B1 H2 g.b g.s (e1.trans g.h) hvs H2 (Ex.refl _) Q (fun v B2 H3 g2 hv => q v B2 H3 (g.trans g2) hv) E
theorem evr_callV {sp : Sp} {E : XK} {ta : TA} {vs : List V} (e : Ex B H) (h : EvA ta σ H vs) (k : SpR sp (vs ++ []) B H R) : EvR (tCall sp [] E ta) σ B H R := fun H1 e1 Q q =>
  h H1 e1 _ fun H2 e2 => k H2 (e1.trans e2) Q (fun v B2 H3 g2 hv => q v B2 H3 (Gr.of e2 g2) hv) E
/-- a value by a call whose arguments are made on the way -/
theorem ev_callR {sp : Sp} {E : XK} {ta : TA} {RA : List V → Hp → Prop} (e : Ex B H) (h : EvAR ta σ B H RA) (k : ∀ vs B1 H1, Ex B B1 → Ex B1 H1 → Ex H H1 → RA vs B1 → SpV sp (vs ++ []) H1 z) : Ev (tCall sp [] E ta) σ H z := fun H1 e1 Q q =>
  h H1 e1 _ fun vs B1 H2 g hvs => k vs B1 H2 g.b g.s (e1.trans g.h) hvs H2 (Ex.refl _) Q (fun H3 e3 => q H3 (g.h.trans e3)) E
theorem b_asgR {i : Nat} (e : Ex B H) (h : EvR te σ B H R) (k : ∀ v B1 H1, Gr B H B1 H1 → R v B1 → tz D (σ.set i (some v)) H1) : tSeq (tAsg te (gName i)) tz D σ H := h H (Ex.refl _) _ fun v B1 H1 g hv => k v B1 H1 g hv
theorem b_retR (e : Ex B H) (h : EvR te σ B H R) (k : ∀ v B1 H1, Gr B H B1 H1 → R v B1 → D.rt v H1) : tRet te D σ H := h H (Ex.refl _) _ fun v B1 H1 g hv => k v B1 H1 g hv
theorem ev_fld {a C dx : Addr} {fs : List (Str × V)} {f : Str} (ha : Ev ta σ H (.ref a)) (h : H a = some (.ins C dx fs)) (c : Cls K C) (n : NoAttr K C f) (l : fs.lookup f = some v) : Ev (tFld K ta f) σ H v := fun H1 e _ q =>
  ha H1 e _ fun H2 e2 => ⟨a, C, dx, fs, v, rfl, e2 a _ (e a _ h), c, n, l, q H2 e2⟩
theorem ev_ixL {p : Addr} {xs : List V} {i : Int} (ha : Ev ta σ H (.ref p)) (hb : Ev tb σ H (.int i)) (h : SqL K H p xs) (hi : atI xs i = some v) : Ev (tOp (rIxL K) ta tb) σ H v := ev_op ha hb (rv_ixL h hi)
theorem ev_ixT {p : Addr} {xs : List V} {i : Int} (ha : Ev ta σ H (.ref p)) (hb : Ev tb σ H (.int i)) (h : SqT K H p xs) (hi : atI xs i = some v) : Ev (tOp (rIxT K) ta tb) σ H v := ev_op ha hb (rv_ixT h hi)
theorem ev_eqI {i j : Int} (ha : Ev ta σ H (.int i)) (hb : Ev tb σ H (.int j)) : Ev (tOp rEq ta tb) σ H (.bl (decide (i = j))) := ev_is (ev_op ha hb (rv_eq rfl)) (by simp)
theorem ev_neI {i j : Int} (ha : Ev ta σ H (.int i)) (hb : Ev tb σ H (.int j)) : Ev (tOp rNe ta tb) σ H (.bl (!decide (i = j))) := ev_is (ev_op ha hb (rv_ne rfl)) (by simp)
end
/-! ### lists of things -/
inductive All2 {α β : Type} (R : α → β → Prop) : List α → List β → Prop
  | nil : All2 R [] []
  | cons {a : α} {as : List α} {b : β} {bs : List β} : R a b → All2 R as bs → All2 R (a :: as) (b :: bs)
section
variable {α β γ : Type} {R S : α → β → Prop} {as as' : List α} {bs bs' : List β}
theorem All2.imp (i : ∀ a b, R a b → S a b) (h : All2 R as bs) : All2 S as bs := by
  induction h with
  | nil => exact .nil
  | cons a _ ih => exact .cons (i _ _ a) ih
theorem All2.len (h : All2 R as bs) : as.length = bs.length := by
  induction h with
  | nil => rfl
  | cons _ _ ih => exact congrArg Nat.succ ih
theorem All2.app (h : All2 R as bs) (h' : All2 R as' bs') : All2 R (as ++ as') (bs ++ bs') := by
  induction h with
  | nil => exact h'
  | cons a _ ih => exact .cons a ih
theorem All2.snoc {a : α} {b : β} (h : All2 R as bs) (q : R a b) : All2 R (as ++ [a]) (bs ++ [b]) := h.app (.cons q .nil)
theorem All2.getL (h : All2 R as bs) : ∀ {i : Nat} {a : α}, as[i]? = some a → ∃ b, bs[i]? = some b ∧ R a b := by
  induction h with
  | nil => intro i a e; cases e
  | cons q _ ih =>
    intro i a e
    cases i with
    | zero =>
      cases e
      exact ⟨_, rfl, q⟩
    | succ i => exact ih e
theorem All2.getR (h : All2 R as bs) : ∀ {i : Nat} {b : β}, bs[i]? = some b → ∃ a, as[i]? = some a ∧ R a b := by
  induction h with
  | nil => intro i a e; cases e
  | cons q _ ih =>
    intro i a e
    cases i with
    | zero =>
      cases e
      exact ⟨_, rfl, q⟩
    | succ i => exact ih e
theorem All2.mapR {f : γ → β} {cs : List γ} (h : All2 (fun a c => R a (f c)) as cs) : All2 R as (cs.map f) := by
  induction h with
  | nil => exact .nil
  | cons a _ ih => exact .cons a ih
theorem All2.ofMapR {f : γ → β} : ∀ {cs : List γ} {as : List α}, All2 R as (cs.map f) → All2 (fun a c => R a (f c)) as cs
  | [], _, h => by
    cases h
    exact .nil
  | c :: cs, _, h => by
    cases h with
    | cons a b => exact .cons a (All2.ofMapR b)
end
/-! ### comprehensions whose items are made -/
structure Cr (B H : Hp) (f : Nat → Bool) (R : Nat → Rep) (Dl : Addr) (i : Nat) (H' : Hp) : Prop where
  ex : ∃ (B' : Hp) (ws : List V), Ex B B' ∧ Ex B' H' ∧ (∀ a o, B' a = some o → B a = some o ∨ H a = none) ∧ B' Dl = none ∧ H' Dl = some (.lst ws) ∧ All2 (fun w j => R j w B') ws ((List.range i).filter f)
  old : Ex H H'
section
variable {K : PySem.W.Frag} {σ : L2.St} {B H H' : Hp} {te tl : TE} {t : TT}
theorem filt_yes {n : Nat} {f : Nat → Bool} (h : f n = true) : (List.range (n + 1)).filter f = (List.range n).filter f ++ [n] := by
  rw [List.range_succ, List.filter_append, List.filter_cons, if_pos h] <;> rfl
theorem filt_no {n : Nat} {f : Nat → Bool} (h : f n = false) : (List.range (n + 1)).filter f = (List.range n).filter f := by
  rw [List.range_succ, List.filter_append, List.filter_cons, if_neg (by rw [h]; decide)]
  exact List.append_nil _
theorem filt_len (n : Nat) (f : Nat → Bool) : ((List.range n).filter f).length ≤ n := by
  have h := List.length_filter_le f (List.range n)
  rw [List.length_range] at h
  exact h
theorem cr_turn {f : Nat → Bool} {R : Nat → Rep} {Dl : Addr} {i : Nat} {σ2 : L2.St} (mono : ∀ j v B B', Ex B B' → R j v B → R j v B') (hD : H Dl = none) (p : Cr B H f R Dl i H') (hi : i < 50000) (ht : EvT t σ2 H (f i))
    (he : f i = true → ∀ B1 H1, Ex B B1 → Ex B1 H1 → Ex H H1 → EvR te σ2 B1 H1 (R i)) :
    t σ2 H' fun b H3 => if b = true then te σ2 H3 fun y H4 => ∃ acc, H4 Dl = some (.lst acc) ∧ acc.length < sizeLine ∧ Cr B H f R Dl (i + 1) (upd H4 Dl (.lst (acc ++ [y]))) else Cr B H f R Dl (i + 1) H3 := by
  obtain ⟨⟨B', ws, b1, b2, b3, b4, b5, b6⟩, ho⟩ := p
  refine ht H' ho _ fun H3 e3 => ?_
  cases hf : f i with
  | true =>
    show te σ2 H3 fun y H4 => ∃ acc, H4 Dl = some (.lst acc) ∧ acc.length < sizeLine ∧ Cr B H f R Dl (i + 1) (upd H4 Dl (.lst (acc ++ [y])))
    refine he hf B' H3 b1 (b2.trans e3) (ho.trans e3) H3 (Ex.refl _) _ fun v B2 H4 g hv => ?_
    have d4 : H4 Dl = some (.lst ws) := g.h _ _ (e3 _ _ b5)
    have d2 : B2 Dl = none := g.out b4 (by rw [e3 _ _ b5]; exact fun z => by cases z)
    refine ⟨ws, d4, sz_lt (by rw [b6.len]; have := filt_len i f; omega), ⟨B2, ws ++ [v], b1.trans g.b, Ex.mut g.s d2, fun a o h => ?_, d2, upd_same, ?_⟩, Ex.mut ((ho.trans e3).trans g.h) hD⟩
    · rcases g.n a o h with z | z
      · exact b3 a o z
      · exact .inr (fresh_back (ho.trans e3) z)
    · rw [filt_yes hf]
      exact (b6.imp fun w j q => mono j w _ _ g.b q).snoc hv
  | false =>
    show Cr B H f R Dl (i + 1) H3
    refine ⟨⟨B', ws, b1, b2.trans e3, b3, b4, e3 _ _ b5, ?_⟩, ho.trans e3⟩
    rw [filt_no hf]
    exact b6
/-- what a comprehension of made items gives -/
def MadeL (n : Nat) (f : Nat → Bool) (R : Nat → Rep) : Rep := fun v B' => ∃ p ws, v = .ref p ∧ B' p = some (.lst ws) ∧ All2 (fun w j => R j w B') ws ((List.range n).filter f)
theorem cr_end {f : Nat → Bool} {R : Nat → Rep} {Dl : Addr} {n : Nat} {H1 : Hp} {Q : VK} (mono : ∀ j v B B', Ex B B' → R j v B → R j v B') (hB : Ex B H1) (hD : H1 Dl = none) (p : Cr B H1 f R Dl n H') (q : ∀ v B' H', Gr B H1 B' H' → MadeL n f R v B' → Q v H') : Q (.ref Dl) H' := by
  obtain ⟨⟨B', ws, b1, b2, b3, b4, b5, b6⟩, ho⟩ := p
  have e1 : Ex B' (upd B' Dl (.lst ws)) := Ex.new b4
  refine q (.ref Dl) (upd B' Dl (.lst ws)) H' ⟨b1.trans e1, fun a o h => ?_, ho, fun a o h => ?_⟩ ⟨Dl, ws, rfl, upd_same, b6.imp fun w j z => mono j w _ _ e1 z⟩
  · by_cases c : a = Dl
    · subst c
      rw [upd_same] at h
      exact h ▸ b5
    · rw [upd_ne c] at h
      exact b2 a o h
  · by_cases c : a = Dl
    · subst c
      exact .inr hD
    · rw [upd_ne c] at h
      exact b3 a o h
theorem evr_lcL {a : Addr} {xs : List V} {j : Nat} {vs : List Nat} (f : Nat → Bool) (R : Nat → Rep) (mono : ∀ j v B B', Ex B B' → R j v B → R j v B') (hB : Ex B H) (h : Ev tl σ H (.ref a)) (hx : SqL K H a xs) (hz : xs.length ≤ 40000) (hw : ∀ x, wipe ((wipe σ vs).set j (some x)) vs = wipe σ vs)
    (ht : ∀ (i : Nat) (x : V) H1, Ex H H1 → xs[i]? = some x → EvT t ((wipe σ vs).set j (some x)) H1 (f i)) (he : ∀ (i : Nat) (x : V) B1 H1, Ex B B1 → Ex B1 H1 → Ex H H1 → xs[i]? = some x → f i = true → EvR te ((wipe σ vs).set j (some x)) B1 H1 (R i)) :
    EvR (tLc (iList K tl) (gName j) t te vs) σ B H (MadeL xs.length f R) := fun H0 e Q q => h H0 e _ fun H1 e1 => ⟨a, rfl, ⟨xs, ex_l (e.trans e1) hx⟩, fun Dl hD =>
  lc_list (xs := xs) (Cr B H1 f R Dl) ⟨⟨B, [], Ex.refl _, (hB.trans (e.trans e1)).trans (Ex.new hD), fun _ _ h => .inl h, fresh_back (hB.trans (e.trans e1)) hD, upd_same, .nil⟩, Ex.new hD⟩ (fun i H' _ p => ex_l ((e.trans e1).trans p.old) hx)
    (fun i x H' hi p => ⟨hw x, cr_turn mono hD p (by have := (List.getElem?_eq_some_iff.mp hi).1; omega) (ht i x H1 (e.trans e1) hi) fun hf B1 H2 c1 c2 c3 => he i x B1 H2 c1 c2 ((e.trans e1).trans c3) hi hf⟩)
    (fun H' p => cr_end mono (hB.trans (e.trans e1)) hD p fun v B' H2 g m => q v B' H2 (Gr.of e1 g) m)⟩
theorem evr_lcR1 {ta : TA} {j : Nat} {vs : List Nat} {n : Int} (f : Nat → Bool) (R : Nat → Rep) (mono : ∀ j v B B', Ex B B' → R j v B → R j v B') (hB : Ex B H) (h : EvA ta σ H [.int n]) (hn : 0 ≤ n ∧ n ≤ 40000) (hw : ∀ x, wipe ((wipe σ vs).set j (some x)) vs = wipe σ vs)
    (ht : ∀ (i : Nat) H1, Ex H H1 → (i : Int) < n → EvT t ((wipe σ vs).set j (some (.int (i : Int)))) H1 (f i)) (he : ∀ (i : Nat) B1 H1, Ex B B1 → Ex B1 H1 → Ex H H1 → (i : Int) < n → f i = true → EvR te ((wipe σ vs).set j (some (.int (i : Int)))) B1 H1 (R i)) :
    EvR (tLc (iRng1 ta) (gName j) t te vs) σ B H (MadeL n.toNat f R) := fun H0 e Q q => h H0 e _ fun H1 e1 => ⟨n, rfl, by omega, by omega, fun Dl hD =>
  lc_range (lo := 0) (n := n.toNat) (Cr B H1 f R Dl) ⟨⟨B, [], Ex.refl _, (hB.trans (e.trans e1)).trans (Ex.new hD), fun _ _ h => .inl h, fresh_back (hB.trans (e.trans e1)) hD, upd_same, .nil⟩, Ex.new hD⟩
    (fun i H' hi p => by
      have e0 : (0 : Int) + (i : Int) = (i : Int) := Int.zero_add _
      show wipe ((wipe σ vs).set j (some (.int ((0 : Int) + (i : Int))))) vs = wipe σ vs ∧ t ((wipe σ vs).set j (some (.int ((0 : Int) + (i : Int))))) H' fun b H3 =>
        if b = true then te ((wipe σ vs).set j (some (.int ((0 : Int) + (i : Int))))) H3 fun y H4 => ∃ acc, H4 Dl = some (.lst acc) ∧ acc.length < sizeLine ∧ Cr B H1 f R Dl (i + 1) (upd H4 Dl (.lst (acc ++ [y]))) else Cr B H1 f R Dl (i + 1) H3
      rw [e0]
      exact ⟨hw _, cr_turn mono hD p (by omega) (ht i H1 (e.trans e1) (by omega)) fun hf B1 H2 c1 c2 c3 => he i B1 H2 c1 c2 ((e.trans e1).trans c3) (by omega) hf⟩)
    (fun H' p => cr_end mono (hB.trans (e.trans e1)) hD p fun v B' H2 g m => q v B' H2 (Gr.of e1 g) m)⟩
end
end Tg
namespace Tg
open PySem PySem.Spec PyProof.Rows L2 Evl
theorem updd {H : Hp} {p : Addr} {x y : HO} : upd (upd H p x) p y = upd H p y := by
  funext a
  by_cases c : a = p
  · subst c
    rw [upd_same, upd_same]
  · rw [upd_ne c, upd_ne c, upd_ne c]
/-- an __init__ that stores its n arguments -/
def spIni (C : Addr) (n : Nat) (fs : List V → List (Str × V)) : Sp := fun vs H Q _ => ∃ (p dx : Addr) (as : List V), vs = .ref p :: as ∧ as.length = n ∧ H p = some (.ins C dx []) ∧ Q .non (upd H p (.ins C dx (fs as)))
section
variable {K : PySem.W.Frag} {σ : L2.St} {B H : Hp}
theorem evr_make {C : Addr} {n : Nat} {fs : List V → List (Str × V)} {ta : TA} {E : XK} {RA : List V → Hp → Prop} (h : EvAR ta σ B H RA) (mono : ∀ vs B B', Ex B B' → RA vs B → RA vs B') (len : ∀ vs B', RA vs B' → vs.length = n) :
    EvR (tMake C (spIni C n fs) [] E ta) σ B H (fun v B' => ∃ x dx vs, v = .ref x ∧ B' x = some (.ins C dx (fs vs)) ∧ RA vs B') := fun H1 e1 Q q => h H1 e1 _ fun vs B1 H2 g hvs x dx hx hdx ne => by
  refine ⟨x, dx, vs, by rw [List.append_nil], len vs B1 hvs, upd_same, rfl, ?_⟩
  rw [updd]
  have nb : B1 x = none := fresh_back g.s hx
  refine q (.ref x) (upd B1 x (.ins C dx (fs vs))) _ (g.trans ⟨Ex.new nb, fun a o ha => ?_, fun a o ha => ?_, fun a o ha => ?_⟩) ⟨x, dx, vs, rfl, upd_same, mono vs _ _ (Ex.new nb) hvs⟩
  · by_cases c : a = x
    · subst c
      rw [upd_same] at ha ⊢
      exact ha
    · rw [upd_ne c] at ha ⊢
      have h2 := g.s a o ha
      rw [upd_ne (ne_of_none h2 hdx)]
      exact h2
  · rw [upd_ne (ne_of_none ha hx), upd_ne (ne_of_none ha hdx)]
    exact ha
  · by_cases c : a = x
    · subst c
      exact .inr hx
    · rw [upd_ne c] at ha
      exact .inl ha
end
end Tg
namespace Tg
open PySem PySem.Spec PyProof.Rows L2 Evl
section
variable {K : PySem.W.Frag} {σ : L2.St} {B H : Hp} {ta tb te tl : TE} {t : TT} {v : V}
theorem ear_end {RA : List V → Hp → Prop} (e : Ex B H) (h : RA [] B) : EvAR tNil σ B H RA := fun H1 e1 _ q => q [] B H1 (Gr.refl (e.trans e1)) h
theorem et_yes : EvT tYes σ H true := fun H1 _ _ q => q H1 (Ex.refl _)
theorem ev_addN {i j : Nat} (ha : Ev ta σ H (.int (i : Int))) (hb : Ev tb σ H (.int (j : Int))) : Ev (tOp (rI0 fun i j => .int (i + j)) ta tb) σ H (.int ((i + j : Nat) : Int)) := ev_is (ev_op ha hb rv_I0) (by rw [Int.natCast_add])
theorem ev_lenT {p : Addr} {xs : List V} (ha : Ev ta σ H (.ref p)) (h : SqT K H p xs) : Ev (tCB (rLenS K) (tCons ta tNil)) σ H (.int (xs.length : Int)) := fun H1 e Q q =>
  ha H1 e _ fun H2 e2 => ⟨p, xs, rfl, Or.inr (ex_t (e.trans e2) h), q H2 e2⟩
theorem ev_sum {ns : List Int} (h : EvL te σ H (ns.map V.int)) : Ev (tCB (rSum K) (tCons te tNil)) σ H (.int ns.sum) := fun H1 e Q q =>
  h H1 e _ fun p H2 _ e2 h2 => ⟨p, ns, rfl, sq_of h2, q H2 e2⟩
theorem ev_all {bs : List Bool} (h : EvL te σ H (bs.map V.bl)) : Ev (tCB (rAll K) (tCons te tNil)) σ H (.bl (bs.all id)) := fun H1 e Q q =>
  h H1 e _ fun p H2 _ e2 h2 => ⟨p, bs, rfl, sq_of h2, q H2 e2⟩
theorem ev_any {bs : List Bool} (h : EvL te σ H (bs.map V.bl)) : Ev (tCB (rAny K) (tCons te tNil)) σ H (.bl (bs.any id)) := fun H1 e Q q =>
  h H1 e _ fun p H2 _ e2 h2 => ⟨p, bs, rfl, sq_of h2, q H2 e2⟩
theorem ev_maxL {ns : List Int} (h : EvL te σ H (ns.map V.int)) {m : Int} (hm : m ∈ ns) (hle : ∀ y ∈ ns, y ≤ m) : Ev (tCB (rMax K) (tCons te tNil)) σ H (.int m) := fun H1 e Q q =>
  h H1 e _ fun p H2 _ e2 h2 => ⟨p, ns, rfl, sq_of h2, List.length_pos_of_mem hm, fun m' a b => by
    have : m' = m := by
      have h1 := hle m' a
      have h2 := b m hm
      omega
    rw [this]
    exact q H2 e2⟩
theorem ev_maxS {p : Addr} {ns : List Int} (ha : Ev te σ H (.ref p)) (h : SqL K H p (ns.map V.int)) {m : Int} (hm : m ∈ ns) (hle : ∀ y ∈ ns, y ≤ m) : Ev (tCB (rMax K) (tCons te tNil)) σ H (.int m) := fun H1 e Q q =>
  ha H1 e _ fun H2 e2 => ⟨p, ns, rfl, ex_l (e.trans e2) h, List.length_pos_of_mem hm, fun m' a b => by
    have : m' = m := by
      have h1 := hle m' a
      have h2 := b m hm
      omega
    rw [this]
    exact q H2 e2⟩
theorem ev_maxT {p : Addr} {ns : List Int} (ha : Ev te σ H (.ref p)) (h : SqT K H p (ns.map V.int)) (hn : ns ≠ []) : Ev (tCB (rMaxT K) (tCons te tNil)) σ H (.int (maxI ns)) := fun H1 e Q q =>
  ha H1 e _ fun H2 e2 => ⟨p, ns, rfl, ex_t (e.trans e2) h, hn, q H2 e2⟩
theorem ev_ltT {p q : Addr} {ns ms : List Int} (ha : Ev ta σ H (.ref p)) (hb : Ev tb σ H (.ref q)) (h1 : SqT K H p (ns.map V.int)) (h2 : SqT K H q (ms.map V.int)) : Ev (tOp (rLtT K) ta tb) σ H (.bl (HT.lexLt ns ms)) :=
  ev_op ha hb (fun H1 e _ k => ⟨p, q, ns, ms, rfl, rfl, ex_t e h1, ex_t e h2, k H1 (Ex.refl _)⟩)
/-! ### comprehensions by data -/
def atD {δ γ : Type} (ds : List δ) (f : δ → γ) (d : γ) (i : Nat) : γ := match ds[i]? with
  | some x => f x
  | none => d
theorem atD_some {δ γ : Type} {ds : List δ} {f : δ → γ} {d : γ} {i : Nat} {x : δ} (h : ds[i]? = some x) : atD ds f d i = f x := by
  unfold atD
  rw [h]
theorem filt_data {δ γ : Type} (ds : List δ) (p : δ → Bool) (g : δ → γ) (z : γ) : ∀ n, n ≤ ds.length → ((List.range n).filter (atD ds p false)).map (atD ds g z) = ((ds.take n).filter p).map g
  | 0, _ => rfl
  | n + 1, h => by
    have ih := filt_data ds p g z n (by omega)
    obtain ⟨x, hx⟩ : ∃ x, ds[n]? = some x := ⟨_, List.getElem?_eq_getElem (by omega)⟩
    rw [List.range_succ, List.filter_append, List.map_append, ih, List.take_succ, hx, List.filter_append, List.map_append]
    congr 1
    rw [show (some x).toList = [x] from rfl, List.filter_cons, List.filter_cons, atD_some hx, List.filter_nil, List.filter_nil]
    cases p x with
    | true =>
      show [atD ds g z n] = [g x]
      rw [atD_some hx]
    | false => rfl
theorem el_lcD {δ : Type} {ds : List δ} {a : Addr} {xs : List V} {j : Nat} {vs : List Nat} (p : δ → Bool) (g : δ → V) (hl : xs.length = ds.length) (h : Ev tl σ H (.ref a)) (hx : SqL K H a xs) (hz : xs.length ≤ 40000) (hw : ∀ x, wipe ((wipe σ vs).set j (some x)) vs = wipe σ vs)
    (ht : ∀ (i : Nat) (x : V) (d : δ) H1, Ex H H1 → xs[i]? = some x → ds[i]? = some d → EvT t ((wipe σ vs).set j (some x)) H1 (p d))
    (he : ∀ (i : Nat) (x : V) (d : δ) H1, Ex H H1 → xs[i]? = some x → ds[i]? = some d → p d = true → Ev te ((wipe σ vs).set j (some x)) H1 (g d)) : EvL (tLc (iList K tl) (gName j) t te vs) σ H ((ds.filter p).map g) := by
  have key := el_lcL (K := K) (te := te) (t := t) (j := j) (vs := vs) (atD ds p false) (atD ds g .non) h hx hz hw (fun i x H1 e hi => by
    obtain ⟨d, hd⟩ : ∃ d, ds[i]? = some d := ⟨_, List.getElem?_eq_getElem (by rw [← hl]; exact (List.getElem?_eq_some_iff.mp hi).1)⟩
    rw [atD_some hd]
    exact ht i x d H1 e hi hd) (fun i x H1 e hi hf => by
    obtain ⟨d, hd⟩ : ∃ d, ds[i]? = some d := ⟨_, List.getElem?_eq_getElem (by rw [← hl]; exact (List.getElem?_eq_some_iff.mp hi).1)⟩
    rw [atD_some hd] at hf ⊢
    exact he i x d H1 e hi hd hf)
  have e : given xs.length (atD ds p false) (atD ds g .non) = (ds.filter p).map g := by
    unfold given
    rw [hl, filt_data ds p g _ _ (Nat.le_refl _), List.take_length]
  rw [e] at key
  exact key
/-- .. over a new list -/
theorem el_lcND {δ : Type} {ds : List δ} {xs : List V} {j : Nat} {vs : List Nat} (p : δ → Bool) (g : δ → V) (hl : xs.length = ds.length) (h : EvL tl σ H xs) (hz : xs.length ≤ 40000) (hw : ∀ x, wipe ((wipe σ vs).set j (some x)) vs = wipe σ vs)
    (ht : ∀ (i : Nat) (x : V) (d : δ) H1, Ex H H1 → xs[i]? = some x → ds[i]? = some d → EvT t ((wipe σ vs).set j (some x)) H1 (p d))
    (he : ∀ (i : Nat) (x : V) (d : δ) H1, Ex H H1 → xs[i]? = some x → ds[i]? = some d → p d = true → Ev te ((wipe σ vs).set j (some x)) H1 (g d)) : EvL (tLc (iList K tl) (gName j) t te vs) σ H ((ds.filter p).map g) := by
  have key := el_lcNL (K := K) (te := te) (t := t) (j := j) (vs := vs) (atD ds p false) (atD ds g .non) h hz hw (fun i x H1 e hi => by
    obtain ⟨d, hd⟩ : ∃ d, ds[i]? = some d := ⟨_, List.getElem?_eq_getElem (by rw [← hl]; exact (List.getElem?_eq_some_iff.mp hi).1)⟩
    rw [atD_some hd]
    exact ht i x d H1 e hi hd) (fun i x H1 e hi hf => by
    obtain ⟨d, hd⟩ : ∃ d, ds[i]? = some d := ⟨_, List.getElem?_eq_getElem (by rw [← hl]; exact (List.getElem?_eq_some_iff.mp hi).1)⟩
    rw [atD_some hd] at hf ⊢
    exact he i x d H1 e hi hd hf)
  have e : given xs.length (atD ds p false) (atD ds g .non) = (ds.filter p).map g := by
    unfold given
    rw [hl, filt_data ds p g _ _ (Nat.le_refl _), List.take_length]
  rw [e] at key
  exact key
theorem filt_true {δ : Type} (ds : List δ) : ds.filter (fun _ => true) = ds := by
  induction ds with
  | nil => rfl
  | cons a r ih => rw [List.filter_cons, if_pos rfl, ih]
/-- no test -/
theorem el_lcM {δ : Type} {ds : List δ} {a : Addr} {xs : List V} {j : Nat} {vs : List Nat} (g : δ → V) (hl : xs.length = ds.length) (h : Ev tl σ H (.ref a)) (hx : SqL K H a xs) (hz : xs.length ≤ 40000) (hw : ∀ x, wipe ((wipe σ vs).set j (some x)) vs = wipe σ vs)
    (he : ∀ (i : Nat) (x : V) (d : δ) H1, Ex H H1 → xs[i]? = some x → ds[i]? = some d → Ev te ((wipe σ vs).set j (some x)) H1 (g d)) : EvL (tLc (iList K tl) (gName j) tYes te vs) σ H (ds.map g) := by
  have key := el_lcD (K := K) (te := te) (t := tYes) (j := j) (vs := vs) (ds := ds) (fun _ => true) g hl h hx hz hw (fun i x d H1 e hi hd => et_yes) (fun i x d H1 e hi hd _ => he i x d H1 e hi hd)
  rw [filt_true] at key
  exact key
theorem el_lcNM {δ : Type} {ds : List δ} {xs : List V} {j : Nat} {vs : List Nat} (g : δ → V) (hl : xs.length = ds.length) (h : EvL tl σ H xs) (hz : xs.length ≤ 40000) (hw : ∀ x, wipe ((wipe σ vs).set j (some x)) vs = wipe σ vs)
    (he : ∀ (i : Nat) (x : V) (d : δ) H1, Ex H H1 → xs[i]? = some x → ds[i]? = some d → Ev te ((wipe σ vs).set j (some x)) H1 (g d)) : EvL (tLc (iList K tl) (gName j) tYes te vs) σ H (ds.map g) := by
  have key := el_lcND (K := K) (te := te) (t := tYes) (j := j) (vs := vs) (ds := ds) (fun _ => true) g hl h hz hw (fun i x d H1 e hi hd => et_yes) (fun i x d H1 e hi hd _ => he i x d H1 e hi hd)
  rw [filt_true] at key
  exact key
/-- made items, by data -/
def MadeD {δ : Type} (ds : List δ) (R : δ → Rep) : Rep := fun v B' => ∃ p ws, v = .ref p ∧ B' p = some (.lst ws) ∧ All2 (fun w d => R d w B') ws ds
theorem All2.split {α β : Type} {R : α → β → Prop} : ∀ {bs bs' : List β} {as : List α}, All2 R as (bs ++ bs') → ∃ a1 a2, as = a1 ++ a2 ∧ All2 R a1 bs ∧ All2 R a2 bs'
  | [], bs', as, h => ⟨[], as, rfl, .nil, h⟩
  | b :: bs, bs', as, h => by
    cases h with
    | cons q r =>
      obtain ⟨a1, a2, rfl, h1, h2⟩ := All2.split (bs := bs) r
      exact ⟨_ :: a1, a2, rfl, .cons q h1, h2⟩
theorem All2.one {α β : Type} {R : α → β → Prop} {as : List α} {b : β} (h : All2 R as [b]) : ∃ a, as = [a] ∧ R a b := by
  cases h with
  | cons q r =>
    cases r
    exact ⟨_, rfl, q⟩
theorem All2.atData {δ α : Type} {S : α → δ → Prop} {S' : Nat → α → Prop} {ds : List δ} {p : δ → Bool} (h : ∀ i w d, ds[i]? = some d → S' i w → S w d) : ∀ {n : Nat} {ws : List α}, n ≤ ds.length → All2 (fun w j => S' j w) ws ((List.range n).filter (atD ds p false)) → All2 S ws ((ds.take n).filter p)
  | 0, ws, _, q => by
    cases q
    exact .nil
  | n + 1, ws, hn, q => by
    obtain ⟨x, hx⟩ : ∃ x, ds[n]? = some x := ⟨_, List.getElem?_eq_getElem (by omega)⟩
    rw [List.take_succ, hx, List.filter_append]
    rw [show (some x).toList = [x] from rfl, List.filter_cons, List.filter_nil]
    cases hp : p x with
    | true =>
      have hf : atD ds p false n = true := by rw [atD_some hx]; exact hp
      rw [filt_yes hf] at q
      obtain ⟨w1, w2, rfl, q1, q2⟩ := All2.split q
      obtain ⟨w, rfl, hw⟩ := q2.one
      exact (All2.atData h (by omega) q1).app (.cons (h _ _ _ hx hw) .nil)
    | false =>
      have hf : atD ds p false n = false := by rw [atD_some hx]; exact hp
      rw [filt_no hf] at q
      show All2 S ws ((ds.take n).filter p ++ [])
      rw [List.append_nil]
      exact All2.atData h (by omega) q
theorem evr_lcD {δ : Type} {ds : List δ} {a : Addr} {xs : List V} {j : Nat} {vs : List Nat} (p : δ → Bool) (R : δ → Rep) (mono : ∀ d v B B', Ex B B' → R d v B → R d v B') (hl : xs.length = ds.length) (hB : Ex B H) (h : Ev tl σ H (.ref a)) (hx : SqL K H a xs) (hz : xs.length ≤ 40000) (hw : ∀ x, wipe ((wipe σ vs).set j (some x)) vs = wipe σ vs)
    (ht : ∀ (i : Nat) (x : V) (d : δ) H1, Ex H H1 → xs[i]? = some x → ds[i]? = some d → EvT t ((wipe σ vs).set j (some x)) H1 (p d))
    (he : ∀ (i : Nat) (x : V) (d : δ) B1 H1, Ex B B1 → Ex B1 H1 → Ex H H1 → xs[i]? = some x → ds[i]? = some d → p d = true → EvR te ((wipe σ vs).set j (some x)) B1 H1 (R d)) : EvR (tLc (iList K tl) (gName j) t te vs) σ B H (MadeD (ds.filter p) R) := by
  have key := evr_lcL (K := K) (te := te) (t := t) (j := j) (vs := vs) (atD ds p false) (fun i v B => ∀ d, ds[i]? = some d → R d v B) (fun i v B B' e q d hd => mono d v B B' e (q d hd)) hB h hx hz hw (fun i x H1 e hi => by
    obtain ⟨d, hd⟩ : ∃ d, ds[i]? = some d := ⟨_, List.getElem?_eq_getElem (by rw [← hl]; exact (List.getElem?_eq_some_iff.mp hi).1)⟩
    rw [atD_some hd]
    exact ht i x d H1 e hi hd) (fun i x B1 H1 e1 e2 e3 hi hf => by
    obtain ⟨d, hd⟩ : ∃ d, ds[i]? = some d := ⟨_, List.getElem?_eq_getElem (by rw [← hl]; exact (List.getElem?_eq_some_iff.mp hi).1)⟩
    rw [atD_some hd] at hf
    refine evr_imp (he i x d B1 H1 e1 e2 e3 hi hd hf) fun v B' _ q d' hd' => ?_
    rw [hd] at hd'
    cases hd'
    exact q)
  refine evr_imp key fun v B' _ q => ?_
  obtain ⟨pp, ws, h1, h2, h3⟩ := q
  refine ⟨pp, ws, h1, h2, ?_⟩
  have := All2.atData (ds := ds) (p := p) (S := fun w d => R d w B') (S' := fun i w => ∀ d, ds[i]? = some d → R d w B') (fun i w d hd q => q d hd) (Nat.le_of_eq hl) h3
  rw [hl, List.take_length] at this
  exact this
theorem evr_lcMD {δ : Type} {ds : List δ} {a : Addr} {xs : List V} {j : Nat} {vs : List Nat} (R : δ → Rep) (mono : ∀ d v B B', Ex B B' → R d v B → R d v B') (hl : xs.length = ds.length) (hB : Ex B H) (h : Ev tl σ H (.ref a)) (hx : SqL K H a xs) (hz : xs.length ≤ 40000) (hw : ∀ x, wipe ((wipe σ vs).set j (some x)) vs = wipe σ vs)
    (he : ∀ (i : Nat) (x : V) (d : δ) B1 H1, Ex B B1 → Ex B1 H1 → Ex H H1 → xs[i]? = some x → ds[i]? = some d → EvR te ((wipe σ vs).set j (some x)) B1 H1 (R d)) : EvR (tLc (iList K tl) (gName j) tYes te vs) σ B H (MadeD ds R) := by
  have key := evr_lcD (K := K) (te := te) (t := tYes) (j := j) (vs := vs) (ds := ds) (fun _ => true) R mono hl hB h hx hz hw (fun i x d H1 e hi hd => et_yes) (fun i x d B1 H1 e1 e2 e3 hi hd _ => he i x d B1 H1 e1 e2 e3 hi hd)
  rw [filt_true] at key
  exact key
end
end Tg
namespace Tg
open PySem PySem.Spec PyProof.Rows L2 Evl
/-! ### the layer's rules with the written part by its own letter -/
section
variable {X : Cx} {K : PySem.W.Frag} {e o a b value : Expr} {f : Str} {pos pos' : Pos} {ta tb tv te : TE}
theorem k_fld (hK : X.K = K) (he : PE X e ta) (hb : attributeBase e f X.env (eval e X.env) = eval e X.env) : PE X (.Attribute e f pos) (tFld K ta f) := by
  subst hK
  exact pe_fld he hb
theorem k_put (hK : X.K = K) (ha : PE X o ta) (hv : PE X value tv) (hs : swapsWith value (some (.Attribute o f pos')) pos.line X.env = pure false) : PS X (.Assign [.Attribute o f pos'] value pos) (sFld K ta tv f) := by
  subst hK
  exact ps_fld ha hv hs
theorem k_ixL (hK : X.K = K) : IxR X (rIxL K) := by
  subst hK
  exact ix_list
theorem k_ixT (hK : X.K = K) : IxR X (rIxT K) := by
  subst hK
  exact ix_tup
theorem k_slL (hK : X.K = K) : SlR X (rSlL K) := by
  subst hK
  exact sl_list
theorem k_slT (hK : X.K = K) : SlR X (rSlA K) := by
  subst hK
  exact sl_tupA
theorem k_len (hK : X.K = K) : CallR X (.builtin "len") (rLenS K) := by
  subst hK
  exact call_len_seq
def rTupS (K : PySem.W.Frag) : List V → Hp → VK → Prop := fun xs H Q => ∃ p ys, xs = [.ref p] ∧ ((SqL K H p ys ∧ ∀ l, H l = none → Q (.ref l) (upd H l (.tup ys))) ∨ (SqT K H p ys ∧ Q (.ref p) H))
theorem k_list (hK : X.K = K) : CallR X (.type "list") (rListS K) := by
  subst hK
  exact call_list_of
theorem k_tuple (hK : X.K = K) : CallR X (.type "tuple") (rTupS K) := by
  subst hK
  exact call_tuple_of
theorem k_sum (hK : X.K = K) (hc : X.calm = true) : CallR X (.builtin "sum") (rSum K) := by
  subst hK
  exact cr_sum hc
theorem k_all (hK : X.K = K) (hc : X.calm = true) : CallR X (.builtin "all") (rAll K) := by
  subst hK
  exact cr_all hc
theorem k_any (hK : X.K = K) (hc : X.calm = true) : CallR X (.builtin "any") (rAny K) := by
  subst hK
  exact cr_any hc
theorem k_max (hK : X.K = K) (hc : X.calm = true) : CallR X (.builtin "max") (rMax K) := by
  subst hK
  exact cr_max hc
theorem k_maxT {k : Nat} (hK : X.K = K) (hr : Room k X.A) (hc : X.calm = true) : CallR X (.builtin "max") (rMaxT K) := by
  subst hK
  exact cr_maxT hr hc
theorem k_maxV {k : Nat} (hK : X.K = K) (hr : Room k X.A) (hc : X.calm = true) : CallR X (.builtin "max") (rMaxV K) := by
  subst hK
  exact cr_maxV hr hc
theorem k_eqD {k : Nat} (hK : X.K = K) (hr : Room k X.A) : OpR X (compareOp .Eq) (rEqD K) := by
  subst hK
  exact op_eqD hr.units
theorem k_neD {k : Nat} (hK : X.K = K) (hr : Room k X.A) : OpR X (compareOp .NotEq) (rNeD K) := by
  subst hK
  exact op_neD hr.units
theorem k_ltT {k : Nat} (hK : X.K = K) (hr : Room k X.A) : OpR X (compareOp .Lt) (rLtT K) := by
  subst hK
  exact op_ltT hr.units0
theorem k_in (hK : X.K = K) : OpR X (compareOp .In) (rIn K false) := by
  subst hK
  exact op_in_seq
theorem k_notIn (hK : X.K = K) : OpR X (compareOp .NotIn) (rIn K true) := by
  subst hK
  exact op_notIn_seq
theorem k_iList {tg l : Expr} {tl : TE} (hK : X.K = K) (hl : PE X l tl) : PI X tg l (iList K tl) := by
  subst hK
  exact pi_list hl
theorem k_iTup {tg l : Expr} {tl : TE} (hK : X.K = K) (hl : PE X l tl) : PI X tg l (iTup K tl) := by
  subst hK
  exact pi_tup hl
theorem k_make {k : Nat} {x : Str} {ps : List Str} {sp : Sp} {p : Pos} {es : List Expr} {t : TA} (hK : X.K = K) (O : OkC X.prog X.w K X.mg X.base k x ps sp) (hr : Room (k + 1) X.A) (hg : Gl X x) (ha : PA X (e :: es) t) (hdb : (x == ("__debug__" : Str)) = false := by decide)
    (he : starEach (e :: es) X.env = (false, eval e X.env) :: starEach es X.env := by rfl) (hpl : (backTo pos (starEach es X.env)).any (·.1) = false := by rfl) : PE X (.Call (.Name x p) (e :: es) [] pos) (tMake (He.ga K x) sp [] E0 t) := by
  subst hK
  exact pe_makeO O hr hg ha hdb he hpl
theorem k_make0 {k : Nat} {x : Str} {ps : List Str} {sp : Sp} {p : Pos} (hK : X.K = K) (O : OkC X.prog X.w K X.mg X.base k x ps sp) (hr : Room (k + 1) X.A) (hg : Gl X x) (hdb : (x == ("__debug__" : Str)) = false := by decide) : PE X (.Call (.Name x p) [] [] pos) (tMake (He.ga K x) sp [] E0 tNil) := by
  subst hK
  exact pe_makeO0 O hr hg hdb
theorem k_extT (hK : X.K = K) : MtM X "list.extend" (rExtT K) := by
  subst hK
  exact mt_extendT
theorem k_bm {es : List Expr} {to : TE} {t : TA} {name : Str} {apos cpos : Pos} {T id : String} {r : V → List V → Hp → VK → Prop} (hK : X.K = K) (pa : PlainAttrs T) (slot : Slot T name id) (hty : typeOf (.builtin id) = pure (.type "method_descriptor")) (hm : MtR X id r) (ho : PE X o to) (ha : PA X (e :: es) t)
    (hbase : attributeBase o name X.env (eval o X.env) = eval o X.env := by rfl) (hfew : ((backTo cpos (starEach (e :: es) X.env)).all (fun x => !x.1) && (backToKw cpos (keywordEach [] X.env)).all (fun x => x.1.isSome) &&
      decide ((e :: es).length + ([] : List Keyword).length + (if ([] : List Keyword).isEmpty then 0 else 1) < 30)) = true := by rfl) (hline : (apos.endLine == cpos.line) = true := by rfl)
    (hs : starEach (e :: es) X.env = (false, eval e X.env) :: starEach es X.env := by rfl) (hplain : (backTo cpos (starEach es X.env)).any (·.1) = false := by rfl) : PE X (.Call (.Attribute o name apos) (e :: es) [] cpos) (tBM K T r to t) := by
  subst hK
  exact pe_bm pa slot hty hm ho ha hbase hfew hline hs hplain
end
end Tg
namespace Tg
open PySem PySem.Spec PyProof.Rows L2 Evl
/-! ### data compared -/
theorem eqvAll_ints : ∀ xs ys : List Int, PyData.eqvAll (xs.map PyData.int) (ys.map PyData.int) = decide (xs = ys)
  | [], [] => by rw [List.map_nil, PyData.eqvAll] <;> rfl
  | [], y :: ys => by rw [List.map_nil, List.map_cons, PyData.eqvAll] <;> rfl
  | x :: xs, [] => by rw [List.map_nil, List.map_cons, PyData.eqvAll] <;> rfl
  | x :: xs, y :: ys => by
    rw [List.map_cons, List.map_cons, PyData.eqvAll, eqvAll_ints xs ys, eqv_int]
    by_cases h : x = y
    · subst h
      by_cases h2 : xs = ys
      · subst h2
        simp
      · simp [h2]
    · simp [h]
theorem eqv_tups (xs ys : List Int) : PyData.eqv (tupD xs) (tupD ys) = decide (xs = ys) := by
  rw [PyData.eqv, eqvAll_ints]
theorem eqv_lsts (xs ys : List Int) : PyData.eqv (.list (xs.map PyData.int)) (.list (ys.map PyData.int)) = decide (xs = ys) := by
  rw [PyData.eqv, eqvAll_ints]
theorem lay_ints : ∀ xs : List Int, PyData.canLayAll0 (xs.map PyData.int) = true
  | [] => by rw [List.map_nil, PyData.canLayAll0]
  | x :: xs => by rw [List.map_cons, PyData.canLayAll0, lay_ints xs, PyData.canLay0] <;> rfl
theorem shaped_tup (xs : List Int) : SeqAt.shaped (tupD xs) = true := by
  unfold SeqAt.shaped
  rw [PyData.canLay0, lay_ints, Bool.true_and]
  refine decide_eq_true ?_
  show PyData.depthAll (xs.map PyData.int) + 1 ≤ 64
  rw [depth_ints]
  decide
theorem shaped_lst (xs : List Int) : SeqAt.shaped (.list (xs.map PyData.int)) = true := by
  unfold SeqAt.shaped
  rw [PyData.canLay0, lay_ints, Bool.true_and]
  refine decide_eq_true ?_
  show PyData.depthAll (xs.map PyData.int) + 1 ≤ 64
  rw [depth_ints]
  decide
/-- some value of which P holds where it is asked -/
def EvX (te : TE) (σ : L2.St) (H : Hp) (P : Rep) : Prop := ∀ H1, Ex H H1 → ∀ Q : VK, (∀ v H2, Ex H1 H2 → P v H2 → Q v H2) → te σ H1 Q
def TupIs (K : PySem.W.Frag) (ns : List Int) : Rep := fun v H => ∃ p, v = .ref p ∧ SqT K H p (ns.map V.int)
def LstIs (K : PySem.W.Frag) (ns : List Int) : Rep := fun v H => ∃ p, v = .ref p ∧ SqL K H p (ns.map V.int)
section
variable {K : PySem.W.Frag} {σ : L2.St} {B H : Hp} {ta tb te tl : TE} {t : TT} {v : V} {P : Rep}
theorem evx_of {v : V} (h : Ev te σ H v) (hp : ∀ H2, Ex H H2 → P v H2) : EvX te σ H P := fun H1 e Q q => h H1 e Q fun H2 e2 => q v H2 e2 (hp H2 (e.trans e2))
theorem evx_tup {p : Addr} {ns : List Int} (h : Ev te σ H (.ref p)) (hp : SqT K H p (ns.map V.int)) : EvX te σ H (TupIs K ns) := evx_of h fun H2 e => ⟨p, rfl, ex_t e hp⟩
theorem evx_lst {p : Addr} {ns : List Int} (h : Ev te σ H (.ref p)) (hp : SqL K H p (ns.map V.int)) : EvX te σ H (LstIs K ns) := evx_of h fun H2 e => ⟨p, rfl, ex_l e hp⟩
theorem cutV_whole {xs : List V} {lo hi : Option Int} (h : HT.sIx xs.length 0 lo = 0 ∧ HT.sIx xs.length xs.length hi = xs.length) : cutV xs lo hi = xs := by
  unfold cutV
  rw [h.1, h.2, List.drop_zero, Nat.sub_zero, List.take_length]
theorem evx_slT {to th : TO} {a : Addr} {xs : List V} {lo hi : Option Int} (h : Ev te σ H (.ref a)) (h1 : EvO to σ H lo) (h2 : EvO th σ H hi) (hs : SqT K H a xs) : EvX (tSl (rSlA K) te to th) σ H (fun v H2 => ∃ p, v = .ref p ∧ SqT K H2 p (cutV xs lo hi)) := fun H1 e Q q =>
  h H1 e _ fun H2 e2 => h1 H2 (e.trans e2) _ fun H3 e3 => h2 H3 ((e.trans e2).trans e3) _ fun H4 e4 =>
    ⟨a, xs, rfl, ex_t (((e.trans e2).trans e3).trans e4) hs, fun w => q _ H4 ((e2.trans e3).trans e4) ⟨a, rfl, by rw [cutV_whole w]; exact ex_t (((e.trans e2).trans e3).trans e4) hs⟩,
      fun _ p hp => q _ _ (((e2.trans e3).trans e4).trans (Ex.new hp)) ⟨p, rfl, st_of upd_same⟩⟩
theorem evx_imp {P' : Rep} (h : EvX te σ H P) (i : ∀ v H2, P v H2 → P' v H2) : EvX te σ H P' := fun H1 e Q q => h H1 e Q fun v H2 e2 hp => q v H2 e2 (i v H2 hp)
theorem tupIs_mono {ns : List Int} {v : V} {H H' : Hp} (e : Ex H H') (h : TupIs K ns v H) : TupIs K ns v H' := by
  obtain ⟨p, h1, h2⟩ := h
  exact ⟨p, h1, ex_t e h2⟩
theorem evx_eqT {ns ms : List Int} (ha : EvX ta σ H (TupIs K ns)) (hb : EvX tb σ H (TupIs K ms)) : Ev (tOp (rEqD K) ta tb) σ H (.bl (decide (ns = ms))) := fun H1 e Q q =>
  ha H1 e _ fun x H2 e2 hx => hb H2 (e.trans e2) _ fun y H3 e3 hy => by
    obtain ⟨p, rfl, h1⟩ := tupIs_mono e3 hx
    obtain ⟨p2, rfl, h2⟩ := hy
    refine ⟨tupD ns, tupD ms, .tup h1 (dpAll_ints _), .tup h2 (dpAll_ints _), shaped_tup _, shaped_tup _, ?_⟩
    rw [eqv_tups]
    exact q H3 (e2.trans e3)
theorem evx_neT {ns ms : List Int} (ha : EvX ta σ H (TupIs K ns)) (hb : EvX tb σ H (TupIs K ms)) : Ev (tOp (rNeD K) ta tb) σ H (.bl (!decide (ns = ms))) := fun H1 e Q q =>
  ha H1 e _ fun x H2 e2 hx => hb H2 (e.trans e2) _ fun y H3 e3 hy => by
    obtain ⟨p, rfl, h1⟩ := tupIs_mono e3 hx
    obtain ⟨p2, rfl, h2⟩ := hy
    refine ⟨tupD ns, tupD ms, .tup h1 (dpAll_ints _), .tup h2 (dpAll_ints _), shaped_tup _, shaped_tup _, ?_⟩
    rw [eqv_tups]
    exact q H3 (e2.trans e3)
theorem ev_neL {p q : Addr} {ns ms : List Int} (ha : Ev ta σ H (.ref p)) (hb : Ev tb σ H (.ref q)) (h1 : SqL K H p (ns.map V.int)) (h2 : SqL K H q (ms.map V.int)) : Ev (tOp (rNeD K) ta tb) σ H (.bl (!decide (ns = ms))) := fun H1 e Q k =>
  ha H1 e _ fun H2 e2 => hb H2 (e.trans e2) _ fun H3 e3 => by
    have e4 := (e.trans e2).trans e3
    refine ⟨.list (ns.map PyData.int), .list (ms.map PyData.int), .lst (ex_l e4 h1) (dpAll_ints _), .lst (ex_l e4 h2) (dpAll_ints _), shaped_lst _, shaped_lst _, ?_⟩
    rw [eqv_lsts]
    exact k H3 (e2.trans e3)
end
end Tg
namespace Tg
open PySem PySem.Spec PyProof.Rows L2 Evl
section
variable {K : PySem.W.Frag} {σ : L2.St} {B H : Hp} {ta tb te tl : TE} {t : TT} {v : V} {P : Rep} {D : Ends} {tz : TS}
theorem q_asgX {i : Nat} (h : EvX te σ H P) (k : ∀ v H1, Ex H H1 → P v H1 → tz D (σ.set i (some v)) H1) : tSeq (tAsg te (gName i)) tz D σ H := h H (Ex.refl _) _ k
theorem evx_maxV {ps : List Addr} {n : List Int} {ns : List (List Int)} (h : EvL te σ H (ps.map V.ref)) (hT : ∀ H1, Ex H H1 → TupsAt K H1 ps (n :: ns)) : EvX (tCB (rMaxV K) (tCons te tNil)) σ H (fun v _ => ∃ (i : Nat) (p : Addr), v = .ref p ∧ ps[i]? = some p ∧ (n :: ns)[i]? = some (maxL n ns)) := fun H1 e Q q =>
  h H1 e _ fun p H2 _ e2 h2 => ⟨p, ps, n, ns, rfl, sq_of h2, hT H2 (e.trans e2), fun i p' hp hm => q _ H2 e2 ⟨i, p', rfl, hp, hm⟩⟩
/-- xs.extend(ys), ys made on the way -/
theorem s_extL {l : Addr} {xs ys : List V} (hl : H l = some (.lst xs)) (ha : Ev ta σ H (.ref l)) (h : EvL te σ H ys) (hz : xs.length + ys.length ≤ 100000) (k : ∀ H1, Ex H H1 → D.nx σ (upd H1 l (.lst (xs ++ ys)))) :
    tDrop (tBM K "list" rExtend ta (tCons te tNil)) D σ H := ha H (Ex.refl H) _ fun H1 e1 =>
  ⟨Or.inl ⟨rfl, xs, sq_of (e1 l _ hl)⟩, h H1 e1 _ fun p H2 hp e2 h2 => ⟨l, p, xs, ys, rfl, rfl, e2 l _ (e1 l _ hl), h2, sz_of hz, k H2 (e1.trans e2)⟩⟩
theorem q_extL {l : Addr} {xs ys : List V} (hl : H l = some (.lst xs)) (ha : Ev ta σ H (.ref l)) (h : EvL te σ H ys) (hz : xs.length + ys.length ≤ 100000) (k : ∀ H1, Ex H H1 → tz D σ (upd H1 l (.lst (xs ++ ys)))) :
    tSeq (tDrop (tBM K "list" rExtend ta (tCons te tNil))) tz D σ H := s_extL (D := { D with nx := tz D }) hl ha h hz k
/-- .. ys a list that stands -/
theorem s_extS {l b : Addr} {xs ys : List V} (hl : H l = some (.lst xs)) (ha : Ev ta σ H (.ref l)) (h : Ev te σ H (.ref b)) (hb : H b = some (.lst ys)) (hz : xs.length + ys.length ≤ 100000) (k : ∀ H1, Ex H H1 → D.nx σ (upd H1 l (.lst (xs ++ ys)))) :
    tDrop (tBM K "list" rExtend ta (tCons te tNil)) D σ H := ha H (Ex.refl H) _ fun H1 e1 =>
  ⟨Or.inl ⟨rfl, xs, sq_of (e1 l _ hl)⟩, h H1 e1 _ fun H2 e2 => ⟨l, b, xs, ys, rfl, rfl, e2 l _ (e1 l _ hl), (e1.trans e2) _ _ hb, sz_of hz, k H2 (e1.trans e2)⟩⟩
/-- .. a tuple -/
theorem s_extT {l b : Addr} {xs ys : List V} (hl : H l = some (.lst xs)) (ha : Ev ta σ H (.ref l)) (h : Ev te σ H (.ref b)) (hb : SqT K H b ys) (hz : xs.length + ys.length ≤ 100000) (k : ∀ H1, Ex H H1 → D.nx σ (upd H1 l (.lst (xs ++ ys)))) :
    tDrop (tBM K "list" (rExtT K) ta (tCons te tNil)) D σ H := ha H (Ex.refl H) _ fun H1 e1 =>
  ⟨Or.inl ⟨rfl, xs, sq_of (e1 l _ hl)⟩, h H1 e1 _ fun H2 e2 => ⟨l, b, xs, ys, rfl, rfl, e2 l _ (e1 l _ hl), ex_t (e1.trans e2) hb, sz_of hz, k H2 (e1.trans e2)⟩⟩
theorem SpV.spR {sp : Sp} {vs : List V} {z : V} (hB : Ex B H) (h : SpV sp vs H z) : SpR sp vs B H (fun v _ => v = z) := fun H1 e Q q E => h H1 e Q (fun H2 e2 => q z B H2 (Gr.up (hB.trans e) e2) rfl) E
end
abbrev visN (l : List Nat) : List V := l.map fun (n : Nat) => V.int (n : Int)
theorem visN_vis (l : List Nat) : visN l = (l.map fun (n : Nat) => (n : Int)).map V.int := by
  rw [List.map_map] <;> rfl
theorem visN_map {α : Type} (f : α → Nat) (l : List α) : visN (l.map f) = l.map fun x => V.int (f x : Int) := List.map_map
theorem visN_app (a b : List Nat) : visN (a ++ b) = visN a ++ visN b := List.map_append
theorem visN_len (l : List Nat) : (visN l).length = l.length := List.length_map ..
theorem at_visN {l : List Nat} {i x : Nat} (h : l[i]? = some x) : atI (visN l) (i : Int) = some (V.int (x : Int)) := atI_nat (by rw [List.getElem?_map, h] <;> rfl)
theorem item_visN {l : List Nat} {i d : Nat} {x : V} (h : (visN l)[i]? = some x) (hd : l[i]? = some d) : x = V.int (d : Int) := by
  rw [List.getElem?_map, hd] at h
  exact (Option.some.inj h).symm
theorem inV_ints (a : Int) : ∀ l : List Int, inV (.int a) (l.map V.int) = l.any fun b => decide (b = a)
  | [] => rfl
  | b :: l => by
    have ih := inV_ints a l
    unfold inV at ih ⊢
    rw [List.map_cons, List.any_cons, List.any_cons, ih]
    congr 1
end Tg
namespace Tg
open PySem PySem.Spec PyProof.Rows L2 Evl
/-- all but l stands -/
def Keep (l : Addr) (H H' : Hp) : Prop := ∀ a o, H a = some o → a ≠ l → H' a = some o
theorem Keep.ex {l : Addr} {H0 H H' : Hp} (k : Keep l H H') (e : Ex H0 H) (h : H0 l = none) : Ex H0 H' := fun a o ha => k a o (e a o ha) fun z => by
  rw [z, h] at ha
  cases ha
theorem Keep.upd {l : Addr} {H H1 : Hp} {o : HO} (e : Ex H H1) : Keep l H (upd H1 l o) := fun a u ha hne => by
  rw [upd_ne hne]
  exact e a u ha
section
variable {K : PySem.W.Frag} {σ : L2.St} {B H : Hp} {ta tb te tl : TE} {t : TT} {v : V} {D : Ends} {tz : TS}
theorem q_whenApp {b : Bool} {l : Addr} {xs : List V} (h : EvT t σ H b) (hl : H l = some (.lst xs)) (ha : Ev ta σ H (.ref l)) (hx : Ev te σ H v) (hz : xs.length < 100000) (k : ∀ H1, Keep l H H1 → H1 l = some (.lst (if b = true then xs ++ [v] else xs)) → tz D σ H1) :
    tSeq (tIfS t (tDrop (tBM K "list" rAppend ta (tCons te tNil))) tNext) tz D σ H := by
  refine q_when h (fun hb H1 e1 => ?_) (fun hb H1 e1 => ?_)
  · refine s_app (D := { D with nx := tz D }) (e1 _ _ hl) (ha.mono e1) (hx.mono e1) hz fun H2 e2 => k _ (Keep.upd (e1.trans e2)) ?_
    rw [hb, if_pos rfl]
    exact upd_same
  · refine k H1 (fun a o h _ => e1 a o h) ?_
    rw [hb, if_neg Bool.false_ne_true]
    exact e1 _ _ hl
end
end Tg
namespace Tg
open PySem PySem.Spec PyProof.Rows L2 Evl
section
variable {K : PySem.W.Frag} {σ : L2.St} {B H : Hp} {ta tb te tl : TE} {t : TT} {v : V} {D : Ends} {tz : TS}
/-- a comprehension over range(lo, hi) -/
theorem el_lcR2 {ts : TA} {j : Nat} {vs : List Nat} {lo hi : Nat} (f : Nat → Bool) (g : Nat → V) (h : EvA ts σ H [.int (lo : Int), .int (hi : Int)]) (hn : lo ≤ 40000 ∧ hi ≤ 40000) (hw : ∀ x, wipe ((wipe σ vs).set j (some x)) vs = wipe σ vs)
    (ht : ∀ (i : Nat) H1, Ex H H1 → lo + i < hi → EvT t ((wipe σ vs).set j (some (.int ((lo + i : Nat) : Int)))) H1 (f i)) (he : ∀ (i : Nat) H1, Ex H H1 → lo + i < hi → f i = true → Ev te ((wipe σ vs).set j (some (.int ((lo + i : Nat) : Int)))) H1 (g i)) :
    EvL (tLc (iRng2 ts) (gName j) t te vs) σ H (given (hi - lo) f g) := by
  intro H0 e Q q
  refine h H0 e _ fun H1 e1 => ?_
  refine ⟨(lo : Int), (hi : Int), rfl, ⟨by omega, by omega, by omega, by omega⟩, fun Dl hD => ?_⟩
  have en : ((hi : Int) - (lo : Int)).toNat = hi - lo := by omega
  rw [en]
  refine lc_range (lo := (lo : Int)) (n := hi - lo) (Cw H1 f g Dl) ⟨hD, Ex.new hD, upd_same⟩ (fun i H' hi' p => ?_) (fun H' p => q Dl H' (fresh_back e1 p.1) (e1.trans p.2.1) p.2.2)
  have ei : ((lo : Int) + (i : Int)) = ((lo + i : Nat) : Int) := by omega
  rw [ei]
  exact ⟨hw _, cw_turn p (by omega) (ht i H1 (e.trans e1) (by omega)) (fun hf => he i H1 (e.trans e1) (by omega) hf)⟩
theorem eu_tupL {ys : List V} (h : EvL te σ H ys) : EvU (tCB (rTupS K) (tCons te tNil)) σ H ys := fun H1 e Q q =>
  h H1 e _ fun p H2 _ e2 h2 => ⟨p, ys, rfl, .inl ⟨sq_of h2, fun l hl => q l _ (fresh_back e2 hl) (e2.trans (Ex.new hl)) upd_same⟩⟩
/-- f([..]): the one argument made on the way -/
theorem ev_callL {sp : Sp} {E : XK} {xs : List V} {z : V} (h : EvL te σ H xs) (k : ∀ p H1, Ex H H1 → H1 p = some (.lst xs) → SpV sp [.ref p] H1 z) : Ev (tCall sp [] E (tCons te tNil)) σ H z := fun H1 e Q q =>
  h H1 e _ fun p H2 _ e2 h2 => k p H2 (e.trans e2) h2 H2 (Ex.refl _) Q (fun H3 e3 => q H3 (e2.trans e3)) E
theorem ev_ltI {i j : Int} (ha : Ev ta σ H (.int i)) (hb : Ev tb σ H (.int j)) : Ev (tOp (rI0 fun i j => .bl (decide (i < j))) ta tb) σ H (.bl (decide (i < j))) := ev_op ha hb rv_I0
end
theorem maxI_le {a b c m : Int} : maxI [a, b, c] ≤ m ↔ a ≤ m ∧ b ≤ m ∧ c ≤ m := by
  show (if (if a < b then b else a) < c then c else (if a < b then b else a)) ≤ m ↔ _
  split <;> split <;> omega
theorem all_range {f : Nat → Bool} {n : Nat} : ((List.range n).map f).all id = true ↔ ∀ i, i < n → f i = true := by
  rw [List.all_map, List.all_eq_true]
  constructor
  · intro h i hi
    exact h i (List.mem_range.mpr hi)
  · intro h i hi
    exact h i (List.mem_range.mp hi)
end Tg
namespace Tg
open PySem PySem.Spec PyProof.Rows L2 Evl
section
variable {K : PySem.W.Frag} {σ : L2.St} {B H : Hp} {ta tv te : TE} {v : V} {D : Ends} {tz : TS} {R : Rep}
/-- o.f = e, e made on the way -/
theorem s_putR {a C dx : Addr} {fs : List (Str × V)} {f : Str} (hB : Ex B H) (h : EvR tv σ B H R) (ha : Ev ta σ H (.ref a)) (ho : H a = some (.ins C dx fs)) (c : Cls K C) (n : NoAttr K C f) (hl : fs.length < 1000)
    (k : ∀ v B1 H1, Gr B H B1 H1 → R v B1 → D.nx σ (upd H1 a (.ins C dx (putF f v fs)))) : sFld K ta tv f D σ H := h H (Ex.refl _) _ fun y B1 H1 g hy =>
  ha H1 g.h _ fun H2 e2 => ⟨a, C, dx, fs, rfl, e2 _ _ (g.h _ _ ho), c, n, hl, k y B1 H2 (g.trans (Gr.up g.s e2)) hy⟩
theorem q_putR {a C dx : Addr} {fs : List (Str × V)} {f : Str} (hB : Ex B H) (h : EvR tv σ B H R) (ha : Ev ta σ H (.ref a)) (ho : H a = some (.ins C dx fs)) (c : Cls K C) (n : NoAttr K C f) (hl : fs.length < 1000)
    (k : ∀ v B1 H1, Gr B H B1 H1 → R v B1 → tz D σ (upd H1 a (.ins C dx (putF f v fs)))) : tSeq (sFld K ta tv f) tz D σ H := s_putR (D := { D with nx := tz D }) hB h ha ho c n hl k
theorem s_put {a C dx : Addr} {fs : List (Str × V)} {f : Str} (h : Ev tv σ H v) (ha : Ev ta σ H (.ref a)) (ho : H a = some (.ins C dx fs)) (c : Cls K C) (n : NoAttr K C f) (hl : fs.length < 1000) (k : ∀ H1, Ex H H1 → D.nx σ (upd H1 a (.ins C dx (putF f v fs)))) : sFld K ta tv f D σ H :=
  h H (Ex.refl _) _ fun H1 e1 => ha H1 e1 _ fun H2 e2 => ⟨a, C, dx, fs, rfl, (e1.trans e2) _ _ ho, c, n, hl, k H2 (e1.trans e2)⟩
theorem q_put {a C dx : Addr} {fs : List (Str × V)} {f : Str} (h : Ev tv σ H v) (ha : Ev ta σ H (.ref a)) (ho : H a = some (.ins C dx fs)) (c : Cls K C) (n : NoAttr K C f) (hl : fs.length < 1000) (k : ∀ H1, Ex H H1 → tz D σ (upd H1 a (.ins C dx (putF f v fs)))) : tSeq (sFld K ta tv f) tz D σ H :=
  s_put (D := { D with nx := tz D }) h ha ho c n hl k
theorem s_putL {a C dx : Addr} {fs : List (Str × V)} {f : Str} {xs : List V} (h : EvL tv σ H xs) (ha : Ev ta σ H (.ref a)) (ho : H a = some (.ins C dx fs)) (c : Cls K C) (n : NoAttr K C f) (hl : fs.length < 1000) (k : ∀ p H1, H p = none → Ex H H1 → H1 p = some (.lst xs) → D.nx σ (upd H1 a (.ins C dx (putF f (.ref p) fs)))) : sFld K ta tv f D σ H :=
  h H (Ex.refl _) _ fun p H1 hp e1 h1 => ha H1 e1 _ fun H2 e2 => ⟨a, C, dx, fs, rfl, (e1.trans e2) _ _ ho, c, n, hl, k p H2 hp (e1.trans e2) (e2 _ _ h1)⟩
theorem q_putL {a C dx : Addr} {fs : List (Str × V)} {f : Str} {xs : List V} (h : EvL tv σ H xs) (ha : Ev ta σ H (.ref a)) (ho : H a = some (.ins C dx fs)) (c : Cls K C) (n : NoAttr K C f) (hl : fs.length < 1000) (k : ∀ p H1, H p = none → Ex H H1 → H1 p = some (.lst xs) → tz D σ (upd H1 a (.ins C dx (putF f (.ref p) fs)))) : tSeq (sFld K ta tv f) tz D σ H :=
  s_putL (D := { D with nx := tz D }) h ha ho c n hl k
/-- a list of a call whose argument is made on the way -/
theorem el_callR {sp : Sp} {E : XK} {ta : TA} {RA : List V → Hp → Prop} {xs : List V} (e : Ex B H) (h : EvAR ta σ B H RA) (k : ∀ vs B1 H1, Ex B B1 → Ex B1 H1 → Ex H H1 → RA vs B1 → SpL sp (vs ++ []) H1 xs) : EvL (tCall sp [] E ta) σ H xs := fun H1 e1 Q q =>
  h H1 e1 _ fun vs B1 H2 g hvs => k vs B1 H2 g.b g.s (e1.trans g.h) hvs H2 (Ex.refl _) Q (fun p H3 hp e3 h3 => q p H3 (fresh_back g.h hp) (g.h.trans e3) h3) E
end
end Tg
namespace Tg
open PySem PySem.Spec PyProof.Rows L2 Evl
/-! ### values known by what holds of them -/
def SpX (sp : Sp) (vs : List V) (H : Hp) (P : Rep) : Prop := ∀ H1, Ex H H1 → ∀ Q : VK, (∀ v H2, Ex H1 H2 → P v H2 → Q v H2) → ∀ E : XK, sp vs H1 Q E
def RetX (P : Rep) (H : Hp) (Q : VK) : Prop := ∀ v H2, Ex H H2 → P v H2 → Q v H2
/-- a list of tuples of whole numbers -/
def VersIs (K : PySem.W.Frag) (ns : List (List Int)) : Rep := fun v H => ∃ p ps, v = .ref p ∧ SqL K H p (ps.map V.ref) ∧ TupsAt K H ps ns
theorem TupsAt.mono {K : PySem.W.Frag} {H H' : Hp} (e : Ex H H') {ps : List Addr} {ns : List (List Int)} (h : TupsAt K H ps ns) : TupsAt K H' ps ns := by
  induction h with
  | nil => exact .nil
  | cons a _ ih => exact .cons (ex_t e a) ih
theorem versIs_mono {K : PySem.W.Frag} {ns : List (List Int)} {v : V} {H H' : Hp} (e : Ex H H') (h : VersIs K ns v H) : VersIs K ns v H' := by
  obtain ⟨p, ps, h1, h2, h3⟩ := h
  exact ⟨p, ps, h1, ex_l e h2, h3.mono e⟩
theorem eqvAll_tups : ∀ xs ys : List (List Int), PyData.eqvAll (xs.map tupD) (ys.map tupD) = decide (xs = ys)
  | [], [] => by rw [List.map_nil, PyData.eqvAll] <;> rfl
  | [], y :: ys => by rw [List.map_nil, List.map_cons, PyData.eqvAll] <;> rfl
  | x :: xs, [] => by rw [List.map_nil, List.map_cons, PyData.eqvAll] <;> rfl
  | x :: xs, y :: ys => by
    rw [List.map_cons, List.map_cons, PyData.eqvAll, eqvAll_tups xs ys, eqv_tups]
    by_cases h : x = y
    · subst h
      by_cases h2 : xs = ys
      · subst h2
        simp
      · simp [h2]
    · simp [h]
theorem eqv_lstT (xs ys : List (List Int)) : PyData.eqv (.list (xs.map tupD)) (.list (ys.map tupD)) = decide (xs = ys) := by
  rw [PyData.eqv, eqvAll_tups]
theorem lay_tups : ∀ xs : List (List Int), PyData.canLayAll0 (xs.map tupD) = true
  | [] => by rw [List.map_nil, PyData.canLayAll0]
  | x :: xs => by rw [List.map_cons, PyData.canLayAll0, lay_tups xs, PyData.canLay0, lay_ints] <;> rfl
theorem shaped_lstT (xs : List (List Int)) : SeqAt.shaped (.list (xs.map tupD)) = true := by
  unfold SeqAt.shaped
  rw [PyData.canLay0, lay_tups, Bool.true_and]
  refine decide_eq_true ?_
  show PyData.depthAll (xs.map tupD) + 1 ≤ 64
  have := depth_tups xs
  omega
section
variable {K : PySem.W.Frag} {σ : L2.St} {B H : Hp} {ta tb te tl : TE} {t : TT} {v : V} {P : Rep} {D : Ends} {tz tu : TS}
theorem evx_call {sp : Sp} {E : XK} {ta : TA} {vs : List V} (h : EvA ta σ H vs) (k : SpX sp (vs ++ []) H P) : EvX (tCall sp [] E ta) σ H P := fun H1 e Q q =>
  h H1 e _ fun H2 e2 => k H2 (e.trans e2) Q (fun v H3 e3 hp => q v H3 (e2.trans e3) hp) E
theorem s_retX (h : EvX te σ H P) (k : RetX P H D.rt) : tRet te D σ H := h H (Ex.refl _) _ k
theorem evx_eqV {ns ms : List (List Int)} (ha : EvX ta σ H (VersIs K ns)) (hb : EvX tb σ H (VersIs K ms)) : Ev (tOp (rEqD K) ta tb) σ H (.bl (decide (ns = ms))) := fun H1 e Q q =>
  ha H1 e _ fun x H2 e2 hx => hb H2 (e.trans e2) _ fun y H3 e3 hy => by
    obtain ⟨p, ps, rfl, h1, h2⟩ := versIs_mono e3 hx
    obtain ⟨p2, ps2, rfl, h3, h4⟩ := hy
    refine ⟨.list (ns.map tupD), .list (ms.map tupD), .lst h1 h2.dp, .lst h3 h4.dp, shaped_lstT _, shaped_lstT _, ?_⟩
    rw [eqv_lstT]
    exact q H3 (e2.trans e3)
/-- [t], a list of one tuple -/
theorem evx_one {p : Addr} {n : List Int} (ha : Ev ta σ H (.ref p)) (hp : SqT K H p (n.map V.int)) : EvX (tLst (tCons ta tNil)) σ H (VersIs K [n]) := fun H1 e Q q =>
  el_lst (ea_cons ha ea_nil) (by show 1 ≤ 100000; decide) H1 e Q fun l H2 _ e2 h2 => q _ H2 e2 ⟨l, [p], rfl, sq_of h2, .cons (ex_t (e.trans e2) hp) .nil⟩
theorem evx_maxX {n : List Int} {ns : List (List Int)} (h : EvX te σ H (VersIs K (n :: ns))) : EvX (tCB (rMaxV K) (tCons te tNil)) σ H (TupIs K (maxL n ns)) := fun H1 e Q q =>
  h H1 e _ fun v H2 e2 hv => by
    obtain ⟨p, ps, rfl, h1, h2⟩ := hv
    refine ⟨p, ps, n, ns, rfl, h1, h2, fun i p' hp hm => q _ H2 e2 ⟨p', rfl, ?_⟩⟩
    obtain ⟨m, k1, k2⟩ := h2.get hp
    rw [hm] at k1
    cases k1
    exact k2
theorem s_extTX {l : Addr} {xs : List V} {ns : List Int} (hl : H l = some (.lst xs)) (ha : Ev ta σ H (.ref l)) (h : EvX te σ H (TupIs K ns)) (hz : xs.length + ns.length ≤ 100000) (k : ∀ H1, Ex H H1 → D.nx σ (upd H1 l (.lst (xs ++ ns.map V.int)))) :
    tDrop (tBM K "list" (rExtT K) ta (tCons te tNil)) D σ H := ha H (Ex.refl H) _ fun H1 e1 =>
  ⟨Or.inl ⟨rfl, xs, sq_of (e1 l _ hl)⟩, h H1 e1 _ fun v H2 e2 hv => by
    obtain ⟨b, rfl, hb⟩ := hv
    exact ⟨l, b, xs, ns.map V.int, rfl, rfl, e2 l _ (e1 l _ hl), hb, sz_of (by rw [List.length_map]; exact hz), k H2 (e1.trans e2)⟩⟩
theorem q_extT {l b : Addr} {xs ys : List V} (hl : H l = some (.lst xs)) (ha : Ev ta σ H (.ref l)) (h : Ev te σ H (.ref b)) (hb : SqT K H b ys) (hz : xs.length + ys.length ≤ 100000) (k : ∀ H1, Ex H H1 → tz D σ (upd H1 l (.lst (xs ++ ys)))) :
    tSeq (tDrop (tBM K "list" (rExtT K) ta (tCons te tNil))) tz D σ H := s_extT (D := { D with nx := tz D }) hl ha h hb hz k
theorem q_extS {l b : Addr} {xs ys : List V} (hl : H l = some (.lst xs)) (ha : Ev ta σ H (.ref l)) (h : Ev te σ H (.ref b)) (hb : H b = some (.lst ys)) (hz : xs.length + ys.length ≤ 100000) (k : ∀ H1, Ex H H1 → tz D σ (upd H1 l (.lst (xs ++ ys)))) :
    tSeq (tDrop (tBM K "list" rExtend ta (tCons te tNil))) tz D σ H := s_extS (D := { D with nx := tz D }) hl ha h hb hz k
/-- list(t) of a tuple -/
theorem el_listT {p : Addr} {xs : List V} (ha : Ev ta σ H (.ref p)) (h : SqT K H p xs) : EvL (tCB (rListS K) (tCons ta tNil)) σ H xs := fun H1 e Q q =>
  ha H1 e _ fun H2 e2 => ⟨p, xs, rfl, Or.inr (ex_t (e.trans e2) h), fun l hl => q l _ (fresh_back e2 hl) (e2.trans (Ex.new hl)) upd_same⟩
theorem rv_isN : RV (fun x y H Q => y = V.non ∧ Q (.bl (decide (x = .non))) H) v .non H (.bl (decide (v = .non))) := fun H1 _ _ q => ⟨rfl, q H1 (Ex.refl H1)⟩
/-- the chain of a dispatcher -/
theorem q_skip {i j : Int} (hne : i ≠ j) (hi : Ev ta σ H (.int i)) (hj : Ev tb σ H (.int j)) (k : ∀ H1, Ex H H1 → tz D σ H1) : tSeq (tIfS (tTest (tOp rEq ta tb)) tu tNext) tz D σ H :=
  q_when (et_test (ev_eqI hi hj)) (fun hb => absurd (of_decide_eq_true hb) hne) fun _ H1 e1 => k H1 e1
theorem q_take {i j : Int} (he : i = j) (hi : Ev ta σ H (.int i)) (hj : Ev tb σ H (.int j)) (k : ∀ H1, Ex H H1 → tu { D with nx := tz D } σ H1) : tSeq (tIfS (tTest (tOp rEq ta tb)) tu tNext) tz D σ H :=
  q_when (et_test (ev_eqI hi hj)) (fun _ H1 e1 => k H1 e1) fun hb => absurd he (of_decide_eq_false hb)
/-- a comprehension over a new list, its items of B -/
theorem evx_lcB {δ : Type} {ds : List δ} {xs : List V} {j : Nat} {vs : List Nat} (p : δ → Bool) (R : δ → Rep) (mono : ∀ d v B B', Ex B B' → R d v B → R d v B') (hl : xs.length = ds.length) (hB : Ex B H) (h : EvL tl σ H xs) (hz : xs.length ≤ 40000) (hw : ∀ x, wipe ((wipe σ vs).set j (some x)) vs = wipe σ vs)
    (ht : ∀ (i : Nat) (x : V) (d : δ) H1, Ex H H1 → xs[i]? = some x → ds[i]? = some d → EvT t ((wipe σ vs).set j (some x)) H1 (p d))
    (he : ∀ (i : Nat) (x : V) (d : δ) B1 H1, Ex B B1 → Ex B1 H1 → Ex H H1 → xs[i]? = some x → ds[i]? = some d → p d = true → EvR te ((wipe σ vs).set j (some x)) B1 H1 (R d))
    (hP : ∀ v B' H', Ex B' H' → MadeD (ds.filter p) R v B' → P v H') : EvX (tLc (iList K tl) (gName j) t te vs) σ H P := fun H0 e Q q =>
  h H0 e _ fun a H1 ha e1 hx => (evr_lcD (K := K) (B := B) (H := H1) (tl := tC (.ref a)) (te := te) (t := t) (j := j) (vs := vs) p R mono hl (hB.trans (e.trans e1)) ev_c (sq_of hx) hz hw (fun i x d H2 e2 => ht i x d H2 ((e.trans e1).trans e2))
    (fun i x d B1 H2 b1 b2 e2 => he i x d B1 H2 b1 b2 ((e.trans e1).trans e2))) H1 (Ex.refl _) Q fun v B' H' g m => q v H' (e1.trans g.h) (hP v B' H' g.s m)
/-- a comprehension over a list that is known by its items -/
theorem el_lcX {δ : Type} {ds : List δ} {R : Hp → V → δ → Prop} {j : Nat} {vs : List Nat} (g : δ → V) (mono : ∀ H H' x d, Ex H H' → R H x d → R H' x d) (h : EvX tl σ H (fun v H2 => ∃ p xs, v = .ref p ∧ SqL K H2 p xs ∧ All2 (R H2) xs ds)) (hz : ds.length ≤ 40000) (hw : ∀ x, wipe ((wipe σ vs).set j (some x)) vs = wipe σ vs)
    (he : ∀ (x : V) (d : δ) H1, Ex H H1 → d ∈ ds → R H1 x d → Ev te ((wipe σ vs).set j (some x)) H1 (g d)) : EvL (tLc (iList K tl) (gName j) tYes te vs) σ H (ds.map g) := fun H0 e Q q =>
  h H0 e _ fun v H1 e1 hv => by
    obtain ⟨p, xs, rfl, hp, ha⟩ := hv
    exact (el_lcM (K := K) (H := H1) (tl := tC (.ref p)) (te := te) (j := j) (vs := vs) (ds := ds) g ha.len ev_c hp (by rw [ha.len]; exact hz) hw (fun i x d H2 e2 hx hd => by
      obtain ⟨d', hd', hr⟩ := ha.getL hx
      rw [hd] at hd'
      cases hd'
      exact he x d H2 ((e.trans e1).trans e2) (List.mem_of_getElem? hd) (mono _ _ _ _ e2 hr))) H1 (Ex.refl _) Q fun p' H2 hp' e2 h2 => q p' H2 (fresh_back e1 hp') (e1.trans e2) h2
theorem all2_map {α β : Type} (f : β → α) : ∀ l : List β, All2 (fun w j => w = f j) (l.map f) l
  | [] => .nil
  | b :: l => .cons rfl (all2_map f l)
/-- [x for x in xs if ..] -/
theorem el_lcF {δ : Type} {ds : List δ} {ws : List V} {R : V → δ → Prop} {a : Addr} {j : Nat} {vs : List Nat} (p : δ → Bool) (hA : All2 R ws ds) (h : Ev tl σ H (.ref a)) (hx : SqL K H a ws) (hz : ws.length ≤ 40000) (hw : ∀ x, wipe ((wipe σ vs).set j (some x)) vs = wipe σ vs)
    (ht : ∀ (x : V) (d : δ) H1, Ex H H1 → d ∈ ds → R x d → EvT t ((wipe σ vs).set j (some x)) H1 (p d)) (he : ∀ (x : V) H1, Ev te ((wipe σ vs).set j (some x)) H1 x) : ∃ xs, All2 R xs (ds.filter p) ∧ EvL (tLc (iList K tl) (gName j) t te vs) σ H xs := by
  refine ⟨given ws.length (atD ds p false) (fun i => ws.getD i .non), ?_, el_lcL _ _ h hx hz hw (fun i x H1 e hi => ?_) (fun i x H1 e hi _ => ?_)⟩
  · have key := All2.atData (ds := ds) (p := p) (S := R) (S' := fun i w => w = ws.getD i .non) (fun i w d hd e => by
      obtain ⟨x, hx, hr⟩ := hA.getR hd
      rw [e, List.getD_eq_getElem?_getD, hx]
      exact hr) (n := ws.length) (Nat.le_of_eq hA.len) (all2_map (fun i => ws.getD i V.non) ((List.range ws.length).filter (atD ds p false)))
    have e := hA.len
    unfold given
    rw [e] at key ⊢
    rw [List.take_length] at key
    exact key
  · obtain ⟨d, hd, hr⟩ := hA.getL hi
    rw [atD_some hd]
    exact ht x d H1 e (List.mem_of_getElem? hd) hr
  · rw [List.getD_eq_getElem?_getD, hi]
    exact he x H1
end
theorem flatMap_len {α β : Type} {f : α → List β} {m : Nat} : ∀ {l : List α}, (∀ x ∈ l, (f x).length ≤ m) → (l.flatMap f).length ≤ l.length * m
  | [], _ => Nat.zero_le _
  | a :: l, h => by
    rw [List.flatMap_cons, List.length_append, List.length_cons, Nat.add_mul, Nat.one_mul]
    have h1 := h a (List.mem_cons_self ..)
    have h2 := flatMap_len (f := f) (m := m) (l := l) fun x hx => h x (List.mem_cons_of_mem _ hx)
    omega
theorem take_next {α : Type} {l : List α} {i : Nat} {x : α} (h : l[i]? = some x) : l.take (i + 1) = l.take i ++ [x] := by
  rw [List.take_succ, h] <;> rfl
end Tg
namespace Tg
/-! ### the list of calls, by places -/
theorem drop_cons {α : Type} : ∀ {l : List α} {p : Nat} {x : α} {r : List α}, l.drop p = x :: r → l[p]? = some x ∧ r = l.drop (p + 1)
  | [], p, x, r, h => by simp at h
  | a :: l, 0, x, r, h => by
    obtain ⟨h1, h2⟩ := List.cons.inj h
    subst h1 h2
    exact ⟨rfl, rfl⟩
  | a :: l, p + 1, x, r, h => by
    have := drop_cons (l := l) (p := p) h
    exact ⟨this.1, this.2⟩
theorem row_at {ns : List Int} {p : Nat} {x s : List Int} (h : PyFlat.row (ns.drop p) = some (x, s)) : ∃ m : Nat, ns[p]? = some (m : Int) ∧ x = (ns.drop (p + 1)).take m ∧ x.length = m ∧ s = ns.drop (p + 1 + m) ∧ p + 1 + m ≤ ns.length := by
  cases e : ns.drop p with
  | nil =>
    rw [e] at h
    cases h
  | cons n r =>
    rw [e] at h
    obtain ⟨e1, e2⟩ := drop_cons e
    have hp : p < ns.length := (List.getElem?_eq_some_iff.mp e1).1
    have h' : (if 0 ≤ n ∧ n.toNat ≤ r.length then some (r.take n.toNat, r.drop n.toNat) else none) = some (x, s) := h
    by_cases c : 0 ≤ n ∧ n.toNat ≤ r.length
    · rw [if_pos c] at h'
      obtain ⟨h1, h2⟩ := Prod.mk.inj (Option.some.inj h')
      have hr : r.length = ns.length - (p + 1) := by rw [e2, List.length_drop]
      refine ⟨n.toNat, ?_, ?_, ?_, ?_, ?_⟩
      · rw [Int.toNat_of_nonneg c.1]
        exact e1
      · rw [← h1, e2]
      · rw [← h1, List.length_take]
        omega
      · rw [← h2, e2, List.drop_drop]
      · have := c.2
        omega
    · rw [if_neg c] at h'
      cases h'
theorem rows_succ {k : Nat} {l : List Int} {xs : List (List Int)} {t : List Int} (h : PyFlat.rows (k + 1) l = some (xs, t)) : ∃ x s ys, PyFlat.row l = some (x, s) ∧ PyFlat.rows k s = some (ys, t) ∧ xs = x :: ys := by
  unfold PyFlat.rows at h
  cases e : PyFlat.row l with
  | none =>
    rw [e] at h
    cases h
  | some q =>
    obtain ⟨x, s⟩ := q
    rw [e] at h
    have h' : (match PyFlat.rows k s with | none => none | some (xs, t) => some (x :: xs, t)) = some (xs, t) := h
    cases e2 : PyFlat.rows k s with
    | none =>
      rw [e2] at h'
      cases h'
    | some q2 =>
      obtain ⟨ys, t2⟩ := q2
      rw [e2] at h'
      obtain ⟨h1, h2⟩ := Prod.mk.inj (Option.some.inj h')
      subst h1 h2
      exact ⟨x, s, ys, rfl, e2, rfl⟩
theorem rows_zero {l : List Int} {xs : List (List Int)} {t : List Int} (h : PyFlat.rows 0 l = some (xs, t)) : xs = [] ∧ t = l := by
  unfold PyFlat.rows at h
  obtain ⟨h1, h2⟩ := Prod.mk.inj (Option.some.inj h)
  exact ⟨h1.symm, h2.symm⟩
/-- how many numbers the rows take, with their counts -/
def rowsLen (xs : List (List Int)) : Nat := (xs.map fun x => 1 + x.length).sum
theorem rows_len : ∀ {k : Nat} {ns : List Int} {p : Nat} {xs : List (List Int)} {t : List Int}, PyFlat.rows k (ns.drop p) = some (xs, t) → xs.length = k ∧ t = ns.drop (p + rowsLen xs) ∧ (p ≤ ns.length → p + rowsLen xs ≤ ns.length)
  | 0, ns, p, xs, t, h => by
    obtain ⟨h1, h2⟩ := rows_zero h
    subst h1 h2
    exact ⟨rfl, rfl, fun h => h⟩
  | k + 1, ns, p, xs, t, h => by
    obtain ⟨x, s, ys, h1, h2, h3⟩ := rows_succ h
    obtain ⟨m, m1, m2, m3, m4, m5⟩ := row_at h1
    rw [m4] at h2
    obtain ⟨k1, k2, k3⟩ := rows_len h2
    have e : rowsLen xs = 1 + m + rowsLen ys := by
      rw [h3]
      unfold rowsLen
      rw [List.map_cons, List.sum_cons, m3]
    refine ⟨by rw [h3, List.length_cons, k1], by rw [k2, e]; congr 1; omega, fun _ => ?_⟩
    have := k3 m5
    omega
theorem call_at {ns : List Int} {p : Nat} {c : List (List Int)} {u : List Int} (h : PyWide.call (ns.drop p) = some (c, u)) :
    ∃ (q : Int) (m k : Nat) (w : List Int) (xs : List (List Int)), ns[p]? = some q ∧ ns[p + 1]? = some (m : Int) ∧ w = (ns.drop (p + 2)).take m ∧ w.length = m ∧ ns[p + 2 + m]? = some (k : Int) ∧
      PyFlat.rows k (ns.drop (p + 2 + m + 1)) = some (xs, u) ∧ c = (q :: w) :: xs ∧ xs.length = k ∧ u = ns.drop (p + (3 + w.length + rowsLen xs)) ∧ p + (3 + w.length + rowsLen xs) ≤ ns.length := by
  cases e : ns.drop p with
  | nil =>
    rw [e] at h
    cases h
  | cons q r =>
    rw [e] at h
    obtain ⟨e1, e2⟩ := drop_cons e
    unfold PyWide.call at h
    dsimp only at h
    cases e3 : PyFlat.row r with
    | none =>
      rw [e3] at h
      cases h
    | some y =>
      obtain ⟨w, s⟩ := y
      rw [e3] at h
      rw [e2] at e3
      obtain ⟨m, m1, m2, m3, m4, m5⟩ := row_at e3
      cases s with
      | nil => cases h
      | cons k t =>
        obtain ⟨k1, k2⟩ := drop_cons m4.symm
        have h' : (if 0 ≤ k then (match PyFlat.rows k.toNat t with | none => none | some (xs, u) => some ((q :: w) :: xs, u)) else none) = some (c, u) := h
        by_cases hk : 0 ≤ k
        · rw [if_pos hk] at h'
          cases e4 : PyFlat.rows k.toNat t with
          | none =>
            rw [e4] at h'
            cases h'
          | some z =>
            obtain ⟨xs, u2⟩ := z
            rw [e4] at h'
            obtain ⟨h1, h2⟩ := Prod.mk.inj (Option.some.inj h')
            subst h1 h2
            rw [k2] at e4
            have hp : p + 1 + 1 + m < ns.length := (List.getElem?_eq_some_iff.mp k1).1
            obtain ⟨l1, l2, l3⟩ := rows_len e4
            refine ⟨q, m, k.toNat, w, xs, e1, m1, m2, m3, ?_, e4, rfl, l1, ?_, ?_⟩
            · rw [Int.toNat_of_nonneg hk]
              exact k1
            · rw [l2, m3]
              congr 1
              omega
            · have := l3 (by omega)
              rw [m3]
              omega
        · rw [if_neg hk] at h'
          cases h'
theorem calls_at : ∀ {f : Nat} {ns : List Int} {p : Nat} {cs : List (List (List Int))}, p ≤ ns.length → PyWide.calls f (ns.drop p) = some cs →
    (p = ns.length ∧ cs = []) ∨ (p < ns.length ∧ ∃ c u cs' f', PyWide.call (ns.drop p) = some (c, u) ∧ PyWide.calls f' u = some cs' ∧ cs = c :: cs')
  | f, ns, p, cs, hp, h => by
    cases e : ns.drop p with
    | nil =>
      rw [e] at h
      have hl : ns.length - p = 0 := by
        have := congrArg List.length e
        simpa using this
      refine .inl ⟨by omega, ?_⟩
      unfold PyWide.calls at h
      exact (Option.some.inj h).symm
    | cons x r =>
      have hl : ns.length - p = r.length + 1 := by
        have := congrArg List.length e
        simpa using this
      refine .inr ⟨by omega, ?_⟩
      rw [e] at h
      cases f with
      | zero => cases h
      | succ f =>
        unfold PyWide.calls at h
        cases e2 : PyWide.call (x :: r) with
        | none =>
          rw [e2] at h
          cases h
        | some z =>
          obtain ⟨c, t⟩ := z
          rw [e2] at h
          have h' : (match PyWide.calls f t with | none => none | some cs => some (c :: cs)) = some cs := h
          cases e3 : PyWide.calls f t with
          | none =>
            rw [e3] at h'
            cases h'
          | some cs' =>
            rw [e3] at h'
            exact ⟨c, t, cs', f, rfl, e3, (Option.some.inj h').symm⟩
end Tg
namespace Tg
theorem rowsLen_ge : ∀ xs : List (List Int), xs.length ≤ rowsLen xs
  | [] => Nat.zero_le _
  | x :: xs => by
    have := rowsLen_ge xs
    unfold rowsLen at this ⊢
    rw [List.map_cons, List.sum_cons, List.length_cons]
    omega
end Tg
namespace Tg
open Rp09 (Version Need)
def verL (v : Version) : List Int := [(v.major : Int), (v.minor : Int), (v.patch : Int)]
theorem verL_inj {v w : Version} (h : verL v = verL w) : v = w := by
  obtain ⟨a, b, c⟩ := v
  obtain ⟨a', b', c'⟩ := w
  simp only [verL, List.cons.injEq] at h
  obtain ⟨h1, h2, h3, _⟩ := h
  have e1 : a = a' := by omega
  have e2 : b = b' := by omega
  have e3 : c = c' := by omega
  rw [e1, e2, e3]
theorem verL_eq (v w : Version) : decide (verL v = verL w) = decide (v = w) := by
  by_cases h : v = w
  · subst h
    simp
  · rw [decide_eq_false h, decide_eq_false fun e => h (verL_inj e)]
def nz (v : Version) : Nat := if v.major = 0 then (if v.minor = 0 then 3 else 2) else 1
def shareN (n : Need) : Nat := if n.kind = 0 then 3 else if n.kind = 1 then 2 else if n.kind = 2 then nz n.from_ else 0
end Tg
namespace Tg
open Rp09 (Version Need)
theorem lex_less (v w : Version) : HT.lexLt (verL v) (verL w) = v.less w := by
  obtain ⟨a, b, c⟩ := v
  obtain ⟨a', b', c'⟩ := w
  unfold verL Version.less
  simp only [HT.lexLt_cons, HT.lexLt_nil_nil]
  by_cases h1 : a = a'
  · subst h1
    by_cases h2 : b = b'
    · subst h2
      by_cases h3 : c = c'
      · subst h3
        simp
      · have : ¬ ((c : Int) = (c' : Int)) := by omega
        simp [this]
    · have : ¬ ((b : Int) = (b' : Int)) := by omega
      simp [this, h2]
  · have : ¬ ((a : Int) = (a' : Int)) := by omega
    simp [this, h1]
theorem take_eq3 (v w : Version) : decide ((verL v).take 3 = (verL w).take 3) = (v == w) := by
  rw [show (verL v).take 3 = verL v from rfl, show (verL w).take 3 = verL w from rfl, verL_eq]
  rfl
theorem take_eq2 (v w : Version) : decide ((verL v).take 2 = (verL w).take 2) = (v.major == w.major && v.minor == w.minor) := by
  show decide ([(v.major : Int), (v.minor : Int)] = [(w.major : Int), (w.minor : Int)]) = _
  by_cases h1 : v.major = w.major
  · by_cases h2 : v.minor = w.minor
    · simp [h1, h2]
    · have : ¬ ((v.minor : Int) = (w.minor : Int)) := by omega
      simp [h1, h2, this]
  · have : ¬ ((v.major : Int) = (w.major : Int)) := by omega
    simp [h1, this]
theorem take_eq1 (v w : Version) : decide ((verL v).take 1 = (verL w).take 1) = (v.major == w.major) := by
  show decide ([(v.major : Int)] = [(w.major : Int)]) = _
  by_cases h1 : v.major = w.major
  · simp [h1]
  · have : ¬ ((v.major : Int) = (w.major : Int)) := by omega
    simp [h1, this]
theorem holds_eq (n : Need) (v : Version) (hk : n.kind ≤ 3) : (!HT.lexLt (verL v) (verL n.from_) && decide ((verL v).take (shareN n) = (verL n.from_).take (shareN n))) = n.holds v := by
  rw [lex_less]
  unfold Need.holds
  congr 1
  obtain ⟨on, k, w⟩ := n
  unfold shareN
  dsimp only at hk ⊢
  match k, hk with
  | 0, _ =>
    rw [if_pos rfl]
    exact take_eq3 v w
  | 1, _ =>
    rw [if_neg (by decide), if_pos rfl]
    exact take_eq2 v w
  | 2, _ =>
    rw [if_neg (by decide), if_neg (by decide), if_pos rfl]
    unfold nz
    by_cases h1 : w.major = 0
    · rw [if_pos h1]
      by_cases h2 : w.minor = 0
      · rw [if_pos h2, take_eq3]
        obtain ⟨a, b, c⟩ := v
        obtain ⟨a', b', c'⟩ := w
        simp only at h1 h2
        subst h1 h2
        show decide ((⟨a, b, c⟩ : Version) = ⟨0, 0, c'⟩) = _
        by_cases g1 : a = 0
        · by_cases g2 : b = 0
          · by_cases g3 : c = c'
            · subst g1 g2 g3
              simp
            · subst g1 g2
              simp [g3]
          · subst g1
            simp [g2]
        · simp [g1]
      · rw [if_neg h2, take_eq2]
        have h3 : (w.minor != 0) = true := by simp [h2]
        simp [h1, h3]
    · rw [if_neg h1, take_eq1]
      simp [h1]
  | 3, _ =>
    rw [if_neg (by decide), if_neg (by decide), if_neg (by decide)]
    simp
end Tg
namespace Tg
open Rp09 (Version Need Package)
/-! ### versions in their order -/
theorem less_irr (v : Version) : v.less v = false := by
  unfold Version.less
  simp
theorem less_iff (v w : Version) : v.less w = true ↔ (v.major < w.major ∨ (v.major = w.major ∧ (v.minor < w.minor ∨ (v.minor = w.minor ∧ v.patch < w.patch)))) := by
  unfold Version.less
  simp
theorem less_false (v w : Version) : v.less w = false ↔ ¬ (v.major < w.major ∨ (v.major = w.major ∧ (v.minor < w.minor ∨ (v.minor = w.minor ∧ v.patch < w.patch)))) := by
  rw [← less_iff]
  cases v.less w <;> simp
theorem less_anti {v w : Version} (h1 : v.less w = false) (h2 : w.less v = false) : v = w := by
  rw [less_false] at h1 h2
  obtain ⟨a, b, c⟩ := v
  obtain ⟨a', b', c'⟩ := w
  simp only at h1 h2
  have e1 : a = a' := by omega
  have e2 : b = b' := by omega
  have e3 : c = c' := by omega
  rw [e1, e2, e3]
theorem less_trans_f {u v w : Version} (h1 : u.less v = false) (h2 : v.less w = false) : u.less w = false := by
  rw [less_false] at h1 h2 ⊢
  omega
theorem less_asym {v w : Version} (h : v.less w = true) : w.less v = false := by
  rw [less_iff] at h
  rw [less_false]
  omega
abbrev pick (a b : Version) : Version := if a.less b = true then b else a
theorem fold_top : ∀ (l : List Version) (v : Version), (l.foldl pick v = v ∨ l.foldl pick v ∈ l) ∧ (l.foldl pick v).less v = false ∧ ∀ y ∈ l, (l.foldl pick v).less y = false
  | [], v => ⟨.inl rfl, less_irr v, fun y h => absurd h (by simp)⟩
  | x :: l, v => by
    obtain ⟨h1, h2, h3⟩ := fold_top l (pick v x)
    have e : (x :: l).foldl pick v = l.foldl pick (pick v x) := rfl
    rw [e]
    cases c : v.less x with
    | true =>
      have ep : pick v x = x := if_pos c
      rw [ep] at h1 h2 h3 ⊢
      refine ⟨?_, less_trans_f h2 (less_asym c), fun y hy => ?_⟩
      · rcases h1 with z | z
        · rw [z]
          exact .inr (List.mem_cons_self ..)
        · exact .inr (List.mem_cons_of_mem _ z)
      · rcases List.mem_cons.mp hy with z | z
        · rw [z]
          exact h2
        · exact h3 y z
    | false =>
      have ep : pick v x = v := if_neg (by rw [c]; decide)
      rw [ep] at h1 h2 h3 ⊢
      refine ⟨?_, h2, fun y hy => ?_⟩
      · rcases h1 with z | z
        · exact .inl z
        · exact .inr (List.mem_cons_of_mem _ z)
      · rcases List.mem_cons.mp hy with z | z
        · rw [z]
          exact less_trans_f h2 c
        · exact h3 y z
/-- the greatest, wherever one starts within -/
theorem top_eq {x : Version} {xs : List Version} {v : Version} (hv : v ∈ x :: xs) : xs.foldl pick x = Rp09.top (x :: xs) v := by
  obtain ⟨a1, a2, a3⟩ := fold_top xs x
  obtain ⟨b1, b2, b3⟩ := fold_top (x :: xs) v
  have e : Rp09.top (x :: xs) v = (x :: xs).foldl pick v := rfl
  rw [e]
  have ma : xs.foldl pick x ∈ x :: xs := by
    rcases a1 with z | z
    · rw [z]
      exact List.mem_cons_self ..
    · exact List.mem_cons_of_mem _ z
  have mb : (x :: xs).foldl pick v ∈ x :: xs := by
    rcases b1 with z | z
    · rw [z]
      exact hv
    · exact z
  refine less_anti ?_ (b3 _ ma)
  rcases List.mem_cons.mp mb with z | z
  · rw [z]
    exact a2
  · exact a3 _ z
/-! ### the greatest of numbers -/
theorem most_ge : ∀ (l : List Nat) (a : Nat), a ≤ l.foldl max a ∧ ∀ y ∈ l, y ≤ l.foldl max a
  | [], a => ⟨Nat.le_refl _, fun y h => absurd h (by simp)⟩
  | x :: l, a => by
    obtain ⟨h1, h2⟩ := most_ge l (max a x)
    refine ⟨Nat.le_trans (Nat.le_max_left a x) h1, fun y hy => ?_⟩
    rcases List.mem_cons.mp hy with z | z
    · rw [z]
      exact Nat.le_trans (Nat.le_max_right a x) h1
    · exact h2 y z
theorem most_le : ∀ (l : List Nat) (a k : Nat), a ≤ k → (∀ y ∈ l, y ≤ k) → l.foldl max a ≤ k
  | [], a, k, h, _ => h
  | x :: l, a, k, h, hl => most_le l (max a x) k (Nat.max_le.mpr ⟨h, hl x (List.mem_cons_self ..)⟩) fun y hy => hl y (List.mem_cons_of_mem _ hy)
theorem most_mem : ∀ (l : List Nat) (a : Nat), l.foldl max a = a ∨ l.foldl max a ∈ l
  | [], a => .inl rfl
  | x :: l, a => by
    rcases most_mem l (max a x) with z | z
    · by_cases c : x ≤ a
      · have e : max a x = a := Nat.max_eq_left c
        rw [e] at z
        exact .inl (by show l.foldl max (max a x) = a; rw [e]; exact z)
      · have e : max a x = x := Nat.max_eq_right (by omega)
        rw [e] at z
        exact .inr (by show l.foldl max (max a x) ∈ x :: l; rw [e, z]; exact List.mem_cons_self ..)
    · exact .inr (List.mem_cons_of_mem _ z)
/-! ### mates -/
theorem mates_mem {t : List Package} {p q : Nat} : q ∈ Rp09.mates t p ↔ q < t.length ∧ (q = p ∨ ((Rp09.at_ t p).group ≠ 0 ∧ (Rp09.at_ t q).group = (Rp09.at_ t p).group)) := by
  unfold Rp09.mates
  rw [List.mem_filter, List.mem_range]
  simp
theorem mates_self {t : List Package} {p : Nat} (h : p < t.length) : p ∈ Rp09.mates t p := mates_mem.mpr ⟨h, .inl rfl⟩
theorem filter_one : ∀ {n p : Nat}, p < n → (List.range n).filter (fun q => q == p) = [p]
  | 0, p, h => absurd h (by omega)
  | n + 1, p, h => by
    rw [List.range_succ, List.filter_append]
    by_cases c : p = n
    · subst c
      have e : (List.range p).filter (fun q => q == p) = [] := by
        rw [List.filter_eq_nil_iff]
        intro a ha
        have := List.mem_range.mp ha
        simp
        omega
      rw [e]
      simp
    · rw [filter_one (n := n) (by omega)]
      have : (n == p) = false := by simp; omega
      simp [this]
theorem mates_zero {t : List Package} {p : Nat} (h : p < t.length) (hg : (Rp09.at_ t p).group = 0) : Rp09.mates t p = [p] := by
  unfold Rp09.mates
  rw [← filter_one h]
  apply List.filter_congr
  intro q _
  simp [hg]
theorem mates_grp {t : List Package} {p : Nat} (hg : ¬ (Rp09.at_ t p).group = 0) : Rp09.mates t p = (List.range t.length).filter fun q => decide ((Rp09.at_ t q).group = (Rp09.at_ t p).group) := by
  unfold Rp09.mates
  apply List.filter_congr
  intro q _
  by_cases c : q = p
  · subst c
    simp
  · have : (q == p) = false := by simp [c]
    rw [this]
    by_cases d : (Rp09.at_ t q).group = (Rp09.at_ t p).group
    · simp [hg, d]
    · simp [d]
theorem at_some {t : List Package} {p : Nat} {x : Package} (h : t[p]? = some x) : Rp09.at_ t p = x := by
  unfold Rp09.at_
  rw [List.getD_eq_getElem?_getD, h] <;> rfl
/-! ### the levels -/
structure TreeOk (t : List Package) (nl : List Nat) : Prop where
  len : t.length ≤ 6
  needs : ∀ p ∈ t, p.needs.length ≤ 4 ∧ ∀ n ∈ p.needs, n.on < t.length ∧ n.kind ≤ 3
  notes : ∀ p ∈ t, p.notes.length ≤ nl.length ∧ ∀ x ∈ p.notes, nl[x.1]? = some x.2 ∧ 1 ≤ x.2 ∧ x.2 ≤ 3
  nl : nl.length ≤ 30
/-- levels that a house may have -/
structure LevOk (t : List Package) (l : List Nat) : Prop where
  len : l.length = t.length
  le : ∀ y ∈ l, y ≤ 3
theorem LevOk.get {t : List Package} {l : List Nat} (h : LevOk t l) {p : Nat} (hp : p < t.length) : l[p]? = some (l.getD p 0) := by
  rw [List.getD_eq_getElem?_getD, List.getElem?_eq_getElem (by rw [h.len]; exact hp)] <;> rfl
theorem LevOk.at_le {t : List Package} {l : List Nat} (h : LevOk t l) (p : Nat) : l.getD p 0 ≤ 3 := by
  rw [List.getD_eq_getElem?_getD]
  cases e : l[p]? with
  | none => exact Nat.zero_le _
  | some x => exact h.le x (List.mem_of_getElem? e)
def lost (t : List Package) (l : List Nat) (p : Nat) : Bool := (Rp09.at_ t p).needs.any fun n => !n.holds (Rp09.next t l n.on)
def differ (t : List Package) (p : Nat) : Bool := (Rp09.mates t p).any fun q => (Rp09.at_ t q).version != (Rp09.at_ t p).version
/-- what the program puts together, and its greatest -/
def askList (t : List Package) (l : List Nat) (p : Nat) : List Nat := (Rp09.mates t p).map (fun q => l.getD q 0) ++ (Rp09.at_ t p).notes.map (fun x => x.2) ++ (if lost t l p = true then [1] else []) ++ (if differ t p = true then [1] else [])
theorem asks_unfold (t : List Package) (l : List Nat) (p : Nat) : Rp09.asks t l p = Rp09.most ([Rp09.most ((Rp09.at_ t p).notes.map fun x => x.2), if lost t l p = true then 1 else 0, if differ t p = true then 1 else 0] ++ (Rp09.mates t p).map fun q => l.getD q 0) := rfl
theorem asked_max {t : List Package} {l : List Nat} {p : Nat} (hp : p < t.length) : (max (l.getD p 0) (Rp09.asks t l p)) ∈ askList t l p ∧ ∀ y ∈ askList t l p, y ≤ max (l.getD p 0) (Rp09.asks t l p) := by
  have hself : l.getD p 0 ∈ (Rp09.mates t p).map (fun q => l.getD q 0) := List.mem_map.mpr ⟨p, mates_self hp, rfl⟩
  have ub : ∀ y ∈ askList t l p, y ≤ Rp09.asks t l p := fun y hy => by
    rw [asks_unfold]
    have big := (most_ge ([Rp09.most ((Rp09.at_ t p).notes.map fun x => x.2), if lost t l p = true then 1 else 0, if differ t p = true then 1 else 0] ++ (Rp09.mates t p).map fun q => l.getD q 0) 0).2
    unfold askList at hy
    rcases List.mem_append.mp hy with h | h
    · rcases List.mem_append.mp h with h | h
      · rcases List.mem_append.mp h with h | h
        · exact big y (List.mem_append.mpr (.inr h))
        · exact Nat.le_trans ((most_ge _ 0).2 y h) (big _ (List.mem_append.mpr (.inl (List.mem_cons_self ..))))
      · cases c : lost t l p with
        | true =>
          rw [c] at h
          have e : y = 1 := by simpa using h
          have := big (if lost t l p = true then 1 else 0) (by simp)
          rw [c] at this
          rw [e]
          exact this
        | false =>
          rw [c] at h
          simp at h
    · cases c : differ t p with
      | true =>
        rw [c] at h
        have e : y = 1 := by simpa using h
        have := big (if differ t p = true then 1 else 0) (by simp)
        rw [c] at this
        rw [e]
        exact this
      | false =>
        rw [c] at h
        simp at h
  have hl : l.getD p 0 ≤ Rp09.asks t l p := ub _ (by
    unfold askList
    exact List.mem_append.mpr (.inl (List.mem_append.mpr (.inl (List.mem_append.mpr (.inl hself))))))
  rw [Nat.max_eq_right hl]
  refine ⟨?_, ub⟩
  -- the greatest of the program's list
  have hm : ∃ m, m ∈ askList t l p ∧ ∀ y ∈ askList t l p, y ≤ m := by
    refine ⟨(askList t l p).foldl max 0, ?_, fun y hy => (most_ge _ 0).2 y hy⟩
    rcases most_mem (askList t l p) 0 with z | z
    · have h0 : l.getD p 0 ∈ askList t l p := by
        unfold askList
        exact List.mem_append.mpr (.inl (List.mem_append.mpr (.inl (List.mem_append.mpr (.inl hself)))))
      have : l.getD p 0 ≤ (askList t l p).foldl max 0 := (most_ge _ 0).2 _ h0
      have e : l.getD p 0 = 0 := by omega
      rw [z, ← e]
      exact h0
    · exact z
  obtain ⟨m, m1, m2⟩ := hm
  have e : Rp09.asks t l p = m := by
    refine Nat.le_antisymm ?_ (ub m m1)
    rw [asks_unfold]
    refine most_le _ 0 m (Nat.zero_le _) fun y hy => ?_
    rcases List.mem_append.mp hy with h | h
    · rcases List.mem_cons.mp h with h | h
      · rw [h]
        refine most_le _ 0 m (Nat.zero_le _) fun z hz => m2 z ?_
        unfold askList
        exact List.mem_append.mpr (.inl (List.mem_append.mpr (.inl (List.mem_append.mpr (.inr hz)))))
      · rcases List.mem_cons.mp h with h | h
        · cases c : lost t l p with
          | true =>
            rw [c] at h
            rw [h]
            refine m2 1 ?_
            unfold askList
            rw [c]
            simp
          | false =>
            rw [c] at h
            rw [h]
            exact Nat.zero_le _
        · have h' : y = if differ t p = true then 1 else 0 := by simpa using h
          cases c : differ t p with
          | true =>
            rw [c] at h'
            rw [h']
            refine m2 1 ?_
            unfold askList
            rw [c]
            simp
          | false =>
            rw [c] at h'
            rw [h']
            exact Nat.zero_le _
    · refine m2 y ?_
      unfold askList
      exact List.mem_append.mpr (.inl (List.mem_append.mpr (.inl (List.mem_append.mpr (.inl h)))))
  rw [e]
  exact m1
theorem round_len (t : List Package) (l : List Nat) : (Rp09.round t l).length = t.length := by
  unfold Rp09.round
  rw [List.length_map, List.length_range]
theorem round_at {t : List Package} {l : List Nat} {p : Nat} (hp : p < t.length) : (Rp09.round t l)[p]? = some (max (l.getD p 0) (Rp09.asks t l p)) := by
  unfold Rp09.round
  rw [List.getElem?_map, List.getElem?_range hp] <;> rfl
theorem round_ok {t : List Package} {nl l : List Nat} (T : TreeOk t nl) (L : LevOk t l) : LevOk t (Rp09.round t l) := by
  refine ⟨round_len t l, fun y hy => ?_⟩
  unfold Rp09.round at hy
  obtain ⟨p, hp, rfl⟩ := List.mem_map.mp hy
  have hp := List.mem_range.mp hp
  obtain ⟨h1, _⟩ := asked_max (l := l) hp
  have hx : ∃ x, t[p]? = some x := ⟨_, List.getElem?_eq_getElem hp⟩
  obtain ⟨x, hx⟩ := hx
  unfold askList at h1
  rcases List.mem_append.mp h1 with h | h
  · rcases List.mem_append.mp h with h | h
    · rcases List.mem_append.mp h with h | h
      · obtain ⟨q, _, e⟩ := List.mem_map.mp h
        rw [← e]
        exact L.at_le q
      · obtain ⟨q, hq, e⟩ := List.mem_map.mp h
        rw [at_some hx] at hq
        rw [← e]
        exact ((T.notes x (List.mem_of_getElem? hx)).2 q hq).2.2
    · cases c : lost t l p with
      | true =>
        rw [c] at h
        have e : max (l.getD p 0) (Rp09.asks t l p) = 1 := by simpa using h
        rw [e]
        decide
      | false =>
        rw [c] at h
        simp at h
  · cases c : differ t p with
    | true =>
      rw [c] at h
      have e : max (l.getD p 0) (Rp09.asks t l p) = 1 := by simpa using h
      rw [e]
      decide
    | false =>
      rw [c] at h
      simp at h
theorem times_succ {α : Type} (f : α → α) : ∀ (n : Nat) (x : α), Rp09.times f (n + 1) x = f (Rp09.times f n x)
  | 0, _ => rfl
  | n + 1, x => by
    show Rp09.times f (n + 1) (f x) = f (Rp09.times f n (f x))
    exact times_succ f n (f x)
theorem times_fix {α : Type} {f : α → α} {x : α} (h : f x = x) : ∀ n, Rp09.times f n x = x
  | 0 => rfl
  | n + 1 => by
    show Rp09.times f n (f x) = x
    rw [h]
    exact times_fix h n
theorem times_add {α : Type} (f : α → α) (x : α) : ∀ (n m : Nat), Rp09.times f (m + n) x = Rp09.times f n (Rp09.times f m x)
  | 0, m => rfl
  | n + 1, m => by
    rw [← Nat.add_assoc, times_succ, times_succ, times_add f x n m]
/-- one list below another: their sums -/
theorem sum_lt : ∀ {l m : List Nat}, l.length = m.length → (∀ i, l.getD i 0 ≤ m.getD i 0) → (l.sum ≤ m.sum ∧ (l ≠ m → l.sum < m.sum))
  | [], [], _, _ => ⟨Nat.le_refl _, fun h => absurd rfl h⟩
  | [], _ :: _, h, _ => by cases h
  | _ :: _, [], h, _ => by cases h
  | a :: l, b :: m, h, hi => by
    have h0 : a ≤ b := hi 0
    obtain ⟨h1, h2⟩ := sum_lt (l := l) (m := m) (Nat.succ.inj h) fun i => hi (i + 1)
    rw [List.sum_cons, List.sum_cons]
    refine ⟨by omega, fun hne => ?_⟩
    by_cases c : a = b
    · subst c
      have := h2 fun e => hne (by rw [e])
      omega
    · omega
theorem sum_le3 : ∀ {l : List Nat}, (∀ y ∈ l, y ≤ 3) → l.sum ≤ 3 * l.length
  | [], _ => Nat.zero_le _
  | a :: l, h => by
    have h1 := h a (List.mem_cons_self ..)
    have h2 := sum_le3 (l := l) fun y hy => h y (List.mem_cons_of_mem _ hy)
    rw [List.sum_cons, List.length_cons]
    omega
theorem round_grows {t : List Package} {l : List Nat} (L : LevOk t l) : (Rp09.round t l ≠ l) → l.sum < (Rp09.round t l).sum := fun hne => by
  refine (sum_lt (by rw [L.len, round_len]) fun i => ?_).2 (fun e => hne e.symm)
  by_cases hi : i < t.length
  · have e : (Rp09.round t l).getD i 0 = max (l.getD i 0) (Rp09.asks t l i) := by rw [List.getD_eq_getElem?_getD, round_at hi] <;> rfl
    rw [e]
    exact Nat.le_max_left _ _
  · have e : l.getD i 0 = 0 := by rw [List.getD_eq_getElem?_getD, List.getElem?_eq_none (by rw [L.len]; omega)] <;> rfl
    rw [e]
    exact Nat.zero_le _
/-- the turns of the program's loop -/
structure Turn (t : List Package) (i : Nat) (l : List Nat) : Prop where
  eq : l = Rp09.times (Rp09.round t) i (List.replicate t.length 0)
  ok : LevOk t l
  sum : i ≤ l.sum
theorem turn0 (t : List Package) : Turn t 0 (List.replicate t.length 0) := ⟨rfl, ⟨List.length_replicate, fun y hy => by rw [(List.mem_replicate.mp hy).2]; decide⟩, Nat.zero_le _⟩
theorem Turn.next {t : List Package} {nl : List Nat} {i : Nat} {l : List Nat} (T : TreeOk t nl) (h : Turn t i l) (hne : Rp09.round t l ≠ l) : Turn t (i + 1) (Rp09.round t l) := by
  refine ⟨by rw [times_succ, ← h.eq], round_ok T h.ok, ?_⟩
  have := round_grows h.ok hne
  have := h.sum
  omega
theorem Turn.done {t : List Package} {i : Nat} {l : List Nat} (h : Turn t i l) (he : Rp09.round t l = l) : l = Rp09.levels t := by
  have hs := sum_le3 h.ok.le
  rw [h.ok.len] at hs
  have hi : i ≤ 4 * t.length := by have := h.sum; omega
  unfold Rp09.levels
  rw [show 4 * t.length = i + (4 * t.length - i) by omega, times_add, ← h.eq, times_fix he]
end Tg
namespace Tg
open Rp09 (Version Need Package)
theorem rising_iff : ∀ l : List Nat, Rp09.rising l = true ↔ ∀ i, i + 1 < l.length → l.getD i 0 < l.getD (i + 1) 0
  | [] => by
    constructor
    · intro _ i hi
      exact absurd hi (by show ¬ i + 1 < 0; omega)
    · intro _
      rfl
  | [a] => by
    constructor
    · intro _ i hi
      exact absurd hi (by show ¬ i + 1 < 1; omega)
    · intro _
      rfl
  | a :: b :: r => by
    have ih := rising_iff (b :: r)
    have e : Rp09.rising (a :: b :: r) = (decide (a < b) && Rp09.rising (b :: r)) := rfl
    rw [e, Bool.and_eq_true, ih, decide_eq_true_eq]
    constructor
    · rintro ⟨h1, h2⟩ i hi
      cases i with
      | zero => exact h1
      | succ i => exact h2 i (by simpa using hi)
    · intro h
      exact ⟨h 0 (by simp), fun i hi => h (i + 1) (by simpa using hi)⟩
def formed (t : List Package) (n : Need) : Bool := decide (n.on < t.length) && (decide (n.kind ≤ 3) && Rp09.small n.from_.major n.from_.minor n.from_.patch)
theorem small_iff (a b c : Nat) : Rp09.small a b c = true ↔ a ≤ 1000 ∧ b ≤ 1000 ∧ c ≤ 1000 := by
  unfold Rp09.small Rp09.BIG
  simp
def fitsIn (t : List Package) (v : Version) (g : Nat) (ns : List Need) : Bool := (ns.all fun n => n.holds (Rp09.at_ t n.on).version) && (decide (g = 0) || (t.filter fun x => decide (x.group = g)).all fun x => decide (x.version = v))
/-- what package answers ahead of all else; 0: it goes through -/
def refP (t : List Package) (pl : Nat) (v : Version) (g : Nat) (ns : List Need) : Int := if Rp09.small v.major v.minor v.patch = false ∨ 1000 < g ∨ 4 < ns.length then -1 else if 0 < pl then -3 else if 6 ≤ t.length then -7 else
  if (ns.all (formed t) && Rp09.rising (ns.map fun n => n.on)) = false then -2 else if fitsIn t v g ns = false then -5 else 0
def refN (t : List Package) (nn : Nat) (n : Nat) (ps : List Nat) : Int := if n < 1 ∨ 3 < n ∨ ps.length = 0 ∨ Rp09.rising ps = false then -1 else if (ps.any fun p => decide (t.length ≤ p)) = true then -2 else if 30 ≤ nn then -7 else 0
def toldL (ss : List Rp09.Step) : List Nat := ss.length :: ss.flatMap fun s => s.pkg :: s.level :: Rp09.numbers s.version
end Tg
namespace Tg
open Rp09 (Version Need Package)
/-! ### what holds of every state besides: what's out is whole, no version comes out twice -/
structure More (S : Rp09.House) : Prop where
  pl : ∀ s ∈ S.plan, s.pkg < S.tree.length ∧ (∀ m ∈ s.needs, m.on < S.tree.length ∧ m.kind ≤ 3) ∧ (Rp09.at_ S.tree s.pkg).version.less s.version = true ∧ s.notes.length ≤ 30
  pd : (S.plan.map fun s => s.pkg).Nodup
  pn : ∀ s ∈ S.plan, ∀ m ∈ s.needs, (∀ s' ∈ S.plan, s'.pkg = m.on → m.holds s'.version = true) ∧ ((∀ s' ∈ S.plan, s'.pkg ≠ m.on) → m.holds (Rp09.at_ S.tree m.on).version = true)
  on : ∀ o ∈ S.out, o.needs.length ≤ 4 ∧ (∀ m ∈ o.needs, m.on < S.tree.length ∧ m.kind ≤ 3) ∧ o.notes.length ≤ 30
  oc : ∀ p, p < S.tree.length → ∃ o ∈ S.out, o.pkg = p ∧ o.version = (Rp09.at_ S.tree p).version ∧ o.gone = false
  ol : ∀ o ∈ S.out, (Rp09.at_ S.tree o.pkg).version.less o.version = false
  od : (S.out.map fun o => (o.pkg, o.version)).Nodup
  wh : ∀ o ∈ S.out, o.gone = false → ∀ m ∈ o.needs, ∃ x ∈ S.out, x.pkg = m.on ∧ x.gone = false ∧ m.holds x.version = true
theorem more_init : More Rp09.init := by
  refine ⟨?_, ?_, ?_, ?_, ?_, ?_, ?_, ?_⟩ <;> simp [Rp09.init]
end Tg
namespace Tg
open Rp09 (Version Need Package)
/-- what holds of every state that calls bring about (c: how many calls at most) -/
structure SOk (S : Rp09.House) (nl : List Nat) (c : Nat) : Prop where
  tree : TreeOk S.tree nl
  cnt : S.count = nl.length
  plan : S.plan.length ≤ 6 ∧ ∀ s ∈ S.plan, s.needs.length ≤ 4
  out : S.out.length ≤ c
  outp : ∀ o ∈ S.out, o.pkg < S.tree.length
  more : More S
theorem SOk.up {S : Rp09.House} {nl : List Nat} {c : Nat} (h : SOk S nl c) : SOk S nl (c + 1) := ⟨h.tree, h.cnt, h.plan, Nat.le_succ_of_le h.out, h.outp, h.more⟩
theorem sok_init (c : Nat) : SOk Rp09.init [] c := ⟨⟨Nat.zero_le _, fun p h => absurd h (by simp [Rp09.init]), fun p h => absurd h (by simp [Rp09.init]), Nat.zero_le _⟩, rfl, ⟨Nat.zero_le _, fun s h => absurd h (by simp [Rp09.init])⟩, Nat.zero_le _, fun o h => absurd h (by simp [Rp09.init]), more_init⟩
theorem steps_ok {t : List Package} {nl : List Nat} (T : TreeOk t nl) : (Rp09.steps t).length ≤ 6 ∧ ∀ s ∈ Rp09.steps t, s.needs.length ≤ 4 := by
  unfold Rp09.steps
  dsimp only
  refine ⟨?_, fun s hs => ?_⟩
  · rw [List.length_map]
    have := List.length_filter_le (fun p => (Rp09.levels t).getD p 0 != 0) (List.range t.length)
    rw [List.length_range] at this
    have := T.len
    omega
  · obtain ⟨p, hp, rfl⟩ := List.mem_map.mp hs
    show ((Rp09.at_ t p).needs.map _).length ≤ 4
    rw [List.length_map]
    have hp := List.mem_range.mp (List.mem_filter.mp hp).1
    have hm : Rp09.at_ t p ∈ t := by
      rw [at_some (List.getElem?_eq_getElem hp)]
      exact List.getElem_mem hp
    exact (T.needs _ hm).1
/-- a need as it is handed over -/
def rowOf (n : Need) : List Nat := [n.on, n.kind, n.from_.major, n.from_.minor, n.from_.patch]
theorem needs_rows (t : List Package) : ∀ ns : List Need, Rp09.needs? t.length (ns.map rowOf) = if ns.all (formed t) = true then some ns else none
  | [] => rfl
  | n :: ns => by
    have ih := needs_rows t ns
    obtain ⟨q, k, ⟨a, b, c⟩⟩ := n
    rw [List.map_cons]
    show Rp09.needs? t.length ([q, k, a, b, c] :: ns.map rowOf) = _
    unfold Rp09.needs?
    rw [ih]
    by_cases h : q < t.length ∧ k ≤ 3 ∧ Rp09.small a b c = true
    · rw [if_pos h, List.all_cons]
      have hf : formed t ⟨q, k, ⟨a, b, c⟩⟩ = true := by
        unfold formed
        simp [h.1, h.2.1, h.2.2]
      rw [hf, Bool.true_and]
      split <;> rfl
    · rw [if_neg h, List.all_cons]
      have hf : formed t ⟨q, k, ⟨a, b, c⟩⟩ = false := by
        cases e : formed t ⟨q, k, ⟨a, b, c⟩⟩ with
        | false => rfl
        | true =>
          unfold formed at e
          simp only [Bool.and_eq_true, decide_eq_true_eq] at e
          exact absurd ⟨e.1, e.2.1, e.2.2⟩ h
      rw [hf, Bool.false_and]
      rfl
theorem fits_spec (t : List Package) (v : Version) (g : Nat) (ns : List Need) : fitsIn t v g ns = false ↔ ((ns.all fun n => n.holds (Rp09.at_ t n.on).version) = false ∨ (t.any fun x => g != 0 && (x.group == g && x.version != v)) = true) := by
  unfold fitsIn
  rw [Bool.and_eq_false_iff]
  refine or_congr Iff.rfl ?_
  by_cases hg : g = 0
  · subst hg
    simp
  · have : (decide (g = 0)) = false := decide_eq_false hg
    rw [this, Bool.false_or]
    constructor
    · intro h
      rw [List.all_eq_false] at h
      obtain ⟨x, hx, hx2⟩ := h
      obtain ⟨h1, h2⟩ := List.mem_filter.mp hx
      refine List.any_eq_true.mpr ⟨x, h1, ?_⟩
      have h2 := of_decide_eq_true h2
      have h3 : ¬ x.version = v := fun z => hx2 (decide_eq_true z)
      simp [hg, h2, h3]
    · intro h
      obtain ⟨x, hx, hx2⟩ := List.any_eq_true.mp h
      rw [List.all_eq_false]
      simp only [Bool.and_eq_true, beq_iff_eq, bne_iff_ne] at hx2
      exact ⟨x, List.mem_filter.mpr ⟨hx, decide_eq_true hx2.2.1⟩, fun z => hx2.2.2 (of_decide_eq_true z)⟩
abbrev pkgAdd (S : Rp09.House) (v : Version) (g : Nat) (ns : List Need) : Rp09.House := { S with tree := S.tree ++ [⟨v, g, ns, []⟩], out := S.out ++ [⟨S.tree.length, v, ns, [], false⟩] }
theorem pkg_ref {S : Rp09.House} {nl : List Nat} {cc : Nat} {a b c g : Nat} {ns : List Need} (ok : SOk S nl cc) : (refP S.tree S.plan.length ⟨a, b, c⟩ g ns ≠ 0 → Rp09.step S (.package a b c g (ns.map rowOf)) = (S, Rp09.ok (refP S.tree S.plan.length ⟨a, b, c⟩ g ns))) ∧
    (refP S.tree S.plan.length ⟨a, b, c⟩ g ns = 0 → S.plan = [] ∧ S.tree.length < 6 ∧ ns.length ≤ 4 ∧ (∀ n ∈ ns, n.on < S.tree.length ∧ n.kind ≤ 3) ∧ (∀ n ∈ ns, n.holds (Rp09.at_ S.tree n.on).version = true) ∧ Rp09.step S (.package a b c g (ns.map rowOf)) = (pkgAdd S ⟨a, b, c⟩ g ns, Rp09.ok (S.tree.length : Nat))) := by
  have h6 := ok.tree.len
  have e : Rp09.step S (.package a b c g (ns.map rowOf)) = (if Rp09.small a b c = false ∨ Rp09.BIG < g ∨ Rp09.NEEDS < (ns.map rowOf).length then (S, Rp09.ok (-1)) else if S.plan ≠ [] then (S, Rp09.ok (-3)) else if S.tree.length = Rp09.PACKAGES then (S, Rp09.ok (-7)) else match Rp09.needs? S.tree.length (ns.map rowOf) with
    | none => (S, Rp09.ok (-2))
    | some l => if Rp09.rising (l.map fun n => n.on) = false then (S, Rp09.ok (-2)) else if (l.all fun n => n.holds (Rp09.at_ S.tree n.on).version) = false ∨ (S.tree.any fun x => g != 0 && (x.group == g && x.version != ⟨a, b, c⟩)) = true then (S, Rp09.ok (-5)) else
      (pkgAdd S ⟨a, b, c⟩ g l, Rp09.ok (S.tree.length : Nat))) := rfl
  rw [e, List.length_map]
  unfold refP
  dsimp only
  by_cases c1 : Rp09.small a b c = false ∨ 1000 < g ∨ 4 < ns.length
  · rw [if_pos c1, if_pos (show Rp09.small a b c = false ∨ Rp09.BIG < g ∨ Rp09.NEEDS < ns.length from c1)]
    exact ⟨fun _ => rfl, fun h => by cases h⟩
  · rw [if_neg c1, if_neg (show ¬ (Rp09.small a b c = false ∨ Rp09.BIG < g ∨ Rp09.NEEDS < ns.length) from c1)]
    by_cases c2 : S.plan = []
    · have hp0 : S.plan.length = 0 := by rw [c2] <;> rfl
      rw [if_neg (by omega : ¬ 0 < S.plan.length), if_neg (show ¬ S.plan ≠ [] from fun z => z c2)]
      by_cases c3 : 6 ≤ S.tree.length
      · rw [if_pos c3, if_pos (show S.tree.length = Rp09.PACKAGES by show S.tree.length = 6; omega)]
        exact ⟨fun _ => rfl, fun h => by cases h⟩
      · rw [if_neg c3, if_neg (show ¬ S.tree.length = Rp09.PACKAGES from fun z => c3 (by have : S.tree.length = 6 := z; omega)), needs_rows]
        cases hf : ns.all (formed S.tree) with
        | false =>
          rw [Bool.false_and, if_pos rfl, if_neg Bool.false_ne_true]
          exact ⟨fun _ => rfl, fun h => by cases h⟩
        | true =>
          rw [Bool.true_and, if_pos rfl]
          dsimp only
          cases hr : Rp09.rising (ns.map fun n => n.on) with
          | false =>
            rw [if_pos rfl, if_pos rfl]
            exact ⟨fun _ => rfl, fun h => by cases h⟩
          | true =>
            rw [if_neg (show ¬ true = false by decide), if_neg (show ¬ true = false by decide)]
            cases hq : fitsIn S.tree ⟨a, b, c⟩ g ns with
            | false =>
              rw [if_pos rfl, if_pos ((fits_spec _ _ _ _).mp hq)]
              exact ⟨fun _ => rfl, fun h => by cases h⟩
            | true =>
              rw [if_neg (show ¬ true = false by decide), if_neg (fun z => by rw [(fits_spec _ _ _ _).mpr z] at hq; cases hq)]
              refine ⟨fun h => absurd rfl h, fun _ => ⟨c2, by omega, by omega, fun n hn => ?_, fun n hn => ?_, rfl⟩⟩
              rotate_left
              · unfold fitsIn at hq
                exact List.all_eq_true.mp (Bool.and_eq_true_iff.mp hq).1 n hn
              have := List.all_eq_true.mp hf n hn
              unfold formed at this
              simp only [Bool.and_eq_true, decide_eq_true_eq] at this
              exact ⟨this.1, this.2.1⟩
    · have hp0 : 0 < S.plan.length := List.length_pos_iff.mpr c2
      rw [if_pos hp0, if_pos c2]
      exact ⟨fun _ => rfl, fun h => by cases h⟩
/-- a call's answer as it is told -/
def ansL (S : Rp09.House) (c : Rp09.Call) : List Int := Rp09Neutral.out (Rp09.step S c).2
/-- notes put where they wait -/
def noted (t : List Package) (ps : List Nat) (x : Nat × Nat) : List Package := (List.range t.length).map fun p => if ps.contains p = true then { Rp09.at_ t p with notes := (Rp09.at_ t p).notes ++ [x] } else Rp09.at_ t p
theorem noted_len (t : List Package) (ps : List Nat) (x : Nat × Nat) : (noted t ps x).length = t.length := by
  unfold noted
  rw [List.length_map, List.length_range]
theorem noted_at {t : List Package} {ps : List Nat} {x : Nat × Nat} {p : Nat} (hp : p < t.length) : Rp09.at_ (noted t ps x) p = if ps.contains p = true then { Rp09.at_ t p with notes := (Rp09.at_ t p).notes ++ [x] } else Rp09.at_ t p := by
  refine at_some ?_
  unfold noted
  rw [List.getElem?_map, List.getElem?_range hp] <;> rfl
theorem at_getElem {t : List Package} {i : Nat} (h : i < t.length) : t[i]? = some (Rp09.at_ t i) := by
  rw [List.getElem?_eq_getElem h]
  exact congrArg some (at_some (List.getElem?_eq_getElem h)).symm
theorem at_mem {t : List Package} {i : Nat} (h : i < t.length) : Rp09.at_ t i ∈ t := List.mem_of_getElem? (at_getElem h)
theorem noted_ok {t : List Package} {nl : List Nat} {ps : List Nat} {n : Nat} (T : TreeOk t nl) (h1 : 1 ≤ n) (h3 : n ≤ 3) (hl : nl.length < 30) : TreeOk (noted t ps (nl.length, n)) (nl ++ [n]) := by
  have key : ∀ p ∈ noted t ps (nl.length, n), ∃ i, i < t.length ∧ p = if ps.contains i = true then { Rp09.at_ t i with notes := (Rp09.at_ t i).notes ++ [(nl.length, n)] } else Rp09.at_ t i := fun p hp => by
    unfold noted at hp
    obtain ⟨i, hi, e⟩ := List.mem_map.mp hp
    exact ⟨i, List.mem_range.mp hi, e.symm⟩
  refine ⟨by rw [noted_len]; exact T.len, fun p hp => ?_, fun p hp => ?_, by rw [List.length_append, List.length_singleton]; omega⟩
  · obtain ⟨i, hi, e⟩ := key p hp
    have := T.needs _ (at_mem hi)
    rw [noted_len, e]
    split <;> exact this
  · obtain ⟨i, hi, e⟩ := key p hp
    obtain ⟨g1, g2⟩ := T.notes _ (at_mem hi)
    have old : ∀ x ∈ (Rp09.at_ t i).notes, (nl ++ [n])[x.1]? = some x.2 ∧ 1 ≤ x.2 ∧ x.2 ≤ 3 := fun x hx => by
      obtain ⟨k1, k2⟩ := g2 x hx
      refine ⟨?_, k2⟩
      rw [List.getElem?_append_left (List.getElem?_eq_some_iff.mp k1).1]
      exact k1
    rw [e]
    split
    · refine ⟨by show ((Rp09.at_ t i).notes ++ [(nl.length, n)]).length ≤ _; rw [List.length_append, List.length_append, List.length_singleton, List.length_singleton]; omega, fun x hx => ?_⟩
      rcases List.mem_append.mp hx with h | h
      · exact old x h
      · rw [List.mem_singleton.mp h]
        refine ⟨?_, h1, h3⟩
        show (nl ++ [n])[nl.length]? = some n
        simp
    · refine ⟨?_, old⟩
      rw [List.length_append]
      omega
end Tg
namespace Tg
open Rp09 (Version Need Package)
theorem holds_self (n : Need) (v : Version) : ({ n with from_ := v } : Need).holds v = true := by
  obtain ⟨on, k, w⟩ := n
  unfold Need.holds
  dsimp only
  rw [less_irr]
  match k with
  | 0 => simp
  | 1 => simp
  | 2 => simp
  | k + 3 => rfl
theorem moved_holds (n : Need) (v : Version) : (if n.holds v = true then n else { n with from_ := v } : Need).holds v = true := by
  by_cases h : n.holds v = true
  · rw [if_pos h]
    exact h
  · rw [if_neg h]
    exact holds_self n v
theorem raised_gt {v : Version} {k : Nat} (h : k ≠ 0) : v.less (v.raised k) = true := by
  obtain ⟨a, b, c⟩ := v
  rw [less_iff]
  unfold Version.raised
  rw [if_neg h]
  dsimp only
  by_cases h0 : a = 0
  · rw [if_pos h0]
    by_cases h3 : 3 ≤ k
    · rw [if_pos h3]
      dsimp only
      omega
    · rw [if_neg h3]
      dsimp only
      omega
  · rw [if_neg h0]
    by_cases h3 : 3 ≤ k
    · rw [if_pos h3]
      dsimp only
      omega
    · rw [if_neg h3]
      by_cases h2 : k = 2
      · rw [if_pos h2]
        dsimp only
        omega
      · rw [if_neg h2]
        dsimp only
        omega
theorem less_trans_le {u v w : Version} (h1 : v.less u = false) (h2 : v.less w = true) : u.less w = true := by
  rw [less_false] at h1
  rw [less_iff] at h2 ⊢
  omega
theorem highest_ge (t : List Package) (p : Nat) : (Rp09.highest t p).less (Rp09.at_ t p).version = false := (fold_top ((Rp09.mates t p).map fun q => (Rp09.at_ t q).version) (Rp09.at_ t p).version).2.1
theorem next_gt {t : List Package} {l : List Nat} {p : Nat} (h : l.getD p 0 ≠ 0) : (Rp09.at_ t p).version.less (Rp09.next t l p) = true := by
  unfold Rp09.next
  rw [if_neg h]
  exact less_trans_le (highest_ge t p) (raised_gt h)
theorem steps_mem {t : List Package} {s : Rp09.Step} (h : s ∈ Rp09.steps t) : ∃ p, p < t.length ∧ (Rp09.levels t).getD p 0 ≠ 0 ∧ s = ⟨p, (Rp09.levels t).getD p 0, Rp09.next t (Rp09.levels t) p, (Rp09.at_ t p).needs.map (fun n => if n.holds (Rp09.next t (Rp09.levels t) n.on) = true then n else { n with from_ := Rp09.next t (Rp09.levels t) n.on }), (Rp09.at_ t p).notes.map fun x => x.1⟩ := by
  unfold Rp09.steps at h
  dsimp only at h
  obtain ⟨p, hp, rfl⟩ := List.mem_map.mp h
  obtain ⟨h1, h2⟩ := List.mem_filter.mp hp
  exact ⟨p, List.mem_range.mp h1, by simpa using h2, rfl⟩
theorem more_plan {S : Rp09.House} {nl : List Nat} (M : More S) (T : TreeOk S.tree nl) : More { S with plan := Rp09.steps S.tree } := by
  have key : ∀ s ∈ Rp09.steps S.tree, ∀ m ∈ s.needs, m.on < S.tree.length ∧ m.kind ≤ 3 ∧ m.holds (Rp09.next S.tree (Rp09.levels S.tree) m.on) = true := fun s hs m hm => by
    obtain ⟨p, hp, hl, rfl⟩ := steps_mem hs
    obtain ⟨n, hn, rfl⟩ := List.mem_map.mp hm
    obtain ⟨_, h2⟩ := T.needs _ (at_mem hp)
    have h3 := h2 n hn
    have e : (if n.holds (Rp09.next S.tree (Rp09.levels S.tree) n.on) = true then n else { n with from_ := Rp09.next S.tree (Rp09.levels S.tree) n.on } : Need).on = n.on := by split <;> rfl
    have e2 : (if n.holds (Rp09.next S.tree (Rp09.levels S.tree) n.on) = true then n else { n with from_ := Rp09.next S.tree (Rp09.levels S.tree) n.on } : Need).kind = n.kind := by split <;> rfl
    refine ⟨by rw [e]; exact h3.1, by rw [e2]; exact h3.2, ?_⟩
    rw [e]
    exact moved_holds n _
  refine ⟨fun s hs => ?_, ?_, fun s hs m hm => ?_, M.on, M.oc, M.ol, M.od, M.wh⟩
  · obtain ⟨p, hp, hl, e⟩ := steps_mem hs
    refine ⟨by rw [e]; exact hp, fun m hm => ⟨(key s hs m hm).1, (key s hs m hm).2.1⟩, by rw [e]; exact next_gt hl, ?_⟩
    rw [e]
    show ((Rp09.at_ S.tree p).notes.map _).length ≤ 30
    rw [List.length_map]
    have h1 := (T.notes _ (at_mem hp)).1
    have h2 := T.nl
    omega
  · show ((Rp09.steps S.tree).map fun s => s.pkg).Nodup
    unfold Rp09.steps
    dsimp only
    rw [List.map_map]
    have : ((fun s : Rp09.Step => s.pkg) ∘ fun p => (⟨p, (Rp09.levels S.tree).getD p 0, Rp09.next S.tree (Rp09.levels S.tree) p, (Rp09.at_ S.tree p).needs.map (fun n => if n.holds (Rp09.next S.tree (Rp09.levels S.tree) n.on) = true then n else { n with from_ := Rp09.next S.tree (Rp09.levels S.tree) n.on }), (Rp09.at_ S.tree p).notes.map fun x => x.1⟩ : Rp09.Step)) = id := rfl
    rw [this, List.map_id]
    exact List.Nodup.sublist List.filter_sublist List.nodup_range
  · obtain ⟨k1, k2, k3⟩ := key s hs m hm
    refine ⟨fun s' hs' he => ?_, fun hno => ?_⟩
    · obtain ⟨p', hp', hl', e'⟩ := steps_mem hs'
      have ep : p' = m.on := by
        rw [e'] at he
        exact he
      rw [e']
      show m.holds (Rp09.next S.tree (Rp09.levels S.tree) p') = true
      rw [ep]
      exact k3
    · have h0 : (Rp09.levels S.tree).getD m.on 0 = 0 := by
        by_cases c : (Rp09.levels S.tree).getD m.on 0 = 0
        · exact c
        · exfalso
          refine hno (⟨m.on, (Rp09.levels S.tree).getD m.on 0, Rp09.next S.tree (Rp09.levels S.tree) m.on, (Rp09.at_ S.tree m.on).needs.map (fun n => if n.holds (Rp09.next S.tree (Rp09.levels S.tree) n.on) = true then n else { n with from_ := Rp09.next S.tree (Rp09.levels S.tree) n.on }), (Rp09.at_ S.tree m.on).notes.map fun x => x.1⟩) ?_ rfl
          show _ ∈ Rp09.steps S.tree
          unfold Rp09.steps
          dsimp only
          exact List.mem_map.mpr ⟨m.on, List.mem_filter.mpr ⟨List.mem_range.mpr k1, bne_iff_ne.mpr c⟩, rfl⟩
      have e : Rp09.next S.tree (Rp09.levels S.tree) m.on = (Rp09.at_ S.tree m.on).version := by
        unfold Rp09.next
        rw [if_pos h0]
      rw [e] at k3
      exact k3
theorem more_note {S : Rp09.House} (M : More S) {ps : List Nat} {x : Nat × Nat} (hout : ∀ o ∈ S.out, o.pkg < S.tree.length) : More { S with count := S.count + 1, tree := noted S.tree ps x } := by
  have hl := noted_len S.tree ps x
  have hv : ∀ p, p < S.tree.length → (Rp09.at_ (noted S.tree ps x) p).version = (Rp09.at_ S.tree p).version := fun p hp => by
    rw [noted_at hp]
    split <;> rfl
  refine ⟨fun s hs => ?_, M.pd, fun s hs m hm => ?_, fun o ho => ?_, fun p hp => ?_, fun o ho => ?_, M.od, M.wh⟩
  · obtain ⟨h1, h2, h3, h4⟩ := M.pl s hs
    refine ⟨?_, fun m hm => ?_, ?_, h4⟩
    · show s.pkg < (noted S.tree ps x).length
      rw [hl]
      exact h1
    · show m.on < (noted S.tree ps x).length ∧ _
      rw [hl]
      exact h2 m hm
    · show (Rp09.at_ (noted S.tree ps x) s.pkg).version.less s.version = true
      rw [hv _ h1]
      exact h3
  · obtain ⟨h1, h2⟩ := M.pn s hs m hm
    refine ⟨h1, fun hno => ?_⟩
    show m.holds (Rp09.at_ (noted S.tree ps x) m.on).version = true
    rw [hv _ ((M.pl s hs).2.1 m hm).1]
    exact h2 hno
  · obtain ⟨h1, h2, h3⟩ := M.on o ho
    refine ⟨h1, fun m hm => ?_, h3⟩
    show m.on < (noted S.tree ps x).length ∧ _
    rw [hl]
    exact h2 m hm
  · have hp : p < (noted S.tree ps x).length := hp
    rw [hl] at hp
    obtain ⟨o, h1, h2, h3, h4⟩ := M.oc p hp
    refine ⟨o, h1, h2, ?_, h4⟩
    show o.version = (Rp09.at_ (noted S.tree ps x) p).version
    rw [hv _ hp]
    exact h3
  · show (Rp09.at_ (noted S.tree ps x) o.pkg).version.less o.version = false
    rw [hv _ (hout o ho)]
    exact M.ol o ho
theorem at_app_lt {t : List Package} {x : Package} {i : Nat} (h : i < t.length) : Rp09.at_ (t ++ [x]) i = Rp09.at_ t i := by
  rw [at_some (t := t ++ [x]) (x := Rp09.at_ t i)]
  rw [List.getElem?_append_left h]
  exact at_getElem h
theorem at_app_eq {t : List Package} {x : Package} : Rp09.at_ (t ++ [x]) t.length = x := at_some (by simp)
theorem more_pkg {S : Rp09.House} (M : More S) {v : Version} {g : Nat} {ns : List Need} (hp : S.plan = []) (hout : ∀ o ∈ S.out, o.pkg < S.tree.length) (h4 : ns.length ≤ 4) (hn : ∀ n ∈ ns, n.on < S.tree.length ∧ n.kind ≤ 3) (hh : ∀ n ∈ ns, n.holds (Rp09.at_ S.tree n.on).version = true) : More (pkgAdd S v g ns) := by
  have hl : (S.tree ++ [(⟨v, g, ns, []⟩ : Package)]).length = S.tree.length + 1 := by rw [List.length_append, List.length_singleton]
  have hno : ∀ s ∈ (pkgAdd S v g ns).plan, False := fun s hs => by
    have hs : s ∈ S.plan := hs
    rw [hp] at hs
    cases hs
  refine ⟨fun s hs => (hno s hs).elim, M.pd, fun s hs => (hno s hs).elim, fun o ho => ?_, fun p hp2 => ?_, fun o ho => ?_, ?_, fun o ho hg m hm => ?_⟩
  · show _ ∧ (∀ m ∈ o.needs, m.on < (S.tree ++ [(⟨v, g, ns, []⟩ : Package)]).length ∧ _) ∧ _
    rw [hl]
    rcases List.mem_append.mp ho with h | h
    · obtain ⟨h1, h2, h3⟩ := M.on o h
      exact ⟨h1, fun m hm => ⟨Nat.lt_succ_of_lt (h2 m hm).1, (h2 m hm).2⟩, h3⟩
    · rw [List.mem_singleton.mp h]
      exact ⟨h4, fun m hm => ⟨Nat.lt_succ_of_lt (hn m hm).1, (hn m hm).2⟩, Nat.zero_le _⟩
  · have hp2 : p < (S.tree ++ [(⟨v, g, ns, []⟩ : Package)]).length := hp2
    rw [hl] at hp2
    show ∃ o ∈ S.out ++ [_], o.pkg = p ∧ o.version = (Rp09.at_ (S.tree ++ [_]) p).version ∧ o.gone = false
    by_cases c : p < S.tree.length
    · obtain ⟨o, k1, k2, k3, k4⟩ := M.oc p c
      exact ⟨o, List.mem_append.mpr (.inl k1), k2, by rw [at_app_lt c]; exact k3, k4⟩
    · have e : p = S.tree.length := by omega
      subst e
      exact ⟨_, List.mem_append.mpr (.inr (List.mem_singleton.mpr rfl)), rfl, by rw [at_app_eq], rfl⟩
  · show (Rp09.at_ (S.tree ++ [_]) o.pkg).version.less o.version = false
    rcases List.mem_append.mp ho with h | h
    · rw [at_app_lt (hout o h)]
      exact M.ol o h
    · rw [List.mem_singleton.mp h, at_app_eq]
      exact less_irr _
  · show ((S.out ++ [_]).map _).Nodup
    rw [List.map_append, List.nodup_append]
    refine ⟨M.od, by simp, fun a ha b hb => ?_⟩
    obtain ⟨o, ho, rfl⟩ := List.mem_map.mp ha
    have hb : b = (S.tree.length, v) := by simpa using hb
    rw [hb]
    intro z
    have := hout o ho
    have : o.pkg = S.tree.length := (Prod.mk.inj z).1
    omega
  · show ∃ x ∈ S.out ++ [_], _
    rcases List.mem_append.mp ho with h | h
    · obtain ⟨x, k1, k2⟩ := M.wh o h hg m hm
      exact ⟨x, List.mem_append.mpr (.inl k1), k2⟩
    · rw [List.mem_singleton.mp h] at hm
      have hm : m ∈ ns := hm
      obtain ⟨x, k1, k2, k3, k4⟩ := M.oc m.on (hn m hm).1
      exact ⟨x, List.mem_append.mpr (.inl k1), k2, k4, by rw [k3]; exact hh m hm⟩
/-- a package's step is out -/
abbrev outSt (S : Rp09.House) (p : Nat) (s : Rp09.Step) : Rp09.House := { S with plan := S.plan.filter fun x => x.pkg != p, out := S.out ++ [⟨p, s.version, s.needs, s.notes, false⟩], tree := S.tree.set p ⟨s.version, (Rp09.at_ S.tree p).group, s.needs, (Rp09.at_ S.tree p).notes.filter fun x => !s.notes.contains x.1⟩ }
theorem at_set_ne {t : List Package} {x : Package} {i p : Nat} (h : i ≠ p) : Rp09.at_ (t.set p x) i = Rp09.at_ t i := by
  unfold Rp09.at_
  rw [List.getD_eq_getElem?_getD, List.getD_eq_getElem?_getD, List.getElem?_set_ne (fun z => h z.symm)]
theorem at_set_eq {t : List Package} {x : Package} {p : Nat} (h : p < t.length) : Rp09.at_ (t.set p x) p = x := at_some (List.getElem?_set_self h)
theorem less_ne {v w : Version} (h : v.less w = true) : v ≠ w := fun z => by
  rw [z, less_irr] at h
  cases h
theorem more_out {S : Rp09.House} (M : More S) {p : Nat} {s : Rp09.Step} (hs : s ∈ S.plan) (hp : s.pkg = p) (h4 : s.needs.length ≤ 4) (hr : ∀ m ∈ s.needs, ∀ s' ∈ S.plan, s'.pkg ≠ m.on) (hout : ∀ o ∈ S.out, o.pkg < S.tree.length) : More (outSt S p s) := by
  obtain ⟨p1, p2, p3, p4⟩ := M.pl s hs
  subst hp
  have hl : ∀ {x : Package}, (S.tree.set s.pkg x).length = S.tree.length := List.length_set ..
  refine ⟨fun s' hs' => ?_, ?_, fun s' hs' m hm => ?_, fun o ho => ?_, fun q hq => ?_, fun o ho => ?_, ?_, fun o ho hg m hm => ?_⟩
  · obtain ⟨h1, h2⟩ := List.mem_filter.mp hs'
    have h2 : s'.pkg ≠ s.pkg := by simpa using h2
    obtain ⟨k1, k2, k3, k4⟩ := M.pl s' h1
    refine ⟨?_, fun m hm => ?_, ?_, k4⟩
    · show s'.pkg < (S.tree.set s.pkg _).length
      rw [hl]
      exact k1
    · show m.on < (S.tree.set s.pkg _).length ∧ _
      rw [hl]
      exact k2 m hm
    · show (Rp09.at_ (S.tree.set s.pkg _) s'.pkg).version.less s'.version = true
      rw [at_set_ne h2]
      exact k3
  · show ((S.plan.filter fun x => x.pkg != s.pkg).map fun s => s.pkg).Nodup
    exact List.Nodup.sublist (List.Sublist.map _ List.filter_sublist) M.pd
  · obtain ⟨h1, h2⟩ := List.mem_filter.mp hs'
    obtain ⟨k1, k2⟩ := M.pn s' h1 m hm
    refine ⟨fun s'' hs'' he => k1 s'' (List.mem_filter.mp hs'').1 he, fun hno => ?_⟩
    show m.holds (Rp09.at_ (S.tree.set s.pkg _) m.on).version = true
    by_cases c : m.on = s.pkg
    · rw [c, at_set_eq p1]
      exact k1 s hs c.symm
    · rw [at_set_ne c]
      refine k2 fun s'' hs'' he => ?_
      refine hno s'' (List.mem_filter.mpr ⟨hs'', ?_⟩) he
      rw [he]
      simp [c]
  · show _ ∧ (∀ m ∈ o.needs, m.on < (S.tree.set s.pkg _).length ∧ _) ∧ _
    rw [hl]
    rcases List.mem_append.mp ho with h | h
    · exact M.on o h
    · rw [List.mem_singleton.mp h]
      exact ⟨h4, p2, p4⟩
  · have hq : q < (S.tree.set s.pkg _).length := hq
    rw [hl] at hq
    show ∃ o ∈ S.out ++ [_], o.pkg = q ∧ o.version = (Rp09.at_ (S.tree.set s.pkg _) q).version ∧ o.gone = false
    by_cases c : q = s.pkg
    · subst c
      exact ⟨_, List.mem_append.mpr (.inr (List.mem_singleton.mpr rfl)), rfl, by rw [at_set_eq p1], rfl⟩
    · obtain ⟨o, k1, k2, k3, k4⟩ := M.oc q hq
      exact ⟨o, List.mem_append.mpr (.inl k1), k2, by rw [at_set_ne c]; exact k3, k4⟩
  · show (Rp09.at_ (S.tree.set s.pkg _) o.pkg).version.less o.version = false
    rcases List.mem_append.mp ho with h | h
    · by_cases c : o.pkg = s.pkg
      · rw [c, at_set_eq p1]
        have h1 := M.ol o h
        rw [c] at h1
        exact less_asym (less_trans_le h1 p3)
      · rw [at_set_ne c]
        exact M.ol o h
    · rw [List.mem_singleton.mp h, at_set_eq p1]
      exact less_irr _
  · show ((S.out ++ [_]).map _).Nodup
    rw [List.map_append, List.nodup_append]
    refine ⟨M.od, by simp, fun a ha b hb => ?_⟩
    obtain ⟨o, ho, rfl⟩ := List.mem_map.mp ha
    have hb : b = (s.pkg, s.version) := by simpa using hb
    rw [hb]
    intro z
    obtain ⟨z1, z2⟩ := Prod.mk.inj z
    have h1 := M.ol o ho
    rw [z1] at h1
    exact less_ne (less_trans_le h1 p3) z2
  · show ∃ x ∈ S.out ++ [_], _
    rcases List.mem_append.mp ho with h | h
    · obtain ⟨x, k1, k2⟩ := M.wh o h hg m hm
      exact ⟨x, List.mem_append.mpr (.inl k1), k2⟩
    · rw [List.mem_singleton.mp h] at hm
      have hm : m ∈ s.needs := hm
      obtain ⟨x, k1, k2, k3, k4⟩ := M.oc m.on (p2 m hm).1
      exact ⟨x, List.mem_append.mpr (.inl k1), k2, k4, by rw [k3]; exact (M.pn s hs m hm).2 (hr m hm)⟩
theorem more_drop {S : Rp09.House} (M : More S) : More { S with plan := [] } := ⟨fun s hs => absurd hs (List.not_mem_nil), List.nodup_nil, fun s hs => absurd hs (List.not_mem_nil), M.on, M.oc, M.ol, M.od, M.wh⟩
/-- a version is withdrawn -/
abbrev yankSt (S : Rp09.House) (o : Rp09.Out) : Rp09.House := { S with out := S.out.map fun x => if x = o then { x with gone := true } else x }
theorem nodup_one {α : Type} {o : α} : ∀ {l : List α}, l ≠ [] → l.Nodup → (∀ x ∈ l, x = o) → l = [o]
  | [], h, _, _ => absurd rfl h
  | [a], _, _, h => by rw [h a (List.mem_cons_self ..)]
  | a :: b :: r, _, hd, h => by
    have h1 := h a (List.mem_cons_self ..)
    have h2 := h b (List.mem_cons_of_mem _ (List.mem_cons_self ..))
    rw [h1, h2] at hd
    simp at hd
theorem out_nodup {l : List Rp09.Out} (h : (l.map fun o => (o.pkg, o.version)).Nodup) : l.Nodup := by
  induction l with
  | nil => simp
  | cons a r ih =>
    rw [List.map_cons, List.nodup_cons] at h
    rw [List.nodup_cons]
    exact ⟨fun z => h.1 (List.mem_map.mpr ⟨a, z, rfl⟩), ih h.2⟩
theorem more_yank {S : Rp09.House} (M : More S) {o : Rp09.Out} (ho : o ∈ S.out) (hg : o.gone = false) (ht : (Rp09.at_ S.tree o.pkg).version ≠ o.version) (hn : S.needed o = false) : More (yankSt S o) := by
  have same : ∀ x : Rp09.Out, (if x = o then { x with gone := true } else x : Rp09.Out).pkg = x.pkg ∧ (if x = o then { x with gone := true } else x : Rp09.Out).version = x.version ∧ (if x = o then { x with gone := true } else x : Rp09.Out).needs = x.needs ∧ (if x = o then { x with gone := true } else x : Rp09.Out).notes = x.notes := fun x => by
    split <;> exact ⟨rfl, rfl, rfl, rfl⟩
  refine ⟨M.pl, M.pd, M.pn, fun x hx => ?_, fun p hp => ?_, fun x hx => ?_, ?_, fun x hx hxg m hm => ?_⟩
  · obtain ⟨y, hy, rfl⟩ := List.mem_map.mp hx
    obtain ⟨_, _, e3, e4⟩ := same y
    rw [e3, e4]
    exact M.on y hy
  · obtain ⟨y, h1, h2, h3, h4⟩ := M.oc p hp
    have hne : y ≠ o := fun z => ht (by rw [← z, h2]; exact h3.symm)
    refine ⟨y, List.mem_map.mpr ⟨y, h1, if_neg hne⟩, h2, h3, h4⟩
  · obtain ⟨y, hy, rfl⟩ := List.mem_map.mp hx
    obtain ⟨e1, e2, _, _⟩ := same y
    rw [e1, e2]
    exact M.ol y hy
  · show ((S.out.map _).map _).Nodup
    rw [List.map_map]
    have : ((fun o : Rp09.Out => (o.pkg, o.version)) ∘ fun x => if x = o then { x with gone := true } else x) = fun o => (o.pkg, o.version) := by
      funext x
      obtain ⟨e1, e2, _, _⟩ := same x
      show (_, _) = (_, _)
      rw [e1, e2]
    rw [this]
    exact M.od
  · obtain ⟨y, hy, rfl⟩ := List.mem_map.mp hx
    have hyo : y ≠ o := fun z => by
      rw [if_pos z] at hxg
      cases hxg
    rw [if_neg hyo] at hxg hm
    -- what is found for m is not o alone
    obtain ⟨z, z1, z2, z3, z4⟩ := M.wh y hy hxg m hm
    have hheld : S.held m ≠ [o] := fun e => by
      unfold Rp09.House.needed at hn
      have := List.any_eq_false.mp hn y hy
      simp only [hxg, Bool.not_false, Bool.true_and] at this
      refine this (List.any_eq_true.mpr ⟨m, hm, ?_⟩)
      rw [e]
      simp
    have hz : z ∈ S.held m := by
      unfold Rp09.House.held
      exact List.mem_filter.mpr ⟨z1, by simp [z2, z3, z4]⟩
    have hnd : (S.held m).Nodup := List.Nodup.sublist List.filter_sublist (out_nodup M.od)
    obtain ⟨u, hu, huo⟩ : ∃ u ∈ S.held m, u ≠ o := by
      cases Classical.em (∃ u ∈ S.held m, u ≠ o) with
      | inl h => exact h
      | inr h =>
        exfalso
        refine hheld (nodup_one (fun e => by rw [e] at hz; cases hz) hnd fun x hx => ?_)
        cases Classical.em (x = o) with
        | inl k => exact k
        | inr k => exact absurd ⟨x, hx, k⟩ h
    unfold Rp09.House.held at hu
    obtain ⟨u1, u2⟩ := List.mem_filter.mp hu
    simp only [Bool.and_eq_true, beq_iff_eq, Bool.not_eq_true'] at u2
    exact ⟨u, List.mem_map.mpr ⟨u, u1, if_neg huo⟩, u2.1, u2.2.1, u2.2.2⟩
theorem pkg_ok {S : Rp09.House} {nl : List Nat} {cc : Nat} {v : Version} {g : Nat} {ns : List Need} (ok : SOk S nl cc) (h6 : S.tree.length < 6) (h4 : ns.length ≤ 4) (hn : ∀ n ∈ ns, n.on < S.tree.length ∧ n.kind ≤ 3) (hpl : S.plan = []) (hh : ∀ n ∈ ns, n.holds (Rp09.at_ S.tree n.on).version = true) : SOk (pkgAdd S v g ns) nl (cc + 1) := by
  have hl : (S.tree ++ [(⟨v, g, ns, []⟩ : Package)]).length = S.tree.length + 1 := by rw [List.length_append, List.length_singleton]
  refine ⟨⟨by show (S.tree ++ [(⟨v, g, ns, []⟩ : Package)]).length ≤ 6; omega, fun p hp => ?_, fun p hp => ?_, ok.tree.nl⟩, ok.cnt, ok.plan, ?_, fun o ho => ?_, more_pkg ok.more hpl ok.outp h4 hn hh⟩
  · show _ ∧ ∀ n ∈ p.needs, n.on < (S.tree ++ [(⟨v, g, ns, []⟩ : Package)]).length ∧ _
    rw [hl]
    rcases List.mem_append.mp hp with h | h
    · obtain ⟨h1, h2⟩ := ok.tree.needs p h
      exact ⟨h1, fun n hn => ⟨Nat.lt_succ_of_lt (h2 n hn).1, (h2 n hn).2⟩⟩
    · rw [List.mem_singleton.mp h]
      exact ⟨h4, fun n h => ⟨Nat.lt_succ_of_lt (hn n h).1, (hn n h).2⟩⟩
  · rcases List.mem_append.mp hp with h | h
    · exact ok.tree.notes p h
    · rw [List.mem_singleton.mp h]
      exact ⟨Nat.zero_le _, fun x hx => absurd hx (by simp)⟩
  · show (S.out ++ [_]).length ≤ cc + 1
    rw [List.length_append, List.length_singleton]
    have := ok.out
    omega
  · show o.pkg < (S.tree ++ [(⟨v, g, ns, []⟩ : Package)]).length
    rw [hl]
    rcases List.mem_append.mp ho with h | h
    · exact Nat.lt_succ_of_lt (ok.outp o h)
    · rw [List.mem_singleton.mp h]
      exact Nat.lt_succ_self _
end Tg
namespace Tg
open Rp09 (Version Need Package)
theorem played_cons (S : Rp09.House) (c : List (List Int)) (r : List (List (List Int))) : PyFlat.told (PyFlat.played Rp09Neutral.step S (c :: r)) = (((Rp09Neutral.step S c).2.length : Int) :: (Rp09Neutral.step S c).2) ++ PyFlat.told (PyFlat.played Rp09Neutral.step (Rp09Neutral.step S c).1 r) := by
  show PyFlat.told ((Rp09Neutral.step S c).2 :: PyFlat.played Rp09Neutral.step (Rp09Neutral.step S c).1 r) = _
  unfold PyFlat.told
  rw [List.flatMap_cons]
theorem told_many : ∀ (cs : List (List (List Int))) (S : Rp09.House), (PyFlat.told (PyFlat.played Rp09Neutral.step S cs)).length = cs.length + Rp09Neutral.many S cs
  | [], _ => rfl
  | c :: r, S => by
    rw [played_cons, List.length_append, told_many r, List.length_cons, List.length_cons]
    show (Rp09Neutral.step S c).2.length + 1 + (r.length + Rp09Neutral.many (Rp09Neutral.step S c).1 r) = r.length + 1 + ((Rp09Neutral.step S c).2.length + Rp09Neutral.many (Rp09Neutral.step S c).1 r)
    omega
theorem asked_parts {ns : List Int} (h : PyRp09.answers_asked ns = true) : ∃ cs, PyRp09.calls ns = some cs ∧ (∀ c ∈ cs, Rp09Neutral.asked1 c = true) ∧ cs.length ≤ 60 ∧ PyRp09.answers ns = PyFlat.told (PyFlat.played Rp09Neutral.step Rp09Neutral.start cs) ∧ (PyRp09.answers ns).length ≤ 1000060 := by
  unfold PyRp09.answers_asked at h
  cases e : PyRp09.calls ns with
  | none =>
    rw [e] at h
    cases h
  | some cs =>
    rw [e] at h
    have ea : PyRp09.answers ns = PyFlat.told (PyFlat.played Rp09Neutral.step Rp09Neutral.start cs) := by
      unfold PyRp09.answers
      rw [e]
    simp only [Bool.and_eq_true] at h
    obtain ⟨⟨_, h4⟩, h5⟩ := h
    unfold Rp09Neutral.asked at h4
    simp only [Bool.and_eq_true, decide_eq_true_eq] at h4
    obtain ⟨k1, k2, k3, k4⟩ := h4
    refine ⟨cs, rfl, fun c hc => List.all_eq_true.mp k1 c hc, k3, ea, ?_⟩
    rw [ea, told_many]
    omega
theorem asked_head {c : List (List Int)} (h : Rp09Neutral.asked1 c = true) : ∃ q w xs, c = (q :: w) :: xs := by
  unfold Rp09Neutral.asked1 at h
  split at h <;> first | exact ⟨_, _, _, rfl⟩ | cases h
theorem asked_begins {q : Int} {w : List Int} {xs : List (List Int)} (h : Rp09Neutral.asked1 ((q :: w) :: xs) = true) (hq : q = 0) : w = [] ∧ xs = [] := by
  subst hq
  unfold Rp09Neutral.asked1 at h
  split at h
  · rename_i e
    simp only [List.cons.injEq] at e
    exact ⟨e.1.2, e.2⟩
  all_goals first | (exfalso; simp_all; done) | cases h
theorem step_begins (S : Rp09.House) : Rp09Neutral.step S [[0]] = (Rp09.init, [0]) := rfl
end Tg
namespace Tg
open Rp09 (Version Need Package)
/-! ### what is out, package by package -/
/-- what is out of a package, in its order -/
def outs (S : Rp09.House) (i : Nat) : List Rp09.Out := S.out.filter fun o => o.pkg == i
/-- .. and is not withdrawn -/
def lefts (S : Rp09.House) (i : Nat) : List Rp09.Out := (outs S i).filter fun o => !o.gone
theorem outs_mem {S : Rp09.House} {i : Nat} {o : Rp09.Out} : o ∈ outs S i ↔ o ∈ S.out ∧ o.pkg = i := by
  unfold outs
  rw [List.mem_filter, beq_iff_eq]
theorem lefts_mem {S : Rp09.House} {i : Nat} {o : Rp09.Out} : o ∈ lefts S i ↔ o ∈ S.out ∧ o.pkg = i ∧ o.gone = false := by
  unfold lefts
  rw [List.mem_filter, outs_mem, Bool.not_eq_true', and_assoc]
theorem outs_none {S : Rp09.House} (h : ∀ o ∈ S.out, o.pkg < S.tree.length) {i : Nat} (hi : S.tree.length ≤ i) : outs S i = [] := by
  unfold outs
  rw [List.filter_eq_nil_iff]
  intro o ho hp
  have := h o ho
  have := beq_iff_eq.mp hp
  omega
theorem outs_nodup {S : Rp09.House} (M : More S) (i : Nat) : (outs S i).Nodup := List.Nodup.sublist List.filter_sublist (out_nodup M.od)
theorem outs_len {S : Rp09.House} (i : Nat) : (outs S i).length ≤ S.out.length := List.length_filter_le ..
theorem lefts_len {S : Rp09.House} (i : Nat) : (lefts S i).length ≤ S.out.length := Nat.le_trans (List.length_filter_le ..) (outs_len i)
/-- two of one package and one version are one -/
theorem out_one {S : Rp09.House} (M : More S) {x y : Rp09.Out} (hx : x ∈ S.out) (hy : y ∈ S.out) (hp : x.pkg = y.pkg) (hv : x.version = y.version) : x = y := by
  have key : ∀ {l : List Rp09.Out}, (l.map fun o => (o.pkg, o.version)).Nodup → x ∈ l → y ∈ l → x = y := fun {l} => by
    induction l with
    | nil => intro _ h; cases h
    | cons a r ih =>
      intro hd h1 h2
      rw [List.map_cons, List.nodup_cons] at hd
      have no : ∀ {z w : Rp09.Out}, z = a → w ∈ r → z.pkg = w.pkg → z.version = w.version → False := fun {z w} e hw e1 e2 => by
        subst e
        exact hd.1 (List.mem_map.mpr ⟨w, hw, by rw [e1, e2]⟩)
      rcases List.mem_cons.mp h1 with e1 | m1
      · rcases List.mem_cons.mp h2 with e2 | m2
        · rw [e1, e2]
        · exact (no e1 m2 hp hv).elim
      · rcases List.mem_cons.mp h2 with e2 | m2
        · exact (no e2 m1 hp.symm hv.symm).elim
        · exact ih hd.2 m1 m2
  exact key M.od hx hy
theorem find_some {S : Rp09.House} {p : Nat} {v : Version} {o : Rp09.Out} (h : S.find p v = some o) : o ∈ S.out ∧ o.pkg = p ∧ o.version = v ∧ o.gone = false := by
  unfold Rp09.House.find at h
  have h1 := List.mem_of_find?_eq_some h
  have h2 := List.find?_some h
  simp only [Bool.and_eq_true, beq_iff_eq, Bool.not_eq_true'] at h2
  exact ⟨h1, h2.1, h2.2.1, h2.2.2⟩
theorem find_none {S : Rp09.House} {p : Nat} {v : Version} (h : S.find p v = none) : ∀ o ∈ S.out, o.pkg = p → o.gone = false → o.version ≠ v := fun o ho hp hg hv => by
  unfold Rp09.House.find at h
  have := List.find?_eq_none.mp h o ho
  simp [hp, hg, hv] at this
theorem find_of {S : Rp09.House} (M : More S) {p : Nat} {v : Version} {o : Rp09.Out} (h1 : o ∈ S.out) (h2 : o.pkg = p) (h3 : o.version = v) (h4 : o.gone = false) : S.find p v = some o := by
  cases e : S.find p v with
  | none => exact absurd h3 (find_none e o h1 h2 h4)
  | some x =>
    obtain ⟨k1, k2, k3, k4⟩ := find_some e
    rw [out_one M k1 h1 (k2.trans h2.symm) (k3.trans h3.symm)]
theorem held_eq (S : Rp09.House) (n : Need) : S.held n = (lefts S n.on).filter fun o => n.holds o.version := by
  unfold Rp09.House.held lefts outs
  rw [List.filter_filter, List.filter_filter]
  apply List.filter_congr
  intro o _
  cases (o.pkg == n.on) <;> cases o.gone <;> cases n.holds o.version <;> rfl
/-- the versions that are found for a need -/
def foundL (S : Rp09.House) (n : Need) : List Version := (S.held n).map fun o => o.version
/-- the needs of what is out of a package and is not withdrawn; of the packages below k -/
def needsL (S : Rp09.House) (i : Nat) : List Need := (lefts S i).flatMap fun o => o.needs
def needsAll (S : Rp09.House) (k : Nat) : List Need := (List.range k).flatMap (needsL S)
theorem needsAll_mem {S : Rp09.House} (hout : ∀ o ∈ S.out, o.pkg < S.tree.length) {n : Need} : n ∈ needsAll S S.tree.length ↔ ∃ o ∈ S.out, o.gone = false ∧ n ∈ o.needs := by
  unfold needsAll needsL
  simp only [List.mem_flatMap, List.mem_range, lefts_mem]
  constructor
  · rintro ⟨i, hi, o, ⟨h1, h2, h3⟩, h4⟩
    exact ⟨o, h1, h3, h4⟩
  · rintro ⟨o, h1, h3, h4⟩
    exact ⟨o.pkg, hout o h1, o, ⟨h1, rfl, h3⟩, h4⟩
theorem held_one {S : Rp09.House} (M : More S) {o : Rp09.Out} (ho : o ∈ S.out) (hg : o.gone = false) (n : Need) : S.held n = [o] ↔ n.on = o.pkg ∧ foundL S n = [o.version] := by
  have hm : ∀ x ∈ S.held n, x ∈ S.out ∧ x.pkg = n.on ∧ x.gone = false := fun x hx => by
    rw [held_eq] at hx
    exact lefts_mem.mp (List.mem_filter.mp hx).1
  unfold foundL
  constructor
  · intro h
    have := hm o (by rw [h]; exact List.mem_singleton.mpr rfl)
    exact ⟨this.2.1.symm, by rw [h] <;> rfl⟩
  · rintro ⟨h1, h2⟩
    cases e : S.held n with
    | nil =>
      rw [e] at h2
      cases h2
    | cons x r =>
      cases r with
      | nil =>
        rw [e] at h2
        have hv : x.version = o.version := (List.cons.inj h2).1
        have := hm x (by rw [e]; exact List.mem_singleton.mpr rfl)
        rw [out_one M this.1 ho (this.2.1.trans h1) hv]
      | cons y r =>
        rw [e] at h2
        cases (List.cons.inj h2).2
theorem needed_eq {S : Rp09.House} (M : More S) (hout : ∀ o ∈ S.out, o.pkg < S.tree.length) {o : Rp09.Out} (ho : o ∈ S.out) (hg : o.gone = false) : S.needed o = (needsAll S S.tree.length).any fun n => decide ((n.on : Int) = (o.pkg : Int)) && decide (foundL S n = [o.version]) := by
  apply Bool.eq_iff_iff.mpr
  unfold Rp09.House.needed
  simp only [List.any_eq_true, Bool.and_eq_true, Bool.not_eq_true', beq_iff_eq, decide_eq_true_eq]
  constructor
  · rintro ⟨x, h1, h2, n, h3, h4⟩
    obtain ⟨k1, k2⟩ := (held_one M ho hg n).mp h4
    exact ⟨n, (needsAll_mem hout).mpr ⟨x, h1, h2, h3⟩, by rw [k1], k2⟩
  · rintro ⟨n, h1, h2, h3⟩
    obtain ⟨x, k1, k2, k3⟩ := (needsAll_mem hout).mp h1
    exact ⟨x, k1, k2, n, k3, (held_one M ho hg n).mpr ⟨Int.ofNat.inj h2, h3⟩⟩
/-- what yank answers ahead of all else; 0: it goes through -/
def refY (S : Rp09.House) (p : Nat) (v : Version) : Int := match S.find p v with
  | none => -2
  | some o => if (Rp09.at_ S.tree p).version = o.version then -4 else if S.needed o = true then -6 else 0
theorem yank_step (S : Rp09.House) (p a b c : Nat) : Rp09.step S (.yank p a b c) = match S.find p ⟨a, b, c⟩ with
    | none => (S, Rp09.ok (-2))
    | some o => if (Rp09.at_ S.tree p).version = o.version then (S, Rp09.ok (-4)) else if S.needed o = true then (S, Rp09.ok (-6)) else (yankSt S o, Rp09.ok 0) := rfl
theorem yank_ref (S : Rp09.House) (p a b c : Nat) : (refY S p ⟨a, b, c⟩ ≠ 0 → Rp09.step S (.yank p a b c) = (S, Rp09.ok (refY S p ⟨a, b, c⟩))) ∧
    (refY S p ⟨a, b, c⟩ = 0 → ∃ o, S.find p ⟨a, b, c⟩ = some o ∧ (Rp09.at_ S.tree p).version ≠ o.version ∧ S.needed o = false ∧ Rp09.step S (.yank p a b c) = (yankSt S o, Rp09.ok 0)) := by
  rw [yank_step]
  unfold refY
  cases S.find p ⟨a, b, c⟩ with
  | none => exact ⟨fun _ => rfl, fun h => by cases h⟩
  | some o =>
    dsimp only
    by_cases c1 : (Rp09.at_ S.tree p).version = o.version
    · rw [if_pos c1, if_pos c1]
      exact ⟨fun _ => rfl, fun h => by cases h⟩
    · rw [if_neg c1, if_neg c1]
      cases c2 : S.needed o with
      | true => exact ⟨fun _ => rfl, fun h => by cases h⟩
      | false => exact ⟨fun h => absurd rfl h, fun _ => ⟨o, rfl, c1, c2, rfl⟩⟩
abbrev markG (o : Rp09.Out) (x : Rp09.Out) : Rp09.Out := if x = o then { x with gone := true } else x
theorem markG_pkg (o x : Rp09.Out) : (markG o x).pkg = x.pkg := by
  unfold markG
  split <;> rfl
theorem outs_yank (S : Rp09.House) (o : Rp09.Out) (i : Nat) : outs (yankSt S o) i = (outs S i).map (markG o) := by
  unfold outs
  show (S.out.map (markG o)).filter _ = _
  rw [List.filter_map]
  congr 1
  apply List.filter_congr
  intro x _
  show ((markG o x).pkg == i) = (x.pkg == i)
  rw [markG_pkg]
theorem yank_ok {S : Rp09.House} {nl : List Nat} {c : Nat} {o : Rp09.Out} (ok : SOk S nl c) (ho : o ∈ S.out) (hg : o.gone = false) (ht : (Rp09.at_ S.tree o.pkg).version ≠ o.version) (hn : S.needed o = false) : SOk (yankSt S o) nl (c + 1) := by
  refine ⟨ok.tree, ok.cnt, ok.plan, ?_, fun x hx => ?_, more_yank ok.more ho hg ht hn⟩
  · show (S.out.map _).length ≤ c + 1
    rw [List.length_map]
    exact Nat.le_succ_of_le ok.out
  · obtain ⟨y, hy, rfl⟩ := List.mem_map.mp hx
    show (markG o y).pkg < _
    rw [markG_pkg]
    exact ok.outp y hy
/-- the highest that is found -/
theorem top_found {S : Rp09.House} (M : More S) {o : Rp09.Out} {n : Need} (ho : o ∈ S.out) (hg : o.gone = false) (hn : n ∈ o.needs) : ∃ x xs, foundL S n = x :: xs ∧ Rp09.top (foundL S n) n.from_ = xs.foldl pick x := by
  obtain ⟨z, z1, z2, z3, z4⟩ := M.wh o ho hg n hn
  have hz : z ∈ S.held n := by
    rw [held_eq]
    exact List.mem_filter.mpr ⟨lefts_mem.mpr ⟨z1, z2, z3⟩, z4⟩
  have low : ∀ y ∈ foundL S n, y.less n.from_ = false := fun y hy => by
    unfold foundL at hy
    obtain ⟨u, hu, rfl⟩ := List.mem_map.mp hy
    rw [held_eq] at hu
    have h := (List.mem_filter.mp hu).2
    unfold Need.holds at h
    simpa using (Bool.and_eq_true_iff.mp h).1
  cases e : foundL S n with
  | nil =>
    have : z.version ∈ foundL S n := List.mem_map.mpr ⟨z, hz, rfl⟩
    rw [e] at this
    cases this
  | cons x xs =>
    refine ⟨x, xs, rfl, ?_⟩
    rw [e] at low
    have hx := low x (List.mem_cons_self ..)
    show xs.foldl pick (pick n.from_ x) = xs.foldl pick x
    congr 1
    unfold pick
    cases c : n.from_.less x with
    | true => rfl
    | false =>
      show n.from_ = x
      exact less_anti c hx
/-! ### out -/
theorem out_step (S : Rp09.House) (p : Nat) : Rp09.step S (.out p) = match S.plan.find? (fun s => s.pkg == p) with
    | none => (S, Rp09.ok (-4))
    | some s => if S.ready s = false then (S, Rp09.ok (-5)) else (outSt S p s, Rp09.ok (S.plan.length - 1 : Nat)) := rfl
theorem filter_out {α : Type} {f : α → Nat} {s : α} : ∀ {l : List α}, (l.map f).Nodup → s ∈ l → (l.filter fun x => f x != f s).length + 1 = l.length
  | [], _, h => by cases h
  | a :: r, hd, h => by
    rw [List.map_cons, List.nodup_cons] at hd
    by_cases c : f a = f s
    · have hno : r.filter (fun x => f x != f s) = r := by
        rw [List.filter_eq_self]
        intro x hx
        refine bne_iff_ne.mpr fun z => hd.1 (List.mem_map.mpr ⟨x, hx, z.trans c.symm⟩)
      rw [List.filter_cons, if_neg (by simp [c]), hno] <;> rfl
    · have hs : s ∈ r := by
        rcases List.mem_cons.mp h with e | m
        · exact absurd (by rw [e]) c
        · exact m
      rw [List.filter_cons, if_pos (bne_iff_ne.mpr c), List.length_cons, List.length_cons, filter_out hd.2 hs]
theorem out_ok {S : Rp09.House} {nl : List Nat} {c p : Nat} {s : Rp09.Step} (ok : SOk S nl c) (hs : s ∈ S.plan) (hp : s.pkg = p) (hr : S.ready s = true) : SOk (outSt S p s) nl (c + 1) := by
  obtain ⟨p1, p2, p3, p4⟩ := ok.more.pl s hs
  have hp1 : p < S.tree.length := hp ▸ p1
  have hl : ∀ {x : Package}, (S.tree.set p x).length = S.tree.length := List.length_set ..
  have key : ∀ {x y : Package}, y ∈ S.tree.set p x → y ∈ S.tree ∨ y = x := fun {x y} h => List.mem_or_eq_of_mem_set h
  refine ⟨⟨?_, fun x hx => ?_, fun x hx => ?_, ok.tree.nl⟩, ok.cnt, ⟨?_, fun x hx => ok.plan.2 x (List.mem_filter.mp hx).1⟩, ?_, fun o ho => ?_, more_out ok.more hs hp (ok.plan.2 s hs) (fun m hm s' hs' he => ?_) ok.outp⟩
  · show (S.tree.set p _).length ≤ 6
    rw [hl]
    exact ok.tree.len
  · show _ ∧ ∀ n ∈ x.needs, n.on < (S.tree.set p _).length ∧ _
    rw [hl]
    rcases key hx with h | h
    · exact ok.tree.needs x h
    · rw [h]
      exact ⟨ok.plan.2 s hs, p2⟩
  · rcases key hx with h | h
    · exact ok.tree.notes x h
    · rw [h]
      obtain ⟨n1, n2⟩ := ok.tree.notes _ (at_mem hp1)
      exact ⟨Nat.le_trans (List.length_filter_le ..) n1, fun y hy => n2 y (List.mem_filter.mp hy).1⟩
  · exact Nat.le_trans (List.length_filter_le ..) ok.plan.1
  · show (S.out ++ [_]).length ≤ c + 1
    rw [List.length_append, List.length_singleton]
    exact Nat.succ_le_succ ok.out
  · show o.pkg < (S.tree.set p _).length
    rw [hl]
    rcases List.mem_append.mp ho with h | h
    · exact ok.outp o h
    · rw [List.mem_singleton.mp h]
      exact hp1
  · unfold Rp09.House.ready at hr
    have := List.all_eq_true.mp hr m hm
    simp only [Bool.not_eq_true', List.any_eq_false, beq_iff_eq] at this
    exact this s' hs' he
theorem drop_ok {S : Rp09.House} {nl : List Nat} {c : Nat} (ok : SOk S nl c) : SOk { S with plan := [] } nl (c + 1) := ⟨ok.tree, ok.cnt, ⟨Nat.zero_le _, fun s h => absurd h List.not_mem_nil⟩, Nat.le_succ_of_le ok.out, ok.outp, more_drop ok.more⟩
/-- the state with a step out, its plan as it was -/
abbrev outKeep (S : Rp09.House) (p : Nat) (s : Rp09.Step) : Rp09.House := { S with out := S.out ++ [⟨p, s.version, s.needs, s.notes, false⟩], tree := S.tree.set p ⟨s.version, (Rp09.at_ S.tree p).group, s.needs, (Rp09.at_ S.tree p).notes.filter fun x => !s.notes.contains x.1⟩ }
theorem outs_out_ne {S : Rp09.House} {p i : Nat} {s : Rp09.Step} (h : i ≠ p) : outs (outKeep S p s) i = outs S i := by
  unfold outs
  show (S.out ++ [_]).filter _ = _
  rw [List.filter_append]
  have : (p == i) = false := by simp; exact fun z => h z.symm
  simp [this]
theorem outs_out_eq {S : Rp09.House} {p : Nat} {s : Rp09.Step} : outs (outKeep S p s) p = outs S p ++ [⟨p, s.version, s.needs, s.notes, false⟩] := by
  unfold outs
  show (S.out ++ [_]).filter _ = _
  rw [List.filter_append]
  simp
/-! ### the answers of what only reads -/
theorem log_step (S : Rp09.House) (p : Nat) : Rp09.step S (.log p) = if S.tree.length ≤ p then (S, Rp09.ok (-2)) else (S, ⟨((outs S p).length : Nat), (outs S p).flatMap fun o => Rp09.numbers o.version ++ ((if o.gone = true then 1 else 0) :: o.notes.length :: o.notes)⟩) := rfl
theorem resolve_step (S : Rp09.House) (p a b c : Nat) : Rp09.step S (.resolve p a b c) = match S.find p ⟨a, b, c⟩ with
    | none => (S, Rp09.ok (-2))
    | some o => (S, ⟨(o.needs.length : Nat), o.needs.flatMap fun n => n.on :: Rp09.numbers (Rp09.top (foundL S n) n.from_)⟩) := rfl
theorem tree_step (S : Rp09.House) : Rp09.step S .tree = (S, ⟨(S.tree.length : Nat), S.tree.flatMap fun x => Rp09.numbers x.version ++ [x.notes.length]⟩) := rfl
theorem drop_step (S : Rp09.House) : Rp09.step S .drop = if S.plan = [] then (S, Rp09.ok (-3)) else ({ S with plan := [] }, ⟨(S.plan.length : Nat), S.plan.map fun s => s.pkg⟩) := rfl
end Tg
namespace Tg
open Rp09 (Version Need Package)
/-! ### the calls that may be handed in, case by case -/
theorem whole_nat {z : Int} (h : Rp09Neutral.whole32 z = true) : ∃ n : Nat, z = (n : Int) := by
  unfold Rp09Neutral.whole32 at h
  have := of_decide_eq_true (Bool.and_eq_true_iff.mp h).1
  exact ⟨z.toNat, (Int.toNat_of_nonneg this).symm⟩
theorem whole_nats : ∀ {l : List Int}, l.all Rp09Neutral.whole32 = true → ∃ ps : List Nat, l = ps.map fun (n : Nat) => (n : Int)
  | [], _ => ⟨[], rfl⟩
  | z :: l, h => by
    rw [List.all_cons, Bool.and_eq_true] at h
    obtain ⟨n, rfl⟩ := whole_nat h.1
    obtain ⟨ps, rfl⟩ := whole_nats h.2
    exact ⟨n :: ps, rfl⟩
theorem row_nats {l : List Int} {m : Nat} (h : Rp09Neutral.row32 l m = true) : ∃ ps : List Nat, l = (ps.map fun (n : Nat) => (n : Int)) ∧ ps.length ≤ m := by
  unfold Rp09Neutral.row32 at h
  rw [Bool.and_eq_true] at h
  obtain ⟨ps, rfl⟩ := whole_nats h.2
  have := of_decide_eq_true h.1
  rw [List.length_map] at this
  exact ⟨ps, rfl, this⟩
def rowZ (n : Need) : List Int := (rowOf n).map fun (x : Nat) => (x : Int)
theorem rows_needs : ∀ {l : List (List Int)}, (l.all fun r => decide (r.length = 5) && Rp09Neutral.row32 r 5) = true → ∃ ns : List Need, l = ns.map rowZ
  | [], _ => ⟨[], rfl⟩
  | r :: l, h => by
    rw [List.all_cons, Bool.and_eq_true, Bool.and_eq_true] at h
    obtain ⟨ps, rfl, _⟩ := row_nats h.1.2
    have h5 := of_decide_eq_true h.1.1
    rw [List.length_map] at h5
    obtain ⟨ns, rfl⟩ := rows_needs h.2
    match ps, h5 with
    | [q, k, a, b, c], _ => exact ⟨⟨q, k, ⟨a, b, c⟩⟩ :: ns, rfl⟩
theorem asked_cases {c : List (List Int)} (h : Rp09Neutral.asked1 c = true) (h0 : c ≠ [[0]]) :
    (∃ (a b d g : Nat) (ns : List Need), c = [1, (a : Int), (b : Int), (d : Int), (g : Int)] :: ns.map rowZ ∧ ns.length ≤ 6) ∨ (∃ (n : Nat) (ps : List Nat), c = [[2, (n : Int)], ps.map fun (x : Nat) => (x : Int)] ∧ ps.length ≤ 10) ∨ c = [[3]] ∨ c = [[4]] ∨ c = [[5]] ∨ (∃ p : Nat, c = [[6, (p : Int)]]) ∨ c = [[7]] ∨
    (∃ p a b d : Nat, c = [[8, (p : Int), (a : Int), (b : Int), (d : Int)]]) ∨ (∃ p a b d : Nat, c = [[9, (p : Int), (a : Int), (b : Int), (d : Int)]]) ∨ (∃ p : Nat, c = [[10, (p : Int)]]) ∨ c = [[11]] := by
  unfold Rp09Neutral.asked1 at h
  split at h
  · exact absurd rfl h0
  · rename_i a b d g l
    simp only [Bool.and_eq_true] at h
    obtain ⟨h1, h2, h3, h4, h5, h6⟩ := h
    obtain ⟨a, rfl⟩ := whole_nat h1
    obtain ⟨b, rfl⟩ := whole_nat h2
    obtain ⟨d, rfl⟩ := whole_nat h3
    obtain ⟨g, rfl⟩ := whole_nat h4
    obtain ⟨ns, rfl⟩ := rows_needs (by simpa using h6)
    have := of_decide_eq_true h5
    rw [List.length_map] at this
    exact .inl ⟨a, b, d, g, ns, rfl, this⟩
  · rename_i n ps
    simp only [Bool.and_eq_true] at h
    obtain ⟨n, rfl⟩ := whole_nat h.1
    obtain ⟨ps, rfl, hl⟩ := row_nats h.2
    exact .inr (.inl ⟨n, ps, rfl, hl⟩)
  · exact .inr (.inr (.inl rfl))
  · exact .inr (.inr (.inr (.inl rfl)))
  · exact .inr (.inr (.inr (.inr (.inl rfl))))
  · obtain ⟨p, rfl⟩ := whole_nat h
    exact .inr (.inr (.inr (.inr (.inr (.inl ⟨p, rfl⟩)))))
  · exact .inr (.inr (.inr (.inr (.inr (.inr (.inl rfl))))))
  · simp only [Bool.and_eq_true] at h
    obtain ⟨h1, h2, h3, h4⟩ := h
    obtain ⟨p, rfl⟩ := whole_nat h1
    obtain ⟨a, rfl⟩ := whole_nat h2
    obtain ⟨b, rfl⟩ := whole_nat h3
    obtain ⟨d, rfl⟩ := whole_nat h4
    exact .inr (.inr (.inr (.inr (.inr (.inr (.inr (.inl ⟨p, a, b, d, rfl⟩)))))))
  · simp only [Bool.and_eq_true] at h
    obtain ⟨h1, h2, h3, h4⟩ := h
    obtain ⟨p, rfl⟩ := whole_nat h1
    obtain ⟨a, rfl⟩ := whole_nat h2
    obtain ⟨b, rfl⟩ := whole_nat h3
    obtain ⟨d, rfl⟩ := whole_nat h4
    exact .inr (.inr (.inr (.inr (.inr (.inr (.inr (.inr (.inl ⟨p, a, b, d, rfl⟩))))))))
  · obtain ⟨p, rfl⟩ := whole_nat h
    exact .inr (.inr (.inr (.inr (.inr (.inr (.inr (.inr (.inr (.inl ⟨p, rfl⟩)))))))))
  · exact .inr (.inr (.inr (.inr (.inr (.inr (.inr (.inr (.inr (.inr rfl)))))))))
  · cases h
theorem nats_back (ps : List Nat) : Rp09Neutral.nats (ps.map fun (x : Nat) => (x : Int)) = ps := by
  unfold Rp09Neutral.nats
  rw [List.map_map]
  induction ps with
  | nil => rfl
  | cons a r ih => rw [List.map_cons, ih] <;> rfl
theorem nats_rows (ns : List Need) : (ns.map rowZ).map Rp09Neutral.nats = ns.map rowOf := by
  rw [List.map_map]
  apply List.map_congr_left
  intro n _
  exact nats_back (rowOf n)
theorem step_1 (S : Rp09.House) (a b d g : Nat) (ns : List Need) : Rp09Neutral.step S ([1, (a : Int), (b : Int), (d : Int), (g : Int)] :: ns.map rowZ) = ((Rp09.step S (.package a b d g (ns.map rowOf))).1, ansL S (.package a b d g (ns.map rowOf))) := by
  show ((Rp09.step S (.package a b d g ((ns.map rowZ).map Rp09Neutral.nats))).1, ansL S (.package a b d g ((ns.map rowZ).map Rp09Neutral.nats))) = _
  rw [nats_rows]
theorem step_2 (S : Rp09.House) (n : Nat) (ps : List Nat) : Rp09Neutral.step S [[2, (n : Int)], ps.map fun (x : Nat) => (x : Int)] = ((Rp09.step S (.note n ps)).1, ansL S (.note n ps)) := by
  show ((Rp09.step S (.note n (Rp09Neutral.nats (ps.map fun (x : Nat) => (x : Int))))).1, ansL S (.note n (Rp09Neutral.nats (ps.map fun (x : Nat) => (x : Int))))) = _
  rw [nats_back]
theorem step_3 (S : Rp09.House) : Rp09Neutral.step S [[3]] = ((Rp09.step S .look).1, ansL S .look) := rfl
theorem step_4 (S : Rp09.House) : Rp09Neutral.step S [[4]] = ((Rp09.step S .plan).1, ansL S .plan) := rfl
theorem step_5 (S : Rp09.House) : Rp09Neutral.step S [[5]] = (S, ansL S .ready) := rfl
theorem step_6 (S : Rp09.House) (p : Nat) : Rp09Neutral.step S [[6, (p : Int)]] = ((Rp09.step S (.out p)).1, ansL S (.out p)) := rfl
theorem step_7 (S : Rp09.House) : Rp09Neutral.step S [[7]] = ((Rp09.step S .drop).1, ansL S .drop) := rfl
theorem step_8 (S : Rp09.House) (p a b d : Nat) : Rp09Neutral.step S [[8, (p : Int), (a : Int), (b : Int), (d : Int)]] = ((Rp09.step S (.yank p a b d)).1, ansL S (.yank p a b d)) := rfl
theorem step_9 (S : Rp09.House) (p a b d : Nat) : Rp09Neutral.step S [[9, (p : Int), (a : Int), (b : Int), (d : Int)]] = (S, ansL S (.resolve p a b d)) := by
  show ((Rp09.step S (.resolve p a b d)).1, ansL S (.resolve p a b d)) = _
  rw [resolve_step]
  cases S.find p ⟨a, b, d⟩ <;> rfl
theorem step_10 (S : Rp09.House) (p : Nat) : Rp09Neutral.step S [[10, (p : Int)]] = (S, ansL S (.log p)) := by
  show ((Rp09.step S (.log p)).1, ansL S (.log p)) = _
  rw [log_step]
  split <;> rfl
theorem step_11 (S : Rp09.House) : Rp09Neutral.step S [[11]] = (S, ansL S .tree) := rfl
theorem look_same (S : Rp09.House) : (Rp09.step S .look).1 = S := by
  show (if S.plan ≠ [] then (S, Rp09.ok (-3)) else (S, Rp09.told (Rp09.steps S.tree))).1 = S
  split <;> rfl
end Tg
namespace Tg
open PySem PySem.Spec PyProof.Rows L2 Evl
def fs_Call : List V → List (Str × V)
  | [a0, a1, a2] => [("number", a0), ("whole", a1), ("lists", a2)]
  | _ => []
abbrev spi_Call (K : PySem.W.Frag) : Sp := spIni (He.ga K "Call") 3 fs_Call
theorem lk_Call_number (a0 a1 a2 : V) : (fs_Call [a0, a1, a2]).lookup ("number" : Str) = some a0 := rfl
theorem lk_Call_whole (a0 a1 a2 : V) : (fs_Call [a0, a1, a2]).lookup ("whole" : Str) = some a1 := rfl
theorem lk_Call_lists (a0 a1 a2 : V) : (fs_Call [a0, a1, a2]).lookup ("lists" : Str) = some a2 := rfl
theorem okc_Call {P : Program} {w : World} {K : PySem.W.Frag} {mg : Str → Option Value} {base : Heap} (T : Txt K mg) : OkC P w K mg base 1 "Call" p_Call_init (spi_Call K) := by
  refine OkC.of T.e_Call_init T.g_Call T.mk_Call sc_Call_init (fun _ _ _ _ _ _ us hl => match us, hl with | [_, _, _, _], _ => rfl) (fun vs H Q E h => ?_) (fun cdv A outer s H vs Q E hr h => ?_)
  · obtain ⟨p, dx, as, rfl, hl, _⟩ := h
    match as, hl with
    | [_, _, _], _ => rfl
  · obtain ⟨p, dx, as, rfl, hl, hp, k⟩ := h
    match as, hl, k with
    | [a0, a1, a2], _, k =>
      refine ⟨_, (pss_cons (k_put (K := K) rfl (pv 0) (pv 1) rfl)
      (pss_cons (k_put (K := K) rfl (pv 0) (pv 2) rfl)
      (pss_one (k_put (K := K) rfl (pv 0) (pv 3) rfl)))), ?_⟩
      refine ⟨_, rfl, _, rfl, p, _, dx, [], rfl, hp, T.cl_Call, T.na_Call_number, (by show 0 < 1000; decide), ?_⟩
      refine ⟨_, rfl, _, rfl, p, _, dx, _, rfl, upd_same, T.cl_Call, T.na_Call_whole, (by show 1 < 1000; decide), ?_⟩
      refine ⟨_, rfl, _, rfl, p, _, dx, _, rfl, upd_same, T.cl_Call, T.na_Call_lists, (by show 2 < 1000; decide), ?_⟩
      rw [updd]
      rw [updd]
      exact k
def fs_Need : List V → List (Str × V)
  | [a0, a1, a2] => [("package", a0), ("kind", a1), ("version", a2)]
  | _ => []
abbrev spi_Need (K : PySem.W.Frag) : Sp := spIni (He.ga K "Need") 3 fs_Need
theorem lk_Need_package (a0 a1 a2 : V) : (fs_Need [a0, a1, a2]).lookup ("package" : Str) = some a0 := rfl
theorem lk_Need_kind (a0 a1 a2 : V) : (fs_Need [a0, a1, a2]).lookup ("kind" : Str) = some a1 := rfl
theorem lk_Need_version (a0 a1 a2 : V) : (fs_Need [a0, a1, a2]).lookup ("version" : Str) = some a2 := rfl
theorem okc_Need {P : Program} {w : World} {K : PySem.W.Frag} {mg : Str → Option Value} {base : Heap} (T : Txt K mg) : OkC P w K mg base 1 "Need" p_Need_init (spi_Need K) := by
  refine OkC.of T.e_Need_init T.g_Need T.mk_Need sc_Need_init (fun _ _ _ _ _ _ us hl => match us, hl with | [_, _, _, _], _ => rfl) (fun vs H Q E h => ?_) (fun cdv A outer s H vs Q E hr h => ?_)
  · obtain ⟨p, dx, as, rfl, hl, _⟩ := h
    match as, hl with
    | [_, _, _], _ => rfl
  · obtain ⟨p, dx, as, rfl, hl, hp, k⟩ := h
    match as, hl, k with
    | [a0, a1, a2], _, k =>
      refine ⟨_, (pss_cons (k_put (K := K) rfl (pv 0) (pv 1) rfl)
      (pss_cons (k_put (K := K) rfl (pv 0) (pv 2) rfl)
      (pss_one (k_put (K := K) rfl (pv 0) (pv 3) rfl)))), ?_⟩
      refine ⟨_, rfl, _, rfl, p, _, dx, [], rfl, hp, T.cl_Need, T.na_Need_package, (by show 0 < 1000; decide), ?_⟩
      refine ⟨_, rfl, _, rfl, p, _, dx, _, rfl, upd_same, T.cl_Need, T.na_Need_kind, (by show 1 < 1000; decide), ?_⟩
      refine ⟨_, rfl, _, rfl, p, _, dx, _, rfl, upd_same, T.cl_Need, T.na_Need_version, (by show 2 < 1000; decide), ?_⟩
      rw [updd]
      rw [updd]
      exact k
def fs_Step : List V → List (Str × V)
  | [a0, a1, a2, a3, a4] => [("package", a0), ("level", a1), ("version", a2), ("needs", a3), ("notes", a4)]
  | _ => []
abbrev spi_Step (K : PySem.W.Frag) : Sp := spIni (He.ga K "Step") 5 fs_Step
theorem lk_Step_package (a0 a1 a2 a3 a4 : V) : (fs_Step [a0, a1, a2, a3, a4]).lookup ("package" : Str) = some a0 := rfl
theorem lk_Step_level (a0 a1 a2 a3 a4 : V) : (fs_Step [a0, a1, a2, a3, a4]).lookup ("level" : Str) = some a1 := rfl
theorem lk_Step_version (a0 a1 a2 a3 a4 : V) : (fs_Step [a0, a1, a2, a3, a4]).lookup ("version" : Str) = some a2 := rfl
theorem lk_Step_needs (a0 a1 a2 a3 a4 : V) : (fs_Step [a0, a1, a2, a3, a4]).lookup ("needs" : Str) = some a3 := rfl
theorem lk_Step_notes (a0 a1 a2 a3 a4 : V) : (fs_Step [a0, a1, a2, a3, a4]).lookup ("notes" : Str) = some a4 := rfl
theorem okc_Step {P : Program} {w : World} {K : PySem.W.Frag} {mg : Str → Option Value} {base : Heap} (T : Txt K mg) : OkC P w K mg base 1 "Step" p_Step_init (spi_Step K) := by
  refine OkC.of T.e_Step_init T.g_Step T.mk_Step sc_Step_init (fun _ _ _ _ _ _ us hl => match us, hl with | [_, _, _, _, _, _], _ => rfl) (fun vs H Q E h => ?_) (fun cdv A outer s H vs Q E hr h => ?_)
  · obtain ⟨p, dx, as, rfl, hl, _⟩ := h
    match as, hl with
    | [_, _, _, _, _], _ => rfl
  · obtain ⟨p, dx, as, rfl, hl, hp, k⟩ := h
    match as, hl, k with
    | [a0, a1, a2, a3, a4], _, k =>
      refine ⟨_, (pss_cons (k_put (K := K) rfl (pv 0) (pv 1) rfl)
      (pss_cons (k_put (K := K) rfl (pv 0) (pv 2) rfl)
      (pss_cons (k_put (K := K) rfl (pv 0) (pv 3) rfl)
      (pss_cons (k_put (K := K) rfl (pv 0) (pv 4) rfl)
      (pss_one (k_put (K := K) rfl (pv 0) (pv 5) rfl)))))), ?_⟩
      refine ⟨_, rfl, _, rfl, p, _, dx, [], rfl, hp, T.cl_Step, T.na_Step_package, (by show 0 < 1000; decide), ?_⟩
      refine ⟨_, rfl, _, rfl, p, _, dx, _, rfl, upd_same, T.cl_Step, T.na_Step_level, (by show 1 < 1000; decide), ?_⟩
      refine ⟨_, rfl, _, rfl, p, _, dx, _, rfl, upd_same, T.cl_Step, T.na_Step_version, (by show 2 < 1000; decide), ?_⟩
      refine ⟨_, rfl, _, rfl, p, _, dx, _, rfl, upd_same, T.cl_Step, T.na_Step_needs, (by show 3 < 1000; decide), ?_⟩
      refine ⟨_, rfl, _, rfl, p, _, dx, _, rfl, upd_same, T.cl_Step, T.na_Step_notes, (by show 4 < 1000; decide), ?_⟩
      rw [updd]
      rw [updd]
      rw [updd]
      rw [updd]
      exact k
def fs_Release : List V → List (Str × V)
  | [a0, a1, a2, a3] => [("version", a0), ("needs", a1), ("notes", a2), ("withdrawn", a3)]
  | _ => []
theorem lk_Release_version (a0 a1 a2 a3 : V) : (fs_Release [a0, a1, a2, a3]).lookup ("version" : Str) = some a0 := rfl
theorem pt_Release_version (a0 a1 a2 a3 x : V) : putF "version" x (fs_Release [a0, a1, a2, a3]) = fs_Release [x, a1, a2, a3] := rfl
theorem lk_Release_needs (a0 a1 a2 a3 : V) : (fs_Release [a0, a1, a2, a3]).lookup ("needs" : Str) = some a1 := rfl
theorem pt_Release_needs (a0 a1 a2 a3 x : V) : putF "needs" x (fs_Release [a0, a1, a2, a3]) = fs_Release [a0, x, a2, a3] := rfl
theorem lk_Release_notes (a0 a1 a2 a3 : V) : (fs_Release [a0, a1, a2, a3]).lookup ("notes" : Str) = some a2 := rfl
theorem pt_Release_notes (a0 a1 a2 a3 x : V) : putF "notes" x (fs_Release [a0, a1, a2, a3]) = fs_Release [a0, a1, x, a3] := rfl
theorem lk_Release_withdrawn (a0 a1 a2 a3 : V) : (fs_Release [a0, a1, a2, a3]).lookup ("withdrawn" : Str) = some a3 := rfl
theorem pt_Release_withdrawn (a0 a1 a2 a3 x : V) : putF "withdrawn" x (fs_Release [a0, a1, a2, a3]) = fs_Release [a0, a1, a2, x] := rfl
def rel0 : List V → List (Str × V)
  | [a, b, c] => fs_Release [a, b, c, .bl false]
  | _ => []
abbrev spi_Release (K : PySem.W.Frag) : Sp := spIni (He.ga K "Release") 3 rel0
theorem okc_Release {P : Program} {w : World} {K : PySem.W.Frag} {mg : Str → Option Value} {base : Heap} (T : Txt K mg) : OkC P w K mg base 1 "Release" p_Release_init (spi_Release K) := by
  refine OkC.of T.e_Release_init T.g_Release T.mk_Release sc_Release_init (fun _ _ _ _ _ _ us hl => match us, hl with | [_, _, _, _], _ => rfl) (fun vs H Q E h => ?_) (fun cdv A outer s H vs Q E hr h => ?_)
  · obtain ⟨p, dx, as, rfl, hl, _⟩ := h
    match as, hl with
    | [_, _, _], _ => rfl
  · obtain ⟨p, dx, as, rfl, hl, hp, k⟩ := h
    refine ⟨_, (pss_cons (k_put (K := K) rfl (pv 0) (pv 1) rfl)
      (pss_cons (k_put (K := K) rfl (pv 0) (pv 2) rfl)
      (pss_cons (k_put (K := K) rfl (pv 0) (pv 3) rfl)
      (pss_one (k_put (K := K) rfl (pv 0) pe_bl rfl))))), ?_⟩
    match as, hl, k with
    | [a0, a1, a2], _, k =>
      refine ⟨_, rfl, _, rfl, p, _, dx, [], rfl, hp, T.cl_Release, T.na_Release_version, (by show 0 < 1000; decide), ?_⟩
      refine ⟨_, rfl, _, rfl, p, _, dx, _, rfl, upd_same, T.cl_Release, T.na_Release_needs, (by show 1 < 1000; decide), ?_⟩
      refine ⟨_, rfl, _, rfl, p, _, dx, _, rfl, upd_same, T.cl_Release, T.na_Release_notes, (by show 2 < 1000; decide), ?_⟩
      refine ⟨_, rfl, p, _, dx, _, rfl, upd_same, T.cl_Release, T.na_Release_withdrawn, (by show 3 < 1000; decide), ?_⟩
      rw [updd, updd, updd]
      exact k
end Tg
namespace Tg
open PySem PySem.Spec PyProof.Rows L2 Evl
abbrev vis (l : List Int) : List V := l.map V.int
theorem at_ints {ns : List Int} {i : Nat} {z : Int} (h : ns[i]? = some z) : atI (vis ns) (i : Int) = some (V.int z) := atI_nat (by rw [List.getElem?_map, h] <;> rfl)
theorem cut_ints (ns : List Int) (i m : Nat) : cutV (vis ns) (some ((i : Int) + 1)) (some ((i : Int) + 1 + (m : Int))) = vis ((ns.drop (i + 1)).take m) := by
  have e1 : ((i : Int) + 1) = ((i + 1 : Nat) : Int) := by omega
  have e2 : ((i : Int) + 1 + (m : Int)) = ((i + 1 + m : Nat) : Int) := by omega
  unfold cutV
  rw [e2, e1, HT.sIx_nat, HT.sIx_nat, ← List.map_drop, ← List.map_take]
  congr 1
  rw [List.length_map]
  by_cases c : i + 1 ≤ ns.length
  · rw [Nat.min_eq_left c]
    by_cases d : i + 1 + m ≤ ns.length
    · rw [Nat.min_eq_left d, show i + 1 + m - (i + 1) = m by omega]
    · rw [Nat.min_eq_right (by omega), List.take_of_length_le (by rw [List.length_drop]; omega), List.take_of_length_le (by rw [List.length_drop]; omega)]
  · rw [List.drop_eq_nil_of_le (by omega), List.drop_eq_nil_of_le (by omega), List.take_nil, List.take_nil]
/-! ### counted -/
def sp_counted (K : PySem.W.Frag) : Sp := fun vs H Q _ => ∃ (a : Addr) (ns : List Int) (i m : Nat), vs = [.ref a, .int (i : Int)] ∧ SqL K H a (vis ns) ∧ ns[i]? = some (m : Int) ∧ RetL (vis ((ns.drop (i + 1)).take m)) H Q
theorem spl_counted {K : PySem.W.Frag} {H : Hp} {a : Addr} {ns : List Int} {i m : Nat} (h : SqL K H a (vis ns)) (hi : ns[i]? = some (m : Int)) : SpL (sp_counted K) [.ref a, .int (i : Int)] H (vis ((ns.drop (i + 1)).take m)) :=
  fun H1 e Q q E => ⟨a, ns, i, m, rfl, ex_l e h, hi, q⟩
theorem ok_counted {P : Program} {w : World} {K : PySem.W.Frag} {mg : Str → Option Value} {base : Heap} (T : Txt K mg) : Ok P w K mg base 1 "counted" p_counted (sp_counted K) := by
  refine Ok.of T.e_counted T.g_counted sc_counted (fun _ _ _ _ _ _ us hl => match us, hl with | [_, _], _ => rfl) (fun vs H Q E h => ?_) (fun cdv A outer s H vs Q E hr h => ?_)
  · obtain ⟨a, ns, i, m, rfl, _⟩ := h
    rfl
  · obtain ⟨a, ns, i, m, rfl, hs, hi, k⟩ := h
    refine ⟨_, (pss_one (ps_ret (pe_slice (k_slL (K := K) rfl) (pv 0) (po_some (pe_op op_add (pv 1) pe_int)) (po_some (pe_op op_add (pe_op op_add (pv 1) pe_int) (pe_ix (k_ixL (K := K) rfl) (pv 0) (pv 1) (fun _ _ => rfl))))))), ?_⟩
    refine s_retL (el_sl (ev_var rfl) (eo_some (ev_op (ev_var rfl) ev_c rv_I0)) (eo_some (ev_op (ev_op (ev_var rfl) ev_c rv_I0) (ev_ixL (ev_var rfl) (ev_var rfl) hs (at_ints hi)) rv_I0)) hs) ?_
    intro p H1 hp e h1
    rw [cut_ints] at h1
    exact k p H1 hp e h1
/-! ### read_lists -/
def rowRep (B : Hp) (w : V) (x : List Int) : Prop := ∃ q, w = .ref q ∧ B q = some (.lst (vis x))
theorem rowRep.mono {B B' : Hp} (e : Ex B B') {w : V} {x : List Int} (h : rowRep B w x) : rowRep B' w x := by
  obtain ⟨q, h1, h2⟩ := h
  exact ⟨q, h1, e _ _ h2⟩
def ListsRep (xs : List (List Int)) : Rep := fun v B => ∃ p ws, v = .ref p ∧ B p = some (.lst ws) ∧ All2 (rowRep B) ws xs
theorem ListsRep.mono {B B' : Hp} (e : Ex B B') {v : V} {xs : List (List Int)} (h : ListsRep xs v B) : ListsRep xs v B' := by
  obtain ⟨p, ws, h1, h2, h3⟩ := h
  exact ⟨p, ws, h1, e _ _ h2, h3.imp fun _ _ z => z.mono e⟩
def sp_read_lists (K : PySem.W.Frag) : Sp := fun vs H Q _ => ∃ (B : Hp) (a : Addr) (ns : List Int) (i k : Nat) (xs : List (List Int)) (u : List Int), vs = [.ref a, .int (i : Int)] ∧ Ex B H ∧ SqL K H a (vis ns) ∧ ns.length ≤ 2600 ∧ ns[i]? = some (k : Int) ∧
  PyFlat.rows k (ns.drop (i + 1)) = some (xs, u) ∧ RetR B H (ListsRep xs) Q
theorem spr_read_lists {K : PySem.W.Frag} {B H : Hp} {a : Addr} {ns : List Int} {i k : Nat} {xs : List (List Int)} {u : List Int} (hB : Ex B H) (h : SqL K H a (vis ns)) (hl : ns.length ≤ 2600) (hi : ns[i]? = some (k : Int)) (hr : PyFlat.rows k (ns.drop (i + 1)) = some (xs, u)) :
    SpR (sp_read_lists K) [.ref a, .int (i : Int)] B H (ListsRep xs) := fun H1 e Q q E => ⟨B, a, ns, i, k, xs, u, rfl, hB.trans e, ex_l e h, hl, hi, hr, q⟩
/-- what stands between two turns -/
structure RlInv (B H : Hp) (a p : Addr) (ns : List Int) (i k : Nat) (xs : List (List Int)) (u : List Int) (m : Nat) (σ : L2.St) (H' : Hp) : Prop where
  ex : ∃ (j pl : Nat) (B' : Hp) (ws : List V), m = k - j ∧ j ≤ k ∧ σ = [some (.ref a), some (.int (i : Int)), some (.ref p), some (.int (pl : Int))] ∧ Ex B B' ∧ Ex B' H' ∧ (∀ b o, B' b = some o → B b = some o ∨ H b = none) ∧ B' p = none ∧ H' p = some (.lst ws) ∧
    All2 (rowRep B') ws (xs.take j) ∧ PyFlat.rows (k - j) (ns.drop pl) = some (xs.drop j, u)
  old : Ex H H'
theorem ok_read_lists {P : Program} {w : World} {K : PySem.W.Frag} {mg : Str → Option Value} {base : Heap} (T : Txt K mg) (O_counted : Ok P w K mg base 1 "counted" p_counted (sp_counted K)) : Ok P w K mg base 2 "read_lists" p_read_lists (sp_read_lists K) := by
  refine Ok.of T.e_read_lists T.g_read_lists sc_read_lists (fun _ _ _ _ _ _ us hl => match us, hl with | [_, _], _ => rfl) (fun vs H Q E h => ?_) (fun cdv A outer s H vs Q E hr h => ?_)
  · obtain ⟨B, a, ns, i, k, xs, u, rfl, _⟩ := h
    rfl
  · obtain ⟨B, a, ns, i, k, xs, u, rfl, hB, hs, hlen, hi, hw, kk⟩ := h
    refine ⟨_, (pss_cons (ps_set (i := 2) sc_read_lists.nd rfl (Or.inl rfl) (pe_lst pa_nil))
      (pss_cons (ps_set (i := 3) sc_read_lists.nd rfl (Or.inl rfl) (pe_op op_add (pv 1) pe_int))
      (pss_cons (ps_while PassesOwn.never (pt_cmpR op_lt (pe_callB (k_len (K := K) rfl) (by rfl) T.f_len PySem.boot_len (pa_cons (pv 2) pa_nil)) (pe_ix (k_ixL (K := K) rfl) (pv 0) (pv 1) (fun _ _ => rfl)) (nomark _))
      (pss_cons (ps_expr (k_bm (K := K) rfl PySem.F.plainAttrs_list PySem.F.slot_list_append PySem.F.type_list_append mt_append (pv 2) (pa_cons (pe_callO O_counted (hr.mono (by decide)) (by rfl) (pa_cons (pv 0) (pa_cons (pv 3) pa_nil))) pa_nil)))
      (pss_one (ps_set (i := 3) sc_read_lists.nd rfl (Or.inl rfl) (pe_op op_add (pe_op op_add (pv 3) pe_int) (pe_ix (k_ixL (K := K) rfl) (pv 0) (pv 3) (fun _ _ => rfl)))))))
      (pss_one (ps_ret (pv 2)))))), ?_⟩
    refine q_asgL (el_lst ea_nil (by decide)) fun p H1 hp e1 h1 => ?_
    refine q_asg (ev_op (ev_var rfl) ev_c rv_I0) fun H2 e2 => ?_
    have e12 := e1.trans e2
    have hxl := (rows_len hw).1
    have hx2 : xs.length ≤ 2600 := by
      have z := (rows_len hw).2.2 (by have := (List.getElem?_eq_some_iff.mp hi).1; omega)
      have := rowsLen_ge xs
      omega
    refine q_while (RlInv B H a p ns i k xs u) k ⟨⟨0, i + 1, B, [], rfl, Nat.zero_le _, ?_, Ex.refl _, hB.trans e12, fun _ _ h => .inl h, fresh_back hB hp, e2 _ _ h1, .nil, hw⟩, e12⟩ ?_
    · show _ = _
      rfl
    · rintro m σ' H' ⟨⟨j, pl, B', ws, rfl, hj, rfl, b1, b2, b3, b4, b5, b6, b7⟩, ho⟩
      have hwl : ws.length = j := by rw [b6.len, List.length_take]; omega
      refine ⟨decide ((ws.length : Int) < (k : Int)), et_test (ev_op (ev_len (ev_var rfl) (sq_of b5)) (ev_ixL (ev_var rfl) (ev_var rfl) (ex_l ho hs) (at_ints hi)) rv_I0), fun hb H3 e3 => ?_, fun hb H3 e3 => ?_⟩
      · have hjk : j < k := by have := of_decide_eq_true hb; omega
        obtain ⟨d, hd⟩ : ∃ d, k - j = d + 1 := ⟨k - j - 1, by omega⟩
        rw [hd] at b7
        obtain ⟨x, s2, ys, r1, r2, r3⟩ := rows_succ b7
        obtain ⟨mm, m1, m2, m3, m4, m5⟩ := row_at r1
        have hs3 : SqL K H3 a (vis ns) := ex_l (ho.trans e3) hs
        refine ⟨fun σ2 H2 => RlInv B H a p ns i k xs u (k - (j + 1)) σ2 H2, fun σ2 H2 h => ⟨k - (j + 1), by omega, h⟩, ?_⟩
        refine q_appL (e3 _ _ b5) (ev_var rfl) (el_call (ea_cons (ev_var rfl) (ea_cons (ev_var rfl) ea_nil)) (spl_counted hs3 m1)) (by omega) fun q H4 hq e4 h4 => ?_
        · have np : q ≠ p := fun z => by
            rw [z, e3 _ _ b5] at hq
            cases hq
          have ep : H4 p = some (.lst ws) := e4 _ _ (e3 _ _ b5)
          have hs4 : SqL K (upd H4 p (.lst (ws ++ [.ref q]))) a (vis ns) := ex_l (Ex.mut (ho.trans (e3.trans e4)) hp) hs
          refine s_asg (ev_op (ev_op (ev_var rfl) ev_c rv_I0) (ev_ixL (ev_var rfl) (ev_var rfl) hs4 (at_ints m1)) rv_I0) fun H5 e5 => ?_
          have hqB : B' q = none := fresh_back (b2.trans e3) hq
          have hqH : H q = none := fresh_back (ho.trans e3) hq
          refine ⟨⟨j + 1, pl + 1 + mm, upd B' q (.lst (vis x)), ws ++ [.ref q], rfl, hjk, ?_, b1.trans (Ex.new hqB), ?_, ?_, ?_, e5 _ _ upd_same, ?_, ?_⟩, (Ex.mut (ho.trans (e3.trans e4)) hp).trans e5⟩
          · show [_, _, _, some (V.int ((pl : Int) + 1 + (mm : Int)))] = [_, _, _, some (V.int ((pl + 1 + mm : Nat) : Int))]
            rw [show ((pl : Int) + 1 + (mm : Int)) = ((pl + 1 + mm : Nat) : Int) by omega]
          · refine Ex.trans ?_ e5
            intro b o hbo
            by_cases c : b = q
            · subst c
              rw [upd_same] at hbo
              rw [upd_ne np, ← hbo, h4, m2]
            · rw [upd_ne c] at hbo
              have : b ≠ p := fun z => by
                rw [z, b4] at hbo
                cases hbo
              rw [upd_ne this]
              exact e4 _ _ (e3 _ _ (b2 _ _ hbo))
          · intro b o hbo
            by_cases c : b = q
            · subst c
              exact .inr hqH
            · rw [upd_ne c] at hbo
              exact b3 b o hbo
          · rw [upd_ne (fun z => np z.symm)]
            exact b4
          · have ex : xs.take (j + 1) = xs.take j ++ [x] := by
              rw [List.take_succ, (drop_cons r3).1] <;> rfl
            rw [ex]
            exact (b6.imp fun _ _ z => z.mono (Ex.new hqB)).snoc ⟨q, rfl, upd_same⟩
          · rw [show k - (j + 1) = d by omega]
            rw [m4] at r2
            have : xs.drop (j + 1) = ys := by
              rw [← List.drop_drop, r3] <;> rfl
            rw [this]
            exact r2
      · have hjk : j = k := by have := of_decide_eq_false hb; omega
        subst hjk
        refine s_ret (ev_var rfl) fun H4 e4 => ?_
        have e34 := e3.trans e4
        rw [List.take_of_length_le (by omega)] at b6
        refine kk (.ref p) (upd B' p (.lst ws)) H4 ⟨b1.trans (Ex.new b4), ?_, ho.trans e34, ?_⟩ ⟨p, ws, rfl, upd_same, b6.imp fun _ _ z => z.mono (Ex.new b4)⟩
        · intro b o hbo
          by_cases c : b = p
          · subst c
            rw [upd_same] at hbo
            exact hbo ▸ e34 _ _ b5
          · rw [upd_ne c] at hbo
            exact e34 _ _ (b2 _ _ hbo)
        · intro b o hbo
          by_cases c : b = p
          · subst c
            exact .inr hp
          · rw [upd_ne c] at hbo
            exact b3 b o hbo
/-! ### read_call -/
def CallRep (K : PySem.W.Frag) (c : List (List Int)) : Rep := fun v B => ∃ (q : Int) (w : List Int) (xs : List (List Int)) (x dx pw : Addr) (l : V), c = (q :: w) :: xs ∧ v = .ref x ∧ B x = some (.ins (He.ga K "Call") dx (fs_Call [.int q, .ref pw, l])) ∧ B pw = some (.lst (vis w)) ∧ ListsRep xs l B
theorem CallRep.mono {K : PySem.W.Frag} {B B' : Hp} (e : Ex B B') {v : V} {c : List (List Int)} (h : CallRep K c v B) : CallRep K c v B' := by
  obtain ⟨q, w, xs, x, dx, pw, l, h1, h2, h3, h4, h5⟩ := h
  exact ⟨q, w, xs, x, dx, pw, l, h1, h2, e _ _ h3, e _ _ h4, h5.mono e⟩
def sp_read_call (K : PySem.W.Frag) : Sp := fun vs H Q _ => ∃ (B : Hp) (a : Addr) (ns : List Int) (p : Nat) (c : List (List Int)) (u : List Int), vs = [.ref a, .int (p : Int)] ∧ Ex B H ∧ SqL K H a (vis ns) ∧ ns.length ≤ 2600 ∧ PyWide.call (ns.drop p) = some (c, u) ∧ RetR B H (CallRep K c) Q
theorem spr_read_call {K : PySem.W.Frag} {B H : Hp} {a : Addr} {ns : List Int} {p : Nat} {c : List (List Int)} {u : List Int} (hB : Ex B H) (h : SqL K H a (vis ns)) (hl : ns.length ≤ 2600) (hc : PyWide.call (ns.drop p) = some (c, u)) :
    SpR (sp_read_call K) [.ref a, .int (p : Int)] B H (CallRep K c) := fun H1 e Q q E => ⟨B, a, ns, p, c, u, rfl, hB.trans e, ex_l e h, hl, hc, q⟩
theorem ok_read_call {P : Program} {w : World} {K : PySem.W.Frag} {mg : Str → Option Value} {base : Heap} (T : Txt K mg) (O_counted : Ok P w K mg base 1 "counted" p_counted (sp_counted K)) (O_read_lists : Ok P w K mg base 2 "read_lists" p_read_lists (sp_read_lists K)) (O_Call : OkC P w K mg base 1 "Call" p_Call_init (spi_Call K)) : Ok P w K mg base 3 "read_call" p_read_call (sp_read_call K) := by
  refine Ok.of T.e_read_call T.g_read_call sc_read_call (fun _ _ _ _ _ _ us hl => match us, hl with | [_, _], _ => rfl) (fun vs H Q E h => ?_) (fun cdv A outer s H vs Q E hr h => ?_)
  · obtain ⟨B, a, ns, p, c, u, rfl, _⟩ := h
    rfl
  · obtain ⟨B, a, ns, p, c, u, rfl, hB, hs, hlen, hc, kk⟩ := h
    refine ⟨_, (pss_cons (ps_set (i := 2) sc_read_call.nd rfl (Or.inl rfl) (pe_callO O_counted (hr.mono (by decide)) (by rfl) (pa_cons (pv 0) (pa_cons (pe_op op_add (pv 1) pe_int) pa_nil))))
      (pss_one (ps_ret (k_make (K := K) rfl O_Call (hr.mono (by decide)) (by rfl) (pa_cons (pe_ix (k_ixL (K := K) rfl) (pv 0) (pv 1) (fun _ _ => rfl)) (pa_cons (pv 2) (pa_cons (pe_callO O_read_lists (hr.mono (by decide)) (by rfl) (pa_cons (pv 0) (pa_cons (pe_op op_add (pe_op op_add (pv 1) pe_int) (pe_callB (k_len (K := K) rfl) (by rfl) T.f_len PySem.boot_len (pa_cons (pv 2) pa_nil))) pa_nil))) pa_nil))))))), ?_⟩
    obtain ⟨q, m, k, w, xs, c1, c2, c3, c4, c5, c6, c7, c8, c9, c10⟩ := call_at hc
    refine b_asgR hB (evr_ofL hB (el_call (ea_cons (ev_var rfl) (ea_cons (ev_addN (ev_var rfl) (j := 1) ev_c) ea_nil)) (spl_counted hs c2))) ?_
    rintro v B1 H1 g1 ⟨pw, rfl, hpw⟩
    have hs1 := ex_l g1.h hs
    have hpw1 := g1.s _ _ hpw
    refine b_retR g1.s (evr_make (RA := fun vs B' => ∃ l, vs = [.int q, .ref pw, l] ∧ B' pw = some (.lst (vis w)) ∧ ListsRep xs l B') (ear_consV g1.s (ev_ixL (ev_var rfl) (ev_var rfl) hs1 (at_ints c1)) (ear_consV g1.s (ev_var rfl)
      (ear_cons (R := ListsRep xs) (evr_callV g1.s (ea_cons (ev_var rfl) (ea_cons (ev_addN (ev_addN (ev_var rfl) (j := 2) ev_c) (ev_len (ev_var rfl) (sq_of hpw1))) ea_nil)) ?_) ?_))) ?_ ?_) ?_
    · have e : p + 2 + (List.map V.int (List.take m (List.drop (p + 1 + 1) ns))).length = p + 2 + m := by
        rw [List.length_map, show p + 1 + 1 = p + 2 by omega, ← c3, c4]
      rw [e]
      exact spr_read_lists g1.s hs1 hlen c5 c6
    · intro l B2 H2 b1 b2 b3 hl
      refine ear_end b2 ⟨l, rfl, ?_, hl⟩
      rw [c3]
      exact b1 _ _ hpw
    · rintro vs B B' e ⟨l, h1, h2, h3⟩
      exact ⟨l, h1, e _ _ h2, h3.mono e⟩
    · rintro vs B' ⟨l, rfl, _⟩
      rfl
    · rintro v B2 H2 g2 ⟨x, dx, vs, rfl, hx, l, rfl, h2, h3⟩
      exact kk _ B2 H2 (g1.trans g2) ⟨q, w, xs, x, dx, pw, l, c7, rfl, hx, h2, h3⟩
/-! ### call_length -/
def sp_call_length (K : PySem.W.Frag) : Sp := fun vs H Q _ => ∃ (v : V) (q : Int) (w : List Int) (xs : List (List Int)), vs = [v] ∧ CallRep K ((q :: w) :: xs) v H ∧ xs.length ≤ 2600 ∧ RetV (.int ((3 + w.length + rowsLen xs : Nat) : Int)) H Q
theorem spv_call_length {K : PySem.W.Frag} {H : Hp} {v : V} {q : Int} {w : List Int} {xs : List (List Int)} (h : CallRep K ((q :: w) :: xs) v H) (hl : xs.length ≤ 2600) : SpV (sp_call_length K) [v] H (.int ((3 + w.length + rowsLen xs : Nat) : Int)) :=
  fun H1 e Q k E => ⟨v, q, w, xs, rfl, h.mono e, hl, k⟩
theorem sum_cast (xs : List (List Int)) : (xs.map fun x => (1 : Int) + (x.length : Int)).sum = ((rowsLen xs : Nat) : Int) := by
  induction xs with
  | nil => rfl
  | cons x xs ih =>
    unfold rowsLen at ih ⊢
    rw [List.map_cons, List.sum_cons, List.map_cons, List.sum_cons, ih]
    omega
theorem ok_call_length {P : Program} {w : World} {K : PySem.W.Frag} {mg : Str → Option Value} {base : Heap} (T : Txt K mg) : Ok P w K mg base 1 "call_length" p_call_length (sp_call_length K) := by
  refine Ok.of T.e_call_length T.g_call_length sc_call_length (fun _ _ _ _ _ _ us hl => match us, hl with | [_], _ => rfl) (fun vs H Q E h => ?_) (fun cdv A outer s H vs Q E hr h => ?_)
  · obtain ⟨v, q, w, xs, rfl, _⟩ := h
    rfl
  · obtain ⟨v, q, w, xs, rfl, hc, hxl, k⟩ := h
    refine ⟨_, (pss_one (ps_ret (pe_op op_add (pe_op op_add pe_int (pe_callB (k_len (K := K) rfl) (by rfl) T.f_len PySem.boot_len (pa_cons (k_fld (K := K) rfl (pv 0) rfl) pa_nil))) (pe_callB (k_sum (K := K) rfl rfl) (by rfl) T.f_sum (by decide +kernel) (pa_cons (pe_lc (own := [("one", 1)]) (g := gName 1) (by rfl) sc_call_length.nd (k_iList (K := K) rfl (k_fld (K := K) rfl (pv 0) rfl)) (blkOk_by (own := [("one", 1)]) (N := n_call_length) (sc := defScope s_call_length) (by decide +kernel)) (fun _ _ _ _ _ => pg_name (i := 1) sc_call_length.nd rfl (Or.inl rfl)) (fun _ _ _ _ _ => pts_nil) (fun _ _ _ _ _ => (pe_op op_add pe_int (pe_callB (k_len (K := K) rfl) (by rfl) T.f_len PySem.boot_len (pa_cons (pv 1) pa_nil))))) pa_nil))))), ?_⟩
    obtain ⟨q', w', xs', x, dx, pw, l, h1, rfl, h3, h4, p, ws, rfl, h5, h6⟩ := hc
    cases h1
    refine s_ret (ev_is (ev_op (ev_op ev_c (ev_len (ev_fld (ev_var rfl) h3 T.cl_Call T.na_Call_whole (lk_Call_whole _ _ _)) (sq_of h4)) rv_I0)
      (ev_sum (ns := xs.map fun x => (1 : Int) + (x.length : Int)) ?_) rv_I0) ?_) fun H1 e => k H1 e
    · rw [List.map_map]
      refine el_lcM (ds := xs) _ h6.len (ev_fld (ev_var rfl) h3 T.cl_Call T.na_Call_lists (lk_Call_lists _ _ _)) (sq_of h5) (by rw [h6.len]; omega) (fun _ => rfl) ?_
      intro i y d H1 e hi hd
      obtain ⟨d', hd', qq, rfl, hq⟩ := h6.getL hi
      rw [hd] at hd'
      cases hd'
      exact ev_is (ev_op ev_c (ev_len (ev_var rfl) (sq_of (e _ _ hq))) rv_I0) (by rw [List.length_map] <;> rfl)
    · rw [sum_cast, List.length_map]
      congr 1
/-! ### read_calls -/
def CallsRep (K : PySem.W.Frag) (cs : List (List (List Int))) : Rep := MadeD cs (CallRep K)
def sp_read_calls (K : PySem.W.Frag) : Sp := fun vs H Q _ => ∃ (B : Hp) (a : Addr) (ns : List Int) (cs : List (List (List Int))), vs = [.ref a] ∧ Ex B H ∧ SqL K H a (vis ns) ∧ ns.length ≤ 2600 ∧ PyRp09.calls ns = some cs ∧ RetR B H (CallsRep K cs) Q
structure RcInv (K : PySem.W.Frag) (B H : Hp) (a p : Addr) (ns : List Int) (cs : List (List (List Int))) (m : Nat) (σ : L2.St) (H' : Hp) : Prop where
  ex : ∃ (pl f : Nat) (B' : Hp) (ws : List V) (done rest : List (List (List Int))) (last : Option V), m = ns.length - pl ∧ pl ≤ ns.length ∧ σ = [some (.ref a), some (.ref p), some (.int (pl : Int)), last] ∧ Ex B B' ∧ Ex B' H' ∧ (∀ b o, B' b = some o → B b = some o ∨ H b = none) ∧ B' p = none ∧
    H' p = some (.lst ws) ∧ All2 (fun w c => CallRep K c w B') ws done ∧ PyWide.calls f (ns.drop pl) = some rest ∧ cs = done ++ rest ∧ done.length ≤ pl
  old : Ex H H'
theorem ok_read_calls {P : Program} {w : World} {K : PySem.W.Frag} {mg : Str → Option Value} {base : Heap} (T : Txt K mg) (O_read_call : Ok P w K mg base 3 "read_call" p_read_call (sp_read_call K)) (O_call_length : Ok P w K mg base 1 "call_length" p_call_length (sp_call_length K)) : Ok P w K mg base 4 "read_calls" p_read_calls (sp_read_calls K) := by
  refine Ok.of T.e_read_calls T.g_read_calls sc_read_calls (fun _ _ _ _ _ _ us hl => match us, hl with | [_], _ => rfl) (fun vs H Q E h => ?_) (fun cdv A outer s H vs Q E hr h => ?_)
  · obtain ⟨B, a, ns, cs, rfl, _⟩ := h
    rfl
  · obtain ⟨B, a, ns, cs, rfl, hB, hs, hlen, hcs, kk⟩ := h
    refine ⟨_, (pss_cons (ps_set (i := 1) sc_read_calls.nd rfl (Or.inl rfl) (pe_lst pa_nil))
      (pss_cons (ps_set (i := 2) sc_read_calls.nd rfl (Or.inl rfl) pe_int)
      (pss_cons (ps_while PassesOwn.never (pt_cmpR op_lt (pv 2) (pe_callB (k_len (K := K) rfl) (by rfl) T.f_len PySem.boot_len (pa_cons (pv 0) pa_nil)) (nomark _))
      (pss_cons (ps_set (i := 3) sc_read_calls.nd rfl (Or.inl rfl) (pe_callO O_read_call (hr.mono (by decide)) (by rfl) (pa_cons (pv 0) (pa_cons (pv 2) pa_nil))))
      (pss_cons (ps_expr (k_bm (K := K) rfl PySem.F.plainAttrs_list PySem.F.slot_list_append PySem.F.type_list_append mt_append (pv 1) (pa_cons (pv 3) pa_nil)))
      (pss_one (ps_set (i := 2) sc_read_calls.nd rfl (Or.inl rfl) (pe_op op_add (pv 2) (pe_callO O_call_length (hr.mono (by decide)) (by rfl) (pa_cons (pv 3) pa_nil))))))))
      (pss_one (ps_ret (pv 1)))))), ?_⟩
    refine q_asgL (el_lst ea_nil (by decide)) fun p H1 hp e1 h1 => ?_
    refine q_asg ev_c fun H2 e2 => ?_
    have e12 := e1.trans e2
    refine q_while (RcInv K B H a p ns cs) ns.length ⟨⟨0, ns.length, B, [], [], cs, none, rfl, Nat.zero_le _, rfl, Ex.refl _, hB.trans e12, fun _ _ h => .inl h, fresh_back hB hp, e2 _ _ h1, .nil, hcs, rfl, Nat.le_refl _⟩, e12⟩ ?_
    rintro m σ' H' ⟨⟨pl, f, B', ws, done, rest, last, rfl, hpl, rfl, b1, b2, b3, b4, b5, b6, b7, b8, b9⟩, ho⟩
    refine ⟨decide ((pl : Int) < (ns.length : Int)), et_test (ev_is (ev_op (ev_var rfl) (ev_len (ev_var rfl) (ex_l ho hs)) rv_I0) (by rw [List.length_map])), fun hb H3 e3 => ?_, fun hb H3 e3 => ?_⟩
    · have hlt : pl < ns.length := by have := of_decide_eq_true hb; omega
      rcases calls_at hpl b7 with ⟨z, _⟩ | ⟨_, c, u, cs', f', k1, k2, k3⟩
      · omega
      · obtain ⟨q, mm, k, w, xs, c1, c2, c3, c4, c5, c6, c7, c8, c9, c10⟩ := call_at k1
        have hs3 : SqL K H3 a (vis ns) := ex_l (ho.trans e3) hs
        have hxl : xs.length ≤ 2600 := by have := rowsLen_ge xs; omega
        refine ⟨fun σ2 H2 => ∃ m', m' < ns.length - pl ∧ RcInv K B H a p ns cs m' σ2 H2, fun σ2 H2 h => h, ?_⟩
        refine b_asgR (b2.trans e3) (evr_callV (b2.trans e3) (ea_cons (ev_var rfl) (ea_cons (ev_var rfl) ea_nil)) (spr_read_call (b2.trans e3) hs3 hlen k1)) ?_
        intro v B4 H4 g4 hv
        have hp4 : H4 p = some (.lst ws) := g4.h _ _ (e3 _ _ b5)
        have hn4 : B4 p = none := g4.out b4 (by rw [e3 _ _ b5]; exact fun z => by cases z)
        refine q_app hp4 (ev_var rfl) (ev_var rfl) (by rw [b6.len]; omega) fun H5 e5 => ?_
        have hB5 : Ex B4 (upd H5 p (.lst (ws ++ [v]))) := Ex.mut (g4.s.trans e5) hn4
        subst c7
        refine s_asg (ev_addN (ev_var rfl) (ev_call (ea_cons (ev_var rfl) ea_nil) (spv_call_length (hv.mono hB5) hxl))) fun H6 e6 => ?_
        refine ⟨ns.length - (pl + (3 + w.length + rowsLen xs)), by omega, ⟨pl + (3 + w.length + rowsLen xs), f', B4, ws ++ [v], done ++ [(q :: w) :: xs], cs', some v, rfl, c10, rfl, b1.trans g4.b, hB5.trans e6, ?_, hn4, e6 _ _ upd_same, ?_, ?_, ?_, ?_⟩, ?_⟩
        · intro b o hbo
          rcases g4.n b o hbo with z | z
          · exact b3 b o z
          · exact .inr (fresh_back (ho.trans e3) z)
        · exact (b6.imp fun w c z => z.mono g4.b).snoc hv
        · rw [← c9]
          exact k2
        · rw [b8, k3, List.append_assoc] <;> rfl
        · rw [List.length_append, List.length_singleton]
          omega
        · exact (Ex.mut (((ho.trans e3).trans g4.h).trans e5) hp).trans e6
    · have hge : pl = ns.length := by have := of_decide_eq_false hb; omega
      rcases calls_at hpl b7 with ⟨_, z⟩ | ⟨z, _⟩
      · subst z
        rw [List.append_nil] at b8
        subst b8
        refine s_ret (ev_var rfl) fun H4 e4 => ?_
        have e34 := e3.trans e4
        refine kk (.ref p) (upd B' p (.lst ws)) H4 ⟨b1.trans (Ex.new b4), ?_, ho.trans e34, ?_⟩ ⟨p, ws, rfl, upd_same, b6.imp fun _ _ z => z.mono (Ex.new b4)⟩
        · intro b o hbo
          by_cases c : b = p
          · subst c
            rw [upd_same] at hbo
            exact hbo ▸ e34 _ _ b5
          · rw [upd_ne c] at hbo
            exact e34 _ _ (b2 _ _ hbo)
        · intro b o hbo
          by_cases c : b = p
          · subst c
            exact .inr hp
          · rw [upd_ne c] at hbo
            exact b3 b o hbo
      · omega
end Tg
namespace Tg
open PySem PySem.Spec PyProof.Rows L2 Evl
open Rp09 (Version Need)
abbrev vver (v : Version) : List V := vis (verL v)
def VerAt (H : Hp) (p : Addr) (v : Version) : Prop := H p = some (.tup (vver v))
theorem VerAt.mono {H H' : Hp} (e : Ex H H') {p : Addr} {v : Version} (h : VerAt H p v) : VerAt H' p v := e _ _ h
theorem VerAt.sq {K : PySem.W.Frag} {H : Hp} {p : Addr} {v : Version} (h : VerAt H p v) : SqT K H p (vver v) := st_of h
def VerRep (v : Version) : Rep := fun x B => ∃ p, x = .ref p ∧ VerAt B p v
theorem VerRep.mono {B B' : Hp} (e : Ex B B') {x : V} {v : Version} (h : VerRep v x B) : VerRep v x B' := by
  obtain ⟨p, h1, h2⟩ := h
  exact ⟨p, h1, h2.mono e⟩
def NeedAt (K : PySem.W.Frag) (B : Hp) (a : Addr) (n : Need) : Prop := ∃ dx p, B a = some (.ins (He.ga K "Need") dx (fs_Need [.int (n.on : Int), .int (n.kind : Int), .ref p])) ∧ VerAt B p n.from_
theorem NeedAt.mono {K : PySem.W.Frag} {B B' : Hp} (e : Ex B B') {a : Addr} {n : Need} (h : NeedAt K B a n) : NeedAt K B' a n := by
  obtain ⟨dx, p, h1, h2⟩ := h
  exact ⟨dx, p, e _ _ h1, h2.mono e⟩
def NeedRep (K : PySem.W.Frag) (n : Need) : Rep := fun x B => ∃ a, x = .ref a ∧ NeedAt K B a n
theorem NeedRep.mono {K : PySem.W.Frag} {B B' : Hp} (e : Ex B B') {x : V} {n : Need} (h : NeedRep K n x B) : NeedRep K n x B' := by
  obtain ⟨p, h1, h2⟩ := h
  exact ⟨p, h1, h2.mono e⟩
/-! ### raised -/
def sp_raised (K : PySem.W.Frag) : Sp := fun vs H Q _ => ∃ (B : Hp) (p : Addr) (v : Version) (n : Nat), vs = [.ref p, .int (n : Int)] ∧ Ex B H ∧ VerAt H p v ∧ 1 ≤ n ∧ n ≤ 3 ∧ RetR B H (VerRep (v.raised n)) Q
theorem spr_raised {K : PySem.W.Frag} {B H : Hp} {p : Addr} {v : Version} {n : Nat} (hB : Ex B H) (h : VerAt H p v) (h1 : 1 ≤ n) (h3 : n ≤ 3) : SpR (sp_raised K) [.ref p, .int (n : Int)] B H (VerRep (v.raised n)) :=
  fun H1 e Q q E => ⟨B, p, v, n, rfl, hB.trans e, h.mono e, h1, h3, q⟩
theorem ok_raised {P : Program} {w : World} {K : PySem.W.Frag} {mg : Str → Option Value} {base : Heap} (T : Txt K mg) : Ok P w K mg base 1 "raised" p_raised (sp_raised K) := by
  refine Ok.of T.e_raised T.g_raised sc_raised (fun _ _ _ _ _ _ us hl => match us, hl with | [_, _], _ => rfl) (fun vs H Q E h => ?_) (fun cdv A outer s H vs Q E hr h => ?_)
  · obtain ⟨B, p, v, n, rfl, _⟩ := h
    rfl
  · obtain ⟨B, p, v, n, rfl, hB, hv, n1, n3, kk⟩ := h
    refine ⟨_, (pss_cons (ps_set (i := 2) sc_raised.nd rfl (Or.inl rfl) (pe_ix (k_ixT (K := K) rfl) (pv 0) pe_int (fun _ _ => rfl)))
      (pss_cons (ps_set (i := 3) sc_raised.nd rfl (Or.inl rfl) (pe_ix (k_ixT (K := K) rfl) (pv 0) pe_int (fun _ _ => rfl)))
      (pss_cons (ps_set (i := 4) sc_raised.nd rfl (Or.inl rfl) (pe_ix (k_ixT (K := K) rfl) (pv 0) pe_int (fun _ _ => rfl)))
      (pss_cons (ps_if (pt_cmpR op_eq (pv 2) pe_int (nomark _))
      (pss_cons (ps_if (pt_cmpR op_eq (pv 1) (pe_gint T.k_BREAK) (nomark _))
      (pss_one (ps_ret (pe_tup (pa_cons pe_int (pa_cons (pe_op op_add (pv 3) pe_int) (pa_cons pe_int pa_nil))))))
      pss_nil)
      (pss_one (ps_ret (pe_tup (pa_cons pe_int (pa_cons (pv 3) (pa_cons (pe_op op_add (pv 4) pe_int) pa_nil)))))))
      pss_nil)
      (pss_cons (ps_if (pt_cmpR op_eq (pv 1) (pe_gint T.k_MEND) (nomark _))
      (pss_one (ps_ret (pe_tup (pa_cons (pv 2) (pa_cons (pv 3) (pa_cons (pe_op op_add (pv 4) pe_int) pa_nil))))))
      pss_nil)
      (pss_cons (ps_if (pt_cmpR op_eq (pv 1) (pe_gint T.k_NEW) (nomark _))
      (pss_one (ps_ret (pe_tup (pa_cons (pv 2) (pa_cons (pe_op op_add (pv 3) pe_int) (pa_cons pe_int pa_nil))))))
      pss_nil)
      (pss_one (ps_ret (pe_tup (pa_cons (pe_op op_add (pv 2) pe_int) (pa_cons pe_int (pa_cons pe_int pa_nil)))))))))))), ?_⟩
    obtain ⟨a, b, c⟩ := v
    refine q_asg (ev_ixT (v := .int (a : Int)) (ev_var rfl) ev_c hv.sq rfl) fun H1 e1 => ?_
    refine q_asg (ev_ixT (v := .int (b : Int)) (ev_var rfl) ev_c (hv.mono e1).sq rfl) fun H2 e2 => ?_
    refine q_asg (ev_ixT (v := .int (c : Int)) (ev_var rfl) ev_c ((hv.mono e1).mono e2).sq rfl) fun H3 e3 => ?_
    have e : Ex H H3 := (e1.trans e2).trans e3
    have fin : ∀ {H' : Hp} {w : Version}, Ex H H' → w = Version.raised ⟨a, b, c⟩ n → ∀ v B1 H1, Gr B H' B1 H1 → (∃ p, v = V.ref p ∧ B1 p = some (.tup (vver w))) → Q v H1 := fun {H' w} e' ew v B1 H1 g hv => by
      obtain ⟨p, rfl, hp⟩ := hv
      subst ew
      exact kk _ B1 H1 (Gr.of e' g) ⟨p, rfl, hp⟩
    have hB3 := hB.trans e
    refine q_when (et_test (ev_eqI (ev_var rfl) ev_c)) (fun hb H4 e4 => ?_) (fun hb H4 e4 => ?_)
    · have ha : a = 0 := by have := of_decide_eq_true hb; omega
      have hB4 := hB3.trans e4
      refine q_when (et_test (ev_eqI (ev_var rfl) ev_c)) (fun hb2 H5 e5 => ?_) (fun hb2 H5 e5 => ?_)
      · have hn : n = 3 := by have := of_decide_eq_true hb2; omega
        refine b_retR (hB4.trans e5) (evr_ofU (hB4.trans e5) (eu_tup (ea_cons ev_c (ea_cons (ev_op (ev_var rfl) ev_c rv_I0) (ea_cons ev_c ea_nil))) (by show 3 ≤ 100000; decide))) (fin (w := ⟨0, b + 1, 0⟩) ((e.trans e4).trans e5) ?_)
        unfold Version.raised
        rw [if_neg (by omega), if_pos ha, if_pos (by omega)]
      · have hn : ¬ n = 3 := fun z => by have := of_decide_eq_false hb2; omega
        refine b_retR (hB4.trans e5) (evr_ofU (hB4.trans e5) (eu_tup (ea_cons ev_c (ea_cons (ev_var rfl) (ea_cons (ev_op (ev_var rfl) ev_c rv_I0) ea_nil))) (by show 3 ≤ 100000; decide))) (fin (w := ⟨0, b, c + 1⟩) ((e.trans e4).trans e5) ?_)
        unfold Version.raised
        rw [if_neg (by omega), if_pos ha, if_neg (by omega)]
    · have ha : ¬ a = 0 := fun z => by have := of_decide_eq_false hb; omega
      have hB4 := hB3.trans e4
      refine q_when (et_test (ev_eqI (ev_var rfl) ev_c)) (fun hb2 H5 e5 => ?_) (fun hb2 H5 e5 => ?_)
      · have hn : n = 1 := by have := of_decide_eq_true hb2; omega
        refine b_retR (hB4.trans e5) (evr_ofU (hB4.trans e5) (eu_tup (ea_cons (ev_var rfl) (ea_cons (ev_var rfl) (ea_cons (ev_op (ev_var rfl) ev_c rv_I0) ea_nil))) (by show 3 ≤ 100000; decide))) (fin (w := ⟨a, b, c + 1⟩) ((e.trans e4).trans e5) ?_)
        unfold Version.raised
        rw [if_neg (by omega), if_neg ha, if_neg (by omega), if_neg (by omega)]
      · have hn1 : ¬ n = 1 := fun z => by have := of_decide_eq_false hb2; omega
        have hB5 := hB4.trans e5
        refine q_when (et_test (ev_eqI (ev_var rfl) ev_c)) (fun hb3 H6 e6 => ?_) (fun hb3 H6 e6 => ?_)
        · have hn : n = 2 := by have := of_decide_eq_true hb3; omega
          refine b_retR (hB5.trans e6) (evr_ofU (hB5.trans e6) (eu_tup (ea_cons (ev_var rfl) (ea_cons (ev_op (ev_var rfl) ev_c rv_I0) (ea_cons ev_c ea_nil))) (by show 3 ≤ 100000; decide))) (fin (w := ⟨a, b + 1, 0⟩) (((e.trans e4).trans e5).trans e6) ?_)
          unfold Version.raised
          rw [if_neg (by omega), if_neg ha, if_neg (by omega), if_pos hn]
        · have hn : ¬ n = 2 := fun z => by have := of_decide_eq_false hb3; omega
          refine b_retR (hB5.trans e6) (evr_ofU (hB5.trans e6) (eu_tup (ea_cons (ev_op (ev_var rfl) ev_c rv_I0) (ea_cons ev_c (ea_cons ev_c ea_nil))) (by show 3 ≤ 100000; decide))) (fin (w := ⟨a + 1, 0, 0⟩) (((e.trans e4).trans e5).trans e6) ?_)
          unfold Version.raised
          rw [if_neg (by omega), if_neg ha, if_pos (by omega)]
/-! ### numbers_to_first_not_zero, numbers_to_share -/
def sp_numbers_to_first_not_zero (K : PySem.W.Frag) : Sp := fun vs H Q _ => ∃ (p : Addr) (v : Version), vs = [.ref p] ∧ VerAt H p v ∧ RetV (.int (nz v : Int)) H Q
theorem spv_numbers_to_first_not_zero {K : PySem.W.Frag} {H : Hp} {p : Addr} {v : Version} (h : VerAt H p v) : SpV (sp_numbers_to_first_not_zero K) [.ref p] H (.int (nz v : Int)) := fun H1 e Q q E => ⟨p, v, rfl, h.mono e, q⟩
theorem ok_numbers_to_first_not_zero {P : Program} {w : World} {K : PySem.W.Frag} {mg : Str → Option Value} {base : Heap} (T : Txt K mg) : Ok P w K mg base 1 "numbers_to_first_not_zero" p_numbers_to_first_not_zero (sp_numbers_to_first_not_zero K) := by
  refine Ok.of T.e_numbers_to_first_not_zero T.g_numbers_to_first_not_zero sc_numbers_to_first_not_zero (fun _ _ _ _ _ _ us hl => match us, hl with | [_], _ => rfl) (fun vs H Q E h => ?_) (fun cdv A outer s H vs Q E hr h => ?_)
  · obtain ⟨p, v, rfl, _⟩ := h
    rfl
  · obtain ⟨p, v, rfl, hv, k⟩ := h
    refine ⟨_, (pss_cons (ps_if (pt_cmpR op_ne (pe_ix (k_ixT (K := K) rfl) (pv 0) pe_int (fun _ _ => rfl)) pe_int (nomark _))
      (pss_one (ps_ret pe_int))
      pss_nil)
      (pss_cons (ps_if (pt_cmpR op_ne (pe_ix (k_ixT (K := K) rfl) (pv 0) pe_int (fun _ _ => rfl)) pe_int (nomark _))
      (pss_one (ps_ret pe_int))
      pss_nil)
      (pss_one (ps_ret pe_int)))), ?_⟩
    have fin : ∀ {H' : Hp} {m : Int}, Ex H H' → m = (nz v : Int) → ∀ H1, Ex H' H1 → Q (.int m) H1 := fun {H' m} e em H1 e1 => by
      rw [em]
      exact k H1 (e.trans e1)
    refine q_when (et_test (ev_neI (ev_ixT (ev_var rfl) ev_c hv.sq rfl) ev_c)) (fun hb H1 e1 => ?_) (fun hb H1 e1 => ?_)
    · have ha : ¬ v.major = 0 := fun z => by simp [z] at hb
      refine s_ret ev_c (fin e1 ?_)
      unfold nz
      rw [if_neg ha] <;> rfl
    · have ha : v.major = 0 := by simpa using hb
      refine q_when (et_test (ev_neI (ev_ixT (ev_var rfl) ev_c (hv.mono e1).sq rfl) ev_c)) (fun hb2 H2 e2 => ?_) (fun hb2 H2 e2 => ?_)
      · have hb' : ¬ v.minor = 0 := fun z => by simp [z] at hb2
        refine s_ret ev_c (fin (e1.trans e2) ?_)
        unfold nz
        rw [if_pos ha, if_neg hb'] <;> rfl
      · have hb' : v.minor = 0 := by simpa using hb2
        refine s_ret ev_c (fin (e1.trans e2) ?_)
        unfold nz
        rw [if_pos ha, if_pos hb'] <;> rfl
def sp_numbers_to_share (K : PySem.W.Frag) : Sp := fun vs H Q _ => ∃ (a : Addr) (n : Need), vs = [.ref a] ∧ NeedAt K H a n ∧ RetV (.int (shareN n : Int)) H Q
theorem spv_numbers_to_share {K : PySem.W.Frag} {H : Hp} {a : Addr} {n : Need} (h : NeedAt K H a n) : SpV (sp_numbers_to_share K) [.ref a] H (.int (shareN n : Int)) := fun H1 e Q q E => ⟨a, n, rfl, h.mono e, q⟩
theorem ok_numbers_to_share {P : Program} {w : World} {K : PySem.W.Frag} {mg : Str → Option Value} {base : Heap} (T : Txt K mg) (O_numbers_to_first_not_zero : Ok P w K mg base 1 "numbers_to_first_not_zero" p_numbers_to_first_not_zero (sp_numbers_to_first_not_zero K)) : Ok P w K mg base 2 "numbers_to_share" p_numbers_to_share (sp_numbers_to_share K) := by
  refine Ok.of T.e_numbers_to_share T.g_numbers_to_share sc_numbers_to_share (fun _ _ _ _ _ _ us hl => match us, hl with | [_], _ => rfl) (fun vs H Q E h => ?_) (fun cdv A outer s H vs Q E hr h => ?_)
  · obtain ⟨a, n, rfl, _⟩ := h
    rfl
  · obtain ⟨a, n, rfl, hn, k⟩ := h
    refine ⟨_, (pss_cons (ps_if (pt_cmpR op_eq (k_fld (K := K) rfl (pv 0) rfl) (pe_gint T.k_ONLY_THAT) (nomark _))
      (pss_one (ps_ret pe_int))
      pss_nil)
      (pss_cons (ps_if (pt_cmpR op_eq (k_fld (K := K) rfl (pv 0) rfl) (pe_gint T.k_SAME_SECOND) (nomark _))
      (pss_one (ps_ret pe_int))
      pss_nil)
      (pss_cons (ps_if (pt_cmpR op_eq (k_fld (K := K) rfl (pv 0) rfl) (pe_gint T.k_COMPATIBLE) (nomark _))
      (pss_one (ps_ret (pe_callO O_numbers_to_first_not_zero (hr.mono (by decide)) (by rfl) (pa_cons (k_fld (K := K) rfl (pv 0) rfl) pa_nil))))
      pss_nil)
      (pss_one (ps_ret pe_int))))), ?_⟩
    obtain ⟨dx, p, h1, h2⟩ := hn
    have kd : ∀ {H' : Hp}, Ex H H' → Ev (tFld K (tVar 0) "kind") _ H' (.int (n.kind : Int)) := fun {H'} e => ev_fld (σ := [some (.ref a)]) (ev_var rfl) (e _ _ h1) T.cl_Need T.na_Need_kind (lk_Need_kind _ _ _)
    refine q_when (et_test (ev_eqI (kd (Ex.refl _)) ev_c)) (fun hb H1 e1 => ?_) (fun hb H1 e1 => ?_)
    · have ha : n.kind = 0 := by have := of_decide_eq_true hb; omega
      refine s_ret ev_c fun H2 e2 => ?_
      have z := k H2 (e1.trans e2)
      unfold shareN at z
      rw [if_pos ha] at z
      exact z
    · have ha : ¬ n.kind = 0 := fun z => by have := of_decide_eq_false hb; omega
      refine q_when (et_test (ev_eqI (kd e1) ev_c)) (fun hb2 H2 e2 => ?_) (fun hb2 H2 e2 => ?_)
      · have hb' : n.kind = 1 := by have := of_decide_eq_true hb2; omega
        refine s_ret ev_c fun H3 e3 => ?_
        have z := k H3 ((e1.trans e2).trans e3)
        unfold shareN at z
        rw [if_neg ha, if_pos hb'] at z
        exact z
      · have hb' : ¬ n.kind = 1 := fun z => by have := of_decide_eq_false hb2; omega
        refine q_when (et_test (ev_eqI (kd (e1.trans e2)) ev_c)) (fun hb3 H3 e3 => ?_) (fun hb3 H3 e3 => ?_)
        · have hc : n.kind = 2 := by have := of_decide_eq_true hb3; omega
          have e123 := (e1.trans e2).trans e3
          refine s_ret (ev_call (ea_cons (ev_fld (ev_var rfl) (e123 _ _ h1) T.cl_Need T.na_Need_version (lk_Need_version _ _ _)) ea_nil) (spv_numbers_to_first_not_zero (h2.mono e123))) fun H4 e4 => ?_
          have z := k H4 (e123.trans e4)
          unfold shareN at z
          rw [if_neg ha, if_neg hb', if_pos hc] at z
          exact z
        · have hc : ¬ n.kind = 2 := fun z => by have := of_decide_eq_false hb3; omega
          refine s_ret ev_c fun H4 e4 => ?_
          have z := k H4 (((e1.trans e2).trans e3).trans e4)
          unfold shareN at z
          rw [if_neg ha, if_neg hb', if_neg hc] at z
          exact z
/-! ### holds -/
def sp_holds (K : PySem.W.Frag) : Sp := fun vs H Q _ => ∃ (a p : Addr) (n : Need) (v : Version), vs = [.ref a, .ref p] ∧ NeedAt K H a n ∧ VerAt H p v ∧ n.kind ≤ 3 ∧ RetV (.bl (n.holds v)) H Q
theorem spv_holds {K : PySem.W.Frag} {H : Hp} {a p : Addr} {n : Need} {v : Version} (h : NeedAt K H a n) (hv : VerAt H p v) (hk : n.kind ≤ 3) : SpV (sp_holds K) [.ref a, .ref p] H (.bl (n.holds v)) := fun H1 e Q q E => ⟨a, p, n, v, rfl, h.mono e, hv.mono e, hk, q⟩
theorem cut_ver (v : Version) (m : Nat) : cutV (vver v) none (some (m : Int)) = vis ((verL v).take m) := by
  unfold cutV
  rw [HT.sIx_none, HT.sIx_nat, List.drop_zero, Nat.sub_zero, ← List.map_take]
  congr 1
  show (verL v).take (min m 3) = (verL v).take m
  by_cases c : m ≤ 3
  · rw [Nat.min_eq_left c]
  · rw [Nat.min_eq_right (by omega), List.take_of_length_le (Nat.le_refl 3), List.take_of_length_le (by show 3 ≤ m; omega)]
theorem ok_holds {P : Program} {w : World} {K : PySem.W.Frag} {mg : Str → Option Value} {base : Heap} (T : Txt K mg) (O_numbers_to_share : Ok P w K mg base 2 "numbers_to_share" p_numbers_to_share (sp_numbers_to_share K)) : Ok P w K mg base 3 "holds" p_holds (sp_holds K) := by
  refine Ok.of T.e_holds T.g_holds sc_holds (fun _ _ _ _ _ _ us hl => match us, hl with | [_, _], _ => rfl) (fun vs H Q E h => ?_) (fun cdv A outer s H vs Q E hr h => ?_)
  · obtain ⟨a, p, n, v, rfl, _⟩ := h
    rfl
  · obtain ⟨a, p, n, v, rfl, hn, hv, h3, k⟩ := h
    refine ⟨_, (pss_cons (ps_if (pt_cmpR (k_ltT (K := K) rfl hr) (pv 1) (k_fld (K := K) rfl (pv 0) rfl) (nomark _))
      (pss_one (ps_ret pe_bl))
      pss_nil)
      (pss_cons (ps_set (i := 2) sc_holds.nd rfl (Or.inl rfl) (pe_callO O_numbers_to_share (hr.mono (by decide)) (by rfl) (pa_cons (pv 0) pa_nil)))
      (pss_one (ps_ret (pe_cmpR (k_eqD (K := K) rfl hr) (pe_slice (k_slT (K := K) rfl) (pv 1) po_none (po_some (pv 2))) (pe_slice (k_slT (K := K) rfl) (k_fld (K := K) rfl (pv 0) rfl) po_none (po_some (pv 2))) (nomark _)))))), ?_⟩
    have hn0 := hn
    obtain ⟨dx, q, h1, h2⟩ := hn
    have fv : ∀ {H' : Hp} {σ : L2.St}, σ[0]? = some (some (.ref a)) → Ex H H' → Ev (tFld K (tVar 0) "version") σ H' (.ref q) := fun {H' σ} hσ e => ev_fld (ev_var hσ) (e _ _ h1) T.cl_Need T.na_Need_version (lk_Need_version _ _ _)
    rw [← holds_eq n v h3] at k
    refine q_when (et_test (ev_ltT (ev_var rfl) (fv rfl (Ex.refl _)) hv.sq h2.sq)) (fun hb H1 e1 => ?_) (fun hb H1 e1 => ?_)
    · refine s_ret ev_c fun H2 e2 => ?_
      have z := k H2 (e1.trans e2)
      rw [hb] at z
      exact z
    · refine q_asg (ev_call (ea_cons (ev_var rfl) ea_nil) (spv_numbers_to_share (hn0.mono e1))) fun H2 e2 => ?_
      have e12 := e1.trans e2
      have hs1 : SqT K H2 p (vver v) := (hv.mono e12).sq
      have hs2 : SqT K H2 q (vver n.from_) := (h2.mono e12).sq
      refine s_ret (evx_eqT (ns := (verL v).take (shareN n)) (ms := (verL n.from_).take (shareN n)) (evx_imp (evx_slT (ev_var rfl) eo_none (eo_some (ev_var rfl)) hs1) ?_) (evx_imp (evx_slT (fv rfl e12) eo_none (eo_some (ev_var rfl)) hs2) ?_)) fun H3 e3 => ?_
      · rintro x H4 ⟨pp, rfl, hp⟩
        rw [cut_ver] at hp
        exact ⟨pp, rfl, hp⟩
      · rintro x H4 ⟨pp, rfl, hp⟩
        rw [cut_ver] at hp
        exact ⟨pp, rfl, hp⟩
      · have z := k H3 (e12.trans e3)
        rw [hb] at z
        exact z
end Tg
namespace Tg
open PySem PySem.Spec PyProof.Rows L2 Evl
open Rp09 (Version Need Package Step)
def NeedsAt (K : PySem.W.Frag) (B : Hp) (l : Addr) (ns : List Need) : Prop := ∃ as : List Addr, B l = some (.lst (as.map V.ref)) ∧ All2 (NeedAt K B) as ns
theorem NeedsAt.mono {K : PySem.W.Frag} {B B' : Hp} (e : Ex B B') {l : Addr} {ns : List Need} (h : NeedsAt K B l ns) : NeedsAt K B' l ns := by
  obtain ⟨as, h1, h2⟩ := h
  exact ⟨as, e _ _ h1, h2.imp fun _ _ z => z.mono e⟩
/-- where a house's things stand -/
structure HA where
  h : Addr
  pk : Addr
  n : Addr
  pa : Nat → Addr
  va : Nat → Addr
  na : Nat → Addr
  wa : Nat → Addr
/-- the house at A.h has this tree, and notes of these levels; B: what is never changed -/
structure HV (K : PySem.W.Frag) (B H : Hp) (A : HA) (t : List Package) (nl : List Nat) : Prop where
  h : ∃ dx fs, H A.h = some (.ins (He.ga K "House") dx fs) ∧ fs.lookup ("packages" : Str) = some (.ref A.pk) ∧ fs.lookup ("note_levels" : Str) = some (.ref A.n)
  pk : H A.pk = some (.lst ((List.range t.length).map fun i => V.ref (A.pa i)))
  p : ∀ i x, t[i]? = some x → ∃ dx fs, H (A.pa i) = some (.ins (He.ga K "Package") dx fs) ∧ fs.lookup ("version" : Str) = some (.ref (A.va i)) ∧ fs.lookup ("group" : Str) = some (.int (x.group : Int)) ∧ fs.lookup ("needs" : Str) = some (.ref (A.na i)) ∧
    fs.lookup ("waiting" : Str) = some (.ref (A.wa i))
  v : ∀ i x, t[i]? = some x → VerAt B (A.va i) x.version
  ns : ∀ i x, t[i]? = some x → NeedsAt K B (A.na i) x.needs
  w : ∀ i x, t[i]? = some x → H (A.wa i) = some (.lst (visN (x.notes.map fun y => y.1)))
  n : H A.n = some (.lst (visN nl))
  ok : TreeOk t nl
  bh : Ex B H
section
variable {K : PySem.W.Frag} {B B' H H' : Hp} {A : HA} {t : List Package} {nl : List Nat} {σ : L2.St} {ta tb te : TE} {mg : Str → Option Value}
theorem HV.mono2 (hv : HV K B H A t nl) (b : Ex B B') (s : Ex B' H') (e : Ex H H') : HV K B' H' A t nl := by
  refine ⟨?_, e _ _ hv.pk, fun i x hx => ?_, fun i x hx => (hv.v i x hx).mono b, fun i x hx => (hv.ns i x hx).mono b, fun i x hx => e _ _ (hv.w i x hx), e _ _ hv.n, hv.ok, s⟩
  · obtain ⟨dx, fs, h1, h2, h3⟩ := hv.h
    exact ⟨dx, fs, e _ _ h1, h2, h3⟩
  · obtain ⟨dx, fs, h1, h2⟩ := hv.p i x hx
    exact ⟨dx, fs, e _ _ h1, h2⟩
theorem HV.mono (hv : HV K B H A t nl) (e : Ex H H') : HV K B H' A t nl := hv.mono2 (Ex.refl _) (hv.bh.trans e) e
theorem HV.get (hv : HV K B H A t nl) {i : Nat} (hi : i < t.length) : ∃ x, t[i]? = some x ∧ Rp09.at_ t i = x := ⟨_, List.getElem?_eq_getElem hi, at_some (List.getElem?_eq_getElem hi)⟩
theorem HV.ver (hv : HV K B H A t nl) {i : Nat} (hi : i < t.length) : VerAt B (A.va i) (Rp09.at_ t i).version := by
  obtain ⟨x, h1, h2⟩ := hv.get hi
  rw [h2]
  exact hv.v i x h1
theorem HV.e_pk (hv : HV K B H A t nl) (T : Txt K mg) (ha : Ev ta σ H (.ref A.h)) : Ev (tFld K ta "packages") σ H (.ref A.pk) := by
  obtain ⟨dx, fs, h1, h2, _⟩ := hv.h
  exact ev_fld ha h1 T.cl_House T.na_House_packages h2
theorem HV.e_n (hv : HV K B H A t nl) (T : Txt K mg) (ha : Ev ta σ H (.ref A.h)) : Ev (tFld K ta "note_levels") σ H (.ref A.n) := by
  obtain ⟨dx, fs, h1, _, h2⟩ := hv.h
  exact ev_fld ha h1 T.cl_House T.na_House_note_levels h2
theorem at_pa (A : HA) {n i : Nat} (hi : i < n) : atI ((List.range n).map fun i => V.ref (A.pa i)) (i : Int) = some (V.ref (A.pa i)) := atI_nat (by rw [List.getElem?_map, List.getElem?_range hi] <;> rfl)
theorem HV.e_pkg (hv : HV K B H A t nl) (T : Txt K mg) {i : Nat} (hi : i < t.length) (ha : Ev ta σ H (.ref A.h)) (hb : Ev tb σ H (.int (i : Int))) : Ev (tOp (rIxL K) (tFld K ta "packages") tb) σ H (.ref (A.pa i)) :=
  ev_ixL (hv.e_pk T ha) hb (sq_of hv.pk) (at_pa A hi)
theorem HV.e_v (hv : HV K B H A t nl) (T : Txt K mg) {i : Nat} (hi : i < t.length) (ha : Ev te σ H (.ref (A.pa i))) : Ev (tFld K te "version") σ H (.ref (A.va i)) := by
  obtain ⟨x, h1, _⟩ := hv.get hi
  obtain ⟨dx, fs, h2, h3, _⟩ := hv.p i x h1
  exact ev_fld ha h2 T.cl_Package T.na_Package_version h3
theorem HV.e_g (hv : HV K B H A t nl) (T : Txt K mg) {i : Nat} (hi : i < t.length) (ha : Ev te σ H (.ref (A.pa i))) : Ev (tFld K te "group") σ H (.int ((Rp09.at_ t i).group : Int)) := by
  obtain ⟨x, h1, hx⟩ := hv.get hi
  obtain ⟨dx, fs, h2, _, h3, _⟩ := hv.p i x h1
  rw [hx]
  exact ev_fld ha h2 T.cl_Package T.na_Package_group h3
theorem HV.e_ns (hv : HV K B H A t nl) (T : Txt K mg) {i : Nat} (hi : i < t.length) (ha : Ev te σ H (.ref (A.pa i))) : Ev (tFld K te "needs") σ H (.ref (A.na i)) := by
  obtain ⟨x, h1, hx⟩ := hv.get hi
  obtain ⟨dx, fs, h2, _, _, h3, _⟩ := hv.p i x h1
  exact ev_fld ha h2 T.cl_Package T.na_Package_needs h3
theorem HV.e_w (hv : HV K B H A t nl) (T : Txt K mg) {i : Nat} (hi : i < t.length) (ha : Ev te σ H (.ref (A.pa i))) : Ev (tFld K te "waiting") σ H (.ref (A.wa i)) := by
  obtain ⟨x, h1, hx⟩ := hv.get hi
  obtain ⟨dx, fs, h2, _, _, _, h3⟩ := hv.p i x h1
  exact ev_fld ha h2 T.cl_Package T.na_Package_waiting h3
theorem HV.e_len (hv : HV K B H A t nl) (T : Txt K mg) (ha : Ev ta σ H (.ref A.h)) : Ev (tCB (rLenS K) (tCons (tFld K ta "packages") tNil)) σ H (.int (t.length : Int)) :=
  ev_is (ev_len (hv.e_pk T ha) (sq_of hv.pk)) (by rw [List.length_map, List.length_range])
end
/-! ### mates -/
def sp_mates (K : PySem.W.Frag) : Sp := fun vs H Q _ => ∃ (B : Hp) (A : HA) (t : List Package) (nl : List Nat) (i : Nat), vs = [.ref A.h, .int (i : Int)] ∧ HV K B H A t nl ∧ i < t.length ∧ RetL (visN (Rp09.mates t i)) H Q
theorem spl_mates {K : PySem.W.Frag} {B H : Hp} {A : HA} {t : List Package} {nl : List Nat} {i : Nat} (hv : HV K B H A t nl) (hi : i < t.length) : SpL (sp_mates K) [.ref A.h, .int (i : Int)] H (visN (Rp09.mates t i)) :=
  fun H1 e Q q E => ⟨B, A, t, nl, i, rfl, hv.mono e, hi, q⟩
theorem ok_mates {P : Program} {w : World} {K : PySem.W.Frag} {mg : Str → Option Value} {base : Heap} (T : Txt K mg) : Ok P w K mg base 1 "mates" p_mates (sp_mates K) := by
  refine Ok.of T.e_mates T.g_mates sc_mates (fun _ _ _ _ _ _ us hl => match us, hl with | [_, _], _ => rfl) (fun vs H Q E h => ?_) (fun cdv A outer s H vs Q E hr h => ?_)
  · obtain ⟨B, A, t, nl, i, rfl, _⟩ := h
    rfl
  · obtain ⟨B, A, t, nl, i, rfl, hv, hi, k⟩ := h
    refine ⟨_, (pss_cons (ps_set (i := 2) sc_mates.nd rfl (Or.inr rfl) (k_fld (K := K) rfl (pe_ix (k_ixL (K := K) rfl) (k_fld (K := K) rfl (pv 0) rfl) (pv 1) (fun _ _ => rfl)) rfl))
      (pss_cons (ps_if (pt_cmpR op_eq (pv 2) (pe_gint T.k_NO_GROUP) (nomark _))
      (pss_one (ps_ret (pe_lst (pa_cons (pv 1) pa_nil))))
      pss_nil)
      (pss_one (ps_ret (pe_lc (own := [("other", 3)]) (g := gName 3) (by rfl) sc_mates.nd (pi_range1 (by rfl) T.f_range (pa_cons (pe_callB (k_len (K := K) rfl) (by rfl) T.f_len PySem.boot_len (pa_cons (k_fld (K := K) rfl (pv 0) rfl) pa_nil)) pa_nil)) (blkOk_by (own := [("other", 3)]) (N := n_mates) (sc := defScope s_mates) (by decide +kernel)) (fun _ _ _ _ _ => pg_name (i := 3) sc_mates.nd rfl (Or.inl rfl)) (fun _ _ _ _ _ => (pts_one (pt_cmpR op_eq (k_fld (K := K) rfl (pe_ix (k_ixL (K := K) rfl) (k_fld (K := K) rfl (pv 0) rfl) (pv 3) (fun _ _ => rfl)) rfl) (pv 2) (nomark _)))) (fun _ _ _ _ _ => (pv 3))))))), ?_⟩
    refine q_asg (hv.e_g T hi (hv.e_pkg T hi (ev_var rfl) (ev_var rfl))) fun H1 e1 => ?_
    refine q_when (et_test (ev_eqI (ev_var rfl) ev_c)) (fun hb H2 e2 => ?_) (fun hb H2 e2 => ?_)
    · have hg : (Rp09.at_ t i).group = 0 := by have := of_decide_eq_true hb; omega
      refine s_retL (el_lst (ea_cons (ev_var rfl) ea_nil) (by show 1 ≤ 100000; decide)) fun p H3 hp e3 h3 => ?_
      refine k p H3 (fresh_back (e1.trans e2) hp) ((e1.trans e2).trans e3) ?_
      rw [mates_zero hi hg]
      exact h3
    · have hg : ¬ (Rp09.at_ t i).group = 0 := fun z => by have := of_decide_eq_false hb; omega
      have hv2 := hv.mono (e1.trans e2)
      have hl := hv.ok.len
      refine s_retL (el_lcR1 (fun q => decide (((Rp09.at_ t q).group : Int) = ((Rp09.at_ t i).group : Int))) (fun q => .int (q : Int)) (ea_cons (hv2.e_len T (ev_var rfl)) ea_nil) (by omega) (fun _ => rfl) ?_ ?_) fun p H3 hp e3 h3 => ?_
      · intro q H4 e4 hq
        have hv4 := hv2.mono e4
        exact et_test (ev_eqI (hv4.e_g T (by omega) (hv4.e_pkg T (by omega) (ev_var rfl) (ev_var rfl))) (ev_var rfl))
      · intro q H4 e4 hq _
        exact ev_var rfl
      · refine k p H3 (fresh_back (e1.trans e2) hp) ((e1.trans e2).trans e3) ?_
        rw [h3, mates_grp hg]
        unfold given
        rw [Int.toNat_natCast]
        congr 2
        congr 1
        apply List.filter_congr
        intro q _
        by_cases c : (Rp09.at_ t q).group = (Rp09.at_ t i).group
        · rw [c]
          simp
        · rw [decide_eq_false c, decide_eq_false fun z => c (by omega)]
/-! ### mates_differ -/
def sp_mates_differ (K : PySem.W.Frag) : Sp := fun vs H Q _ => ∃ (B : Hp) (A : HA) (t : List Package) (nl : List Nat) (i : Nat), vs = [.ref A.h, .int (i : Int)] ∧ HV K B H A t nl ∧ i < t.length ∧ RetV (.bl (differ t i)) H Q
theorem spv_mates_differ {K : PySem.W.Frag} {B H : Hp} {A : HA} {t : List Package} {nl : List Nat} {i : Nat} (hv : HV K B H A t nl) (hi : i < t.length) : SpV (sp_mates_differ K) [.ref A.h, .int (i : Int)] H (.bl (differ t i)) :=
  fun H1 e Q q E => ⟨B, A, t, nl, i, rfl, hv.mono e, hi, q⟩
theorem mates_len {t : List Package} (h : t.length ≤ 6) (i : Nat) : (Rp09.mates t i).length ≤ 6 := by
  unfold Rp09.mates
  have := List.length_filter_le (fun q => q == i || ((Rp09.at_ t i).group != 0 && (Rp09.at_ t q).group == (Rp09.at_ t i).group)) (List.range t.length)
  rw [List.length_range] at this
  omega
theorem ok_mates_differ {P : Program} {w : World} {K : PySem.W.Frag} {mg : Str → Option Value} {base : Heap} (T : Txt K mg) (O_mates : Ok P w K mg base 1 "mates" p_mates (sp_mates K)) : Ok P w K mg base 2 "mates_differ" p_mates_differ (sp_mates_differ K) := by
  refine Ok.of T.e_mates_differ T.g_mates_differ sc_mates_differ (fun _ _ _ _ _ _ us hl => match us, hl with | [_, _], _ => rfl) (fun vs H Q E h => ?_) (fun cdv A outer s H vs Q E hr h => ?_)
  · obtain ⟨B, A, t, nl, i, rfl, _⟩ := h
    rfl
  · obtain ⟨B, A, t, nl, i, rfl, hv, hi, k⟩ := h
    refine ⟨_, (pss_cons (ps_set (i := 2) sc_mates_differ.nd rfl (Or.inr rfl) (k_fld (K := K) rfl (pe_ix (k_ixL (K := K) rfl) (k_fld (K := K) rfl (pv 0) rfl) (pv 1) (fun _ _ => rfl)) rfl))
      (pss_one (ps_ret (pe_callB (k_any (K := K) rfl rfl) (by rfl) T.f_any (by decide +kernel) (pa_cons (pe_lc (own := [("mate", 3)]) (g := gName 3) (by rfl) sc_mates_differ.nd (k_iList (K := K) rfl (pe_callO O_mates (hr.mono (by decide)) (by rfl) (pa_cons (pv 0) (pa_cons (pv 1) pa_nil)))) (blkOk_by (own := [("mate", 3)]) (N := n_mates_differ) (sc := defScope s_mates_differ) (by decide +kernel)) (fun _ _ _ _ _ => pg_name (i := 3) sc_mates_differ.nd rfl (Or.inl rfl)) (fun _ _ _ _ _ => pts_nil) (fun _ _ _ _ _ => (pe_cmpR (k_neD (K := K) rfl hr) (k_fld (K := K) rfl (pe_ix (k_ixL (K := K) rfl) (k_fld (K := K) rfl (pv 0) rfl) (pv 3) (fun _ _ => rfl)) rfl) (pv 2) (nomark _)))) pa_nil))))), ?_⟩
    refine q_asg (hv.e_v T hi (hv.e_pkg T hi (ev_var rfl) (ev_var rfl))) fun H1 e1 => ?_
    have hv1 := hv.mono e1
    have hml := mates_len hv.ok.len i
    refine s_ret (ev_is (ev_any (bs := (Rp09.mates t i).map fun q => !decide (verL (Rp09.at_ t q).version = verL (Rp09.at_ t i).version)) ?_) ?_) fun H2 e2 => k H2 (e1.trans e2)
    · rw [List.map_map]
      refine el_lcNM (ds := Rp09.mates t i) _ (List.length_map ..) (el_call (ea_cons (ev_var rfl) (ea_cons (ev_var rfl) ea_nil)) (spl_mates hv1 hi)) (by rw [List.length_map]; omega) (fun _ => rfl) ?_
      intro j x d H2 e2 hx hd
      have ex := item_visN hx hd
      subst ex
      have hdl : d < t.length := (mates_mem.mp (List.mem_of_getElem? hd)).1
      have hv2 := hv1.mono e2
      exact evx_neT (evx_tup (hv2.e_v T hdl (hv2.e_pkg T hdl (ev_var rfl) (ev_var rfl))) ((hv.ver hdl).mono (hv.bh.trans (e1.trans e2))).sq) (evx_tup (ev_var rfl) ((hv.ver hi).mono (hv.bh.trans (e1.trans e2))).sq)
    · congr 1
      rw [List.any_map]
      unfold differ
      congr 1
      funext q
      show (!decide (verL (Rp09.at_ t q).version = verL (Rp09.at_ t i).version)) = ((Rp09.at_ t q).version != (Rp09.at_ t i).version)
      rw [verL_eq]
      rfl
/-! ### version_ahead -/
theorem maxL_verL : ∀ (xs : List Version) (x : Version), maxL (verL x) (xs.map verL) = verL (xs.foldl pick x)
  | [], _ => rfl
  | y :: xs, x => by
    show maxL (if HT.lexLt (verL x) (verL y) then verL y else verL x) (xs.map verL) = verL (xs.foldl pick (pick x y))
    rw [lex_less]
    unfold pick
    cases x.less y with
    | true => exact maxL_verL xs y
    | false => exact maxL_verL xs x
def sp_version_ahead (K : PySem.W.Frag) : Sp := fun vs H Q _ => ∃ (B : Hp) (A : HA) (t : List Package) (nl : List Nat) (lv : Addr) (l : List Nat) (i : Nat), vs = [.ref A.h, .ref lv, .int (i : Int)] ∧ HV K B H A t nl ∧ H lv = some (.lst (visN l)) ∧ LevOk t l ∧ i < t.length ∧
  RetR B H (VerRep (Rp09.next t l i)) Q
theorem spr_version_ahead {K : PySem.W.Frag} {B H : Hp} {A : HA} {t : List Package} {nl : List Nat} {lv : Addr} {l : List Nat} {i : Nat} (hv : HV K B H A t nl) (hl : H lv = some (.lst (visN l))) (L : LevOk t l) (hi : i < t.length) :
    SpR (sp_version_ahead K) [.ref A.h, .ref lv, .int (i : Int)] B H (VerRep (Rp09.next t l i)) := fun H1 e Q q E => ⟨B, A, t, nl, lv, l, i, rfl, hv.mono e, e _ _ hl, L, hi, q⟩
theorem tupsAt_map {K : PySem.W.Frag} {H : Hp} {f : Nat → Addr} {g : Nat → List Int} : ∀ {l : List Nat}, (∀ q ∈ l, SqT K H (f q) ((g q).map V.int)) → TupsAt K H (l.map f) (l.map g)
  | [], _ => .nil
  | q :: l, h => .cons (h q (List.mem_cons_self ..)) (tupsAt_map fun r hr => h r (List.mem_cons_of_mem _ hr))
theorem ok_version_ahead {P : Program} {w : World} {K : PySem.W.Frag} {mg : Str → Option Value} {base : Heap} (T : Txt K mg) (O_mates : Ok P w K mg base 1 "mates" p_mates (sp_mates K)) (O_raised : Ok P w K mg base 1 "raised" p_raised (sp_raised K)) : Ok P w K mg base 2 "version_ahead" p_version_ahead (sp_version_ahead K) := by
  refine Ok.of T.e_version_ahead T.g_version_ahead sc_version_ahead (fun _ _ _ _ _ _ us hl => match us, hl with | [_, _, _], _ => rfl) (fun vs H Q E h => ?_) (fun cdv A outer s H vs Q E hr h => ?_)
  · obtain ⟨B, A, t, nl, lv, l, i, rfl, _⟩ := h
    rfl
  · obtain ⟨B, A, t, nl, lv, l, i, rfl, hv, hl, L, hi, kk⟩ := h
    refine ⟨_, (pss_cons (ps_if (pt_cmpR op_eq (pe_ix (k_ixL (K := K) rfl) (pv 1) (pv 2) (fun _ _ => rfl)) pe_int (nomark _))
      (pss_one (ps_ret (k_fld (K := K) rfl (pe_ix (k_ixL (K := K) rfl) (k_fld (K := K) rfl (pv 0) rfl) (pv 2) (fun _ _ => rfl)) rfl)))
      pss_nil)
      (pss_cons (ps_set (i := 3) sc_version_ahead.nd rfl (Or.inl rfl) (pe_callB (k_maxV (K := K) rfl hr rfl) (by rfl) T.f_max (by decide +kernel) (pa_cons (pe_lc (own := [("mate", 4)]) (g := gName 4) (by rfl) sc_version_ahead.nd (k_iList (K := K) rfl (pe_callO O_mates (hr.mono (by decide)) (by rfl) (pa_cons (pv 0) (pa_cons (pv 2) pa_nil)))) (blkOk_by (own := [("mate", 4)]) (N := n_version_ahead) (sc := defScope s_version_ahead) (by decide +kernel)) (fun _ _ _ _ _ => pg_name (i := 4) sc_version_ahead.nd rfl (Or.inl rfl)) (fun _ _ _ _ _ => pts_nil) (fun _ _ _ _ _ => (k_fld (K := K) rfl (pe_ix (k_ixL (K := K) rfl) (k_fld (K := K) rfl (pv 0) rfl) (pv 4) (fun _ _ => rfl)) rfl))) pa_nil)))
      (pss_one (ps_ret (pe_callO O_raised (hr.mono (by decide)) (by rfl) (pa_cons (pv 3) (pa_cons (pe_ix (k_ixL (K := K) rfl) (pv 1) (pv 2) (fun _ _ => rfl)) pa_nil))))))), ?_⟩
    refine q_when (et_test (ev_eqI (ev_ixL (ev_var rfl) (ev_var rfl) (sq_of hl) (at_visN (L.get hi))) ev_c)) (fun hb H1 e1 => ?_) (fun hb H1 e1 => ?_)
    · have h0 : l.getD i 0 = 0 := by have := of_decide_eq_true hb; omega
      have hv1 := hv.mono e1
      refine b_retR hv1.bh (evr_of hv1.bh (hv1.e_v T hi (hv1.e_pkg T hi (ev_var rfl) (ev_var rfl)))) ?_
      rintro v B2 H2 g2 rfl
      refine kk _ B2 H2 (Gr.of e1 g2) ⟨A.va i, rfl, ?_⟩
      unfold Rp09.next
      rw [if_pos h0]
      exact (hv.ver hi).mono g2.b
    · have h0 : ¬ l.getD i 0 = 0 := fun z => by have := of_decide_eq_false hb; omega
      have hv1 := hv.mono e1
      have hml := mates_len hv.ok.len i
      obtain ⟨q0, qs, hq⟩ : ∃ q0 qs, Rp09.mates t i = q0 :: qs := by
        cases e : Rp09.mates t i with
        | nil =>
          have := mates_self hi
          rw [e] at this
          cases this
        | cons a r => exact ⟨a, r, rfl⟩
      have hin : ∀ q ∈ Rp09.mates t i, q < t.length := fun q h => (mates_mem.mp h).1
      refine q_asgX (evx_maxV (ps := (Rp09.mates t i).map A.va) (n := verL (Rp09.at_ t q0).version) (ns := qs.map fun q => verL (Rp09.at_ t q).version) ?_ ?_) ?_
      · rw [List.map_map]
        refine el_lcNM (ds := Rp09.mates t i) _ (List.length_map ..) (el_call (ea_cons (ev_var rfl) (ea_cons (ev_var rfl) ea_nil)) (spl_mates hv1 hi)) (by rw [List.length_map]; omega) (fun _ => rfl) ?_
        intro j x d H2 e2 hx hd
        have ex := item_visN hx hd
        subst ex
        have hdl : d < t.length := hin d (List.mem_of_getElem? hd)
        have hv2 := hv1.mono e2
        exact hv2.e_v T hdl (hv2.e_pkg T hdl (ev_var rfl) (ev_var rfl))
      · intro H2 e2
        have := tupsAt_map (K := K) (H := H2) (f := A.va) (g := fun q => verL (Rp09.at_ t q).version) (l := Rp09.mates t i) fun q h => ((hv.ver (hin q h)).mono (hv1.bh.trans e2)).sq
        rw [hq, List.map_cons, List.map_cons] at this
        rw [hq]
        exact this
      · rintro v H2 e2 ⟨j, p, rfl, hp, hm⟩
        rw [List.getElem?_map] at hp
        have hm' : ((Rp09.mates t i).map fun q => verL (Rp09.at_ t q).version)[j]? = some (maxL (verL (Rp09.at_ t q0).version) (qs.map fun q => verL (Rp09.at_ t q).version)) := by
          rw [hq]
          exact hm
        rw [List.getElem?_map] at hm'
        cases ej : (Rp09.mates t i)[j]? with
        | none =>
          rw [ej] at hp
          cases hp
        | some q =>
          rw [ej] at hp hm'
          have ep : A.va q = p := Option.some.inj hp
          have em : verL (Rp09.at_ t q).version = maxL (verL (Rp09.at_ t q0).version) (qs.map fun q => verL (Rp09.at_ t q).version) := Option.some.inj hm'
          subst ep
          have hqm : q ∈ Rp09.mates t i := List.mem_of_getElem? ej
          have ev : (Rp09.at_ t q).version = Rp09.highest t i := by
            apply verL_inj
            rw [em]
            have e1 : (qs.map fun q => verL (Rp09.at_ t q).version) = (qs.map fun q => (Rp09.at_ t q).version).map verL := by rw [List.map_map] <;> rfl
            rw [e1, maxL_verL]
            congr 1
            unfold Rp09.highest
            rw [hq, List.map_cons]
            refine top_eq ?_
            have := mates_self hi
            rw [hq] at this
            show (Rp09.at_ t i).version ∈ (q0 :: qs).map fun q => (Rp09.at_ t q).version
            exact List.mem_map.mpr ⟨i, this, rfl⟩
          have hv2 := hv1.mono e2
          have hver : VerAt H2 (A.va q) (Rp09.highest t i) := by
            rw [← ev]
            exact (hv.ver (hin q hqm)).mono hv2.bh
          refine b_retR hv2.bh (evr_callV hv2.bh (ea_cons (ev_var rfl) (ea_cons (ev_ixL (ev_var rfl) (ev_var rfl) (sq_of ((e1.trans e2) _ _ hl)) (at_visN (L.get hi))) ea_nil)) (spr_raised hv2.bh hver (by omega) (L.at_le i))) ?_
          intro v B3 H3 g3 hv3
          refine kk v B3 H3 (Gr.of (e1.trans e2) g3) ?_
          unfold Rp09.next
          rw [if_neg h0]
          exact hv3
/-! ### need_lasts -/
def sp_need_lasts (K : PySem.W.Frag) : Sp := fun vs H Q _ => ∃ (B : Hp) (A : HA) (t : List Package) (nl : List Nat) (lv : Addr) (l : List Nat) (a : Addr) (n : Need), vs = [.ref A.h, .ref lv, .ref a] ∧ HV K B H A t nl ∧ H lv = some (.lst (visN l)) ∧ LevOk t l ∧ NeedAt K H a n ∧ (n.on < t.length ∧ n.kind ≤ 3) ∧
  RetV (.bl (n.holds (Rp09.next t l n.on))) H Q
theorem spv_need_lasts {K : PySem.W.Frag} {B H : Hp} {A : HA} {t : List Package} {nl : List Nat} {lv : Addr} {l : List Nat} {a : Addr} {n : Need} (hv : HV K B H A t nl) (hl : H lv = some (.lst (visN l))) (L : LevOk t l) (hn : NeedAt K H a n) (hi : n.on < t.length ∧ n.kind ≤ 3) :
    SpV (sp_need_lasts K) [.ref A.h, .ref lv, .ref a] H (.bl (n.holds (Rp09.next t l n.on))) := fun H1 e Q q E => ⟨B, A, t, nl, lv, l, a, n, rfl, hv.mono e, e _ _ hl, L, hn.mono e, hi, q⟩
theorem NeedAt.e_on {K : PySem.W.Frag} {H : Hp} {a : Addr} {n : Need} {σ : L2.St} {te : TE} {mg : Str → Option Value} (hn : NeedAt K H a n) (T : Txt K mg) (ha : Ev te σ H (.ref a)) : Ev (tFld K te "package") σ H (.int (n.on : Int)) := by
  obtain ⟨dx, p, h1, h2⟩ := hn
  exact ev_fld ha h1 T.cl_Need T.na_Need_package (lk_Need_package _ _ _)
theorem NeedAt.e_kind {K : PySem.W.Frag} {H : Hp} {a : Addr} {n : Need} {σ : L2.St} {te : TE} {mg : Str → Option Value} (hn : NeedAt K H a n) (T : Txt K mg) (ha : Ev te σ H (.ref a)) : Ev (tFld K te "kind") σ H (.int (n.kind : Int)) := by
  obtain ⟨dx, p, h1, h2⟩ := hn
  exact ev_fld ha h1 T.cl_Need T.na_Need_kind (lk_Need_kind _ _ _)
theorem ok_need_lasts {P : Program} {w : World} {K : PySem.W.Frag} {mg : Str → Option Value} {base : Heap} (T : Txt K mg) (O_holds : Ok P w K mg base 3 "holds" p_holds (sp_holds K)) (O_version_ahead : Ok P w K mg base 2 "version_ahead" p_version_ahead (sp_version_ahead K)) : Ok P w K mg base 4 "need_lasts" p_need_lasts (sp_need_lasts K) := by
  refine Ok.of T.e_need_lasts T.g_need_lasts sc_need_lasts (fun _ _ _ _ _ _ us hl => match us, hl with | [_, _, _], _ => rfl) (fun vs H Q E h => ?_) (fun cdv A outer s H vs Q E hr h => ?_)
  · obtain ⟨B, A, t, nl, lv, l, a, n, rfl, _⟩ := h
    rfl
  · obtain ⟨B, A, t, nl, lv, l, a, n, rfl, hv, hl, L, hn, hi, k⟩ := h
    refine ⟨_, (pss_one (ps_ret (pe_callO O_holds (hr.mono (by decide)) (by rfl) (pa_cons (pv 2) (pa_cons (pe_callO O_version_ahead (hr.mono (by decide)) (by rfl) (pa_cons (pv 0) (pa_cons (pv 1) (pa_cons (k_fld (K := K) rfl (pv 2) rfl) pa_nil)))) pa_nil))))), ?_⟩
    refine s_ret (ev_callR (RA := fun vs B' => ∃ x, vs = [.ref a, x] ∧ VerRep (Rp09.next t l n.on) x B') hv.bh (ear_consV hv.bh (ev_var rfl) (ear_cons (R := VerRep (Rp09.next t l n.on)) (evr_callV hv.bh (ea_cons (ev_var rfl) (ea_cons (ev_var rfl) (ea_cons (hn.e_on T (ev_var rfl)) ea_nil))) (spr_version_ahead hv hl L hi.1)) ?_)) ?_) fun H1 e => k H1 e
    · intro v B1 H1 b1 b2 b3 hx
      exact ear_end b2 ⟨v, rfl, hx⟩
    · rintro vs B1 H1 b1 b2 b3 ⟨x, rfl, p, rfl, hp⟩
      exact spv_holds (hn.mono b3) (hp.mono b2) hi.2
end Tg
namespace Tg
open PySem PySem.Spec PyProof.Rows L2 Evl
open Rp09 (Version Need Package)
abbrev Stp := Rp09.Step
theorem HV.tree_mem {K : PySem.W.Frag} {B H : Hp} {A : HA} {t : List Package} {nl : List Nat} (hv : HV K B H A t nl) {i : Nat} (hi : i < t.length) : Rp09.at_ t i ∈ t ∧ t[i]? = some (Rp09.at_ t i) := by
  obtain ⟨x, h1, h2⟩ := hv.get hi
  rw [h2]
  exact ⟨List.mem_of_getElem? h1, h1⟩
/-! ### level_asked -/
def sp_level_asked (K : PySem.W.Frag) : Sp := fun vs H Q _ => ∃ (B : Hp) (A : HA) (t : List Package) (nl : List Nat) (lv : Addr) (l : List Nat) (i : Nat), vs = [.ref A.h, .ref lv, .int (i : Int)] ∧ HV K B H A t nl ∧ H lv = some (.lst (visN l)) ∧ LevOk t l ∧ i < t.length ∧
  RetV (.int ((max (l.getD i 0) (Rp09.asks t l i) : Nat) : Int)) H Q
theorem spv_level_asked {K : PySem.W.Frag} {B H : Hp} {A : HA} {t : List Package} {nl : List Nat} {lv : Addr} {l : List Nat} {i : Nat} (hv : HV K B H A t nl) (hl : H lv = some (.lst (visN l))) (L : LevOk t l) (hi : i < t.length) :
    SpV (sp_level_asked K) [.ref A.h, .ref lv, .int (i : Int)] H (.int ((max (l.getD i 0) (Rp09.asks t l i) : Nat) : Int)) := fun H1 e Q q E => ⟨B, A, t, nl, lv, l, i, rfl, hv.mono e, e _ _ hl, L, hi, q⟩
theorem ok_level_asked {P : Program} {w : World} {K : PySem.W.Frag} {mg : Str → Option Value} {base : Heap} (T : Txt K mg) (O_mates : Ok P w K mg base 1 "mates" p_mates (sp_mates K)) (O_need_lasts : Ok P w K mg base 4 "need_lasts" p_need_lasts (sp_need_lasts K)) (O_mates_differ : Ok P w K mg base 2 "mates_differ" p_mates_differ (sp_mates_differ K)) : Ok P w K mg base 5 "level_asked" p_level_asked (sp_level_asked K) := by
  refine Ok.of T.e_level_asked T.g_level_asked sc_level_asked (fun _ _ _ _ _ _ us hl => match us, hl with | [_, _, _], _ => rfl) (fun vs H Q E h => ?_) (fun cdv A outer s H vs Q E hr h => ?_)
  · obtain ⟨B, A, t, nl, lv, l, i, rfl, _⟩ := h
    rfl
  · obtain ⟨B, A, t, nl, lv, l, i, rfl, hv, hl, L, hi, k⟩ := h
    refine ⟨_, (pss_cons (ps_set (i := 3) sc_level_asked.nd rfl (Or.inl rfl) (pe_ix (k_ixL (K := K) rfl) (k_fld (K := K) rfl (pv 0) rfl) (pv 2) (fun _ _ => rfl)))
      (pss_cons (ps_setLc (i := 4) (own := [("mate", 5)]) (g := gName 5) (by rfl) sc_level_asked.nd rfl rfl (sw_true rfl rfl rfl (by decide +kernel)) (k_iList (K := K) rfl (pe_callO O_mates (hr.mono (by decide)) (by rfl) (pa_cons (pv 0) (pa_cons (pv 2) pa_nil)))) (blkOk_by (own := [("mate", 5)]) (N := n_level_asked) (sc := defScope s_level_asked) (by decide +kernel)) (fun _ _ _ _ _ => pg_name (i := 5) sc_level_asked.nd rfl (Or.inl rfl)) (fun _ _ _ _ _ => pts_nil) (fun _ _ _ _ _ => (pe_ix (k_ixL (K := K) rfl) (pv 1) (pv 5) (fun _ _ => rfl))))
      (pss_cons (ps_expr (k_bm (K := K) rfl PySem.F.plainAttrs_list PySem.F.slot_list_extend PySem.F.type_list_extend mt_extend (pv 4) (pa_cons (pe_lc (own := [("note", 6)]) (g := gName 6) (by rfl) sc_level_asked.nd (k_iList (K := K) rfl (k_fld (K := K) rfl (pv 3) rfl)) (blkOk_by (own := [("note", 6)]) (N := n_level_asked) (sc := defScope s_level_asked) (by decide +kernel)) (fun _ _ _ _ _ => pg_name (i := 6) sc_level_asked.nd rfl (Or.inl rfl)) (fun _ _ _ _ _ => pts_nil) (fun _ _ _ _ _ => (pe_ix (k_ixL (K := K) rfl) (k_fld (K := K) rfl (pv 0) rfl) (pv 6) (fun _ _ => rfl)))) pa_nil)))
      (pss_cons (ps_if (pt_not (pt_val (pe_callB (k_all (K := K) rfl rfl) (by rfl) T.f_all (by decide +kernel) (pa_cons (pe_lc (own := [("need", 7)]) (g := gName 7) (by rfl) sc_level_asked.nd (k_iList (K := K) rfl (k_fld (K := K) rfl (pv 3) rfl)) (blkOk_by (own := [("need", 7)]) (N := n_level_asked) (sc := defScope s_level_asked) (by decide +kernel)) (fun _ _ _ _ _ => pg_name (i := 7) sc_level_asked.nd rfl (Or.inl rfl)) (fun _ _ _ _ _ => pts_nil) (fun _ _ _ _ _ => (pe_callO O_need_lasts (hr.mono (by decide)) (by rfl) (pa_cons (pv 0) (pa_cons (pv 1) (pa_cons (pv 7) pa_nil)))))) pa_nil))))
      (pss_one (ps_expr (k_bm (K := K) rfl PySem.F.plainAttrs_list PySem.F.slot_list_append PySem.F.type_list_append mt_append (pv 4) (pa_cons pe_int pa_nil))))
      pss_nil)
      (pss_cons (ps_if (pt_val (pe_callO O_mates_differ (hr.mono (by decide)) (by rfl) (pa_cons (pv 0) (pa_cons (pv 2) pa_nil))))
      (pss_one (ps_expr (k_bm (K := K) rfl PySem.F.plainAttrs_list PySem.F.slot_list_append PySem.F.type_list_append mt_append (pv 4) (pa_cons pe_int pa_nil))))
      pss_nil)
      (pss_one (ps_ret (pe_callB (k_max (K := K) rfl rfl) (by rfl) T.f_max (by decide +kernel) (pa_cons (pv 4) pa_nil))))))))), ?_⟩
    have hml := mates_len hv.ok.len i
    obtain ⟨hxm, hx⟩ := hv.tree_mem hi
    obtain ⟨hn4, hnon⟩ := hv.ok.needs _ hxm
    obtain ⟨hnl, hnotes⟩ := hv.ok.notes _ hxm
    have hnl30 := hv.ok.nl
    refine q_asg (hv.e_pkg T hi (ev_var rfl) (ev_var rfl)) fun H1 e1 => ?_
    have hv1 := hv.mono e1
    have hl1 := e1 _ _ hl
    refine q_asgL (xs := visN ((Rp09.mates t i).map fun q => l.getD q 0)) ?_ fun p H2 hp e2 h2 => ?_
    · rw [visN_map]
      refine el_lcNM (ds := Rp09.mates t i) _ (List.length_map ..) (el_call (ea_cons (ev_var rfl) (ea_cons (ev_var rfl) ea_nil)) (spl_mates hv1 hi)) (by rw [List.length_map]; omega) (fun _ => rfl) ?_
      intro j x d H3 e3 hx hd
      have ex := item_visN hx hd
      subst ex
      have hdl : d < t.length := (mates_mem.mp (List.mem_of_getElem? hd)).1
      exact ev_ixL (ev_var rfl) (ev_var rfl) (sq_of (e3 _ _ hl1)) (at_visN (L.get hdl))
    · have hpH : H p = none := fresh_back e1 hp
      have e12 := e1.trans e2
      have hv2 := hv.mono e12
      refine q_extL (ys := visN ((Rp09.at_ t i).notes.map fun y => y.2)) h2 (ev_var rfl) ?_ (by rw [visN_len, visN_len, List.length_map, List.length_map]; omega) fun H3 e3 => ?_
      · rw [visN_map]
        refine el_lcM (ds := (Rp09.at_ t i).notes) _ (by rw [List.length_map, List.length_map]) (hv2.e_w T hi (ev_var rfl)) (sq_of (hv2.w i _ hx)) (by rw [List.length_map, List.length_map]; omega) (fun _ => rfl) ?_
        intro j x d H4 e4 hx2 hd
        have ex : x = V.int (d.1 : Int) := item_visN hx2 (by rw [List.getElem?_map, hd] <;> rfl)
        subst ex
        have hv4 := hv2.mono e4
        exact ev_ixL (hv4.e_n T (ev_var rfl)) (ev_var rfl) (sq_of hv4.n) (at_visN (hnotes d (List.mem_of_getElem? hd)).1)
      · have k3 : Keep p H2 (upd H3 p (.lst (visN ((Rp09.mates t i).map fun q => l.getD q 0) ++ visN ((Rp09.at_ t i).notes.map fun y => y.2)))) := Keep.upd e3
        have e4 := k3.ex e12 hpH
        have hp4 : (upd H3 p (.lst (visN ((Rp09.mates t i).map fun q => l.getD q 0) ++ visN ((Rp09.at_ t i).notes.map fun y => y.2)))) p = some (.lst (visN ((Rp09.mates t i).map (fun q => l.getD q 0) ++ (Rp09.at_ t i).notes.map fun y => y.2))) := by
          rw [upd_same]
          rw [visN_app]
        clear k3
        generalize upd H3 p (.lst (visN ((Rp09.mates t i).map fun q => l.getD q 0) ++ visN ((Rp09.at_ t i).notes.map fun y => y.2))) = H4 at e4 hp4 ⊢
        have hv4 := hv.mono e4
        have len4 : ((Rp09.mates t i).map (fun q => l.getD q 0) ++ (Rp09.at_ t i).notes.map fun y => y.2).length ≤ 40 := by rw [List.length_append, List.length_map, List.length_map]; omega
        refine q_whenApp (b := lost t l i) (et_is (et_not (et_B (ev_all (bs := (Rp09.at_ t i).needs.map fun n => n.holds (Rp09.next t l n.on)) ?_))) ?_) hp4 (ev_var rfl) ev_c (by rw [List.length_map]; omega) fun H5 k5 h5 => ?_
        · rw [List.map_map]
          obtain ⟨as, ha1, ha2⟩ := (hv.ns i _ hx).mono hv4.bh
          refine el_lcM (ds := (Rp09.at_ t i).needs) _ (by rw [List.length_map, ha2.len]) (hv4.e_ns T hi (ev_var rfl)) (sq_of ha1) (by rw [List.length_map, ha2.len]; omega) (fun _ => rfl) ?_
          intro j x d H5 e5 hx5 hd
          obtain ⟨a, haj, hna⟩ := ha2.getR hd
          have ex : x = V.ref a := by
            rw [List.getElem?_map, haj] at hx5
            exact (Option.some.inj hx5).symm
          subst ex
          exact ev_call (ea_cons (ev_var rfl) (ea_cons (ev_var rfl) (ea_cons (ev_var rfl) ea_nil))) (spv_need_lasts (hv4.mono e5) ((e4.trans e5) _ _ hl) L (hna.mono e5) (hnon d (List.mem_of_getElem? hd)))
        · rw [List.all_map]
          unfold lost
          rw [List.not_all_eq_any_not]
          rfl
        · have e5 := k5.ex e4 hpH
          have hv5 := hv.mono e5
          have h5' : H5 p = some (.lst (visN ((Rp09.mates t i).map (fun q => l.getD q 0) ++ ((Rp09.at_ t i).notes.map fun y => y.2) ++ (if lost t l i = true then [1] else [])))) := by
            rw [h5]
            cases lost t l i with
            | true =>
              rw [if_pos rfl, if_pos rfl, visN_app _ [1]] <;> rfl
            | false => rw [if_neg Bool.false_ne_true, if_neg Bool.false_ne_true, List.append_nil]
          refine q_whenApp (b := differ t i) (et_B (ev_call (ea_cons (ev_var rfl) (ea_cons (ev_var rfl) ea_nil)) (spv_mates_differ hv5 hi))) h5' (ev_var rfl) ev_c ?_ fun H6 k6 h6 => ?_
          · rw [List.length_map, List.length_append]
            have : (if lost t l i = true then [1] else ([] : List Nat)).length ≤ 1 := by split <;> decide
            omega
          · have e6 := k6.ex e5 hpH
            have h6' : H6 p = some (.lst ((askList t l i).map (fun (n : Nat) => (n : Int)) |>.map V.int)) := by
              rw [h6, ← visN_vis]
              unfold askList
              cases differ t i with
              | true =>
                rw [if_pos rfl, if_pos rfl, visN_app _ [1]] <;> rfl
              | false => rw [if_neg Bool.false_ne_true, if_neg Bool.false_ne_true, List.append_nil]
            obtain ⟨m1, m2⟩ := asked_max (l := l) hi
            refine s_ret (ev_maxS (ev_var rfl) (sq_of h6') (List.mem_map.mpr ⟨_, m1, rfl⟩) fun y hy => ?_) fun H7 e7 => k H7 (e6.trans e7)
            obtain ⟨z, hz, rfl⟩ := List.mem_map.mp hy
            exact Int.ofNat_le.mpr (m2 z hz)
/-! ### all_asked -/
def sp_all_asked (K : PySem.W.Frag) : Sp := fun vs H Q _ => ∃ (B : Hp) (A : HA) (t : List Package) (nl : List Nat) (lv : Addr) (l : List Nat), vs = [.ref A.h, .ref lv] ∧ HV K B H A t nl ∧ H lv = some (.lst (visN l)) ∧ LevOk t l ∧ RetL (visN (Rp09.round t l)) H Q
theorem spl_all_asked {K : PySem.W.Frag} {B H : Hp} {A : HA} {t : List Package} {nl : List Nat} {lv : Addr} {l : List Nat} (hv : HV K B H A t nl) (hl : H lv = some (.lst (visN l))) (L : LevOk t l) :
    SpL (sp_all_asked K) [.ref A.h, .ref lv] H (visN (Rp09.round t l)) := fun H1 e Q q E => ⟨B, A, t, nl, lv, l, rfl, hv.mono e, e _ _ hl, L, q⟩
theorem ok_all_asked {P : Program} {w : World} {K : PySem.W.Frag} {mg : Str → Option Value} {base : Heap} (T : Txt K mg) (O_level_asked : Ok P w K mg base 5 "level_asked" p_level_asked (sp_level_asked K)) : Ok P w K mg base 6 "all_asked" p_all_asked (sp_all_asked K) := by
  refine Ok.of T.e_all_asked T.g_all_asked sc_all_asked (fun _ _ _ _ _ _ us hl => match us, hl with | [_, _], _ => rfl) (fun vs H Q E h => ?_) (fun cdv A outer s H vs Q E hr h => ?_)
  · obtain ⟨B, A, t, nl, lv, l, rfl, _⟩ := h
    rfl
  · obtain ⟨B, A, t, nl, lv, l, rfl, hv, hl, L, k⟩ := h
    refine ⟨_, (pss_one (ps_ret (pe_lc (own := [("number", 2)]) (g := gName 2) (by rfl) sc_all_asked.nd (pi_range1 (by rfl) T.f_range (pa_cons (pe_callB (k_len (K := K) rfl) (by rfl) T.f_len PySem.boot_len (pa_cons (k_fld (K := K) rfl (pv 0) rfl) pa_nil)) pa_nil)) (blkOk_by (own := [("number", 2)]) (N := n_all_asked) (sc := defScope s_all_asked) (by decide +kernel)) (fun _ _ _ _ _ => pg_name (i := 2) sc_all_asked.nd rfl (Or.inl rfl)) (fun _ _ _ _ _ => pts_nil) (fun _ _ _ _ _ => (pe_callO O_level_asked (hr.mono (by decide)) (by rfl) (pa_cons (pv 0) (pa_cons (pv 1) (pa_cons (pv 2) pa_nil)))))))), ?_⟩
    have hlen := hv.ok.len
    refine s_retL (el_lcR1 (fun _ => true) (fun i => .int ((max (l.getD i 0) (Rp09.asks t l i) : Nat) : Int)) (ea_cons (hv.e_len T (ev_var rfl)) ea_nil) (by omega) (fun _ => rfl) (fun q H4 e4 hq => et_yes) ?_) fun p H3 hp e3 h3 => ?_
    · intro q H4 e4 hq _
      exact ev_call (ea_cons (ev_var rfl) (ea_cons (ev_var rfl) (ea_cons (ev_var rfl) ea_nil))) (spv_level_asked (hv.mono e4) (e4 _ _ hl) L (by omega))
    · refine k p H3 hp e3 ?_
      rw [h3]
      unfold given Rp09.round
      rw [Int.toNat_natCast, filt_true, visN_map]
/-! ### least_levels -/
def sp_least_levels (K : PySem.W.Frag) : Sp := fun vs H Q _ => ∃ (B : Hp) (A : HA) (t : List Package) (nl : List Nat), vs = [.ref A.h] ∧ HV K B H A t nl ∧ RetL (visN (Rp09.levels t)) H Q
theorem spl_least_levels {K : PySem.W.Frag} {B H : Hp} {A : HA} {t : List Package} {nl : List Nat} (hv : HV K B H A t nl) : SpL (sp_least_levels K) [.ref A.h] H (visN (Rp09.levels t)) := fun H1 e Q q E => ⟨B, A, t, nl, rfl, hv.mono e, q⟩
theorem levels_ok {t : List Package} {nl : List Nat} (T : TreeOk t nl) : LevOk t (Rp09.levels t) := by
  unfold Rp09.levels
  have : ∀ n, LevOk t (Rp09.times (Rp09.round t) n (List.replicate t.length 0)) := fun n => by
    induction n with
    | zero => exact (turn0 t).ok
    | succ n ih =>
      rw [times_succ]
      exact round_ok T ih
  exact this _
structure LlInv (H : Hp) (A : HA) (t : List Package) (m : Nat) (σ : L2.St) (H' : Hp) : Prop where
  ex : ∃ (i : Nat) (l : List Nat) (p1 p2 : Addr), m = 3 * t.length - l.sum ∧ Turn t i l ∧ σ = [some (.ref A.h), some (.ref p1), some (.ref p2), none] ∧ H p1 = none ∧ H p2 = none ∧ H' p1 = some (.lst (visN l)) ∧ H' p2 = some (.lst (visN (Rp09.round t l)))
  old : Ex H H'
theorem ok_least_levels {P : Program} {w : World} {K : PySem.W.Frag} {mg : Str → Option Value} {base : Heap} (T : Txt K mg) (O_all_asked : Ok P w K mg base 6 "all_asked" p_all_asked (sp_all_asked K)) : Ok P w K mg base 7 "least_levels" p_least_levels (sp_least_levels K) := by
  refine Ok.of T.e_least_levels T.g_least_levels sc_least_levels (fun _ _ _ _ _ _ us hl => match us, hl with | [_], _ => rfl) (fun vs H Q E h => ?_) (fun cdv A outer s H vs Q E hr h => ?_)
  · obtain ⟨B, A, t, nl, rfl, _⟩ := h
    rfl
  · obtain ⟨B, A, t, nl, rfl, hv, k⟩ := h
    refine ⟨_, (pss_cons (ps_setLc (i := 1) (own := [("package", 3)]) (g := gName 3) (by rfl) sc_least_levels.nd rfl rfl (sw_true rfl rfl rfl (by decide +kernel)) (k_iList (K := K) rfl (k_fld (K := K) rfl (pv 0) rfl)) (blkOk_by (own := [("package", 3)]) (N := n_least_levels) (sc := defScope s_least_levels) (by decide +kernel)) (fun _ _ _ _ _ => pg_name (i := 3) sc_least_levels.nd rfl (Or.inl rfl)) (fun _ _ _ _ _ => pts_nil) (fun _ _ _ _ _ => pe_int))
      (pss_cons (ps_set (i := 2) sc_least_levels.nd rfl (Or.inl rfl) (pe_callO O_all_asked (hr.mono (by decide)) (by rfl) (pa_cons (pv 0) (pa_cons (pv 1) pa_nil))))
      (pss_cons (ps_while PassesOwn.never (pt_cmpR (k_neD (K := K) rfl hr) (pv 2) (pv 1) (nomark _))
      (pss_cons (ps_set (i := 1) sc_least_levels.nd rfl (Or.inl rfl) (pv 2))
      (pss_one (ps_set (i := 2) sc_least_levels.nd rfl (Or.inl rfl) (pe_callO O_all_asked (hr.mono (by decide)) (by rfl) (pa_cons (pv 0) (pa_cons (pv 1) pa_nil)))))))
      (pss_one (ps_ret (pv 1)))))), ?_⟩
    have hlen := hv.ok.len
    refine q_asgL (xs := visN (List.replicate t.length 0)) ?_ fun p1 H1 hp1 e1 h1 => ?_
    · have e : visN (List.replicate t.length 0) = (List.range t.length).map fun _ => V.int 0 := by
        apply List.ext_getElem
        · rw [visN_len, List.length_replicate, List.length_map, List.length_range]
        · intro i h1 h2
          simp [visN]
      rw [e]
      exact el_lcM (ds := List.range t.length) _ (List.length_map ..) (hv.e_pk T (ev_var rfl)) (sq_of hv.pk) (by rw [List.length_map, List.length_range]; omega) (fun _ => rfl) fun i x d H1 e hx hd => ev_c
    · refine q_asgL (el_call (ea_cons (ev_var rfl) (ea_cons (ev_var rfl) ea_nil)) (spl_all_asked (hv.mono e1) h1 (turn0 t).ok)) fun p2 H2 hp2 e2 h2 => ?_
      refine q_while (LlInv H A t) _ ⟨⟨0, _, p1, p2, rfl, turn0 t, rfl, hp1, fresh_back e1 hp2, e2 _ _ h1, h2⟩, e1.trans e2⟩ ?_
      rintro m σ' H' ⟨⟨i, l, q1, q2, rfl, tn, rfl, n1, n2, g1, g2⟩, ho⟩
      have g1' : SqL K H' q1 ((l.map fun (n : Nat) => (n : Int)).map V.int) := by rw [← visN_vis]; exact sq_of g1
      have g2' : SqL K H' q2 (((Rp09.round t l).map fun (n : Nat) => (n : Int)).map V.int) := by rw [← visN_vis]; exact sq_of g2
      refine ⟨!decide (Rp09.round t l = l), et_is (et_test (ev_neL (ev_var rfl) (ev_var rfl) g2' g1')) ?_, fun hb H3 e3 => ?_, fun hb H3 e3 => ?_⟩
      · congr 1
        by_cases c : Rp09.round t l = l
        · rw [c]
          simp
        · rw [decide_eq_false c, decide_eq_false fun z => c ?_]
          exact (List.map_inj_right (fun a b h => Int.ofNat.inj h)).mp z
      · have hne : Rp09.round t l ≠ l := by simpa using hb
        have tn' := tn.next hv.ok hne
        refine ⟨fun σ2 H2 => ∃ m', m' < 3 * t.length - l.sum ∧ LlInv H A t m' σ2 H2, fun σ2 H2 h => h, ?_⟩
        refine q_asg (ev_var rfl) fun H4 e4 => ?_
        refine s_asgL (el_call (ea_cons (ev_var rfl) (ea_cons (ev_var rfl) ea_nil)) (spl_all_asked (hv.mono ((ho.trans e3).trans e4)) ((e3.trans e4) _ _ g2) tn'.ok)) fun p3 H5 hp3 e5 h5 => ?_
        refine ⟨3 * t.length - (Rp09.round t l).sum, ?_, ⟨i + 1, Rp09.round t l, q2, p3, rfl, tn', rfl, n2, fresh_back ((ho.trans e3).trans e4) hp3, ((e3.trans e4).trans e5) _ _ g2, h5⟩, ((ho.trans e3).trans e4).trans e5⟩
        have h1 := round_grows tn.ok hne
        have h2 := sum_le3 tn'.ok.le
        rw [tn'.ok.len] at h2
        omega
      · have he : Rp09.round t l = l := by simpa using hb
        refine s_ret (ev_var rfl) fun H4 e4 => ?_
        refine k q1 H4 n1 ((ho.trans e3).trans e4) ?_
        rw [← tn.done he]
        exact (e3.trans e4) _ _ g1
/-! ### need_ahead -/
abbrev moved (t : List Package) (l : List Nat) (n : Need) : Need := if n.holds (Rp09.next t l n.on) = true then n else { n with from_ := Rp09.next t l n.on }
def sp_need_ahead (K : PySem.W.Frag) : Sp := fun vs H Q _ => ∃ (B : Hp) (A : HA) (t : List Package) (nl : List Nat) (lv : Addr) (l : List Nat) (a : Addr) (n : Need), vs = [.ref A.h, .ref lv, .ref a] ∧ HV K B H A t nl ∧ H lv = some (.lst (visN l)) ∧ LevOk t l ∧ NeedAt K B a n ∧ (n.on < t.length ∧ n.kind ≤ 3) ∧
  RetR B H (NeedRep K (moved t l n)) Q
theorem spr_need_ahead {K : PySem.W.Frag} {B H : Hp} {A : HA} {t : List Package} {nl : List Nat} {lv : Addr} {l : List Nat} {a : Addr} {n : Need} (hv : HV K B H A t nl) (hl : H lv = some (.lst (visN l))) (L : LevOk t l) (hn : NeedAt K B a n) (hi : n.on < t.length ∧ n.kind ≤ 3) :
    SpR (sp_need_ahead K) [.ref A.h, .ref lv, .ref a] B H (NeedRep K (moved t l n)) := fun H1 e Q q E => ⟨B, A, t, nl, lv, l, a, n, rfl, hv.mono e, e _ _ hl, L, hn, hi, q⟩
theorem ok_need_ahead {P : Program} {w : World} {K : PySem.W.Frag} {mg : Str → Option Value} {base : Heap} (T : Txt K mg) (O_need_lasts : Ok P w K mg base 4 "need_lasts" p_need_lasts (sp_need_lasts K)) (O_version_ahead : Ok P w K mg base 2 "version_ahead" p_version_ahead (sp_version_ahead K)) (O_Need : OkC P w K mg base 1 "Need" p_Need_init (spi_Need K)) : Ok P w K mg base 5 "need_ahead" p_need_ahead (sp_need_ahead K) := by
  refine Ok.of T.e_need_ahead T.g_need_ahead sc_need_ahead (fun _ _ _ _ _ _ us hl => match us, hl with | [_, _, _], _ => rfl) (fun vs H Q E h => ?_) (fun cdv A outer s H vs Q E hr h => ?_)
  · obtain ⟨B, A, t, nl, lv, l, a, n, rfl, _⟩ := h
    rfl
  · obtain ⟨B, A, t, nl, lv, l, a, n, rfl, hv, hl, L, hn, hi, kk⟩ := h
    refine ⟨_, (pss_cons (ps_if (pt_val (pe_callO O_need_lasts (hr.mono (by decide)) (by rfl) (pa_cons (pv 0) (pa_cons (pv 1) (pa_cons (pv 2) pa_nil)))))
      (pss_one (ps_ret (pv 2)))
      pss_nil)
      (pss_one (ps_ret (k_make (K := K) rfl O_Need (hr.mono (by decide)) (by rfl) (pa_cons (k_fld (K := K) rfl (pv 2) rfl) (pa_cons (k_fld (K := K) rfl (pv 2) rfl) (pa_cons (pe_callO O_version_ahead (hr.mono (by decide)) (by rfl) (pa_cons (pv 0) (pa_cons (pv 1) (pa_cons (k_fld (K := K) rfl (pv 2) rfl) pa_nil)))) pa_nil))))))), ?_⟩
    refine q_when (et_B (ev_call (ea_cons (ev_var rfl) (ea_cons (ev_var rfl) (ea_cons (ev_var rfl) ea_nil))) (spv_need_lasts hv hl L (hn.mono hv.bh) hi))) (fun hb H1 e1 => ?_) (fun hb H1 e1 => ?_)
    · have hv1 := hv.mono e1
      refine b_retR hv1.bh (evr_of hv1.bh (ev_var rfl)) ?_
      rintro v B2 H2 g2 rfl
      refine kk _ B2 H2 (Gr.of e1 g2) ⟨a, rfl, ?_⟩
      unfold moved
      rw [if_pos hb]
      exact hn.mono g2.b
    · have hv1 := hv.mono e1
      have hn1 := hn.mono hv1.bh
      refine b_retR hv1.bh (evr_make (RA := fun vs B' => ∃ x, vs = [.int (n.on : Int), .int (n.kind : Int), x] ∧ VerRep (Rp09.next t l n.on) x B') (ear_consV hv1.bh (hn1.e_on T (ev_var rfl)) (ear_consV hv1.bh (hn1.e_kind T (ev_var rfl))
        (ear_cons (R := VerRep (Rp09.next t l n.on)) (evr_callV hv1.bh (ea_cons (ev_var rfl) (ea_cons (ev_var rfl) (ea_cons (hn1.e_on T (ev_var rfl)) ea_nil))) (spr_version_ahead hv1 (e1 _ _ hl) L hi.1)) ?_))) ?_ ?_) ?_
      · intro v B2 H2 b1 b2 b3 hx
        exact ear_end b2 ⟨v, rfl, hx⟩
      · rintro vs B B' e ⟨x, h1, h2⟩
        exact ⟨x, h1, h2.mono e⟩
      · rintro vs B' ⟨x, rfl, _⟩
        rfl
      · rintro v B2 H2 g2 ⟨x, dx, vs, rfl, hx, y, rfl, p, rfl, hp⟩
        refine kk _ B2 H2 (Gr.of e1 g2) ⟨x, rfl, ?_⟩
        unfold moved
        rw [if_neg (by rw [hb]; decide)]
        exact ⟨dx, p, hx, hp⟩
/-! ### step_of, steps_now -/
def StepRep (K : PySem.W.Frag) (s : Stp) : Rep := fun v B => ∃ a dx pv l nt, v = .ref a ∧ B a = some (.ins (He.ga K "Step") dx (fs_Step [.int (s.pkg : Int), .int (s.level : Int), .ref pv, .ref l, .ref nt])) ∧ VerAt B pv s.version ∧ NeedsAt K B l s.needs ∧ B nt = some (.lst (visN s.notes))
theorem StepRep.mono {K : PySem.W.Frag} {B B' : Hp} (e : Ex B B') {v : V} {s : Stp} (h : StepRep K s v B) : StepRep K s v B' := by
  obtain ⟨a, dx, pv, l, nt, h1, h2, h3, h4, h5⟩ := h
  exact ⟨a, dx, pv, l, nt, h1, e _ _ h2, h3.mono e, h4.mono e, e _ _ h5⟩
abbrev stepAt (t : List Package) (l : List Nat) (p : Nat) : Stp := ⟨p, l.getD p 0, Rp09.next t l p, (Rp09.at_ t p).needs.map (moved t l), (Rp09.at_ t p).notes.map fun x => x.1⟩
theorem steps_eq (t : List Package) : Rp09.steps t = ((List.range t.length).filter fun p => (Rp09.levels t).getD p 0 != 0).map (stepAt t (Rp09.levels t)) := rfl
def sp_step_of (K : PySem.W.Frag) : Sp := fun vs H Q _ => ∃ (B : Hp) (A : HA) (t : List Package) (nl : List Nat) (lv : Addr) (l : List Nat) (i : Nat), vs = [.ref A.h, .ref lv, .int (i : Int)] ∧ HV K B H A t nl ∧ H lv = some (.lst (visN l)) ∧ LevOk t l ∧ i < t.length ∧ RetR B H (StepRep K (stepAt t l i)) Q
theorem spr_step_of {K : PySem.W.Frag} {B H : Hp} {A : HA} {t : List Package} {nl : List Nat} {lv : Addr} {l : List Nat} {i : Nat} (hv : HV K B H A t nl) (hl : H lv = some (.lst (visN l))) (L : LevOk t l) (hi : i < t.length) :
    SpR (sp_step_of K) [.ref A.h, .ref lv, .int (i : Int)] B H (StepRep K (stepAt t l i)) := fun H1 e Q q E => ⟨B, A, t, nl, lv, l, i, rfl, hv.mono e, e _ _ hl, L, hi, q⟩
theorem madeD_needs {K : PySem.W.Frag} {B : Hp} {v : V} {f : Need → Need} {ns : List Need} (h : MadeD ns (fun n => NeedRep K (f n)) v B) : ∃ p, v = .ref p ∧ NeedsAt K B p (ns.map f) := by
  obtain ⟨p, ws, h1, h2, h3⟩ := h
  refine ⟨p, h1, ?_⟩
  have : ∃ as : List Addr, ws = as.map V.ref ∧ All2 (fun a n => NeedAt K B a (f n)) as ns := by
    clear h2
    induction h3 with
    | nil => exact ⟨[], rfl, .nil⟩
    | cons q _ ih =>
      obtain ⟨a, rfl, ha⟩ := q
      obtain ⟨as, rfl, h4⟩ := ih
      exact ⟨a :: as, rfl, .cons ha h4⟩
  obtain ⟨as, rfl, h4⟩ := this
  exact ⟨as, h2, h4.mapR⟩
theorem ok_step_of {P : Program} {w : World} {K : PySem.W.Frag} {mg : Str → Option Value} {base : Heap} (T : Txt K mg) (O_need_ahead : Ok P w K mg base 5 "need_ahead" p_need_ahead (sp_need_ahead K)) (O_version_ahead : Ok P w K mg base 2 "version_ahead" p_version_ahead (sp_version_ahead K)) (O_Step : OkC P w K mg base 1 "Step" p_Step_init (spi_Step K)) : Ok P w K mg base 6 "step_of" p_step_of (sp_step_of K) := by
  refine Ok.of T.e_step_of T.g_step_of sc_step_of (fun _ _ _ _ _ _ us hl => match us, hl with | [_, _, _], _ => rfl) (fun vs H Q E h => ?_) (fun cdv A outer s H vs Q E hr h => ?_)
  · obtain ⟨B, A, t, nl, lv, l, i, rfl, _⟩ := h
    rfl
  · obtain ⟨B, A, t, nl, lv, l, i, rfl, hv, hl, L, hi, kk⟩ := h
    refine ⟨_, (pss_cons (ps_set (i := 3) sc_step_of.nd rfl (Or.inl rfl) (pe_ix (k_ixL (K := K) rfl) (k_fld (K := K) rfl (pv 0) rfl) (pv 2) (fun _ _ => rfl)))
      (pss_cons (ps_setLc (i := 4) (own := [("need", 6)]) (g := gName 6) (by rfl) sc_step_of.nd rfl rfl (sw_true rfl rfl rfl (by decide +kernel)) (k_iList (K := K) rfl (k_fld (K := K) rfl (pv 3) rfl)) (blkOk_by (own := [("need", 6)]) (N := n_step_of) (sc := defScope s_step_of) (by decide +kernel)) (fun _ _ _ _ _ => pg_name (i := 6) sc_step_of.nd rfl (Or.inl rfl)) (fun _ _ _ _ _ => pts_nil) (fun _ _ _ _ _ => (pe_callO O_need_ahead (hr.mono (by decide)) (by rfl) (pa_cons (pv 0) (pa_cons (pv 1) (pa_cons (pv 6) pa_nil))))))
      (pss_cons (ps_set (i := 5) sc_step_of.nd rfl (Or.inl rfl) (pe_callTy (k_list (K := K) rfl) (by rfl) T.f_list (by decide +kernel) (pa_cons (k_fld (K := K) rfl (pv 3) rfl) pa_nil)))
      (pss_one (ps_ret (k_make (K := K) rfl O_Step (hr.mono (by decide)) (by rfl) (pa_cons (pv 2) (pa_cons (pe_ix (k_ixL (K := K) rfl) (pv 1) (pv 2) (fun _ _ => rfl)) (pa_cons (pe_callO O_version_ahead (hr.mono (by decide)) (by rfl) (pa_cons (pv 0) (pa_cons (pv 1) (pa_cons (pv 2) pa_nil)))) (pa_cons (pv 4) (pa_cons (pv 5) pa_nil))))))))))), ?_⟩
    obtain ⟨hxm, hx⟩ := hv.tree_mem hi
    obtain ⟨hn4, hnon⟩ := hv.ok.needs _ hxm
    refine q_asg (hv.e_pkg T hi (ev_var rfl) (ev_var rfl)) fun H1 e1 => ?_
    have hv1 := hv.mono e1
    obtain ⟨as, ha1, ha2⟩ := hv1.ns i _ hx
    refine b_asgR hv1.bh (evr_lcMD (ds := (Rp09.at_ t i).needs) (fun n => NeedRep K (moved t l n)) (fun d v B B' e h => h.mono e) (by rw [List.length_map, ha2.len]) hv1.bh (hv1.e_ns T hi (ev_var rfl)) (sq_of (hv1.bh _ _ ha1)) (by rw [List.length_map, ha2.len]; omega) (fun _ => rfl) ?_) ?_
    · intro j x d B2 H2 b1 b2 b3 hx2 hd
      obtain ⟨a, haj, hna⟩ := ha2.getR hd
      have ex : x = V.ref a := by
        rw [List.getElem?_map, haj] at hx2
        exact (Option.some.inj hx2).symm
      subst ex
      exact evr_callV b2 (ea_cons (ev_var rfl) (ea_cons (ev_var rfl) (ea_cons (ev_var rfl) ea_nil))) (spr_need_ahead (hv1.mono2 b1 b2 b3) ((e1.trans b3) _ _ hl) L (hna.mono b1) (hnon d (List.mem_of_getElem? hd)))
    · intro v B2 H2 g2 hm
      obtain ⟨pn, rfl, hpn⟩ := madeD_needs hm
      have hv2 := hv1.mono2 g2.b g2.s g2.h
      refine b_asgR g2.s (evr_ofL g2.s (el_list (hv2.e_w T hi (ev_var rfl)) (sq_of (hv2.w i _ hx)))) ?_
      rintro v B3 H3 g3 ⟨pt, rfl, hpt⟩
      have hv3 := hv2.mono2 g3.b g3.s g3.h
      have hl3 := ((e1.trans g2.h).trans g3.h) _ _ hl
      refine b_retR g3.s (evr_make (RA := fun vs B' => ∃ x, vs = [.int (i : Int), .int ((l.getD i 0 : Nat) : Int), x, .ref pn, .ref pt] ∧ VerRep (Rp09.next t l i) x B' ∧ NeedsAt K B' pn ((Rp09.at_ t i).needs.map (moved t l)) ∧ B' pt = some (.lst (visN ((Rp09.at_ t i).notes.map fun y => y.1))))
        (ear_consV g3.s (ev_var rfl) (ear_consV g3.s (ev_ixL (ev_var rfl) (ev_var rfl) (sq_of hl3) (at_visN (L.get hi)))
        (ear_cons (R := VerRep (Rp09.next t l i)) (evr_callV g3.s (ea_cons (ev_var rfl) (ea_cons (ev_var rfl) (ea_cons (ev_var rfl) ea_nil))) (spr_version_ahead hv3 hl3 L hi)) ?_))) ?_ ?_) ?_
      · intro v B4 H4 b1 b2 b3 hx4
        exact ear_consV b2 (ev_var rfl) (ear_consV b2 (ev_var rfl) (ear_end b2 ⟨v, rfl, hx4, (hpn.mono g3.b).mono b1, b1 _ _ hpt⟩))
      · rintro vs B B' e ⟨x, h1, h2, h3, h4⟩
        exact ⟨x, h1, h2.mono e, h3.mono e, e _ _ h4⟩
      · rintro vs B' ⟨x, rfl, _⟩
        rfl
      · rintro v B4 H4 g4 ⟨x, dx, vs, rfl, hx4, y, rfl, ⟨p, rfl, hp⟩, h3, h4⟩
        exact kk _ B4 H4 (Gr.of e1 ((g2.trans g3).trans g4)) ⟨x, dx, p, pn, pt, rfl, hx4, hp, h3, h4⟩
def StepsRep (K : PySem.W.Frag) (ss : List Stp) : Rep := MadeD ss (StepRep K)
theorem StepsRep.mono {K : PySem.W.Frag} {B B' : Hp} (e : Ex B B') {v : V} {ss : List Stp} (h : StepsRep K ss v B) : StepsRep K ss v B' := by
  obtain ⟨p, ws, h1, h2, h3⟩ := h
  exact ⟨p, ws, h1, e _ _ h2, h3.imp fun _ _ z => z.mono e⟩
def sp_steps_now (K : PySem.W.Frag) : Sp := fun vs H Q _ => ∃ (B : Hp) (A : HA) (t : List Package) (nl : List Nat), vs = [.ref A.h] ∧ HV K B H A t nl ∧ RetR B H (StepsRep K (Rp09.steps t)) Q
theorem spr_steps_now {K : PySem.W.Frag} {B H : Hp} {A : HA} {t : List Package} {nl : List Nat} (hv : HV K B H A t nl) : SpR (sp_steps_now K) [.ref A.h] B H (StepsRep K (Rp09.steps t)) := fun H1 e Q q E => ⟨B, A, t, nl, rfl, hv.mono e, q⟩
theorem ok_steps_now {P : Program} {w : World} {K : PySem.W.Frag} {mg : Str → Option Value} {base : Heap} (T : Txt K mg) (O_least_levels : Ok P w K mg base 7 "least_levels" p_least_levels (sp_least_levels K)) (O_step_of : Ok P w K mg base 6 "step_of" p_step_of (sp_step_of K)) : Ok P w K mg base 8 "steps_now" p_steps_now (sp_steps_now K) := by
  refine Ok.of T.e_steps_now T.g_steps_now sc_steps_now (fun _ _ _ _ _ _ us hl => match us, hl with | [_], _ => rfl) (fun vs H Q E h => ?_) (fun cdv A outer s H vs Q E hr h => ?_)
  · obtain ⟨B, A, t, nl, rfl, _⟩ := h
    rfl
  · obtain ⟨B, A, t, nl, rfl, hv, kk⟩ := h
    refine ⟨_, (pss_cons (ps_set (i := 1) sc_steps_now.nd rfl (Or.inr rfl) (pe_callO O_least_levels (hr.mono (by decide)) (by rfl) (pa_cons (pv 0) pa_nil)))
      (pss_one (ps_ret (pe_lc (own := [("number", 2)]) (g := gName 2) (by rfl) sc_steps_now.nd (pi_range1 (by rfl) T.f_range (pa_cons (pe_callB (k_len (K := K) rfl) (by rfl) T.f_len PySem.boot_len (pa_cons (pv 1) pa_nil)) pa_nil)) (blkOk_by (own := [("number", 2)]) (N := n_steps_now) (sc := defScope s_steps_now) (by decide +kernel)) (fun _ _ _ _ _ => pg_name (i := 2) sc_steps_now.nd rfl (Or.inl rfl)) (fun _ _ _ _ _ => (pts_one (pt_cmpR op_ne (pe_ix (k_ixL (K := K) rfl) (pv 1) (pv 2) (fun _ _ => rfl)) pe_int (nomark _)))) (fun _ _ _ _ _ => (pe_callO O_step_of (hr.mono (by decide)) (by rfl) (pa_cons (pv 0) (pa_cons (pv 1) (pa_cons (pv 2) pa_nil))))))))), ?_⟩
    have L := levels_ok hv.ok
    have hlen := hv.ok.len
    refine q_asgL (el_call (ea_cons (ev_var rfl) ea_nil) (spl_least_levels hv)) fun p H1 hp e1 h1 => ?_
    have hv1 := hv.mono e1
    refine b_retR hv1.bh (evr_lcR1 (fun q => !decide ((((Rp09.levels t).getD q 0 : Nat) : Int) = 0)) (fun q => StepRep K (stepAt t (Rp09.levels t) q)) (fun d v B B' e h => h.mono e) hv1.bh (ea_cons (ev_len (ev_var rfl) (sq_of h1)) ea_nil) (by rw [List.length_map, L.len]; omega) (fun _ => rfl) ?_ ?_) ?_
    · intro q H2 e2 hq
      rw [List.length_map, L.len] at hq
      exact et_test (ev_neI (ev_ixL (ev_var rfl) (ev_var rfl) (sq_of (e2 _ _ h1)) (at_visN (L.get (by omega)))) ev_c)
    · intro q B2 H2 b1 b2 b3 hq _
      rw [List.length_map, L.len] at hq
      exact evr_callV b2 (ea_cons (ev_var rfl) (ea_cons (ev_var rfl) (ea_cons (ev_var rfl) ea_nil))) (spr_step_of (hv1.mono2 b1 b2 b3) (b3 _ _ h1) L (by omega))
    · rintro v B2 H2 g2 ⟨pp, ws, rfl, h2, h3⟩
      refine kk _ B2 H2 (Gr.of e1 g2) ⟨pp, ws, rfl, h2, ?_⟩
      rw [Int.toNat_natCast, List.length_map, L.len] at h3
      rw [steps_eq]
      refine All2.mapR ?_
      have e : (List.range t.length).filter (fun p => (Rp09.levels t).getD p 0 != 0) = (List.range t.length).filter fun q => !decide ((((Rp09.levels t).getD q 0 : Nat) : Int) = 0) := by
        apply List.filter_congr
        intro q _
        by_cases c : (Rp09.levels t).getD q 0 = 0
        · rw [c]
          rfl
        · rw [decide_eq_false (fun z => c (by omega))]
          exact bne_iff_ne.mpr c
      rw [e]
      exact h3
/-! ### is_ready, ready_packages -/
def readyIn (plan : List Stp) (s : Stp) : Bool := s.needs.all fun n => !(plan.any fun x => x.pkg == n.on)
def sp_is_ready (K : PySem.W.Frag) : Sp := fun vs H Q _ => ∃ (v x : V) (plan : List Stp) (s : Stp), vs = [v, x] ∧ StepsRep K plan v H ∧ StepRep K s x H ∧ plan.length ≤ 6 ∧ s.needs.length ≤ 4 ∧ RetV (.bl (readyIn plan s)) H Q
theorem spv_is_ready {K : PySem.W.Frag} {H : Hp} {v x : V} {plan : List Stp} {s : Stp} (h1 : StepsRep K plan v H) (h2 : StepRep K s x H) (h3 : plan.length ≤ 6) (h4 : s.needs.length ≤ 4) : SpV (sp_is_ready K) [v, x] H (.bl (readyIn plan s)) :=
  fun H1 e Q q E => ⟨v, x, plan, s, rfl, h1.mono e, h2.mono e, h3, h4, q⟩
theorem StepRep.e_pkg {K : PySem.W.Frag} {H : Hp} {v : V} {s : Stp} {σ : L2.St} {te : TE} {mg : Str → Option Value} (h : StepRep K s v H) (T : Txt K mg) (ha : Ev te σ H v) : Ev (tFld K te "package") σ H (.int (s.pkg : Int)) := by
  obtain ⟨a, dx, pv, l, nt, rfl, h2, h3, h4, h5⟩ := h
  exact ev_fld ha h2 T.cl_Step T.na_Step_package (lk_Step_package _ _ _ _ _)
theorem ok_is_ready {P : Program} {w : World} {K : PySem.W.Frag} {mg : Str → Option Value} {base : Heap} (T : Txt K mg) : Ok P w K mg base 1 "is_ready" p_is_ready (sp_is_ready K) := by
  refine Ok.of T.e_is_ready T.g_is_ready sc_is_ready (fun _ _ _ _ _ _ us hl => match us, hl with | [_, _], _ => rfl) (fun vs H Q E h => ?_) (fun cdv A outer s H vs Q E hr h => ?_)
  · obtain ⟨v, x, plan, s, rfl, _⟩ := h
    rfl
  · obtain ⟨v, x, plan, s, rfl, hp, hs, hpl, hnl, k⟩ := h
    refine ⟨_, (pss_cons (ps_set (i := 2) sc_is_ready.nd rfl (Or.inr rfl) (pe_lc (own := [("other", 3)]) (g := gName 3) (by rfl) sc_is_ready.nd (k_iList (K := K) rfl (pv 0)) (blkOk_by (own := [("other", 3)]) (N := n_is_ready) (sc := defScope s_is_ready) (by decide +kernel)) (fun _ _ _ _ _ => pg_name (i := 3) sc_is_ready.nd rfl (Or.inl rfl)) (fun _ _ _ _ _ => pts_nil) (fun _ _ _ _ _ => (k_fld (K := K) rfl (pv 3) rfl))))
      (pss_one (ps_ret (pe_not (pe_callB (k_any (K := K) rfl rfl) (by rfl) T.f_any (by decide +kernel) (pa_cons (pe_lc (own := [("need", 4)]) (g := gName 4) (by rfl) sc_is_ready.nd (k_iList (K := K) rfl (k_fld (K := K) rfl (pv 1) rfl)) (blkOk_by (own := [("need", 4)]) (N := n_is_ready) (sc := defScope s_is_ready) (by decide +kernel)) (fun _ _ _ _ _ => pg_name (i := 4) sc_is_ready.nd rfl (Or.inl rfl)) (fun _ _ _ _ _ => pts_nil) (fun _ _ _ _ _ => (pe_cmpR (k_in (K := K) rfl) (k_fld (K := K) rfl (pv 4) rfl) (pv 2) (by rfl)))) pa_nil)))))), ?_⟩
    have hs0 := hs
    obtain ⟨p, ws, rfl, h1, h2⟩ := hp
    obtain ⟨a, dx, pv, l, nt, rfl, h3, h4, ⟨as, h5, h6⟩, h7⟩ := hs
    refine q_asgL (xs := visN (plan.map fun x => x.pkg)) ?_ fun q H1 hq e1 g1 => ?_
    · rw [visN_map]
      refine el_lcM (ds := plan) _ h2.len (ev_var rfl) (sq_of h1) (by rw [h2.len]; omega) (fun _ => rfl) ?_
      intro j x d H1 e1 hx hd
      obtain ⟨d', hd', hr'⟩ := h2.getL hx
      rw [hd] at hd'
      cases hd'
      exact (hr'.mono e1).e_pkg T (ev_var rfl)
    · refine s_ret (ev_is (ev_notV (ev_any (bs := s.needs.map fun n => (plan.map fun x => (x.pkg : Int)).any fun b => decide (b = (n.on : Int))) ?_)) ?_) fun H2 e2 => k H2 (e1.trans e2)
      · rw [List.map_map]
        refine el_lcM (ds := s.needs) _ (by rw [List.length_map, h6.len]) (ev_fld (ev_var rfl) (e1 _ _ h3) T.cl_Step T.na_Step_needs (lk_Step_needs _ _ _ _ _)) (sq_of (e1 _ _ h5)) (by rw [List.length_map, h6.len]; omega) (fun _ => rfl) ?_
        intro j x d H2 e2 hx hd
        obtain ⟨b, hb, hn⟩ := h6.getR hd
        have ex : x = V.ref b := by
          rw [List.getElem?_map, hb] at hx
          exact (Option.some.inj hx).symm
        subst ex
        have g2 := e2 _ _ g1
        have eg : visN (plan.map fun x => x.pkg) = (plan.map fun x => (x.pkg : Int)).map V.int := by
          rw [visN_map, List.map_map] <;> rfl
        rw [eg] at g2
        refine ev_is (ev_op ((hn.mono (e1.trans e2)).e_on T (ev_var rfl)) (ev_var rfl) (rv_isL (sq_of g2) rfl ?_)) ?_
        · rw [List.all_eq_true]
          intro y hy
          obtain ⟨z, _, rfl⟩ := List.mem_map.mp hy
          rfl
        · rw [inV_ints] <;> rfl
      · congr 1
        rw [List.any_map]
        unfold readyIn
        rw [List.not_any_eq_all_not]
        congr 1
        funext n
        show (!((plan.map fun x => (x.pkg : Int)).any fun b => decide (b = (n.on : Int)))) = !(plan.any fun x => x.pkg == n.on)
        rw [List.any_map]
        congr 2
        funext y
        show decide ((y.pkg : Int) = (n.on : Int)) = (y.pkg == n.on)
        by_cases c : y.pkg = n.on
        · rw [c]
          simp
        · rw [decide_eq_false fun z => c (by omega)]
          simp [c]
def sp_ready_packages (K : PySem.W.Frag) : Sp := fun vs H Q _ => ∃ (v : V) (plan : List Stp), vs = [v] ∧ StepsRep K plan v H ∧ plan.length ≤ 6 ∧ (∀ s ∈ plan, s.needs.length ≤ 4) ∧ RetL (visN ((plan.filter (readyIn plan)).map fun s => s.pkg)) H Q
theorem spl_ready_packages {K : PySem.W.Frag} {H : Hp} {v : V} {plan : List Stp} (h1 : StepsRep K plan v H) (h3 : plan.length ≤ 6) (h4 : ∀ s ∈ plan, s.needs.length ≤ 4) : SpL (sp_ready_packages K) [v] H (visN ((plan.filter (readyIn plan)).map fun s => s.pkg)) :=
  fun H1 e Q q E => ⟨v, plan, rfl, h1.mono e, h3, h4, q⟩
theorem ok_ready_packages {P : Program} {w : World} {K : PySem.W.Frag} {mg : Str → Option Value} {base : Heap} (T : Txt K mg) (O_is_ready : Ok P w K mg base 1 "is_ready" p_is_ready (sp_is_ready K)) : Ok P w K mg base 2 "ready_packages" p_ready_packages (sp_ready_packages K) := by
  refine Ok.of T.e_ready_packages T.g_ready_packages sc_ready_packages (fun _ _ _ _ _ _ us hl => match us, hl with | [_], _ => rfl) (fun vs H Q E h => ?_) (fun cdv A outer s H vs Q E hr h => ?_)
  · obtain ⟨v, plan, rfl, _⟩ := h
    rfl
  · obtain ⟨v, plan, rfl, hp, hpl, hnl, k⟩ := h
    refine ⟨_, (pss_one (ps_ret (pe_lc (own := [("step", 1)]) (g := gName 1) (by rfl) sc_ready_packages.nd (k_iList (K := K) rfl (pv 0)) (blkOk_by (own := [("step", 1)]) (N := n_ready_packages) (sc := defScope s_ready_packages) (by decide +kernel)) (fun _ _ _ _ _ => pg_name (i := 1) sc_ready_packages.nd rfl (Or.inl rfl)) (fun _ _ _ _ _ => (pts_one (pt_val (pe_callO O_is_ready (hr.mono (by decide)) (by rfl) (pa_cons (pv 0) (pa_cons (pv 1) pa_nil)))))) (fun _ _ _ _ _ => (k_fld (K := K) rfl (pv 1) rfl))))), ?_⟩
    have hp0 := hp
    obtain ⟨p, ws, rfl, h1, h2⟩ := hp
    refine s_retL (xs := visN ((plan.filter (readyIn plan)).map fun s => s.pkg)) ?_ fun q H1 hq e1 g1 => k q H1 hq e1 g1
    rw [visN_map]
    refine el_lcD (ds := plan) (readyIn plan) _ h2.len (ev_var rfl) (sq_of h1) (by rw [h2.len]; omega) (fun _ => rfl) ?_ ?_
    · intro j x d H1 e1 hx hd
      obtain ⟨d', hd', hr'⟩ := h2.getL hx
      rw [hd] at hd'
      cases hd'
      exact et_B (ev_call (ea_cons (ev_var rfl) (ea_cons (ev_var rfl) ea_nil)) (spv_is_ready (hp0.mono e1) (hr'.mono e1) hpl (hnl d (List.mem_of_getElem? hd))))
    · intro j x d H1 e1 hx hd _
      obtain ⟨d', hd', hr'⟩ := h2.getL hx
      rw [hd] at hd'
      cases hd'
      exact (hr'.mono e1).e_pkg T (ev_var rfl)
end Tg
namespace Tg
open PySem PySem.Spec PyProof.Rows L2 Evl
open Rp09 (Version Need Package)
/-! ### rise -/
def sp_rise (K : PySem.W.Frag) : Sp := fun vs H Q _ => ∃ (p : Addr) (l : List Nat), vs = [.ref p] ∧ H p = some (.lst (visN l)) ∧ l.length ≤ 1000 ∧ RetV (.bl (Rp09.rising l)) H Q
theorem spv_rise {K : PySem.W.Frag} {H : Hp} {p : Addr} {l : List Nat} (h : H p = some (.lst (visN l))) (hl : l.length ≤ 1000) : SpV (sp_rise K) [.ref p] H (.bl (Rp09.rising l)) := fun H1 e Q q E => ⟨p, l, rfl, e _ _ h, hl, q⟩
theorem getD_some {l : List Nat} {i : Nat} (h : i < l.length) : l[i]? = some (l.getD i 0) := by
  rw [List.getD_eq_getElem?_getD, List.getElem?_eq_getElem h] <;> rfl
theorem ok_rise {P : Program} {w : World} {K : PySem.W.Frag} {mg : Str → Option Value} {base : Heap} (T : Txt K mg) : Ok P w K mg base 1 "rise" p_rise (sp_rise K) := by
  refine Ok.of T.e_rise T.g_rise sc_rise (fun _ _ _ _ _ _ us hl => match us, hl with | [_], _ => rfl) (fun vs H Q E h => ?_) (fun cdv A outer s H vs Q E hr h => ?_)
  · obtain ⟨p, l, rfl, _⟩ := h
    rfl
  · obtain ⟨p, l, rfl, hp, hl, k⟩ := h
    refine ⟨_, (pss_one (ps_ret (pe_callB (k_all (K := K) rfl rfl) (by rfl) T.f_all (by decide +kernel) (pa_cons (pe_lc (own := [("at", 1)]) (g := gName 1) (by rfl) sc_rise.nd (pi_range2 (by rfl) T.f_range (pa_cons pe_int (pa_cons (pe_callB (k_len (K := K) rfl) (by rfl) T.f_len PySem.boot_len (pa_cons (pv 0) pa_nil)) pa_nil))) (blkOk_by (own := [("at", 1)]) (N := n_rise) (sc := defScope s_rise) (by decide +kernel)) (fun _ _ _ _ _ => pg_name (i := 1) sc_rise.nd rfl (Or.inl rfl)) (fun _ _ _ _ _ => pts_nil) (fun _ _ _ _ _ => (pe_cmpR op_lt (pe_ix (k_ixL (K := K) rfl) (pv 0) (pe_op op_sub (pv 1) pe_int) (fun _ _ => rfl)) (pe_ix (k_ixL (K := K) rfl) (pv 0) (pv 1) (fun _ _ => rfl)) (nomark _)))) pa_nil)))), ?_⟩
    refine s_ret (ev_is (ev_all (bs := (List.range (l.length - 1)).map fun i => decide (((l.getD i 0 : Nat) : Int) < ((l.getD (i + 1) 0 : Nat) : Int))) ?_) ?_) fun H1 e => k H1 e
    · have key := el_lcR2 (σ := [some (.ref p), none]) (H := H) (ts := tCons (tC (.int 1)) (tCons (tCB (rLenS K) (tCons (tVar 0) tNil)) tNil)) (te := tOp (rI0 fun i j => .bl (decide (i < j))) (tOp (rIxL K) (tVar 0) (tOp (rI0 fun i j => .int (i - j)) (tVar 1) (tC (.int 1)))) (tOp (rIxL K) (tVar 0) (tVar 1))) (t := tYes) (j := 1) (vs := [1]) (lo := 1) (hi := l.length)
        (fun _ => true) (fun i => .bl (decide (((l.getD i 0 : Nat) : Int) < ((l.getD (i + 1) 0 : Nat) : Int)))) (ea_cons ev_c (ea_cons (ev_is (ev_len (ev_var rfl) (sq_of hp)) (by rw [visN_len])) ea_nil)) (by omega) (fun _ => rfl) (fun i H1 e hi => et_yes) (fun i H1 e hi _ => by
          have a1 : Ev (tOp (rI0 fun i j => V.int (i - j)) (tVar 1) (tC (.int 1))) [some (.ref p), some (.int ((1 + i : Nat) : Int))] H1 (.int (i : Int)) := ev_is (ev_op (ev_var rfl) ev_c rv_I0) (by congr 1; omega)
          have a2 : Ev (tVar 1) [some (.ref p), some (.int ((1 + i : Nat) : Int))] H1 (.int ((i + 1 : Nat) : Int)) := ev_is (ev_var rfl) (by congr 1; omega)
          exact ev_ltI (ev_ixL (ev_var rfl) a1 (sq_of (e _ _ hp)) (at_visN (getD_some (by omega)))) (ev_ixL (ev_var rfl) a2 (sq_of (e _ _ hp)) (at_visN (getD_some (by omega)))))
      rw [List.map_map]
      unfold given at key
      rw [filt_true] at key
      exact key
    · congr 1
      apply Bool.eq_iff_iff.mpr
      rw [all_range, rising_iff]
      constructor
      · intro h i hi
        have := of_decide_eq_true (h i (by omega))
        omega
      · intro h i hi
        exact decide_eq_true (Int.ofNat_lt.mpr (h i (by omega)))
/-! ### need_from -/
def sp_need_from (K : PySem.W.Frag) : Sp := fun vs H Q _ => ∃ (B : Hp) (p : Addr) (q k a b c : Nat), vs = [.ref p] ∧ Ex B H ∧ H p = some (.lst (visN [q, k, a, b, c])) ∧ RetR B H (NeedRep K ⟨q, k, ⟨a, b, c⟩⟩) Q
theorem spr_need_from {K : PySem.W.Frag} {B H : Hp} {p : Addr} {q k a b c : Nat} (hB : Ex B H) (h : H p = some (.lst (visN [q, k, a, b, c]))) : SpR (sp_need_from K) [.ref p] B H (NeedRep K ⟨q, k, ⟨a, b, c⟩⟩) :=
  fun H1 e Q z E => ⟨B, p, q, k, a, b, c, rfl, hB.trans e, e _ _ h, z⟩
theorem ok_need_from {P : Program} {w : World} {K : PySem.W.Frag} {mg : Str → Option Value} {base : Heap} (T : Txt K mg) (O_Need : OkC P w K mg base 1 "Need" p_Need_init (spi_Need K)) : Ok P w K mg base 3 "need_from" p_need_from (sp_need_from K) := by
  refine Ok.of T.e_need_from T.g_need_from sc_need_from (fun _ _ _ _ _ _ us hl => match us, hl with | [_], _ => rfl) (fun vs H Q E h => ?_) (fun cdv A outer s H vs Q E hr h => ?_)
  · obtain ⟨B, p, q, k, a, b, c, rfl, _⟩ := h
    rfl
  · obtain ⟨B, p, q, k, a, b, c, rfl, hB, hp, kk⟩ := h
    refine ⟨_, (pss_one (ps_ret (k_make (K := K) rfl O_Need (hr.mono (by decide)) (by rfl) (pa_cons (pe_ix (k_ixL (K := K) rfl) (pv 0) pe_int (fun _ _ => rfl)) (pa_cons (pe_ix (k_ixL (K := K) rfl) (pv 0) pe_int (fun _ _ => rfl)) (pa_cons (pe_callTy (k_tuple (K := K) rfl) (by rfl) T.f_tuple (by decide +kernel) (pa_cons (pe_slice (k_slL (K := K) rfl) (pv 0) (po_some pe_int) (po_some pe_int)) pa_nil)) pa_nil)))))), ?_⟩
    refine b_retR hB (evr_make (RA := fun vs B' => ∃ pv, vs = [.int (q : Int), .int (k : Int), .ref pv] ∧ VerAt B' pv ⟨a, b, c⟩) (ear_consV hB (ev_ixL (v := .int (q : Int)) (ev_var rfl) ev_c (sq_of hp) rfl) (ear_consV hB (ev_ixL (v := .int (k : Int)) (ev_var rfl) ev_c (sq_of hp) rfl)
      (ear_cons (R := fun x B' => ∃ pv, x = .ref pv ∧ B' pv = some (.tup (vver ⟨a, b, c⟩))) (evr_ofU hB (eu_tupL (el_sl (ev_var rfl) (eo_some ev_c) (eo_some ev_c) (sq_of hp)))) ?_))) ?_ ?_) ?_
    · rintro x B1 H1 b1 b2 b3 ⟨pv, rfl, hpv⟩
      exact ear_end b2 ⟨pv, rfl, hpv⟩
    · rintro vs B B' e ⟨x, h1, h2⟩
      exact ⟨x, h1, h2.mono e⟩
    · rintro vs B' ⟨x, rfl, _⟩
      rfl
    · rintro v B2 H2 g2 ⟨x, dx, vs, rfl, hx, y, rfl, hp2⟩
      exact kk _ B2 H2 g2 ⟨x, rfl, dx, y, hx, hp2⟩
/-! ### need_is_formed, needs_are_formed -/
def sp_need_is_formed (K : PySem.W.Frag) : Sp := fun vs H Q _ => ∃ (B : Hp) (A : HA) (t : List Package) (nl : List Nat) (a : Addr) (n : Need), vs = [.ref A.h, .ref a] ∧ HV K B H A t nl ∧ NeedAt K H a n ∧ RetV (.bl (formed t n)) H Q
theorem spv_need_is_formed {K : PySem.W.Frag} {B H : Hp} {A : HA} {t : List Package} {nl : List Nat} {a : Addr} {n : Need} (hv : HV K B H A t nl) (hn : NeedAt K H a n) : SpV (sp_need_is_formed K) [.ref A.h, .ref a] H (.bl (formed t n)) :=
  fun H1 e Q q E => ⟨B, A, t, nl, a, n, rfl, hv.mono e, hn.mono e, q⟩
theorem NeedAt.e_ver {K : PySem.W.Frag} {H : Hp} {a : Addr} {n : Need} {σ : L2.St} {te : TE} {mg : Str → Option Value} (hn : NeedAt K H a n) (T : Txt K mg) (ha : Ev te σ H (.ref a)) : ∃ p, VerAt H p n.from_ ∧ Ev (tFld K te "version") σ H (.ref p) := by
  obtain ⟨dx, p, h1, h2⟩ := hn
  exact ⟨p, h2, ev_fld ha h1 T.cl_Need T.na_Need_version (lk_Need_version _ _ _)⟩
theorem ok_need_is_formed {P : Program} {w : World} {K : PySem.W.Frag} {mg : Str → Option Value} {base : Heap} (T : Txt K mg) : Ok P w K mg base 1 "need_is_formed" p_need_is_formed (sp_need_is_formed K) := by
  refine Ok.of T.e_need_is_formed T.g_need_is_formed sc_need_is_formed (fun _ _ _ _ _ _ us hl => match us, hl with | [_, _], _ => rfl) (fun vs H Q E h => ?_) (fun cdv A outer s H vs Q E hr h => ?_)
  · obtain ⟨B, A, t, nl, a, n, rfl, _⟩ := h
    rfl
  · obtain ⟨B, A, t, nl, a, n, rfl, hv, hn, k⟩ := h
    refine ⟨_, (pss_cons (ps_if (PW.pt (pw_or (pt_cmpR op_ge (k_fld (K := K) rfl (pv 1) rfl) (pe_callB (k_len (K := K) rfl) (by rfl) T.f_len PySem.boot_len (pa_cons (k_fld (K := K) rfl (pv 0) rfl) pa_nil)) (nomark _)) (pw_or1 (pt_cmpR op_gt (k_fld (K := K) rfl (pv 1) rfl) (pe_gint T.k_ANY_LATER) (nomark _)))))
      (pss_one (ps_ret pe_bl))
      pss_nil)
      (pss_one (ps_ret (pe_cmpR op_le (pe_callB (k_maxT (K := K) rfl hr rfl) (by rfl) T.f_max (by decide +kernel) (pa_cons (k_fld (K := K) rfl (pv 1) rfl) pa_nil)) (pe_gint T.k_MOST_HANDED) (nomark _))))), ?_⟩
    refine q_when (et_or (et_test (ev_op (hn.e_on T (ev_var rfl)) (hv.e_len T (ev_var rfl)) rv_I0)) fun _ => et_test (ev_op (hn.e_kind T (ev_var rfl)) ev_c rv_I0)) (fun hb H1 e1 => ?_) (fun hb H1 e1 => ?_)
    · refine s_ret ev_c fun H2 e2 => ?_
      have z := k H2 (e1.trans e2)
      have e : formed t n = false := by
        unfold formed
        rcases (Bool.or_eq_true_iff.mp hb) with h | h
        · have := of_decide_eq_true h
          rw [decide_eq_false (by omega), Bool.false_and]
        · have := of_decide_eq_true h
          rw [decide_eq_false (p := n.kind ≤ 3) (by omega), Bool.false_and, Bool.and_false]
      rw [e] at z
      exact z
    · obtain ⟨hb1, hb2⟩ := Bool.or_eq_false_iff.mp hb
      have h1 := of_decide_eq_false hb1
      have h2 := of_decide_eq_false hb2
      obtain ⟨p, hp, hpe⟩ := (hn.mono e1).e_ver T (σ := [some (.ref A.h), some (.ref a)]) (te := tVar 1) (ev_var rfl)
      refine s_ret (ev_op (ev_maxT hpe hp.sq (by show verL n.from_ ≠ []; intro z; cases z)) ev_c rv_I0) fun H2 e2 => ?_
      have z := k H2 (e1.trans e2)
      have e : formed t n = decide (maxI (verL n.from_) ≤ 1000) := by
        unfold formed
        rw [decide_eq_true (p := n.on < t.length) (by omega), decide_eq_true (p := n.kind ≤ 3) (by omega), Bool.true_and, Bool.true_and]
        apply Bool.eq_iff_iff.mpr
        rw [small_iff, decide_eq_true_eq]
        unfold verL
        rw [maxI_le]
        omega
      rw [e] at z
      exact z
def sp_needs_are_formed (K : PySem.W.Frag) : Sp := fun vs H Q _ => ∃ (B : Hp) (A : HA) (t : List Package) (nl : List Nat) (l : Addr) (ns : List Need), vs = [.ref A.h, .ref l] ∧ HV K B H A t nl ∧ NeedsAt K H l ns ∧ ns.length ≤ 1000 ∧
  RetV (.bl (ns.all (formed t) && Rp09.rising (ns.map fun n => n.on))) H Q
theorem spv_needs_are_formed {K : PySem.W.Frag} {B H : Hp} {A : HA} {t : List Package} {nl : List Nat} {l : Addr} {ns : List Need} (hv : HV K B H A t nl) (hn : NeedsAt K H l ns) (hl : ns.length ≤ 1000) :
    SpV (sp_needs_are_formed K) [.ref A.h, .ref l] H (.bl (ns.all (formed t) && Rp09.rising (ns.map fun n => n.on))) := fun H1 e Q q E => ⟨B, A, t, nl, l, ns, rfl, hv.mono e, hn.mono e, hl, q⟩
theorem ref_item {as : List Addr} {j : Nat} {x : V} {a : Addr} (hx : (as.map V.ref)[j]? = some x) (ha : as[j]? = some a) : x = V.ref a := by
  rw [List.getElem?_map, ha] at hx
  exact (Option.some.inj hx).symm
theorem ok_needs_are_formed {P : Program} {w : World} {K : PySem.W.Frag} {mg : Str → Option Value} {base : Heap} (T : Txt K mg) (O_need_is_formed : Ok P w K mg base 1 "need_is_formed" p_need_is_formed (sp_need_is_formed K)) (O_rise : Ok P w K mg base 1 "rise" p_rise (sp_rise K)) : Ok P w K mg base 2 "needs_are_formed" p_needs_are_formed (sp_needs_are_formed K) := by
  refine Ok.of T.e_needs_are_formed T.g_needs_are_formed sc_needs_are_formed (fun _ _ _ _ _ _ us hl => match us, hl with | [_, _], _ => rfl) (fun vs H Q E h => ?_) (fun cdv A outer s H vs Q E hr h => ?_)
  · obtain ⟨B, A, t, nl, l, ns, rfl, _⟩ := h
    rfl
  · obtain ⟨B, A, t, nl, l, ns, rfl, hv, hn, hl, k⟩ := h
    refine ⟨_, (pss_cons (ps_if (pt_not (pt_val (pe_callB (k_all (K := K) rfl rfl) (by rfl) T.f_all (by decide +kernel) (pa_cons (pe_lc (own := [("need", 2)]) (g := gName 2) (by rfl) sc_needs_are_formed.nd (k_iList (K := K) rfl (pv 1)) (blkOk_by (own := [("need", 2)]) (N := n_needs_are_formed) (sc := defScope s_needs_are_formed) (by decide +kernel)) (fun _ _ _ _ _ => pg_name (i := 2) sc_needs_are_formed.nd rfl (Or.inl rfl)) (fun _ _ _ _ _ => pts_nil) (fun _ _ _ _ _ => (pe_callO O_need_is_formed (hr.mono (by decide)) (by rfl) (pa_cons (pv 0) (pa_cons (pv 2) pa_nil))))) pa_nil))))
      (pss_one (ps_ret pe_bl))
      pss_nil)
      (pss_one (ps_ret (pe_callO O_rise (hr.mono (by decide)) (by rfl) (pa_cons (pe_lc (own := [("need", 2)]) (g := gName 2) (by rfl) sc_needs_are_formed.nd (k_iList (K := K) rfl (pv 1)) (blkOk_by (own := [("need", 2)]) (N := n_needs_are_formed) (sc := defScope s_needs_are_formed) (by decide +kernel)) (fun _ _ _ _ _ => pg_name (i := 2) sc_needs_are_formed.nd rfl (Or.inl rfl)) (fun _ _ _ _ _ => pts_nil) (fun _ _ _ _ _ => (k_fld (K := K) rfl (pv 2) rfl))) pa_nil))))), ?_⟩
    obtain ⟨as, h1, h2⟩ := hn
    refine q_when (et_not (et_B (ev_all (bs := ns.map (formed t)) ?_))) (fun hb H1 e1 => ?_) (fun hb H1 e1 => ?_)
    · rw [List.map_map]
      refine el_lcM (ds := ns) _ (by rw [List.length_map, h2.len]) (ev_var rfl) (sq_of h1) (by rw [List.length_map, h2.len]; omega) (fun _ => rfl) ?_
      intro j x d H1 e1 hx hd
      obtain ⟨a, ha, hna⟩ := h2.getR hd
      have ex := ref_item hx ha
      subst ex
      exact ev_call (ea_cons (ev_var rfl) (ea_cons (ev_var rfl) ea_nil)) (spv_need_is_formed (hv.mono e1) (hna.mono e1))
    · refine s_ret ev_c fun H2 e2 => ?_
      have z := k H2 (e1.trans e2)
      have e : ns.all (formed t) = false := by
        rw [List.all_map] at hb
        simpa using hb
      rw [e, Bool.false_and] at z
      exact z
    · have e : ns.all (formed t) = true := by
        rw [List.all_map] at hb
        simpa using hb
      refine s_ret (ev_callL (xs := visN (ns.map fun n => n.on)) (z := .bl (Rp09.rising (ns.map fun n => n.on))) ?_ fun p H2 e2 h3 => spv_rise h3 (by rw [List.length_map]; omega)) fun H2 e2 => ?_
      · rw [visN_map]
        refine el_lcM (ds := ns) _ (by rw [List.length_map, h2.len]) (ev_var rfl) (sq_of (e1 _ _ h1)) (by rw [List.length_map, h2.len]; omega) (fun _ => rfl) ?_
        intro j x d H2 e2 hx hd
        obtain ⟨a, ha, hna⟩ := h2.getR hd
        have ex := ref_item hx ha
        subst ex
        exact (hna.mono (e1.trans e2)).e_on T (ev_var rfl)
      have z := k H2 (e1.trans e2)
      rw [e, Bool.true_and] at z
      exact z
end Tg
namespace Tg
open PySem PySem.Spec PyProof.Rows L2 Evl
open Rp09 (Version Need Package)
/-- a Package that is no part of the tree yet -/
def NewPkg (K : PySem.W.Frag) (H : Hp) (a : Addr) (v : Version) (g : Nat) (ns : List Need) : Prop := ∃ dx fs pv l, H a = some (.ins (He.ga K "Package") dx fs) ∧ fs.lookup ("version" : Str) = some (.ref pv) ∧ fs.lookup ("group" : Str) = some (.int (g : Int)) ∧ fs.lookup ("needs" : Str) = some (.ref l) ∧ VerAt H pv v ∧ NeedsAt K H l ns
theorem NewPkg.mono {K : PySem.W.Frag} {H H' : Hp} (e : Ex H H') {a : Addr} {v : Version} {g : Nat} {ns : List Need} (h : NewPkg K H a v g ns) : NewPkg K H' a v g ns := by
  obtain ⟨dx, fs, pv, l, h1, h2, h3, h4, h5, h6⟩ := h
  exact ⟨dx, fs, pv, l, e _ _ h1, h2, h3, h4, h5.mono e, h6.mono e⟩
theorem NewPkg.e_g {K : PySem.W.Frag} {H : Hp} {a : Addr} {v : Version} {g : Nat} {ns : List Need} {σ : L2.St} {te : TE} {mg : Str → Option Value} (h : NewPkg K H a v g ns) (T : Txt K mg) (ha : Ev te σ H (.ref a)) : Ev (tFld K te "group") σ H (.int (g : Int)) := by
  obtain ⟨dx, fs, pv, l, h1, h2, h3, h4, h5, h6⟩ := h
  exact ev_fld ha h1 T.cl_Package T.na_Package_group h3
theorem NewPkg.e_v {K : PySem.W.Frag} {H : Hp} {a : Addr} {v : Version} {g : Nat} {ns : List Need} {σ : L2.St} {te : TE} {mg : Str → Option Value} (h : NewPkg K H a v g ns) (T : Txt K mg) (ha : Ev te σ H (.ref a)) : ∃ pv, VerAt H pv v ∧ Ev (tFld K te "version") σ H (.ref pv) := by
  obtain ⟨dx, fs, pv, l, h1, h2, h3, h4, h5, h6⟩ := h
  exact ⟨pv, h5, ev_fld ha h1 T.cl_Package T.na_Package_version h2⟩
theorem NewPkg.e_ns {K : PySem.W.Frag} {H : Hp} {a : Addr} {v : Version} {g : Nat} {ns : List Need} {σ : L2.St} {te : TE} {mg : Str → Option Value} (h : NewPkg K H a v g ns) (T : Txt K mg) (ha : Ev te σ H (.ref a)) : ∃ l, NeedsAt K H l ns ∧ Ev (tFld K te "needs") σ H (.ref l) := by
  obtain ⟨dx, fs, pv, l, h1, h2, h3, h4, h5, h6⟩ := h
  exact ⟨l, h6, ev_fld ha h1 T.cl_Package T.na_Package_needs h4⟩
theorem range_at (t : List Package) : (List.range t.length).map (Rp09.at_ t) = t := by
  apply List.ext_getElem?
  intro i
  rw [List.getElem?_map]
  by_cases h : i < t.length
  · rw [List.getElem?_range h, List.getElem?_eq_getElem h]
    exact congrArg some (at_some (List.getElem?_eq_getElem h))
  · rw [List.getElem?_eq_none (by rw [List.length_range]; omega), List.getElem?_eq_none (by omega)] <;> rfl
theorem range_filter (t : List Package) (p : Package → Bool) {α : Type} (f : Package → α) : ((List.range t.length).filter fun i => p (Rp09.at_ t i)).map (fun i => f (Rp09.at_ t i)) = (t.filter p).map f := by
  have e : (t.filter p) = ((List.range t.length).filter fun i => p (Rp09.at_ t i)).map (Rp09.at_ t) := by
    have h := List.filter_map (f := Rp09.at_ t) (p := p) (l := List.range t.length)
    rw [range_at] at h
    exact h
  rw [e, List.map_map] <;> rfl
/-! ### fits -/
def sp_fits (K : PySem.W.Frag) : Sp := fun vs H Q _ => ∃ (B : Hp) (A : HA) (t : List Package) (nl : List Nat) (a : Addr) (v : Version) (g : Nat) (ns : List Need), vs = [.ref A.h, .ref a] ∧ HV K B H A t nl ∧ NewPkg K H a v g ns ∧ ns.length ≤ 1000 ∧ (∀ n ∈ ns, n.on < t.length ∧ n.kind ≤ 3) ∧
  RetV (.bl (fitsIn t v g ns)) H Q
theorem spv_fits {K : PySem.W.Frag} {B H : Hp} {A : HA} {t : List Package} {nl : List Nat} {a : Addr} {v : Version} {g : Nat} {ns : List Need} (hv : HV K B H A t nl) (hp : NewPkg K H a v g ns) (hl : ns.length ≤ 1000) (hn : ∀ n ∈ ns, n.on < t.length ∧ n.kind ≤ 3) :
    SpV (sp_fits K) [.ref A.h, .ref a] H (.bl (fitsIn t v g ns)) := fun H1 e Q q E => ⟨B, A, t, nl, a, v, g, ns, rfl, hv.mono e, hp.mono e, hl, hn, q⟩
theorem ok_fits {P : Program} {w : World} {K : PySem.W.Frag} {mg : Str → Option Value} {base : Heap} (T : Txt K mg) (O_holds : Ok P w K mg base 3 "holds" p_holds (sp_holds K)) : Ok P w K mg base 4 "fits" p_fits (sp_fits K) := by
  refine Ok.of T.e_fits T.g_fits sc_fits (fun _ _ _ _ _ _ us hl => match us, hl with | [_, _], _ => rfl) (fun vs H Q E h => ?_) (fun cdv A outer s H vs Q E hr h => ?_)
  · obtain ⟨B, A, t, nl, a, v, g, ns, rfl, _⟩ := h
    rfl
  · obtain ⟨B, A, t, nl, a, v, g, ns, rfl, hv, hp, hl, hn, k⟩ := h
    refine ⟨_, (pss_cons (ps_if (pt_not (pt_val (pe_callB (k_all (K := K) rfl rfl) (by rfl) T.f_all (by decide +kernel) (pa_cons (pe_lc (own := [("need", 2)]) (g := gName 2) (by rfl) sc_fits.nd (k_iList (K := K) rfl (k_fld (K := K) rfl (pv 1) rfl)) (blkOk_by (own := [("need", 2)]) (N := n_fits) (sc := defScope s_fits) (by decide +kernel)) (fun _ _ _ _ _ => pg_name (i := 2) sc_fits.nd rfl (Or.inl rfl)) (fun _ _ _ _ _ => pts_nil) (fun _ _ _ _ _ => (pe_callO O_holds (hr.mono (by decide)) (by rfl) (pa_cons (pv 2) (pa_cons (k_fld (K := K) rfl (pe_ix (k_ixL (K := K) rfl) (k_fld (K := K) rfl (pv 0) rfl) (k_fld (K := K) rfl (pv 2) rfl) (fun _ _ => rfl)) rfl) pa_nil))))) pa_nil))))
      (pss_one (ps_ret pe_bl))
      pss_nil)
      (pss_cons (ps_if (pt_cmpR op_eq (k_fld (K := K) rfl (pv 1) rfl) (pe_gint T.k_NO_GROUP) (nomark _))
      (pss_one (ps_ret pe_bl))
      pss_nil)
      (pss_one (ps_ret (pe_callB (k_all (K := K) rfl rfl) (by rfl) T.f_all (by decide +kernel) (pa_cons (pe_lc (own := [("other", 3)]) (g := gName 3) (by rfl) sc_fits.nd (k_iList (K := K) rfl (k_fld (K := K) rfl (pv 0) rfl)) (blkOk_by (own := [("other", 3)]) (N := n_fits) (sc := defScope s_fits) (by decide +kernel)) (fun _ _ _ _ _ => pg_name (i := 3) sc_fits.nd rfl (Or.inl rfl)) (fun _ _ _ _ _ => (pts_one (pt_cmpR op_eq (k_fld (K := K) rfl (pv 3) rfl) (k_fld (K := K) rfl (pv 1) rfl) (nomark _)))) (fun _ _ _ _ _ => (pe_cmpR (k_eqD (K := K) rfl hr) (k_fld (K := K) rfl (pv 3) rfl) (k_fld (K := K) rfl (pv 1) rfl) (nomark _)))) pa_nil)))))), ?_⟩
    obtain ⟨l, ⟨as, h1, h2⟩, hle⟩ := hp.e_ns T (σ := [some (.ref A.h), some (.ref a), none, none]) (te := tVar 1) (ev_var rfl)
    refine q_when (et_not (et_B (ev_all (bs := ns.map fun n => n.holds (Rp09.at_ t n.on).version) ?_))) (fun hb H1 e1 => ?_) (fun hb H1 e1 => ?_)
    · rw [List.map_map]
      refine el_lcM (ds := ns) _ (by rw [List.length_map, h2.len]) hle (sq_of h1) (by rw [List.length_map, h2.len]; omega) (fun _ => rfl) ?_
      intro j x d H1 e1 hx hd
      obtain ⟨b, hb, hnb⟩ := h2.getR hd
      have ex := ref_item hx hb
      subst ex
      obtain ⟨n1, n2⟩ := hn d (List.mem_of_getElem? hd)
      have hv1 := hv.mono e1
      exact ev_call (ea_cons (ev_var rfl) (ea_cons (hv1.e_v T n1 (hv1.e_pkg T n1 (ev_var rfl) ((hnb.mono e1).e_on T (ev_var rfl)))) ea_nil)) (spv_holds (hnb.mono e1) ((hv.ver n1).mono hv1.bh) n2)
    · refine s_ret ev_c fun H2 e2 => ?_
      have z := k H2 (e1.trans e2)
      have e : fitsIn t v g ns = false := by
        unfold fitsIn
        rw [List.all_map] at hb
        have : (ns.all fun n => n.holds (Rp09.at_ t n.on).version) = false := by simpa using hb
        rw [this, Bool.false_and]
      rw [e] at z
      exact z
    · have eA : (ns.all fun n => n.holds (Rp09.at_ t n.on).version) = true := by
        rw [List.all_map] at hb
        simpa using hb
      refine q_when (et_test (ev_eqI ((hp.mono e1).e_g T (ev_var rfl)) ev_c)) (fun hb2 H2 e2 => ?_) (fun hb2 H2 e2 => ?_)
      · refine s_ret ev_c fun H3 e3 => ?_
        have z := k H3 ((e1.trans e2).trans e3)
        have hg : g = 0 := by have := of_decide_eq_true hb2; omega
        have e : fitsIn t v g ns = true := by
          unfold fitsIn
          rw [eA, decide_eq_true hg] <;> rfl
        rw [e] at z
        exact z
      · have hg : ¬ g = 0 := fun z => by have := of_decide_eq_false hb2; omega
        have e12 := e1.trans e2
        have hv2 := hv.mono e12
        have hlen := hv.ok.len
        have e : fitsIn t v g ns = (((List.range t.length).filter fun i => decide (((Rp09.at_ t i).group : Int) = (g : Int))).map fun i => decide (verL (Rp09.at_ t i).version = verL v)).all id := by
          unfold fitsIn
          rw [eA, decide_eq_false hg, Bool.true_and, Bool.false_or]
          have h := range_filter t (fun x => decide ((x.group : Int) = (g : Int))) (fun x => decide (verL x.version = verL v))
          rw [h, List.all_map]
          have e1 : (t.filter fun x => decide ((x.group : Int) = (g : Int))) = t.filter fun x => decide (x.group = g) := by
            apply List.filter_congr
            intro x _
            by_cases c : x.group = g
            · rw [c]
              simp
            · rw [decide_eq_false c, decide_eq_false fun z => c (by omega)]
          rw [e1]
          congr 1
          funext x
          exact (verL_eq x.version v).symm
        rw [e] at k
        refine s_ret (ev_all ?_) fun H3 e3 => k H3 (e12.trans e3)
        rw [List.map_map]
        refine el_lcD (ds := List.range t.length) (fun i => decide (((Rp09.at_ t i).group : Int) = (g : Int))) _ (List.length_map ..) (hv2.e_pk T (ev_var rfl)) (sq_of hv2.pk) (by rw [List.length_map, List.length_range]; omega) (fun _ => rfl) ?_ ?_
        · intro j x d H3 e3 hx hd
          have hdl : d < t.length := List.mem_range.mp (List.mem_of_getElem? hd)
          have ex : x = V.ref (A.pa d) := by
            rw [List.getElem?_map, hd] at hx
            exact (Option.some.inj hx).symm
          subst ex
          exact et_test (ev_eqI ((hv2.mono e3).e_g T hdl (ev_var rfl)) ((hp.mono (e12.trans e3)).e_g T (ev_var rfl)))
        · intro j x d H3 e3 hx hd _
          have hdl : d < t.length := List.mem_range.mp (List.mem_of_getElem? hd)
          have ex : x = V.ref (A.pa d) := by
            rw [List.getElem?_map, hd] at hx
            exact (Option.some.inj hx).symm
          subst ex
          have hv3 := hv2.mono e3
          obtain ⟨pv, hpv, hpe⟩ := (hp.mono (e12.trans e3)).e_v T (σ := [some (.ref A.h), some (.ref a), none, some (.ref (A.pa d))]) (te := tVar 1) (ev_var rfl)
          exact evx_eqT (evx_tup (hv3.e_v T hdl (ev_var rfl)) ((hv.ver hdl).mono hv3.bh).sq) (evx_tup hpe hpv.sq)
/-! ### package_refusal, note_refusal -/
/-- the house's plan -/
def HP (K : PySem.W.Frag) (B H : Hp) (h : Addr) (plan : List Stp) : Prop := ∃ dx fs v, H h = some (.ins (He.ga K "House") dx fs) ∧ fs.lookup ("plan" : Str) = some v ∧ StepsRep K plan v B
theorem HP.mono2 {K : PySem.W.Frag} {B B' H H' : Hp} {h : Addr} {plan : List Stp} (hp : HP K B H h plan) (b : Ex B B') (e : Ex H H') : HP K B' H' h plan := by
  obtain ⟨dx, fs, v, h1, h2, h3⟩ := hp
  exact ⟨dx, fs, v, e _ _ h1, h2, h3.mono b⟩
theorem HP.mono {K : PySem.W.Frag} {B H H' : Hp} {h : Addr} {plan : List Stp} (hp : HP K B H h plan) (e : Ex H H') : HP K B H' h plan := hp.mono2 (Ex.refl _) e
theorem HP.e_plan {K : PySem.W.Frag} {B H : Hp} {h : Addr} {plan : List Stp} {σ : L2.St} {te : TE} {mg : Str → Option Value} (hp : HP K B H h plan) (T : Txt K mg) (ha : Ev te σ H (.ref h)) : ∃ v, StepsRep K plan v B ∧ Ev (tFld K te "plan") σ H v := by
  obtain ⟨dx, fs, v, h1, h2, h3⟩ := hp
  exact ⟨v, h3, ev_fld ha h1 T.cl_House T.na_House_plan h2⟩
theorem HP.e_plen {K : PySem.W.Frag} {B H : Hp} {h : Addr} {plan : List Stp} {σ : L2.St} {te : TE} {mg : Str → Option Value} (hp : HP K B H h plan) (bh : Ex B H) (T : Txt K mg) (ha : Ev te σ H (.ref h)) : Ev (tCB (rLenS K) (tCons (tFld K te "plan") tNil)) σ H (.int (plan.length : Int)) := by
  obtain ⟨v, ⟨p, ws, rfl, h1, h2⟩, he⟩ := hp.e_plan T ha
  rw [← h2.len]
  exact ev_len he (sq_of (bh _ _ h1))
theorem ret_eq {H H1 : Hp} {Q : VK} {x y : V} (k : RetV x H Q) (e : Ex H H1) (h : x = y) : ∀ H2, Ex H1 H2 → Q y H2 := fun H2 e2 => by
  rw [← h]
  exact k H2 (e.trans e2)
theorem not_t {b : Bool} (h : (!b) = true) : b = false := by
  cases b with
  | true => cases h
  | false => rfl
theorem not_f {b : Bool} (h : (!b) = false) : b = true := by
  cases b with
  | true => rfl
  | false => cases h
def sp_package_refusal (K : PySem.W.Frag) : Sp := fun vs H Q _ => ∃ (B : Hp) (A : HA) (t : List Package) (nl : List Nat) (plan : List Stp) (a : Addr) (v : Version) (g : Nat) (ns : List Need), vs = [.ref A.h, .ref a] ∧ HV K B H A t nl ∧ HP K B H A.h plan ∧ NewPkg K H a v g ns ∧ ns.length ≤ 1000 ∧
  RetV (.int (refP t plan.length v g ns)) H Q
theorem spv_package_refusal {K : PySem.W.Frag} {B H : Hp} {A : HA} {t : List Package} {nl : List Nat} {plan : List Stp} {a : Addr} {v : Version} {g : Nat} {ns : List Need} (hv : HV K B H A t nl) (hpl : HP K B H A.h plan) (hp : NewPkg K H a v g ns) (hl : ns.length ≤ 1000) :
    SpV (sp_package_refusal K) [.ref A.h, .ref a] H (.int (refP t plan.length v g ns)) := fun H1 e Q q E => ⟨B, A, t, nl, plan, a, v, g, ns, rfl, hv.mono e, hpl.mono e, hp.mono e, hl, q⟩
theorem ok_package_refusal {P : Program} {w : World} {K : PySem.W.Frag} {mg : Str → Option Value} {base : Heap} (T : Txt K mg) (O_needs_are_formed : Ok P w K mg base 2 "needs_are_formed" p_needs_are_formed (sp_needs_are_formed K)) (O_fits : Ok P w K mg base 4 "fits" p_fits (sp_fits K)) : Ok P w K mg base 5 "package_refusal" p_package_refusal (sp_package_refusal K) := by
  refine Ok.of T.e_package_refusal T.g_package_refusal sc_package_refusal (fun _ _ _ _ _ _ us hl => match us, hl with | [_, _], _ => rfl) (fun vs H Q E h => ?_) (fun cdv A outer s H vs Q E hr h => ?_)
  · obtain ⟨B, A, t, nl, plan, a, v, g, ns, rfl, _⟩ := h
    rfl
  · obtain ⟨B, A, t, nl, plan, a, v, g, ns, rfl, hv, hpl, hp, hl, k⟩ := h
    refine ⟨_, (pss_cons (ps_if (PW.pt (pw_or (pt_cmpR op_gt (pe_callB (k_maxT (K := K) rfl hr rfl) (by rfl) T.f_max (by decide +kernel) (pa_cons (k_fld (K := K) rfl (pv 1) rfl) pa_nil)) (pe_gint T.k_MOST_HANDED) (nomark _)) (pw_or (pt_cmpR op_gt (k_fld (K := K) rfl (pv 1) rfl) (pe_gint T.k_MOST_HANDED) (nomark _)) (pw_or1 (pt_cmpR op_gt (pe_callB (k_len (K := K) rfl) (by rfl) T.f_len PySem.boot_len (pa_cons (k_fld (K := K) rfl (pv 1) rfl) pa_nil)) (pe_gint T.k_MOST_NEEDS) (nomark _))))))
      (pss_one (ps_ret (pe_gint T.k_BAD_FORM)))
      pss_nil)
      (pss_cons (ps_if (pt_cmpR op_gt (pe_callB (k_len (K := K) rfl) (by rfl) T.f_len PySem.boot_len (pa_cons (k_fld (K := K) rfl (pv 0) rfl) pa_nil)) pe_int (nomark _))
      (pss_one (ps_ret (pe_gint T.k_WRONG_TIME)))
      pss_nil)
      (pss_cons (ps_if (pt_cmpR op_ge (pe_callB (k_len (K := K) rfl) (by rfl) T.f_len PySem.boot_len (pa_cons (k_fld (K := K) rfl (pv 0) rfl) pa_nil)) (pe_gint T.k_MOST_PACKAGES) (nomark _))
      (pss_one (ps_ret (pe_gint T.k_FULL)))
      pss_nil)
      (pss_cons (ps_if (pt_not (pt_val (pe_callO O_needs_are_formed (hr.mono (by decide)) (by rfl) (pa_cons (pv 0) (pa_cons (k_fld (K := K) rfl (pv 1) rfl) pa_nil)))))
      (pss_one (ps_ret (pe_gint T.k_UNKNOWN)))
      pss_nil)
      (pss_cons (ps_if (pt_not (pt_val (pe_callO O_fits (hr.mono (by decide)) (by rfl) (pa_cons (pv 0) (pa_cons (pv 1) pa_nil)))))
      (pss_one (ps_ret (pe_gint T.k_DOES_NOT_FIT)))
      pss_nil)
      (pss_one (ps_ret (pe_gint T.k_ACCEPTED)))))))), ?_⟩
    obtain ⟨pv, hpv, hpe⟩ := hp.e_v T (σ := [some (.ref A.h), some (.ref a)]) (te := tVar 1) (ev_var rfl)
    obtain ⟨l, ⟨as, h1, h2⟩, hle⟩ := hp.e_ns T (σ := [some (.ref A.h), some (.ref a)]) (te := tVar 1) (ev_var rfl)
    have hlen : Ev (tCB (rLenS K) (tCons (tFld K (tVar 1) "needs") tNil)) [some (.ref A.h), some (.ref a)] H (.int (ns.length : Int)) := ev_is (ev_len hle (sq_of h1)) (by rw [List.length_map, h2.len])
    refine q_when (et_or (et_test (ev_op (ev_maxT hpe hpv.sq (by show verL v ≠ []; intro z; cases z)) ev_c rv_I0)) fun _ => et_or (et_test (ev_op (hp.e_g T (ev_var rfl)) ev_c rv_I0)) fun _ => et_test (ev_op hlen ev_c rv_I0)) (fun hb H1 e1 => ?_) (fun hb H1 e1 => ?_)
    · refine s_ret ev_c (ret_eq k e1 (congrArg V.int ?_))
      unfold refP
      rw [if_pos]
      rcases Bool.or_eq_true_iff.mp hb with h | h
      · left
        have h := of_decide_eq_true h
        cases c : Rp09.small v.major v.minor v.patch with
        | false => rfl
        | true =>
          exfalso
          have c := (small_iff _ _ _).mp c
          have : maxI (verL v) ≤ 1000 := by
            unfold verL
            rw [maxI_le]
            omega
          omega
      · right
        rcases Bool.or_eq_true_iff.mp h with h | h
        · left
          have := of_decide_eq_true h
          omega
        · right
          have := of_decide_eq_true h
          omega
    · obtain ⟨hb1, hb2⟩ := Bool.or_eq_false_iff.mp hb
      obtain ⟨hb3, hb4⟩ := Bool.or_eq_false_iff.mp hb2
      have g1 := of_decide_eq_false hb1
      have g2 := of_decide_eq_false hb3
      have g3 := of_decide_eq_false hb4
      have c1 : ¬ (Rp09.small v.major v.minor v.patch = false ∨ 1000 < g ∨ 4 < ns.length) := by
        rintro (h | h | h)
        · have : maxI (verL v) ≤ 1000 := by omega
          unfold verL at this
          rw [maxI_le] at this
          have : Rp09.small v.major v.minor v.patch = true := (small_iff _ _ _).mpr (by omega)
          rw [h] at this
          cases this
        · omega
        · omega
      unfold refP at k
      rw [if_neg c1] at k
      have hv1 := hv.mono e1
      refine q_when (et_test (ev_op ((hpl.mono e1).e_plen hv1.bh T (ev_var rfl)) ev_c rv_I0)) (fun hb H2 e2 => ?_) (fun hb H2 e2 => ?_)
      · have hc := of_decide_eq_true hb
        refine s_ret ev_c (ret_eq k (e1.trans e2) (congrArg V.int ?_))
        rw [if_pos (by omega)]
      · have hc := of_decide_eq_false hb
        rw [if_neg (by omega)] at k
        have e12 := e1.trans e2
        have hv2 := hv.mono e12
        refine q_when (et_test (ev_op (hv2.e_len T (ev_var rfl)) ev_c rv_I0)) (fun hb H3 e3 => ?_) (fun hb H3 e3 => ?_)
        · have hc := of_decide_eq_true hb
          refine s_ret ev_c (ret_eq k (e12.trans e3) (congrArg V.int ?_))
          rw [if_pos (by omega)]
        · have hc := of_decide_eq_false hb
          rw [if_neg (by omega)] at k
          have e13 := e12.trans e3
          have hv3 := hv.mono e13
          have hp3 := hp.mono e13
          obtain ⟨l', hn', hle'⟩ := hp3.e_ns T (σ := [some (.ref A.h), some (.ref a)]) (te := tVar 1) (ev_var rfl)
          refine q_when (et_not (et_B (ev_call (ea_cons (ev_var rfl) (ea_cons hle' ea_nil)) (spv_needs_are_formed hv3 hn' hl)))) (fun hb H4 e4 => ?_) (fun hb H4 e4 => ?_)
          · refine s_ret ev_c (ret_eq k (e13.trans e4) (congrArg V.int ?_))
            rw [if_pos (not_t hb)]
          · have hok : (ns.all (formed t) && Rp09.rising (ns.map fun n => n.on)) = true := not_f hb
            rw [if_neg (by rw [hok]; decide)] at k
            have e14 := e13.trans e4
            have hn : ∀ n ∈ ns, n.on < t.length ∧ n.kind ≤ 3 := fun n hn => by
              have := List.all_eq_true.mp (Bool.and_eq_true_iff.mp hok).1 n hn
              unfold formed at this
              simp only [Bool.and_eq_true, decide_eq_true_eq] at this
              exact ⟨this.1, this.2.1⟩
            refine q_when (et_not (et_B (ev_call (ea_cons (ev_var rfl) (ea_cons (ev_var rfl) ea_nil)) (spv_fits (hv.mono e14) (hp.mono e14) hl hn)))) (fun hb H5 e5 => ?_) (fun hb H5 e5 => ?_)
            · refine s_ret ev_c (ret_eq k (e14.trans e5) (congrArg V.int ?_))
              rw [if_pos (by simpa using hb)]
            · refine s_ret ev_c (ret_eq k (e14.trans e5) (congrArg V.int ?_))
              have : fitsIn t v g ns = true := by simpa using hb
              rw [if_neg (by rw [this]; decide)]
def sp_note_refusal (K : PySem.W.Frag) : Sp := fun vs H Q _ => ∃ (B : Hp) (A : HA) (t : List Package) (nl : List Nat) (n : Nat) (p : Addr) (ps : List Nat), vs = [.ref A.h, .int (n : Int), .ref p] ∧ HV K B H A t nl ∧ H p = some (.lst (visN ps)) ∧ ps.length ≤ 10 ∧ RetV (.int (refN t nl.length n ps)) H Q
theorem spv_note_refusal {K : PySem.W.Frag} {B H : Hp} {A : HA} {t : List Package} {nl : List Nat} {n : Nat} {p : Addr} {ps : List Nat} (hv : HV K B H A t nl) (hp : H p = some (.lst (visN ps))) (hl : ps.length ≤ 10) : SpV (sp_note_refusal K) [.ref A.h, .int (n : Int), .ref p] H (.int (refN t nl.length n ps)) :=
  fun H1 e Q q E => ⟨B, A, t, nl, n, p, ps, rfl, hv.mono e, e _ _ hp, hl, q⟩
theorem ok_note_refusal {P : Program} {w : World} {K : PySem.W.Frag} {mg : Str → Option Value} {base : Heap} (T : Txt K mg) (O_rise : Ok P w K mg base 1 "rise" p_rise (sp_rise K)) : Ok P w K mg base 2 "note_refusal" p_note_refusal (sp_note_refusal K) := by
  refine Ok.of T.e_note_refusal T.g_note_refusal sc_note_refusal (fun _ _ _ _ _ _ us hl => match us, hl with | [_, _, _], _ => rfl) (fun vs H Q E h => ?_) (fun cdv A outer s H vs Q E hr h => ?_)
  · obtain ⟨B, A, t, nl, n, p, ps, rfl, _⟩ := h
    rfl
  · obtain ⟨B, A, t, nl, n, p, ps, rfl, hv, hp, hl, k⟩ := h
    refine ⟨_, (pss_cons (ps_if (PW.pt (pw_or (pt_cmpR op_lt (pv 1) (pe_gint T.k_MEND) (nomark _)) (pw_or (pt_cmpR op_gt (pv 1) (pe_gint T.k_BREAK) (nomark _)) (pw_or (pt_cmpR op_eq (pe_callB (k_len (K := K) rfl) (by rfl) T.f_len PySem.boot_len (pa_cons (pv 2) pa_nil)) pe_int (nomark _)) (pw_or1 (pt_not (pt_val (pe_callO O_rise (hr.mono (by decide)) (by rfl) (pa_cons (pv 2) pa_nil)))))))))
      (pss_one (ps_ret (pe_gint T.k_BAD_FORM)))
      pss_nil)
      (pss_cons (ps_if (pt_cmpR op_ge (pe_callB (k_max (K := K) rfl rfl) (by rfl) T.f_max (by decide +kernel) (pa_cons (pv 2) pa_nil)) (pe_callB (k_len (K := K) rfl) (by rfl) T.f_len PySem.boot_len (pa_cons (k_fld (K := K) rfl (pv 0) rfl) pa_nil)) (nomark _))
      (pss_one (ps_ret (pe_gint T.k_UNKNOWN)))
      pss_nil)
      (pss_cons (ps_if (pt_cmpR op_ge (pe_callB (k_len (K := K) rfl) (by rfl) T.f_len PySem.boot_len (pa_cons (k_fld (K := K) rfl (pv 0) rfl) pa_nil)) (pe_gint T.k_MOST_NOTES) (nomark _))
      (pss_one (ps_ret (pe_gint T.k_FULL)))
      pss_nil)
      (pss_one (ps_ret (pe_gint T.k_ACCEPTED)))))), ?_⟩
    have hlen : Ev (tCB (rLenS K) (tCons (tVar 2) tNil)) [some (.ref A.h), some (.int (n : Int)), some (.ref p)] H (.int (ps.length : Int)) := ev_is (ev_len (ev_var rfl) (sq_of hp)) (by rw [visN_len])
    refine q_when (et_or (et_test (ev_op (ev_var rfl) ev_c rv_I0)) fun _ => et_or (et_test (ev_op (ev_var rfl) ev_c rv_I0)) fun _ => et_or (et_test (ev_eqI hlen ev_c)) fun _ => et_not (et_B (ev_call (ea_cons (ev_var rfl) ea_nil) (spv_rise hp (by omega))))) (fun hb H1 e1 => ?_) (fun hb H1 e1 => ?_)
    · refine s_ret ev_c (ret_eq k e1 (congrArg V.int ?_))
      unfold refN
      rw [if_pos]
      rcases Bool.or_eq_true_iff.mp hb with h | h
      · left
        have := of_decide_eq_true h
        omega
      · right
        rcases Bool.or_eq_true_iff.mp h with h | h
        · left
          have := of_decide_eq_true h
          omega
        · right
          rcases Bool.or_eq_true_iff.mp h with h | h
          · left
            have := of_decide_eq_true h
            omega
          · right
            simpa using h
    · obtain ⟨hb1, hb2⟩ := Bool.or_eq_false_iff.mp hb
      obtain ⟨hb3, hb4⟩ := Bool.or_eq_false_iff.mp hb2
      obtain ⟨hb5, hb6⟩ := Bool.or_eq_false_iff.mp hb4
      have g1 := of_decide_eq_false hb1
      have g2 := of_decide_eq_false hb3
      have g3 := of_decide_eq_false hb5
      have g4 : Rp09.rising ps = true := by simpa using hb6
      have c1 : ¬ (n < 1 ∨ 3 < n ∨ ps.length = 0 ∨ Rp09.rising ps = false) := by
        rw [g4]
        rintro (h | h | h | h)
        · omega
        · omega
        · omega
        · cases h
      unfold refN at k
      rw [if_neg c1] at k
      have hv1 := hv.mono e1
      obtain ⟨m, hm, hle⟩ : ∃ m, m ∈ ps ∧ ∀ y ∈ ps, y ≤ m := by
        refine ⟨ps.foldl max 0, ?_, fun y hy => (most_ge ps 0).2 y hy⟩
        rcases most_mem ps 0 with z | z
        · cases ps with
          | nil => exact absurd rfl g3
          | cons x r =>
            have := (most_ge (x :: r) 0).2 x (List.mem_cons_self ..)
            have e : x = 0 := by omega
            rw [z, ← e]
            exact List.mem_cons_self ..
        · exact z
      have hp1 : SqL K H1 p ((ps.map fun (n : Nat) => (n : Int)).map V.int) := by
        rw [← visN_vis]
        exact sq_of (e1 _ _ hp)
      refine q_when (et_test (ev_op (ev_maxS (m := (m : Int)) (ev_var rfl) hp1 (List.mem_map.mpr ⟨m, hm, rfl⟩) fun y hy => ?_) (hv1.e_len T (ev_var rfl)) rv_I0)) (fun hb H2 e2 => ?_) (fun hb H2 e2 => ?_)
      · obtain ⟨z, hz, rfl⟩ := List.mem_map.mp hy
        exact Int.ofNat_le.mpr (hle z hz)
      · have hc := of_decide_eq_true hb
        refine s_ret ev_c (ret_eq k (e1.trans e2) (congrArg V.int ?_))
        rw [if_pos]
        exact List.any_eq_true.mpr ⟨m, hm, decide_eq_true (by omega)⟩
      · have hc := of_decide_eq_false hb
        have hno : ¬ (ps.any fun p => decide (t.length ≤ p)) = true := fun h => by
          obtain ⟨y, hy, hy2⟩ := List.any_eq_true.mp h
          have h1 := of_decide_eq_true hy2
          have h2 := hle y hy
          omega
        rw [if_neg hno] at k
        have e12 := e1.trans e2
        have hv2 := hv.mono e12
        have hnl : Ev (tCB (rLenS K) (tCons (tFld K (tVar 0) "note_levels") tNil)) [some (.ref A.h), some (.int (n : Int)), some (.ref p)] H2 (.int (nl.length : Int)) := ev_is (ev_len (hv2.e_n T (ev_var rfl)) (sq_of hv2.n)) (by rw [visN_len])
        refine q_when (et_test (ev_op hnl ev_c rv_I0)) (fun hb H3 e3 => ?_) (fun hb H3 e3 => ?_)
        · have hc := of_decide_eq_true hb
          refine s_ret ev_c (ret_eq k (e12.trans e3) (congrArg V.int ?_))
          rw [if_pos (by omega)]
        · have hc := of_decide_eq_false hb
          refine s_ret ev_c (ret_eq k (e12.trans e3) (congrArg V.int ?_))
          rw [if_neg (by omega)]
/-! ### steps_told -/
def sp_steps_told (K : PySem.W.Frag) : Sp := fun vs H Q _ => ∃ (v : V) (ss : List Stp), vs = [v] ∧ StepsRep K ss v H ∧ ss.length ≤ 6 ∧ RetL (visN (toldL ss)) H Q
theorem spl_steps_told {K : PySem.W.Frag} {H : Hp} {v : V} {ss : List Stp} (h : StepsRep K ss v H) (hl : ss.length ≤ 6) : SpL (sp_steps_told K) [v] H (visN (toldL ss)) := fun H1 e Q q E => ⟨v, ss, rfl, h.mono e, hl, q⟩
theorem StepRep.e_lvl {K : PySem.W.Frag} {H : Hp} {v : V} {s : Stp} {σ : L2.St} {te : TE} {mg : Str → Option Value} (h : StepRep K s v H) (T : Txt K mg) (ha : Ev te σ H v) : Ev (tFld K te "level") σ H (.int (s.level : Int)) := by
  obtain ⟨a, dx, pv, l, nt, rfl, h2, h3, h4, h5⟩ := h
  exact ev_fld ha h2 T.cl_Step T.na_Step_level (lk_Step_level _ _ _ _ _)
theorem StepRep.e_ver {K : PySem.W.Frag} {H : Hp} {v : V} {s : Stp} {σ : L2.St} {te : TE} {mg : Str → Option Value} (h : StepRep K s v H) (T : Txt K mg) (ha : Ev te σ H v) : ∃ p, VerAt H p s.version ∧ Ev (tFld K te "version") σ H (.ref p) := by
  obtain ⟨a, dx, pv, l, nt, rfl, h2, h3, h4, h5⟩ := h
  exact ⟨pv, h3, ev_fld ha h2 T.cl_Step T.na_Step_version (lk_Step_version _ _ _ _ _)⟩
def toldN (ss : List Stp) : List Nat := ss.flatMap fun s => s.pkg :: s.level :: Rp09.numbers s.version
theorem toldN_len (ss : List Stp) : (toldN ss).length = 5 * ss.length := by
  induction ss with
  | nil => rfl
  | cons s ss ih =>
    unfold toldN at ih ⊢
    rw [List.flatMap_cons, List.length_append, ih, List.length_cons]
    show 5 + 5 * ss.length = 5 * (ss.length + 1)
    omega
theorem toldN_snoc (ss : List Stp) (s : Stp) : toldN (ss ++ [s]) = toldN ss ++ (s.pkg :: s.level :: Rp09.numbers s.version) := by
  unfold toldN
  rw [List.flatMap_append]
  simp
theorem vver_visN (v : Version) : vver v = visN (Rp09.numbers v) := rfl
theorem ok_steps_told {P : Program} {w : World} {K : PySem.W.Frag} {mg : Str → Option Value} {base : Heap} (T : Txt K mg) : Ok P w K mg base 1 "steps_told" p_steps_told (sp_steps_told K) := by
  refine Ok.of T.e_steps_told T.g_steps_told sc_steps_told (fun _ _ _ _ _ _ us hl => match us, hl with | [_], _ => rfl) (fun vs H Q E h => ?_) (fun cdv A outer s H vs Q E hr h => ?_)
  · obtain ⟨v, ss, rfl, _⟩ := h
    rfl
  · obtain ⟨v, ss, rfl, hs, hl, k⟩ := h
    refine ⟨_, (pss_cons (ps_set (i := 1) sc_steps_told.nd rfl (Or.inl rfl) (pe_lst (pa_cons (pe_callB (k_len (K := K) rfl) (by rfl) T.f_len PySem.boot_len (pa_cons (pv 0) pa_nil)) pa_nil)))
      (pss_cons (ps_for PassesOwn.never rfl (k_iList (K := K) rfl (pv 0)) (pg_name (i := 2) sc_steps_told.nd rfl (Or.inl rfl))
      (pss_cons (ps_expr (k_bm (K := K) rfl PySem.F.plainAttrs_list PySem.F.slot_list_extend PySem.F.type_list_extend mt_extend (pv 1) (pa_cons (pe_lst (pa_cons (k_fld (K := K) rfl (pv 2) rfl) (pa_cons (k_fld (K := K) rfl (pv 2) rfl) pa_nil))) pa_nil)))
      (pss_one (ps_expr (k_bm (K := K) rfl PySem.F.plainAttrs_list PySem.F.slot_list_extend PySem.F.type_list_extend (k_extT (K := K) rfl) (pv 1) (pa_cons (k_fld (K := K) rfl (pv 2) rfl) pa_nil))))))
      (pss_one (ps_ret (pv 1))))), ?_⟩
    obtain ⟨p, ws, rfl, h1, h2⟩ := hs
    refine q_asgL (el_lst (ea_cons (ev_len (ev_var rfl) (sq_of h1)) ea_nil) (by show 1 ≤ 100000; decide)) fun q H1 hq e1 g1 => ?_
    have g1' : H1 q = some (.lst (visN (ss.length :: toldN (ss.take 0)))) := by
      rw [g1, h2.len] <;> rfl
    refine q_forLn (K := K) (a := p) (xs := ws) (ev_var rfl) (sq_of (e1 _ _ h1)) (fun i σ' H' => ∃ last : Option V, σ' = [some (.ref p), some (.ref q), last] ∧ Ex H H' ∧ H' q = some (.lst (visN (ss.length :: toldN (ss.take i)))))
      (fun H2 e2 => ⟨none, rfl, e1.trans e2, e2 _ _ g1'⟩) (fun i σ' H' _ ⟨_, _, e, _⟩ => sq_of (e _ _ h1)) ?_ ?_
    · rintro i x σ' H' hx ⟨last, rfl, e, hq'⟩
      obtain ⟨s, hs, hr'⟩ := h2.getL hx
      have hi : i < ss.length := (List.getElem?_eq_some_iff.mp hs).1
      have hr1 := hr'.mono e
      have hlen : (ss.length :: toldN (ss.take i)).length ≤ 40 := by
        rw [List.length_cons, toldN_len, List.length_take]
        omega
      refine q_extL (ys := visN [s.pkg, s.level]) hq' (ev_var rfl) (el_lst (ea_cons (hr1.e_pkg T (ev_var rfl)) (ea_cons (hr1.e_lvl T (ev_var rfl)) ea_nil)) (by show 2 ≤ 100000; decide)) (by rw [visN_len, visN_len]; show _ + 2 ≤ _; omega) fun H2 e2 => ?_
      have hqn : H q = none := hq
      have e3 : Ex H (upd H2 q (.lst (visN (ss.length :: toldN (ss.take i)) ++ visN [s.pkg, s.level]))) := Ex.mut (e.trans e2) hqn
      obtain ⟨pv, hpv, hpe⟩ := (hr'.mono e3).e_ver T (σ := [some (.ref p), some (.ref q), some x]) (te := tVar 2) (ev_var rfl)
      refine s_extT upd_same (ev_var rfl) hpe hpv.sq (by rw [List.length_append, visN_len, visN_len]; show _ + 2 + 3 ≤ _; omega) fun H4 e4 => ?_
      refine ⟨some x, rfl, Ex.mut (e3.trans e4) hqn, ?_⟩
      rw [upd_same, vver_visN, ← visN_app, ← visN_app, List.take_succ, hs]
      show some (HO.lst (visN (ss.length :: toldN (ss.take i) ++ [s.pkg, s.level] ++ Rp09.numbers s.version))) = some (HO.lst (visN (ss.length :: toldN (ss.take i ++ [s]))))
      rw [toldN_snoc]
      simp
    · rintro σ' H' ⟨last, rfl, e, hq'⟩
      refine s_ret (ev_var rfl) fun H2 e2 => k q H2 hq (e.trans e2) ?_
      rw [h2.len, List.take_length] at hq'
      exact e2 _ _ hq'
end Tg
namespace Tg
open PySem PySem.Spec PyProof.Rows L2 Evl
open Rp09 (Version Need Package)
def fs_Package : List V → List (Str × V)
  | [a0, a1, a2, a3, a4] => [("version", a0), ("group", a1), ("needs", a2), ("waiting", a3), ("releases", a4)]
  | _ => []
theorem lk_Package_version (a0 a1 a2 a3 a4 : V) : (fs_Package [a0, a1, a2, a3, a4]).lookup ("version" : Str) = some a0 := rfl
theorem pt_Package_version (a0 a1 a2 a3 a4 x : V) : putF "version" x (fs_Package [a0, a1, a2, a3, a4]) = fs_Package [x, a1, a2, a3, a4] := rfl
theorem lk_Package_group (a0 a1 a2 a3 a4 : V) : (fs_Package [a0, a1, a2, a3, a4]).lookup ("group" : Str) = some a1 := rfl
theorem pt_Package_group (a0 a1 a2 a3 a4 x : V) : putF "group" x (fs_Package [a0, a1, a2, a3, a4]) = fs_Package [a0, x, a2, a3, a4] := rfl
theorem lk_Package_needs (a0 a1 a2 a3 a4 : V) : (fs_Package [a0, a1, a2, a3, a4]).lookup ("needs" : Str) = some a2 := rfl
theorem pt_Package_needs (a0 a1 a2 a3 a4 x : V) : putF "needs" x (fs_Package [a0, a1, a2, a3, a4]) = fs_Package [a0, a1, x, a3, a4] := rfl
theorem lk_Package_waiting (a0 a1 a2 a3 a4 : V) : (fs_Package [a0, a1, a2, a3, a4]).lookup ("waiting" : Str) = some a3 := rfl
theorem pt_Package_waiting (a0 a1 a2 a3 a4 x : V) : putF "waiting" x (fs_Package [a0, a1, a2, a3, a4]) = fs_Package [a0, a1, a2, x, a4] := rfl
theorem lk_Package_releases (a0 a1 a2 a3 a4 : V) : (fs_Package [a0, a1, a2, a3, a4]).lookup ("releases" : Str) = some a4 := rfl
theorem pt_Package_releases (a0 a1 a2 a3 a4 x : V) : putF "releases" x (fs_Package [a0, a1, a2, a3, a4]) = fs_Package [a0, a1, a2, a3, x] := rfl
def fs_House : List V → List (Str × V)
  | [a0, a1, a2] => [("packages", a0), ("note_levels", a1), ("plan", a2)]
  | _ => []
theorem lk_House_packages (a0 a1 a2 : V) : (fs_House [a0, a1, a2]).lookup ("packages" : Str) = some a0 := rfl
theorem pt_House_packages (a0 a1 a2 x : V) : putF "packages" x (fs_House [a0, a1, a2]) = fs_House [x, a1, a2] := rfl
theorem lk_House_note_levels (a0 a1 a2 : V) : (fs_House [a0, a1, a2]).lookup ("note_levels" : Str) = some a1 := rfl
theorem pt_House_note_levels (a0 a1 a2 x : V) : putF "note_levels" x (fs_House [a0, a1, a2]) = fs_House [a0, x, a2] := rfl
theorem lk_House_plan (a0 a1 a2 : V) : (fs_House [a0, a1, a2]).lookup ("plan" : Str) = some a2 := rfl
theorem pt_House_plan (a0 a1 a2 x : V) : putF "plan" x (fs_House [a0, a1, a2]) = fs_House [a0, a1, x] := rfl
/-- what a changing object is for -/
inductive Tag where
  | house | pkgs | notes | pkg (i : Nat) | wait (i : Nat) | rels (i : Nat) | rel (i j : Nat)
  deriving DecidableEq
def Valid (S : Rp09.House) : Tag → Prop
  | .house => True
  | .pkgs => True
  | .notes => True
  | .pkg i => i < S.tree.length
  | .wait i => i < S.tree.length
  | .rels i => i < S.tree.length
  | .rel i j => i < S.tree.length ∧ j < (outs S i).length
theorem Valid.of {S S' : Rp09.House} (hl : S'.tree.length = S.tree.length) (ho : S'.out = S.out) : ∀ {t : Tag}, Valid S' t → Valid S t
  | .house, _ => trivial
  | .pkgs, _ => trivial
  | .notes, _ => trivial
  | .pkg _, h => Nat.lt_of_lt_of_eq h hl
  | .wait _, h => Nat.lt_of_lt_of_eq h hl
  | .rels _, h => Nat.lt_of_lt_of_eq h hl
  | .rel i j, h => ⟨Nat.lt_of_lt_of_eq h.1 hl, by
    have h2 : j < (S'.out.filter fun o => o.pkg == i).length := h.2
    rw [ho] at h2
    exact h2⟩
/-- a Release's object -/
def RelO (K : PySem.W.Frag) (B : Hp) (r : Rp09.Out) (o : HO) : Prop := ∃ dx va na nt, o = .ins (He.ga K "Release") dx (fs_Release [.ref va, .ref na, .ref nt, .bl r.gone]) ∧ VerAt B va r.version ∧ NeedsAt K B na r.needs ∧ B nt = some (.lst (visN r.notes))
/-- what stands at a changing object's place -/
def Cont (K : PySem.W.Frag) (B : Hp) (ad : Tag → Addr) (S : Rp09.House) (nl : List Nat) : Tag → HO → Prop
  | .house, o => ∃ dx pv, o = .ins (He.ga K "House") dx (fs_House [.ref (ad .pkgs), .ref (ad .notes), pv]) ∧ StepsRep K S.plan pv B
  | .pkgs, o => o = .lst ((List.range S.tree.length).map fun i => V.ref (ad (.pkg i)))
  | .notes, o => o = .lst (visN nl)
  | .pkg i, o => ∃ dx va na, o = .ins (He.ga K "Package") dx (fs_Package [.ref va, .int ((Rp09.at_ S.tree i).group : Int), .ref na, .ref (ad (.wait i)), .ref (ad (.rels i))]) ∧ VerAt B va (Rp09.at_ S.tree i).version ∧ NeedsAt K B na (Rp09.at_ S.tree i).needs
  | .wait i, o => o = .lst (visN ((Rp09.at_ S.tree i).notes.map fun y => y.1))
  | .rels i, o => o = .lst ((List.range (outs S i).length).map fun j => V.ref (ad (.rel i j)))
  | .rel i j, o => ∀ r, (outs S i)[j]? = some r → RelO K B r o
structure HInv (K : PySem.W.Frag) (B H : Hp) (tg : Addr → Option Tag) (ad : Tag → Addr) (S : Rp09.House) (nl : List Nat) : Prop where
  c : ∀ t, Valid S t → ∃ o, H (ad t) = some o ∧ Cont K B ad S nl t o
  tag : ∀ t, Valid S t → tg (ad t) = some t
  im : ∀ a o, B a = some o → tg a = none
  bh : Ex B H
  live : ∀ a t, tg a = some t → ∃ o, H a = some o
section
variable {K : PySem.W.Frag} {B B' H H' : Hp} {tg : Addr → Option Tag} {ad : Tag → Addr} {S S' : Rp09.House} {nl nl' : List Nat}
theorem RelO.mono {r : Rp09.Out} {o : HO} (b : Ex B B') (h : RelO K B r o) : RelO K B' r o := by
  obtain ⟨dx, va, na, nt, h1, h2, h3, h4⟩ := h
  exact ⟨dx, va, na, nt, h1, h2.mono b, h3.mono b, b _ _ h4⟩
theorem Cont.mono (b : Ex B B') : ∀ {t : Tag} {o : HO}, Cont K B ad S nl t o → Cont K B' ad S nl t o
  | .house, _, ⟨dx, pv, h1, h2⟩ => ⟨dx, pv, h1, h2.mono b⟩
  | .pkgs, _, h => h
  | .notes, _, h => h
  | .pkg i, _, ⟨dx, va, na, h1, h2, h3⟩ => ⟨dx, va, na, h1, h2.mono b, h3.mono b⟩
  | .wait i, _, h => h
  | .rels i, _, h => h
  | .rel i j, _, h => fun r hr => (h r hr).mono b
/-- what is no part of the house may change -/
theorem HInv.sub (I : HInv K B H tg ad S nl) (b : Ex B H') (h : ∀ a o t, tg a = some t → H a = some o → H' a = some o) : HInv K B H' tg ad S nl := by
  refine ⟨fun t ht => ?_, I.tag, I.im, b, fun a t ht => ?_⟩
  · obtain ⟨o, h1, h2⟩ := I.c t ht
    exact ⟨o, h _ _ _ (I.tag t ht) h1, h2⟩
  · obtain ⟨o, ho⟩ := I.live a t ht
    exact ⟨o, h a o t ht ho⟩
theorem HInv.ex (I : HInv K B H tg ad S nl) (e : Ex H H') : HInv K B H' tg ad S nl := I.sub (I.bh.trans e) fun a o _ _ h => e a o h
theorem HInv.gr (I : HInv K B H tg ad S nl) (g : Gr B H B' H') : HInv K B' H' tg ad S nl := by
  refine ⟨fun t ht => ?_, I.tag, fun a o ha => ?_, g.s, fun a t ht => ?_⟩
  · obtain ⟨o, h1, h2⟩ := I.c t ht
    exact ⟨o, g.h _ _ h1, h2.mono g.b⟩
  · rcases g.n a o ha with z | z
    · exact I.im a o z
    · cases e : tg a with
      | none => rfl
      | some t =>
        obtain ⟨o', ho⟩ := I.live a t e
        rw [z] at ho
        cases ho
  · obtain ⟨o, ho⟩ := I.live a t ht
    exact ⟨o, g.h a o ho⟩
/-- an object outside the house is written -/
theorem HInv.updU {p : Addr} {o : HO} (I : HInv K B H tg ad S nl) (ht : tg p = none) (hb : B p = none) : HInv K B (upd H p o) tg ad S nl := by
  refine I.sub (Ex.mut I.bh hb) fun a u t hat ha => ?_
  rw [upd_ne fun z => ?_]
  · exact ha
  · rw [z, ht] at hat
    cases hat
/-- one of the house's objects is written; its places stay -/
theorem HInv.set {t0 : Tag} {o : HO} (I : HInv K B H tg ad S nl) (h0 : Valid S t0) (hv : ∀ t, Valid S' t → Valid S t) (hc : Cont K B ad S' nl' t0 o) (hs : ∀ t o, t ≠ t0 → Valid S' t → Cont K B ad S nl t o → Cont K B ad S' nl' t o) : HInv K B (upd H (ad t0) o) tg ad S' nl' := by
  have hb : B (ad t0) = none := by
    cases e : B (ad t0) with
    | none => rfl
    | some u =>
      have := I.im _ _ e
      rw [I.tag t0 h0] at this
      cases this
  refine ⟨fun t ht => ?_, fun t ht => I.tag t (hv t ht), I.im, Ex.mut I.bh hb, fun a t ht => ?_⟩
  · by_cases c : t = t0
    · subst c
      exact ⟨o, upd_same, hc⟩
    · obtain ⟨u, h1, h2⟩ := I.c t (hv t ht)
      refine ⟨u, ?_, hs t u c ht h2⟩
      rw [upd_ne fun z => ?_]
      · exact h1
      · have e1 := I.tag t (hv t ht)
        rw [z, I.tag t0 h0] at e1
        exact c (Option.some.inj e1).symm
  · by_cases c : a = ad t0
    · subst c
      exact ⟨o, upd_same⟩
    · obtain ⟨u, hu⟩ := I.live a t ht
      exact ⟨u, by rw [upd_ne c]; exact hu⟩
theorem HInv.at (I : HInv K B H tg ad S nl) (t : Tag) (ht : Valid S t) : ∃ o, H (ad t) = some o ∧ Cont K B ad S nl t o := I.c t ht
theorem HInv.nb (I : HInv K B H tg ad S nl) {t : Tag} (ht : Valid S t) : B (ad t) = none := by
  cases e : B (ad t) with
  | none => rfl
  | some u =>
    have := I.im _ _ e
    rw [I.tag t ht] at this
    cases this
/-- the tree, as those that only read see it -/
theorem HInv.hv (I : HInv K B H tg ad S nl) (ok : TreeOk S.tree nl) : ∃ A : HA, A.h = ad .house ∧ A.pk = ad .pkgs ∧ A.n = ad .notes ∧ (∀ i, A.pa i = ad (.pkg i)) ∧ (∀ i, A.wa i = ad (.wait i)) ∧ HV K B H A S.tree nl := by
  have hx : ∀ i : Nat, ∃ q : Addr × Addr, i < S.tree.length → ∃ dx, H (ad (.pkg i)) = some (.ins (He.ga K "Package") dx (fs_Package [.ref q.1, .int ((Rp09.at_ S.tree i).group : Int), .ref q.2, .ref (ad (.wait i)), .ref (ad (.rels i))])) ∧
      VerAt B q.1 (Rp09.at_ S.tree i).version ∧ NeedsAt K B q.2 (Rp09.at_ S.tree i).needs := fun i => by
    by_cases h : i < S.tree.length
    · obtain ⟨o, h1, dx, va, na, rfl, h2, h3⟩ := I.c (.pkg i) h
      exact ⟨(va, na), fun _ => ⟨dx, h1, h2, h3⟩⟩
    · exact ⟨(0, 0), fun z => absurd z h⟩
  obtain ⟨f, hf⟩ := Classical.axiomOfChoice hx
  obtain ⟨oh, h1, dx, pv, rfl, h2⟩ := I.c .house trivial
  obtain ⟨op, h3, h4⟩ := I.c .pkgs trivial
  obtain ⟨on, h5, h6⟩ := I.c .notes trivial
  refine ⟨⟨ad .house, ad .pkgs, ad .notes, fun i => ad (.pkg i), fun i => (f i).1, fun i => (f i).2, fun i => ad (.wait i)⟩, rfl, rfl, rfl, fun _ => rfl, fun _ => rfl, ⟨⟨dx, _, h1, lk_House_packages _ _ _, lk_House_note_levels _ _ _⟩, ?_, fun i x hi => ?_, fun i x hi => ?_, fun i x hi => ?_, fun i x hi => ?_, ?_, ok, I.bh⟩⟩
  · rw [h3]
    exact congrArg some h4
  · have hl : i < S.tree.length := (List.getElem?_eq_some_iff.mp hi).1
    obtain ⟨dx, g1, _⟩ := hf i hl
    rw [at_some hi] at g1
    exact ⟨dx, _, g1, lk_Package_version _ _ _ _ _, lk_Package_group _ _ _ _ _, lk_Package_needs _ _ _ _ _, lk_Package_waiting _ _ _ _ _⟩
  · have hl : i < S.tree.length := (List.getElem?_eq_some_iff.mp hi).1
    obtain ⟨dx, _, g2, _⟩ := hf i hl
    rw [at_some hi] at g2
    exact g2
  · have hl : i < S.tree.length := (List.getElem?_eq_some_iff.mp hi).1
    obtain ⟨dx, _, _, g3⟩ := hf i hl
    rw [at_some hi] at g3
    exact g3
  · have hl : i < S.tree.length := (List.getElem?_eq_some_iff.mp hi).1
    obtain ⟨o, g1, g2⟩ := I.c (.wait i) hl
    rw [g1]
    have g2' : o = .lst (visN ((Rp09.at_ S.tree i).notes.map fun y => y.1)) := g2
    rw [g2', at_some hi]
  · rw [h5]
    exact congrArg some h6
theorem HInv.hp (I : HInv K B H tg ad S nl) : HP K B H (ad .house) S.plan := by
  obtain ⟨oh, h1, dx, pv, rfl, h2⟩ := I.c .house trivial
  exact ⟨dx, _, pv, h1, lk_House_plan _ _ _, h2⟩
end
end Tg
namespace Tg
open PySem PySem.Spec PyProof.Rows L2 Evl
open Rp09 (Version Need Package)
/-- what a call leaves of all that is no part of the house -/
structure Frm (B H : Hp) (tg : Addr → Option Tag) (ad : Tag → Addr) (B' H' : Hp) (tg' : Addr → Option Tag) (ad' : Tag → Addr) : Prop where
  b : Ex B B'
  n : ∀ a o, B' a = some o → B a = some o ∨ H a = none
  u : ∀ a o, H a = some o → tg a = none → H' a = some o
  t : ∀ a o, H a = some o → tg a = none → tg' a = none
  h : ad' .house = ad .house
/-- a call's end: the state then, and the list that is answered -/
def Done (K : PySem.W.Frag) (c : Nat) (B H : Hp) (tg : Addr → Option Tag) (ad : Tag → Addr) (S' : Rp09.House) (ans : List Int) (Q : VK) : Prop :=
  ∀ (p : Addr) (B' H' : Hp) (tg' : Addr → Option Tag) (ad' : Tag → Addr) (nl' : List Nat), H p = none → H' p = some (.lst (vis ans)) → HInv K B' H' tg' ad' S' nl' → SOk S' nl' (c + 1) → Frm B H tg ad B' H' tg' ad' → Q (.ref p) H'
section
variable {K : PySem.W.Frag} {B B' H H' : Hp} {tg : Addr → Option Tag} {ad : Tag → Addr} {S : Rp09.House} {nl : List Nat} {c : Nat} {Q : VK}
theorem Frm.ofEx (e : Ex H H') : Frm B H tg ad B H' tg ad := ⟨Ex.refl _, fun _ _ h => .inl h, fun a o h _ => e a o h, fun _ _ _ h => h, rfl⟩
theorem Frm.ofGr (g : Gr B H B' H') : Frm B H tg ad B' H' tg ad := ⟨g.b, g.n, fun a o h _ => g.h a o h, fun _ _ _ h => h, rfl⟩
/-- nothing but reading -/
theorem Done.same {ans : List Int} (k : Done K c B H tg ad S ans Q) (I : HInv K B H tg ad S nl) (ok : SOk S nl c) : RetL (vis ans) H Q := fun p H' hp e h => k p B H' tg ad nl hp h (I.ex e) ok.up (Frm.ofEx e)
theorem RetL.from {xs ys : List V} (k : RetL xs H Q) (e : Ex H H') (h : xs = ys) : ∀ p H2, H' p = none → Ex H' H2 → H2 p = some (.lst ys) → Q (.ref p) H2 := fun p H2 hp e2 h2 => k p H2 (fresh_back e hp) (e.trans e2) (by rw [h]; exact h2)
end
theorem vis_visN (l : List Nat) : visN l = vis (l.map fun (n : Nat) => (n : Int)) := visN_vis l
/-! ### answer_look, answer_ready -/
theorem ans_look (S : Rp09.House) : ansL S .look = if S.plan ≠ [] then [-3] else (toldL (Rp09.steps S.tree)).map fun (n : Nat) => (n : Int) := by
  unfold ansL
  show Rp09Neutral.out (if S.plan ≠ [] then (S, Rp09.ok (-3)) else (S, Rp09.told (Rp09.steps S.tree))).2 = _
  by_cases h : S.plan = []
  · rw [if_neg (fun z => z h), if_neg (fun z => z h)]
    rfl
  · rw [if_pos h, if_pos h]
    rfl
def sp_answer_look (K : PySem.W.Frag) : Sp := fun vs H Q _ => ∃ (B : Hp) (tg : Addr → Option Tag) (ad : Tag → Addr) (S : Rp09.House) (nl : List Nat) (c : Nat), vs = [.ref (ad .house)] ∧ HInv K B H tg ad S nl ∧ SOk S nl c ∧ RetL (vis (ansL S .look)) H Q
theorem len_pos {α : Type} {l : List α} : (0 : Int) < (l.length : Int) ↔ l ≠ [] := by
  cases l with
  | nil => simp
  | cons a r =>
    simp
    try omega
theorem ok_answer_look {P : Program} {w : World} {K : PySem.W.Frag} {mg : Str → Option Value} {base : Heap} (T : Txt K mg) (O_steps_told : Ok P w K mg base 1 "steps_told" p_steps_told (sp_steps_told K)) (O_steps_now : Ok P w K mg base 8 "steps_now" p_steps_now (sp_steps_now K)) : Ok P w K mg base 9 "answer_look" p_answer_look (sp_answer_look K) := by
  refine Ok.of T.e_answer_look T.g_answer_look sc_answer_look (fun _ _ _ _ _ _ us hl => match us, hl with | [_], _ => rfl) (fun vs H Q E h => ?_) (fun cdv A outer s H vs Q E hr h => ?_)
  · obtain ⟨B, tg, ad, S, nl, c, rfl, _⟩ := h
    rfl
  · obtain ⟨B, tg, ad, S, nl, c, rfl, I, ok, k⟩ := h
    refine ⟨_, (pss_cons (ps_if (pt_cmpR op_gt (pe_callB (k_len (K := K) rfl) (by rfl) T.f_len PySem.boot_len (pa_cons (k_fld (K := K) rfl (pv 0) rfl) pa_nil)) pe_int (nomark _))
      (pss_one (ps_ret (pe_lst (pa_cons (pe_gint T.k_WRONG_TIME) pa_nil))))
      pss_nil)
      (pss_one (ps_ret (pe_callO O_steps_told (hr.mono (by decide)) (by rfl) (pa_cons (pe_callO O_steps_now (hr.mono (by decide)) (by rfl) (pa_cons (pv 0) pa_nil)) pa_nil))))), ?_⟩
    rw [ans_look] at k
    refine q_when (et_test (ev_op (I.hp.e_plen I.bh T (ev_var rfl)) ev_c rv_I0)) (fun hb H1 e1 => ?_) (fun hb H1 e1 => ?_)
    · have hc := len_pos.mp (of_decide_eq_true hb)
      rw [if_pos hc] at k
      exact s_retL (el_lst (ea_cons ev_c ea_nil) (by show 1 ≤ 100000; decide)) (RetL.from k e1 rfl)
    · have hc : ¬ S.plan ≠ [] := fun z => of_decide_eq_false hb (len_pos.mpr z)
      rw [if_neg hc, ← vis_visN] at k
      obtain ⟨A, a1, a2, a3, a4, a5, hv⟩ := (I.ex e1).hv ok.tree
      refine s_retL (el_callR (RA := fun vs B' => ∃ v, vs = [v] ∧ StepsRep K (Rp09.steps S.tree) v B') hv.bh (ear_cons (R := StepsRep K (Rp09.steps S.tree)) (evr_callV hv.bh (ea_cons (ev_var rfl) ea_nil) (a1 ▸ spr_steps_now hv)) fun v B1 H2 b1 b2 b3 hx => ear_end b2 ⟨v, rfl, hx⟩) ?_) (RetL.from k e1 rfl)
      rintro vs B1 H2 b1 b2 b3 ⟨v, rfl, hx⟩
      exact spl_steps_told (hx.mono b2) (steps_ok ok.tree).1
theorem ans_ready (S : Rp09.House) : ansL S .ready = (((S.plan.filter (readyIn S.plan)).length :: (S.plan.filter (readyIn S.plan)).map fun s => s.pkg).map fun (n : Nat) => (n : Int)) := rfl
def sp_answer_ready (K : PySem.W.Frag) : Sp := fun vs H Q _ => ∃ (B : Hp) (tg : Addr → Option Tag) (ad : Tag → Addr) (S : Rp09.House) (nl : List Nat) (c : Nat), vs = [.ref (ad .house)] ∧ HInv K B H tg ad S nl ∧ SOk S nl c ∧ RetL (vis (ansL S .ready)) H Q
theorem s_retCat {σ : L2.St} {H : Hp} {D : Ends} {ta tb : TE} {p : Addr} {xs ys : List V} (ha : EvL ta σ H xs) (hb : Ev tb σ H (.ref p)) (hp : H p = some (.lst ys)) (hz : xs.length + ys.length ≤ 100000) (k : ∀ q H1, H q = none → Ex H H1 → H1 q = some (.lst (xs ++ ys)) → D.rt (.ref q) H1) :
    tRet (tOp rCat ta tb) D σ H := ha H (Ex.refl _) _ fun l H1 hl e1 h1 => hb H1 e1 _ fun H2 e2 => ⟨l, p, xs, ys, rfl, rfl, e2 _ _ h1, (e1.trans e2) _ _ hp, sz_of hz, fun q hq => k q _ (fresh_back (e1.trans e2) hq) ((e1.trans e2).trans (Ex.new hq)) upd_same⟩
theorem ok_answer_ready {P : Program} {w : World} {K : PySem.W.Frag} {mg : Str → Option Value} {base : Heap} (T : Txt K mg) (O_ready_packages : Ok P w K mg base 2 "ready_packages" p_ready_packages (sp_ready_packages K)) : Ok P w K mg base 3 "answer_ready" p_answer_ready (sp_answer_ready K) := by
  refine Ok.of T.e_answer_ready T.g_answer_ready sc_answer_ready (fun _ _ _ _ _ _ us hl => match us, hl with | [_], _ => rfl) (fun vs H Q E h => ?_) (fun cdv A outer s H vs Q E hr h => ?_)
  · obtain ⟨B, tg, ad, S, nl, c, rfl, _⟩ := h
    rfl
  · obtain ⟨B, tg, ad, S, nl, c, rfl, I, ok, k⟩ := h
    refine ⟨_, (pss_cons (ps_set (i := 1) sc_answer_ready.nd rfl (Or.inl rfl) (pe_callO O_ready_packages (hr.mono (by decide)) (by rfl) (pa_cons (k_fld (K := K) rfl (pv 0) rfl) pa_nil)))
      (pss_one (ps_ret (pe_op op_cat (pe_lst (pa_cons (pe_callB (k_len (K := K) rfl) (by rfl) T.f_len PySem.boot_len (pa_cons (pv 1) pa_nil)) pa_nil)) (pv 1))))), ?_⟩
    rw [ans_ready, ← vis_visN] at k
    obtain ⟨v, hv, he⟩ := I.hp.e_plan T (σ := [some (.ref (ad .house)), none]) (te := tVar 0) (ev_var rfl)
    refine q_asgL (el_call (ea_cons he ea_nil) (spl_ready_packages (hv.mono I.bh) ok.plan.1 ok.plan.2)) fun p H1 hp e1 h1 => ?_
    have hle : (S.plan.filter (readyIn S.plan)).length ≤ 6 := Nat.le_trans (List.length_filter_le _ _) ok.plan.1
    refine s_retCat (el_lst (ea_cons (ev_len (ev_var rfl) (sq_of h1)) ea_nil) (by show 1 ≤ 100000; decide)) (ev_var rfl) h1 (by rw [visN_len, List.length_map]; show 1 + _ ≤ _; omega) (RetL.from k e1 ?_)
    show V.int _ :: visN _ = V.int _ :: visN _
    rw [visN_len, List.length_map]
/-! ### answer_plan -/
theorem step_plan (S : Rp09.House) : Rp09.step S .plan = if S.plan ≠ [] then (S, Rp09.ok (-3)) else ({ S with plan := Rp09.steps S.tree }, Rp09.told (Rp09.steps S.tree)) := rfl
def sp_answer_plan (K : PySem.W.Frag) : Sp := fun vs H Q _ => ∃ (B : Hp) (tg : Addr → Option Tag) (ad : Tag → Addr) (S : Rp09.House) (nl : List Nat) (c : Nat), vs = [.ref (ad .house)] ∧ HInv K B H tg ad S nl ∧ SOk S nl c ∧ Done K c B H tg ad (Rp09.step S .plan).1 (ansL S .plan) Q
theorem ok_answer_plan {P : Program} {w : World} {K : PySem.W.Frag} {mg : Str → Option Value} {base : Heap} (T : Txt K mg) (O_steps_now : Ok P w K mg base 8 "steps_now" p_steps_now (sp_steps_now K)) (O_steps_told : Ok P w K mg base 1 "steps_told" p_steps_told (sp_steps_told K)) : Ok P w K mg base 9 "answer_plan" p_answer_plan (sp_answer_plan K) := by
  refine Ok.of T.e_answer_plan T.g_answer_plan sc_answer_plan (fun _ _ _ _ _ _ us hl => match us, hl with | [_], _ => rfl) (fun vs H Q E h => ?_) (fun cdv A outer s H vs Q E hr h => ?_)
  · obtain ⟨B, tg, ad, S, nl, c, rfl, _⟩ := h
    rfl
  · obtain ⟨B, tg, ad, S, nl, c, rfl, I, ok, k⟩ := h
    refine ⟨_, (pss_cons (ps_if (pt_cmpR op_gt (pe_callB (k_len (K := K) rfl) (by rfl) T.f_len PySem.boot_len (pa_cons (k_fld (K := K) rfl (pv 0) rfl) pa_nil)) pe_int (nomark _))
      (pss_one (ps_ret (pe_lst (pa_cons (pe_gint T.k_WRONG_TIME) pa_nil))))
      pss_nil)
      (pss_cons (k_put (K := K) rfl (pv 0) (pe_callO O_steps_now (hr.mono (by decide)) (by rfl) (pa_cons (pv 0) pa_nil)) rfl)
      (pss_one (ps_ret (pe_callO O_steps_told (hr.mono (by decide)) (by rfl) (pa_cons (k_fld (K := K) rfl (pv 0) rfl) pa_nil)))))), ?_⟩
    unfold ansL at k
    rw [step_plan] at k
    refine q_when (et_test (ev_op (I.hp.e_plen I.bh T (ev_var rfl)) ev_c rv_I0)) (fun hb H1 e1 => ?_) (fun hb H1 e1 => ?_)
    · have hc := len_pos.mp (of_decide_eq_true hb)
      rw [if_pos hc] at k
      exact s_retL (el_lst (ea_cons ev_c ea_nil) (by show 1 ≤ 100000; decide)) (RetL.from (Done.same k I ok) e1 rfl)
    · have hc : ¬ S.plan ≠ [] := fun z => of_decide_eq_false hb (len_pos.mpr z)
      rw [if_neg hc] at k
      have I1 := I.ex e1
      obtain ⟨A, a1, a2, a3, a4, a5, hv⟩ := I1.hv ok.tree
      obtain ⟨oh, h1, dx, pv, rfl, h2⟩ := I1.c .house trivial
      refine q_putR hv.bh (evr_callV (R := StepsRep K (Rp09.steps S.tree)) hv.bh (ea_cons (ev_var rfl) ea_nil) (a1 ▸ spr_steps_now hv)) (ev_var rfl) h1 T.cl_House T.na_House_plan (by show 3 < 1000; decide) fun v B2 H2 g2 hx => ?_
      rw [pt_House_plan]
      have I2 := I1.gr g2
      have st := steps_ok ok.tree
      have I3 : HInv K B2 (upd H2 (ad .house) (.ins (He.ga K "House") dx (fs_House [.ref (ad .pkgs), .ref (ad .notes), v]))) tg ad { S with plan := Rp09.steps S.tree } nl := I2.set (S' := { S with plan := Rp09.steps S.tree }) (nl' := nl) (t0 := .house) trivial (fun t h => by cases t <;> exact h) ⟨dx, v, rfl, hx⟩ (fun t o hne _ h => by
        cases t with
        | house => exact absurd rfl hne
        | _ => exact h)
      have hx3 := hx.mono I3.bh
      refine s_retL (el_call (ea_cons (ev_fld (ev_var rfl) upd_same T.cl_House T.na_House_plan (lk_House_plan _ _ _)) ea_nil) (spl_steps_told hx3 st.1)) fun p H4 hp e4 h4 => ?_
      have hk : ∀ a o, H a = some o → tg a = none → H4 a = some o := fun a o ha ht => e4 _ _ (by
        rw [upd_ne fun z => ?_]
        · exact g2.h _ _ (e1 _ _ ha)
        · rw [z, I.tag .house trivial] at ht
          cases ht)
      have hpH : H p = none := by
        cases e : H p with
        | none => rfl
        | some o =>
          by_cases z : p = ad .house
          · rw [z, upd_same] at hp
            cases hp
          · rw [upd_ne z, g2.h _ _ (e1 _ _ e)] at hp
            cases hp
      refine k p B2 H4 tg ad nl hpH ?_ (I3.ex e4) ⟨ok.tree, ok.cnt, st, Nat.le_succ_of_le ok.out, ok.outp, more_plan ok.more ok.tree⟩ ⟨g2.b, fun a o h => ?_, hk, fun _ _ _ h => h, rfl⟩
      · rw [h4, vis_visN] <;> rfl
      · rcases g2.n a o h with z | z
        · exact .inl z
        · exact .inr (fresh_back e1 z)
/-! ### answer_note -/
theorem step_note (S : Rp09.House) (n : Nat) (ps : List Nat) : Rp09.step S (.note n ps) = if n = 0 ∨ 3 < n ∨ ps = [] ∨ Rp09.rising ps = false then (S, Rp09.ok (-1)) else if (ps.any fun p => decide (S.tree.length ≤ p)) = true then (S, Rp09.ok (-2)) else if S.count = Rp09.NOTES then (S, Rp09.ok (-7)) else
    ({ S with count := S.count + 1, tree := noted S.tree ps (S.count, n) }, Rp09.ok (S.count : Nat)) := rfl
theorem note_ref {S : Rp09.House} {nl : List Nat} {c n : Nat} {ps : List Nat} (ok : SOk S nl c) : (refN S.tree nl.length n ps ≠ 0 → Rp09.step S (.note n ps) = (S, Rp09.ok (refN S.tree nl.length n ps))) ∧
    (refN S.tree nl.length n ps = 0 → (1 ≤ n ∧ n ≤ 3) ∧ ps ≠ [] ∧ Rp09.rising ps = true ∧ (∀ p ∈ ps, p < S.tree.length) ∧ nl.length < 30 ∧ Rp09.step S (.note n ps) = ({ S with count := S.count + 1, tree := noted S.tree ps (S.count, n) }, Rp09.ok (S.count : Nat))) := by
  have h30 := ok.tree.nl
  rw [step_note]
  unfold refN
  by_cases c1 : n < 1 ∨ 3 < n ∨ ps.length = 0 ∨ Rp09.rising ps = false
  · have c1' : n = 0 ∨ 3 < n ∨ ps = [] ∨ Rp09.rising ps = false := by
      rcases c1 with h | h | h | h
      · exact .inl (by omega)
      · exact .inr (.inl h)
      · exact .inr (.inr (.inl (List.eq_nil_of_length_eq_zero h)))
      · exact .inr (.inr (.inr h))
    rw [if_pos c1, if_pos c1']
    exact ⟨fun _ => rfl, fun h => by cases h⟩
  · have c1' : ¬ (n = 0 ∨ 3 < n ∨ ps = [] ∨ Rp09.rising ps = false) := fun z => c1 (by
      rcases z with h | h | h | h
      · exact .inl (by omega)
      · exact .inr (.inl h)
      · exact .inr (.inr (.inl (by rw [h] <;> rfl)))
      · exact .inr (.inr (.inr h)))
    rw [if_neg c1, if_neg c1']
    by_cases c2 : (ps.any fun p => decide (S.tree.length ≤ p)) = true
    · rw [if_pos c2, if_pos c2]
      exact ⟨fun _ => rfl, fun h => by cases h⟩
    · rw [if_neg c2, if_neg c2]
      by_cases c3 : 30 ≤ nl.length
      · have c3' : S.count = Rp09.NOTES := by
          rw [ok.cnt]
          show nl.length = 30
          omega
        rw [if_pos c3, if_pos c3']
        exact ⟨fun _ => rfl, fun h => by cases h⟩
      · have c3' : ¬ S.count = Rp09.NOTES := fun z => c3 (by
          rw [ok.cnt] at z
          have : nl.length = 30 := z
          omega)
        rw [if_neg c3, if_neg c3']
        refine ⟨fun h => absurd rfl h, fun _ => ⟨by omega, fun z => c1' (.inr (.inr (.inl z))), ?_, fun p hp => ?_, by omega, rfl⟩⟩
        · cases e : Rp09.rising ps with
          | true => rfl
          | false => exact absurd (.inr (.inr (.inr e))) c1'
        · by_cases z : p < S.tree.length
          · exact z
          · exact absurd (List.any_eq_true.mpr ⟨p, hp, decide_eq_true (by omega)⟩) c2
theorem rising_lt {l : List Nat} (h : Rp09.rising l = true) : ∀ {j i : Nat}, i < j → j < l.length → l.getD i 0 < l.getD j 0
  | 0, i, hi, _ => absurd hi (by omega)
  | j + 1, i, hi, hj => by
    have h1 := (rising_iff l).mp h j hj
    by_cases c : i = j
    · subst c
      exact h1
    · have := rising_lt h (j := j) (i := i) (by omega) (by omega)
      omega
theorem rising_new {l : List Nat} (h : Rp09.rising l = true) {i x : Nat} (hx : l[i]? = some x) : (l.take i).contains x = false := by
  cases e : (l.take i).contains x with
  | false => rfl
  | true =>
    exfalso
    have hm : x ∈ l.take i := by simpa using e
    obtain ⟨j, hj⟩ := List.getElem?_of_mem hm
    have hj1 : j < i := by
      have := (List.getElem?_eq_some_iff.mp hj).1
      rw [List.length_take] at this
      omega
    have hj2 : l[j]? = some x := by
      rw [List.getElem?_take_of_lt hj1] at hj
      exact hj
    have hi := (List.getElem?_eq_some_iff.mp hx).1
    have := rising_lt h hj1 hi
    rw [List.getD_eq_getElem?_getD, List.getD_eq_getElem?_getD, hj2, hx] at this
    exact absurd this (Nat.lt_irrefl _)
def sp_answer_note (K : PySem.W.Frag) : Sp := fun vs H Q _ => ∃ (B : Hp) (tg : Addr → Option Tag) (ad : Tag → Addr) (S : Rp09.House) (nl : List Nat) (c n : Nat) (p : Addr) (ps : List Nat), vs = [.ref (ad .house), .int (n : Int), .ref p] ∧ HInv K B H tg ad S nl ∧ SOk S nl c ∧ H p = some (.lst (visN ps)) ∧ tg p = none ∧ ps.length ≤ 10 ∧
  Done K c B H tg ad (Rp09.step S (.note n ps)).1 (ansL S (.note n ps)) Q
theorem ok_answer_note {P : Program} {w : World} {K : PySem.W.Frag} {mg : Str → Option Value} {base : Heap} (T : Txt K mg) (O_note_refusal : Ok P w K mg base 2 "note_refusal" p_note_refusal (sp_note_refusal K)) : Ok P w K mg base 3 "answer_note" p_answer_note (sp_answer_note K) := by
  refine Ok.of T.e_answer_note T.g_answer_note sc_answer_note (fun _ _ _ _ _ _ us hl => match us, hl with | [_, _, _], _ => rfl) (fun vs H Q E h => ?_) (fun cdv A outer s H vs Q E hr h => ?_)
  · obtain ⟨B, tg, ad, S, nl, c, n, p, ps, rfl, _⟩ := h
    rfl
  · obtain ⟨B, tg, ad, S, nl, c, n, p, ps, rfl, I, ok, hp, hpt, hpl, k⟩ := h
    refine ⟨_, (pss_cons (ps_set (i := 3) sc_answer_note.nd rfl (Or.inl rfl) (pe_callO O_note_refusal (hr.mono (by decide)) (by rfl) (pa_cons (pv 0) (pa_cons (pv 1) (pa_cons (pv 2) pa_nil)))))
      (pss_cons (ps_if (pt_cmpR op_ne (pv 3) (pe_gint T.k_ACCEPTED) (nomark _))
      (pss_one (ps_ret (pe_lst (pa_cons (pv 3) pa_nil))))
      pss_nil)
      (pss_cons (ps_set (i := 4) sc_answer_note.nd rfl (Or.inl rfl) (pe_callB (k_len (K := K) rfl) (by rfl) T.f_len PySem.boot_len (pa_cons (k_fld (K := K) rfl (pv 0) rfl) pa_nil)))
      (pss_cons (ps_expr (k_bm (K := K) rfl PySem.F.plainAttrs_list PySem.F.slot_list_append PySem.F.type_list_append mt_append (k_fld (K := K) rfl (pv 0) rfl) (pa_cons (pv 1) pa_nil)))
      (pss_cons (ps_for PassesOwn.never rfl (k_iList (K := K) rfl (pv 2)) (pg_name (i := 5) sc_answer_note.nd rfl (Or.inl rfl))
      (pss_one (ps_expr (k_bm (K := K) rfl PySem.F.plainAttrs_list PySem.F.slot_list_append PySem.F.type_list_append mt_append (k_fld (K := K) rfl (pe_ix (k_ixL (K := K) rfl) (k_fld (K := K) rfl (pv 0) rfl) (pv 5) (fun _ _ => rfl)) rfl) (pa_cons (pv 4) pa_nil)))))
      (pss_one (ps_ret (pe_lst (pa_cons (pv 4) pa_nil))))))))), ?_⟩
    obtain ⟨A, a1, a2, a3, a4, a5, hv⟩ := I.hv ok.tree
    obtain ⟨r1, r2⟩ := note_ref (n := n) (ps := ps) ok
    unfold ansL at k
    refine q_asg (ev_call (ea_cons (ev_var rfl) (ea_cons (ev_var rfl) (ea_cons (ev_var rfl) ea_nil))) (a1 ▸ spv_note_refusal hv hp hpl)) fun H1 e1 => ?_
    refine q_when (et_test (ev_neI (ev_var rfl) ev_c)) (fun hb H2 e2 => ?_) (fun hb H2 e2 => ?_)
    · have hne : refN S.tree nl.length n ps ≠ 0 := by simpa using hb
      rw [r1 hne] at k
      exact s_retL (el_lst (ea_cons (ev_var rfl) ea_nil) (by show 1 ≤ 100000; decide)) (RetL.from (Done.same k I ok) (e1.trans e2) rfl)
    · have he : refN S.tree nl.length n ps = 0 := by simpa using hb
      obtain ⟨⟨n1, n3⟩, hne, hris, hlt, hl30, hst⟩ := r2 he
      rw [hst] at k
      have e12 := e1.trans e2
      have I2 := I.ex e12
      have hv2 := hv.mono e12
      have hnlen : Ev (tCB (rLenS K) (tCons (tFld K (tVar 0) "note_levels") tNil)) [some (.ref (ad .house)), some (.int (n : Int)), some (.ref p), some (.int (refN S.tree nl.length n ps)), none, none] H2 (.int (nl.length : Int)) := ev_is (ev_len (hv2.e_n T (a1 ▸ ev_var rfl)) (sq_of hv2.n)) (by rw [visN_len])
      refine q_asg hnlen fun H3 e3 => ?_
      have I3 := I2.ex e3
      have hv3 := hv2.mono e3
      have hn3 : H3 (ad .notes) = some (.lst (visN nl)) := a3 ▸ hv3.n
      refine q_app hn3 (a3 ▸ hv3.e_n T (a1 ▸ ev_var rfl)) (ev_var rfl) (by rw [visN_len]; have := ok.tree.nl; omega) fun H4 e4 => ?_
      have eap : visN nl ++ [V.int (n : Int)] = visN (nl ++ [n]) := (visN_app nl [n]).symm
      rw [eap]
      have I5 : HInv K B (upd H4 (ad .notes) (.lst (visN (nl ++ [n])))) tg ad { S with count := S.count + 1, tree := noted S.tree (ps.take 0) (S.count, n) } (nl ++ [n]) := (I3.ex e4).set (S' := { S with count := S.count + 1, tree := noted S.tree (ps.take 0) (S.count, n) }) (nl' := nl ++ [n]) (t0 := .notes) trivial ?_ rfl ?_
      · have k0 : ∀ a o, H a = some o → tg a = none → (upd H4 (ad .notes) (.lst (visN (nl ++ [n])))) a = some o := fun a o ha ht => by
          rw [upd_ne fun z => ?_]
          · exact e4 _ _ (e3 _ _ (e12 _ _ ha))
          · rw [z, I.tag .notes trivial] at ht
            cases ht
        have f0 : ∀ a, (upd H4 (ad .notes) (.lst (visN (nl ++ [n])))) a = none → H a = none := fun a ha => by
          by_cases z : a = ad .notes
          · rw [z, upd_same] at ha
            cases ha
          · rw [upd_ne z] at ha
            exact fresh_back ((e12.trans e3).trans e4) ha
        refine q_forLn (K := K) (a := p) (xs := visN ps) (ev_var rfl) (sq_of (k0 _ _ hp hpt)) (fun i σ' H' => ∃ last : Option V, σ' = [some (.ref (ad .house)), some (.int (n : Int)), some (.ref p), some (.int (refN S.tree nl.length n ps)), some (.int (nl.length : Int)), last] ∧
            HInv K B H' tg ad { S with count := S.count + 1, tree := noted S.tree (ps.take i) (S.count, n) } (nl ++ [n]) ∧ (∀ a o, H a = some o → tg a = none → H' a = some o) ∧ ∀ a, H' a = none → H a = none)
          (fun H5 e5 => ⟨none, rfl, I5.ex e5, fun a o h1 h2 => e5 _ _ (k0 a o h1 h2), fun a h => f0 a (fresh_back e5 h)⟩) (fun i σ' H' _ ⟨_, _, _, kk, _⟩ => sq_of (kk _ _ hp hpt)) ?_ ?_
        · rintro i x σ' H' hx ⟨last, rfl, I6, k6, f6⟩
          obtain ⟨q, hq, rfl⟩ : ∃ q, ps[i]? = some q ∧ x = V.int (q : Int) := by
            rw [List.getElem?_map] at hx
            cases e : ps[i]? with
            | none =>
              rw [e] at hx
              cases hx
            | some q =>
              rw [e] at hx
              exact ⟨q, rfl, (Option.some.inj hx).symm⟩
          have hql : q < S.tree.length := hlt q (List.mem_of_getElem? hq)
          have hnew := rising_new hris hq
          have T6 := noted_ok (ps := ps.take i) ok.tree n1 n3 hl30
          rw [← ok.cnt] at T6
          obtain ⟨A6, b1, b2, b3, b4, b5, hv6⟩ := I6.hv T6
          have hql6 : q < (noted S.tree (ps.take i) (S.count, n)).length := by rw [noted_len]; exact hql
          obtain ⟨o6, g1, g2⟩ := I6.c (.wait q) hql6
          have hat : Rp09.at_ (noted S.tree (ps.take i) (S.count, n)) q = Rp09.at_ S.tree q := by
            rw [noted_at hql, hnew] <;> rfl
          have g2' : o6 = .lst (visN ((Rp09.at_ S.tree q).notes.map fun y => y.1)) := by
            rw [← hat]
            exact g2
          rw [g2'] at g1
          have hnb := (ok.tree.notes _ (at_mem hql)).1
          refine s_app g1 (b5 q ▸ hv6.e_w T hql6 (hv6.e_pkg T hql6 (b1 ▸ ev_var rfl) (ev_var rfl))) (ev_var rfl) (by rw [visN_len, List.length_map]; omega) fun H7 e7 => ?_
          have htk : ps.take (i + 1) = ps.take i ++ [q] := by rw [List.take_succ, hq] <;> rfl
          refine ⟨some (V.int (q : Int)), rfl, (I6.ex e7).set (S' := { S with count := S.count + 1, tree := noted S.tree (ps.take (i + 1)) (S.count, n) }) (nl' := nl ++ [n]) (t0 := .wait q) hql6 ?_ ?_ ?_, ?_, ?_⟩
          · intro t h
            exact Valid.of (S := { S with count := S.count + 1, tree := noted S.tree (ps.take i) (S.count, n) }) (S' := { S with count := S.count + 1, tree := noted S.tree (ps.take (i + 1)) (S.count, n) }) (by show (noted _ _ _).length = (noted _ _ _).length; rw [noted_len, noted_len]) rfl h
          · show _ = _
            have : Rp09.at_ (noted S.tree (ps.take (i + 1)) (S.count, n)) q = { Rp09.at_ S.tree q with notes := (Rp09.at_ S.tree q).notes ++ [(S.count, n)] } := by
              rw [noted_at hql, if_pos]
              rw [htk]
              simp
            show HO.lst _ = HO.lst (visN ((Rp09.at_ (noted S.tree (ps.take (i + 1)) (S.count, n)) q).notes.map fun y => y.1))
            rw [this]
            show HO.lst _ = HO.lst (visN (((Rp09.at_ S.tree q).notes ++ [(S.count, n)]).map fun y => y.1))
            rw [List.map_append, visN_app, ok.cnt] <;> rfl
          · intro t o hne hval h
            have hl2 : (noted S.tree (ps.take (i + 1)) (S.count, n)).length = (noted S.tree (ps.take i) (S.count, n)).length := by rw [noted_len, noted_len]
            have same : ∀ j, j < S.tree.length → j ≠ q → Rp09.at_ (noted S.tree (ps.take (i + 1)) (S.count, n)) j = Rp09.at_ (noted S.tree (ps.take i) (S.count, n)) j := fun j hj hjq => by
              rw [noted_at hj, noted_at hj, htk]
              have : (ps.take i ++ [q]).contains j = (ps.take i).contains j := by
                simp [hjq]
              rw [this]
            have parts : ∀ j, j < S.tree.length → (Rp09.at_ (noted S.tree (ps.take (i + 1)) (S.count, n)) j).group = (Rp09.at_ (noted S.tree (ps.take i) (S.count, n)) j).group ∧ (Rp09.at_ (noted S.tree (ps.take (i + 1)) (S.count, n)) j).version = (Rp09.at_ (noted S.tree (ps.take i) (S.count, n)) j).version ∧
                (Rp09.at_ (noted S.tree (ps.take (i + 1)) (S.count, n)) j).needs = (Rp09.at_ (noted S.tree (ps.take i) (S.count, n)) j).needs := fun j hj => by
              rw [noted_at hj, noted_at hj]
              split <;> split <;> exact ⟨rfl, rfl, rfl⟩
            cases t with
            | house => exact h
            | pkgs =>
              have h' : o = .lst ((List.range (noted S.tree (ps.take i) (S.count, n)).length).map fun i => V.ref (ad (.pkg i))) := h
              show o = .lst ((List.range (noted S.tree (ps.take (i + 1)) (S.count, n)).length).map fun i => V.ref (ad (.pkg i)))
              rw [hl2]
              exact h'
            | notes => exact h
            | pkg j =>
              have hj : j < S.tree.length := by
                have : j < (noted S.tree (ps.take (i + 1)) (S.count, n)).length := hval
                rw [noted_len] at this
                exact this
              obtain ⟨q1, q2, q3⟩ := parts j hj
              obtain ⟨dx, va, na, w1, w2, w3⟩ := h
              refine ⟨dx, va, na, ?_, ?_, ?_⟩
              · rw [q1]
                exact w1
              · rw [q2]
                exact w2
              · rw [q3]
                exact w3
            | wait j =>
              have hj : j < S.tree.length := by
                have : j < (noted S.tree (ps.take (i + 1)) (S.count, n)).length := hval
                rw [noted_len] at this
                exact this
              have hjq : j ≠ q := fun z => hne (by rw [z])
              show o = _
              rw [same j hj hjq]
              exact h
            | rels j => exact h
            | rel j l => exact h
          · intro a o ha ht
            rw [upd_ne fun z => ?_]
            · exact e7 _ _ (k6 a o ha ht)
            · rw [z, I6.tag (.wait q) hql6] at ht
              cases ht
          · intro a ha
            by_cases z : a = ad (.wait q)
            · rw [z, upd_same] at ha
              cases ha
            · rw [upd_ne z] at ha
              exact f6 a (fresh_back e7 ha)
        · rintro σ' H' ⟨last, rfl, I6, k6, f6⟩
          rw [visN_len, List.take_length] at I6
          refine s_retL (el_lst (ea_cons (ev_var rfl) ea_nil) (by show 1 ≤ 100000; decide)) fun r H7 hr' e7 h7 => ?_
          refine k r B H7 tg ad (nl ++ [n]) (f6 r hr') ?_ (I6.ex e7) ⟨?_, ?_, ok.plan, Nat.le_succ_of_le ok.out, fun o ho => (noted_len S.tree ps (S.count, n)).symm ▸ ok.outp o ho, more_note ok.more ok.outp⟩ ⟨Ex.refl _, fun _ _ h => .inl h, fun a o h1 h2 => e7 _ _ (k6 a o h1 h2), fun _ _ _ h => h, rfl⟩
          · rw [h7, ← ok.cnt] <;> rfl
          · have := noted_ok (ps := ps) ok.tree n1 n3 hl30
            rw [← ok.cnt] at this
            exact this
          · show S.count + 1 = (nl ++ [n]).length
            rw [List.length_append, List.length_singleton, ok.cnt]
      · intro t h
        exact Valid.of (S := S) (S' := { S with count := S.count + 1, tree := noted S.tree (ps.take 0) (S.count, n) }) (noted_len ..) rfl h
      · intro t o hne hval h
        have hl2 : (noted S.tree (ps.take 0) (S.count, n)).length = S.tree.length := noted_len ..
        have same : ∀ j, j < S.tree.length → Rp09.at_ (noted S.tree (ps.take 0) (S.count, n)) j = Rp09.at_ S.tree j := fun j hj => by
          rw [noted_at hj]
          rfl
        cases t with
        | house => exact h
        | pkgs =>
          show o = .lst ((List.range (noted S.tree (ps.take 0) (S.count, n)).length).map fun i => V.ref (ad (.pkg i)))
          rw [hl2]
          exact h
        | notes => exact absurd rfl hne
        | pkg j =>
          have hj : j < S.tree.length := Nat.lt_of_lt_of_eq hval hl2
          obtain ⟨dx, va, na, w1, w2, w3⟩ := h
          have e := same j hj
          exact ⟨dx, va, na, by rw [e]; exact w1, by rw [e]; exact w2, by rw [e]; exact w3⟩
        | wait j =>
          have hj : j < S.tree.length := Nat.lt_of_lt_of_eq hval hl2
          show o = _
          rw [same j hj]
          exact h
        | rels j => exact h
        | rel j l => exact h
end Tg
namespace Tg
open PySem PySem.Spec PyProof.Rows L2 Evl
open Rp09 (Version Need Package)
theorem upd_old {H : Hp} {p a : Addr} {x o : HO} {q : HO} (h : H a = some o) (hp : H p = some q) (hn : upd H p x a = none) : False := by
  by_cases c : a = p
  · rw [c, upd_same] at hn
    cases hn
  · rw [upd_ne c, h] at hn
    cases hn
/-! ### House() -/
def spi_House (K : PySem.W.Frag) : Sp := fun vs H Q _ => ∃ (p dx : Addr), vs = [.ref p] ∧ H p = some (.ins (He.ga K "House") dx []) ∧ ∀ (H' : Hp) (a b c : Addr), Keep p H H' → H a = none → H b = none → H c = none → a ≠ b → a ≠ c → b ≠ c →
  H' p = some (.ins (He.ga K "House") dx (fs_House [.ref a, .ref b, .ref c])) → H' a = some (.lst []) → H' b = some (.lst []) → H' c = some (.lst []) → Q .non H'
theorem okc_House {P : Program} {w : World} {K : PySem.W.Frag} {mg : Str → Option Value} {base : Heap} (T : Txt K mg) : OkC P w K mg base 1 "House" p_House_init (spi_House K) := by
  refine OkC.of T.e_House_init T.g_House T.mk_House sc_House_init (fun _ _ _ _ _ _ us hl => match us, hl with | [_], _ => rfl) (fun vs H Q E h => ?_) (fun cdv A outer s H vs Q E hr h => ?_)
  · obtain ⟨p, dx, rfl, _⟩ := h
    rfl
  · obtain ⟨p, dx, rfl, hp, k⟩ := h
    refine ⟨_, (pss_cons (k_put (K := K) rfl (pv 0) (pe_lst pa_nil) rfl)
      (pss_cons (k_put (K := K) rfl (pv 0) (pe_lst pa_nil) rfl)
      (pss_one (k_put (K := K) rfl (pv 0) (pe_lst pa_nil) rfl)))), ?_⟩
    refine q_putL (el_lst ea_nil (by decide)) (ev_var rfl) hp T.cl_House T.na_House_packages (by show 0 < 1000; decide) fun a H1 ha e1 h1 => ?_
    have np : ∀ {b : Addr} {G : Hp} {x : HO}, upd G p x b = none → b ≠ p := fun {b G x} h z => by
      rw [z, upd_same] at h
      cases h
    have nap : a ≠ p := fun z => by rw [z, hp] at ha; cases ha
    refine q_putL (el_lst ea_nil (by decide)) (ev_var rfl) upd_same T.cl_House T.na_House_note_levels (by show 1 < 1000; decide) fun b H2 hb e2 h2 => ?_
    have nbp := np hb
    rw [upd_ne nbp] at hb
    have nab : a ≠ b := fun z => by rw [← z, h1] at hb; cases hb
    have a2 : H2 a = some (.lst []) := e2 _ _ (by rw [upd_ne nap]; exact h1)
    refine s_putL (el_lst ea_nil (by decide)) (ev_var rfl) upd_same T.cl_House T.na_House_plan (by show 2 < 1000; decide) fun c H3 hc e3 h3 => ?_
    have ncp := np hc
    rw [upd_ne ncp] at hc
    have nac : a ≠ c := fun z => by rw [← z, a2] at hc; cases hc
    have nbc : b ≠ c := fun z => by rw [← z, h2] at hc; cases hc
    have a3 : H3 a = some (.lst []) := e3 _ _ (by rw [upd_ne nap]; exact a2)
    have b3 : H3 b = some (.lst []) := e3 _ _ (by rw [upd_ne nbp]; exact h2)
    have hb0 : H b = none := fresh_back e1 hb
    have hc0 : H c = none := fresh_back e1 (by
      have := fresh_back e2 hc
      rw [upd_ne ncp] at this
      exact this)
    refine k _ a b c ?_ ha hb0 hc0 nab nac nbc ?_ (by rw [upd_ne nap]; exact a3) (by rw [upd_ne nbp]; exact b3) (by rw [upd_ne ncp]; exact h3)
    · intro x o hx hxp
      rw [upd_ne hxp]
      refine e3 _ _ ?_
      rw [upd_ne hxp]
      refine e2 _ _ ?_
      rw [upd_ne hxp]
      exact e1 _ _ hx
    · rw [upd_same] <;> rfl
/-! ### Package(..) -/
def spi_Package (K : PySem.W.Frag) : Sp := fun vs H Q _ => ∃ (p dx : Addr) (v g l : V), vs = [.ref p, v, g, l] ∧ H p = some (.ins (He.ga K "Package") dx []) ∧ ∀ (H' : Hp) (w r x d nt : Addr), Keep p H H' → H w = none → H r = none → H x = none → H nt = none → w ≠ r → w ≠ x → w ≠ nt → r ≠ x → r ≠ nt → x ≠ nt →
  H' p = some (.ins (He.ga K "Package") dx (fs_Package [v, g, l, .ref w, .ref r])) → H' w = some (.lst []) → H' r = some (.lst [.ref x]) → H' x = some (.ins (He.ga K "Release") d (fs_Release [v, l, .ref nt, .bl false])) → H' nt = some (.lst []) → Q .non H'
theorem okc_Package {P : Program} {w : World} {K : PySem.W.Frag} {mg : Str → Option Value} {base : Heap} (T : Txt K mg) (O_Release : OkC P w K mg base 1 "Release" p_Release_init (spi_Release K)) : OkC P w K mg base 3 "Package" p_Package_init (spi_Package K) := by
  refine OkC.of T.e_Package_init T.g_Package T.mk_Package sc_Package_init (fun _ _ _ _ _ _ us hl => match us, hl with | [_, _, _, _], _ => rfl) (fun vs H Q E h => ?_) (fun cdv A outer s H vs Q E hr h => ?_)
  · obtain ⟨p, dx, v, g, l, rfl, _⟩ := h
    rfl
  · obtain ⟨p, dx, v, g, l, rfl, hp, k⟩ := h
    refine ⟨_, (pss_cons (k_put (K := K) rfl (pv 0) (pv 1) rfl)
      (pss_cons (k_put (K := K) rfl (pv 0) (pv 2) rfl)
      (pss_cons (k_put (K := K) rfl (pv 0) (pv 3) rfl)
      (pss_cons (k_put (K := K) rfl (pv 0) (pe_lst pa_nil) rfl)
      (pss_one (k_put (K := K) rfl (pv 0) (pe_lst (pa_cons (k_make (K := K) rfl O_Release (hr.mono (by decide)) (by rfl) (pa_cons (pv 1) (pa_cons (pv 3) (pa_cons (pe_lst pa_nil) pa_nil)))) pa_nil)) rfl)))))), ?_⟩
    have np : ∀ {b : Addr} {G : Hp} {x : HO}, upd G p x b = none → b ≠ p := fun {b G x} h z => by
      rw [z, upd_same] at h
      cases h
    refine q_put (ev_var rfl) (ev_var rfl) hp T.cl_Package T.na_Package_version (by show 0 < 1000; decide) fun H1 e1 => ?_
    refine q_put (ev_var rfl) (ev_var rfl) upd_same T.cl_Package T.na_Package_group (by show 1 < 1000; decide) fun H2 e2 => ?_
    refine q_put (ev_var rfl) (ev_var rfl) upd_same T.cl_Package T.na_Package_needs (by show 2 < 1000; decide) fun H3 e3 => ?_
    have keep3 : ∀ b, b ≠ p → ∀ o, H b = some o → H3 b = some o := fun b hb o h => e3 _ _ (by rw [upd_ne hb]; exact e2 _ _ (by rw [upd_ne hb]; exact e1 _ _ h))
    refine q_putL (el_lst ea_nil (by decide)) (ev_var rfl) upd_same T.cl_Package T.na_Package_waiting (by show 3 < 1000; decide) fun w H4 hw e4 h4 => ?_
    have nwp := np hw
    rw [upd_ne nwp] at hw
    have keep4 : ∀ b, b ≠ p → ∀ o, H3 b = some o → H4 b = some o := fun b hb o h => e4 _ _ (by rw [upd_ne hb]; exact h)
    -- releases = [Release(version, needs, [])]
    refine ⟨_, rfl, _, rfl, ⟨Nat.zero_le _, fun nt hnt x d hx hd hdx => ?_⟩⟩
    have nntp := np hnt
    rw [upd_ne nntp] at hnt
    have nxnt : x ≠ nt := fun z => by rw [z, upd_same] at hx; cases hx
    rw [upd_ne nxnt] at hx
    have nxp := np hx
    rw [upd_ne nxp] at hx
    have ndnt : d ≠ nt := fun z => by rw [z, upd_same] at hd; cases hd
    rw [upd_ne ndnt] at hd
    have ndp := np hd
    rw [upd_ne ndp] at hd
    refine ⟨x, d, [v, l, .ref nt], rfl, rfl, upd_same, rfl, ?_⟩
    rw [updd]
    refine ⟨(by show 1 ≤ sizeLine; decide), fun r hrr => ?_⟩
    have nrx : r ≠ x := fun z => by rw [z, upd_same] at hrr; cases hrr
    rw [upd_ne nrx] at hrr
    have nrd : r ≠ d := fun z => by rw [z, upd_same] at hrr; cases hrr
    rw [upd_ne nrd] at hrr
    have nrnt : r ≠ nt := fun z => by rw [z, upd_same] at hrr; cases hrr
    rw [upd_ne nrnt] at hrr
    have nrp := np hrr
    rw [upd_ne nrp] at hrr
    have nwx : w ≠ x := fun z => by rw [← z, h4] at hx; cases hx
    have nwnt : w ≠ nt := fun z => by rw [← z, h4] at hnt; cases hnt
    have nwd : w ≠ d := fun z => by rw [← z, h4] at hd; cases hd
    have nwr : w ≠ r := fun z => by rw [← z, h4] at hrr; cases hrr
    refine ⟨_, rfl, p, _, dx, putF "waiting" (.ref w) (putF "needs" l (putF "group" g (putF "version" v []))), rfl, ?_, T.cl_Package, T.na_Package_releases, (by show 4 < 1000; decide), ?_⟩
    · rw [upd_ne (fun z => nrp z.symm), upd_ne (fun z => nxp z.symm), upd_ne (fun z => ndp z.symm), upd_ne (fun z => nntp z.symm), upd_same]
    · have back : ∀ b, b ≠ p → H4 b = none → H b = none := fun b hb h => by
        cases e : H b with
        | none => rfl
        | some o =>
          rw [keep4 b hb o (keep3 b hb o e)] at h
          cases h
      have hw0 : H w = none := by
        cases e : H w with
        | none => rfl
        | some o =>
          rw [keep3 w nwp o e] at hw
          cases hw
      refine k _ w r x d nt ?_ hw0 (back r nrp hrr) (back x nxp hx) (back nt nntp hnt) nwr nwx nwnt nrx nrnt nxnt ?_ ?_ ?_ ?_ ?_
      · intro b o hb hbp
        have h4' := keep4 b hbp o (keep3 b hbp o hb)
        rw [upd_ne hbp, upd_ne (ne_of_none h4' hrr), upd_ne (ne_of_none h4' hx), upd_ne (ne_of_none h4' hd), upd_ne (ne_of_none h4' hnt), upd_ne hbp]
        exact h4'
      · rw [upd_same] <;> rfl
      · rw [upd_ne nwp, upd_ne nwr, upd_ne nwx, upd_ne nwd, upd_ne nwnt, upd_ne nwp]
        exact h4
      · rw [upd_ne nrp, upd_same]
      · rw [upd_ne nxp, upd_ne (fun z => nrx z.symm), upd_same] <;> rfl
      · rw [upd_ne nntp, upd_ne (fun z => nrnt z.symm), upd_ne (fun z => nxnt z.symm), upd_ne (fun z => ndnt z.symm), upd_same]
/-! ### answer_package -/
/-- the house with one more package, whose things are new at these places -/
def adAdd (ad : Tag → Addr) (n : Nat) (a w r x : Addr) : Tag → Addr := fun t => if t = .pkg n then a else if t = .wait n then w else if t = .rels n then r else if t = .rel n 0 then x else ad t
def tgAdd (tg : Addr → Option Tag) (n : Nat) (a w r x : Addr) : Addr → Option Tag := fun b => if b = a then some (.pkg n) else if b = w then some (.wait n) else if b = r then some (.rels n) else if b = x then some (.rel n 0) else tg b
theorem outs_add_lt {S : Rp09.House} {v : Version} {g : Nat} {ns : List Need} {i : Nat} (h : i < S.tree.length) : outs (pkgAdd S v g ns) i = outs S i := by
  unfold outs
  show (S.out ++ [_]).filter _ = _
  rw [List.filter_append]
  have : (S.tree.length == i) = false := by simp; omega
  simp [this]
theorem outs_add_eq {S : Rp09.House} {v : Version} {g : Nat} {ns : List Need} (h : ∀ o ∈ S.out, o.pkg < S.tree.length) : outs (pkgAdd S v g ns) S.tree.length = [⟨S.tree.length, v, ns, [], false⟩] := by
  unfold outs
  show (S.out ++ [_]).filter _ = _
  rw [List.filter_append]
  have e : S.out.filter (fun o => o.pkg == S.tree.length) = [] := by
    rw [List.filter_eq_nil_iff]
    intro o ho
    have := h o ho
    simp
    omega
  rw [e]
  simp
theorem at_add_lt {t : List Package} {x : Package} {i : Nat} (h : i < t.length) : Rp09.at_ (t ++ [x]) i = Rp09.at_ t i := by
  rw [at_some (t := t ++ [x]) (x := Rp09.at_ t i)]
  rw [List.getElem?_append_left h]
  exact at_getElem h
theorem at_add_eq {t : List Package} {x : Package} : Rp09.at_ (t ++ [x]) t.length = x := at_some (by simp)
theorem HInv.add {K : PySem.W.Frag} {B H : Hp} {tg : Addr → Option Tag} {ad : Tag → Addr} {S : Rp09.House} {nl : List Nat} {v : Version} {g : Nat} {ns : List Need} {a w r x dx d va na nt : Addr} (I : HInv K B H tg ad S nl) (hout : ∀ o ∈ S.out, o.pkg < S.tree.length)
    (fa : tg a = none) (fw : tg w = none) (fr : tg r = none) (fx : tg x = none) (ba : B a = none) (bw : B w = none) (br : B r = none) (bx : B x = none) (naw : a ≠ w) (nar : a ≠ r) (nax : a ≠ x) (nwr : w ≠ r) (nwx : w ≠ x) (nrx : r ≠ x)
    (ha : H a = some (.ins (He.ga K "Package") dx (fs_Package [.ref va, .int (g : Int), .ref na, .ref w, .ref r]))) (hw : H w = some (.lst [])) (hr : H r = some (.lst [.ref x])) (hx : H x = some (.ins (He.ga K "Release") d (fs_Release [.ref va, .ref na, .ref nt, .bl false])))
    (hva : VerAt B va v) (hna : NeedsAt K B na ns) (hnt : B nt = some (.lst [])) :
    HInv K B (upd H (ad .pkgs) (.lst ((List.range S.tree.length).map (fun i => V.ref (ad (.pkg i))) ++ [.ref a]))) (tgAdd tg S.tree.length a w r x) (adAdd ad S.tree.length a w r x) (pkgAdd S v g ns) nl := by
  have hl : (pkgAdd S v g ns).tree.length = S.tree.length + 1 := by
    show (S.tree ++ [_]).length = _
    rw [List.length_append, List.length_singleton]
  have tp := I.tag .pkgs trivial
  have npk : ∀ {b : Addr}, tg b = none → b ≠ ad .pkgs := fun {b} h z => by
    rw [z, tp] at h
    cases h
  have tgo : ∀ {b : Addr} {t : Tag}, tg b = some t → tgAdd tg S.tree.length a w r x b = some t := fun {b t} h => by
    unfold tgAdd
    rw [if_neg (fun z => by rw [z, fa] at h; cases h), if_neg (fun z => by rw [z, fw] at h; cases h), if_neg (fun z => by rw [z, fr] at h; cases h), if_neg (fun z => by rw [z, fx] at h; cases h)]
    exact h
  have ado : ∀ {t : Tag}, Valid S t → adAdd ad S.tree.length a w r x t = ad t := fun {t} h => by
    unfold adAdd
    rw [if_neg (fun z => by subst z; exact Nat.lt_irrefl _ h), if_neg (fun z => by subst z; exact Nat.lt_irrefl _ h), if_neg (fun z => by subst z; exact Nat.lt_irrefl _ h), if_neg (fun z => by subst z; exact Nat.lt_irrefl _ h.1)]
  have e1 : adAdd ad S.tree.length a w r x (.pkg S.tree.length) = a := if_pos rfl
  have e2 : adAdd ad S.tree.length a w r x (.wait S.tree.length) = w := by
    unfold adAdd
    rw [if_neg (fun z => by cases z), if_pos rfl]
  have e3 : adAdd ad S.tree.length a w r x (.rels S.tree.length) = r := by
    unfold adAdd
    rw [if_neg (fun z => by cases z), if_neg (fun z => by cases z), if_pos rfl]
  have e4 : adAdd ad S.tree.length a w r x (.rel S.tree.length 0) = x := by
    unfold adAdd
    rw [if_neg (fun z => by cases z), if_neg (fun z => by cases z), if_neg (fun z => by cases z), if_pos rfl]
  have g1 : tgAdd tg S.tree.length a w r x a = some (.pkg S.tree.length) := if_pos rfl
  have g2 : tgAdd tg S.tree.length a w r x w = some (.wait S.tree.length) := by
    unfold tgAdd
    rw [if_neg (fun z => naw z.symm), if_pos rfl]
  have g3 : tgAdd tg S.tree.length a w r x r = some (.rels S.tree.length) := by
    unfold tgAdd
    rw [if_neg (fun z => nar z.symm), if_neg (fun z => nwr z.symm), if_pos rfl]
  have g4 : tgAdd tg S.tree.length a w r x x = some (.rel S.tree.length 0) := by
    unfold tgAdd
    rw [if_neg (fun z => nax z.symm), if_neg (fun z => nwx z.symm), if_neg (fun z => nrx z.symm), if_pos rfl]
  have oeq := outs_add_eq (v := v) (g := g) (ns := ns) hout
  -- a tag of the new state: an old one, or one of the four
  have split : ∀ t, Valid (pkgAdd S v g ns) t → Valid S t ∨ t = .pkg S.tree.length ∨ t = .wait S.tree.length ∨ t = .rels S.tree.length ∨ t = .rel S.tree.length 0 := fun t h => by
    cases t with
    | house => exact .inl trivial
    | pkgs => exact .inl trivial
    | notes => exact .inl trivial
    | pkg i =>
      have h : i < (pkgAdd S v g ns).tree.length := h
      by_cases c : i < S.tree.length
      · exact .inl c
      · exact .inr (.inl (by rw [show i = S.tree.length by omega]))
    | wait i =>
      have h : i < (pkgAdd S v g ns).tree.length := h
      by_cases c : i < S.tree.length
      · exact .inl c
      · exact .inr (.inr (.inl (by rw [show i = S.tree.length by omega])))
    | rels i =>
      have h : i < (pkgAdd S v g ns).tree.length := h
      by_cases c : i < S.tree.length
      · exact .inl c
      · exact .inr (.inr (.inr (.inl (by rw [show i = S.tree.length by omega]))))
    | rel i j =>
      have h1 : i < (pkgAdd S v g ns).tree.length := h.1
      have h2 : j < (outs (pkgAdd S v g ns) i).length := h.2
      by_cases c : i < S.tree.length
      · rw [outs_add_lt c] at h2
        exact .inl ⟨c, h2⟩
      · have ei : i = S.tree.length := by omega
        subst ei
        rw [oeq] at h2
        have : j = 0 := by
          have : j < 1 := h2
          omega
        subst this
        exact .inr (.inr (.inr (.inr rfl)))
  refine ⟨fun t ht => ?_, fun t ht => ?_, fun b o hb => ?_, Ex.mut I.bh (I.nb (t := .pkgs) trivial), fun b t hb => ?_⟩
  · rcases split t ht with h | rfl | rfl | rfl | rfl
    · obtain ⟨o, h1, h2⟩ := I.c t h
      rw [ado h]
      by_cases c : t = .pkgs
      · subst c
        refine ⟨_, upd_same, ?_⟩
        show _ = HO.lst ((List.range (pkgAdd S v g ns).tree.length).map fun i => V.ref (adAdd ad S.tree.length a w r x (.pkg i)))
        rw [hl, List.range_succ, List.map_append]
        congr 2
        · apply List.map_congr_left
          intro i hi
          rw [ado (show Valid S (.pkg i) from List.mem_range.mp hi)]
        · show [V.ref a] = [V.ref (adAdd ad S.tree.length a w r x (.pkg S.tree.length))]
          rw [e1]
      · refine ⟨o, ?_, ?_⟩
        · rw [upd_ne fun z => ?_]
          · exact h1
          · have q1 := I.tag t h
            rw [z, tp] at q1
            exact c (Option.some.inj q1).symm
        · cases t with
          | house =>
            obtain ⟨dx', pv, w1, w2⟩ := h2
            refine ⟨dx', pv, ?_, w2⟩
            rw [ado (show Valid S .pkgs from trivial), ado (show Valid S .notes from trivial)]
            exact w1
          | pkgs => exact absurd rfl c
          | notes => exact h2
          | pkg i =>
            obtain ⟨dx', va', na', w1, w2, w3⟩ := h2
            have ea : Rp09.at_ (pkgAdd S v g ns).tree i = Rp09.at_ S.tree i := at_add_lt h
            refine ⟨dx', va', na', ?_, by rw [ea]; exact w2, by rw [ea]; exact w3⟩
            rw [ado (show Valid S (.wait i) from h), ado (show Valid S (.rels i) from h), ea]
            exact w1
          | wait i =>
            have ea : Rp09.at_ (pkgAdd S v g ns).tree i = Rp09.at_ S.tree i := at_add_lt h
            show o = _
            rw [ea]
            exact h2
          | rels i =>
            show o = HO.lst ((List.range (outs (pkgAdd S v g ns) i).length).map fun j => V.ref (adAdd ad S.tree.length a w r x (.rel i j)))
            rw [outs_add_lt h]
            have h2' : o = HO.lst ((List.range (outs S i).length).map fun j => V.ref (ad (.rel i j))) := h2
            rw [h2']
            congr 1
            apply List.map_congr_left
            intro j hj
            rw [ado (show Valid S (.rel i j) from ⟨h, List.mem_range.mp hj⟩)]
          | rel i j =>
            show ∀ q, (outs (pkgAdd S v g ns) i)[j]? = some q → _
            rw [outs_add_lt h.1]
            exact h2
    · rw [e1]
      refine ⟨_, by rw [upd_ne (npk fa)]; exact ha, ?_⟩
      have ea : Rp09.at_ (pkgAdd S v g ns).tree S.tree.length = ⟨v, g, ns, []⟩ := at_add_eq
      refine ⟨dx, va, na, ?_, by rw [ea]; exact hva, by rw [ea]; exact hna⟩
      rw [e2, e3, ea]
    · rw [e2]
      refine ⟨_, by rw [upd_ne (npk fw)]; exact hw, ?_⟩
      have ea : Rp09.at_ (pkgAdd S v g ns).tree S.tree.length = ⟨v, g, ns, []⟩ := at_add_eq
      show HO.lst [] = _
      rw [ea] <;> rfl
    · rw [e3]
      refine ⟨_, by rw [upd_ne (npk fr)]; exact hr, ?_⟩
      show HO.lst [.ref x] = HO.lst ((List.range (outs (pkgAdd S v g ns) S.tree.length).length).map fun j => V.ref (adAdd ad S.tree.length a w r x (.rel S.tree.length j)))
      rw [oeq]
      show HO.lst [.ref x] = HO.lst [V.ref (adAdd ad S.tree.length a w r x (.rel S.tree.length 0))]
      rw [e4]
    · rw [e4]
      refine ⟨_, by rw [upd_ne (npk fx)]; exact hx, ?_⟩
      show ∀ q, (outs (pkgAdd S v g ns) S.tree.length)[0]? = some q → _
      rw [oeq]
      intro q hq
      have hq : (⟨S.tree.length, v, ns, [], false⟩ : Rp09.Out) = q := Option.some.inj hq
      subst hq
      exact ⟨d, va, na, nt, rfl, hva, hna, hnt⟩
  · rcases split t ht with h | rfl | rfl | rfl | rfl
    · rw [ado h]
      exact tgo (I.tag t h)
    · rw [e1]
      exact g1
    · rw [e2]
      exact g2
    · rw [e3]
      exact g3
    · rw [e4]
      exact g4
  · unfold tgAdd
    rw [if_neg (fun z => by rw [z, ba] at hb; cases hb), if_neg (fun z => by rw [z, bw] at hb; cases hb), if_neg (fun z => by rw [z, br] at hb; cases hb), if_neg (fun z => by rw [z, bx] at hb; cases hb)]
    exact I.im b o hb
  · by_cases c : b = ad .pkgs
    · rw [c]
      exact ⟨_, upd_same⟩
    · rw [upd_ne c]
      unfold tgAdd at hb
      by_cases c1 : b = a
      · rw [c1]
        exact ⟨_, ha⟩
      · by_cases c2 : b = w
        · rw [c2]
          exact ⟨_, hw⟩
        · by_cases c3 : b = r
          · rw [c3]
            exact ⟨_, hr⟩
          · by_cases c4 : b = x
            · rw [c4]
              exact ⟨_, hx⟩
            · rw [if_neg c1, if_neg c2, if_neg c3, if_neg c4] at hb
              exact I.live b t hb
def sp_answer_package (K : PySem.W.Frag) : Sp := fun vs H Q _ => ∃ (B : Hp) (tg : Addr → Option Tag) (ad : Tag → Addr) (S : Rp09.House) (nl : List Nat) (cc : Nat) (vp : Addr) (a b c g : Nat) (l : Addr) (ns : List Need), vs = [.ref (ad .house), .ref vp, .int (g : Int), .ref l] ∧ HInv K B H tg ad S nl ∧ SOk S nl cc ∧
  VerAt B vp ⟨a, b, c⟩ ∧ NeedsAt K B l ns ∧ ns.length ≤ 6 ∧ Done K cc B H tg ad (Rp09.step S (.package a b c g (ns.map rowOf))).1 (ansL S (.package a b c g (ns.map rowOf))) Q
theorem ok_answer_package {P : Program} {w : World} {K : PySem.W.Frag} {mg : Str → Option Value} {base : Heap} (T : Txt K mg) (O_package_refusal : Ok P w K mg base 5 "package_refusal" p_package_refusal (sp_package_refusal K)) (O_Package : OkC P w K mg base 3 "Package" p_Package_init (spi_Package K)) : Ok P w K mg base 6 "answer_package" p_answer_package (sp_answer_package K) := by
  refine Ok.of T.e_answer_package T.g_answer_package sc_answer_package (fun _ _ _ _ _ _ us hl => match us, hl with | [_, _, _, _], _ => rfl) (fun vs H Q E h => ?_) (fun cdv A outer s H vs Q E hr h => ?_)
  · obtain ⟨B, tg, ad, S, nl, cc, vp, a, b, c, g, l, ns, rfl, _⟩ := h
    rfl
  · obtain ⟨B, tg, ad, S, nl, cc, vp, a, b, c, g, l, ns, rfl, I, ok, hver, hns, hnl, k⟩ := h
    refine ⟨_, (pss_cons (ps_set (i := 4) sc_answer_package.nd rfl (Or.inl rfl) (k_make (K := K) rfl O_Package (hr.mono (by decide)) (by rfl) (pa_cons (pv 1) (pa_cons (pv 2) (pa_cons (pv 3) pa_nil)))))
      (pss_cons (ps_set (i := 5) sc_answer_package.nd rfl (Or.inl rfl) (pe_callO O_package_refusal (hr.mono (by decide)) (by rfl) (pa_cons (pv 0) (pa_cons (pv 4) pa_nil))))
      (pss_cons (ps_if (pt_cmpR op_ne (pv 5) (pe_gint T.k_ACCEPTED) (nomark _))
      (pss_one (ps_ret (pe_lst (pa_cons (pv 5) pa_nil))))
      pss_nil)
      (pss_cons (ps_expr (k_bm (K := K) rfl PySem.F.plainAttrs_list PySem.F.slot_list_append PySem.F.type_list_append mt_append (k_fld (K := K) rfl (pv 0) rfl) (pa_cons (pv 4) pa_nil)))
      (pss_one (ps_ret (pe_lst (pa_cons (pe_op op_sub (pe_callB (k_len (K := K) rfl) (by rfl) T.f_len PySem.boot_len (pa_cons (k_fld (K := K) rfl (pv 0) rfl) pa_nil)) pe_int) pa_nil)))))))), ?_⟩
    obtain ⟨r1, r2⟩ := pkg_ref (a := a) (b := b) (c := c) (g := g) (ns := ns) ok
    unfold ansL at k
    -- package = Package(version, group, needs)
    refine ⟨_, rfl, _, rfl, _, rfl, fun q dx hq hdx hne => ⟨q, dx, .ref vp, .int (g : Int), .ref l, rfl, upd_same, fun H1 w r x d nt kp hw hr0 hx hnt nwr nwx nwnt nrx nrnt nxnt h1 h2 h3 h4 h5 => ⟨rfl, ?_⟩⟩⟩
    have eH : Ex H H1 := fun z o hz => by
      have n1 : z ≠ q := ne_of_none hz hq
      refine kp z o ?_ n1
      rw [upd_ne n1, upd_ne (ne_of_none hz hdx)]
      exact hz
    have fr : ∀ {z : Addr}, (upd (upd H dx (.own q)) q (.ins (He.ga K "Package") dx [])) z = none → H z = none ∧ z ≠ q := fun {z} hz => by
      have n1 : z ≠ q := fun e => by
        rw [e, upd_same] at hz
        cases hz
      rw [upd_ne n1] at hz
      have n2 : z ≠ dx := fun e => by
        rw [e, upd_same] at hz
        cases hz
      rw [upd_ne n2] at hz
      exact ⟨hz, n1⟩
    obtain ⟨fw, nwq⟩ := fr hw
    obtain ⟨frr, nrq⟩ := fr hr0
    obtain ⟨fx, nxq⟩ := fr hx
    obtain ⟨fnt, nntq⟩ := fr hnt
    have hntB : B nt = none := fresh_back I.bh fnt
    have g1 : Gr B H (upd B nt (.lst [])) H1 := by
      refine ⟨Ex.new hntB, fun z o hz => ?_, eH, fun z o hz => ?_⟩
      · by_cases e : z = nt
        · subst e
          rw [upd_same] at hz
          exact hz ▸ h5
        · rw [upd_ne e] at hz
          exact eH _ _ (I.bh _ _ hz)
      · by_cases e : z = nt
        · subst e
          exact .inr fnt
        · rw [upd_ne e] at hz
          exact .inl hz
    have I1 := I.gr g1
    generalize hB1 : upd B nt (.lst []) = B1 at g1 I1
    have hnt1 : B1 nt = some (.lst []) := by rw [← hB1]; exact upd_same
    have tfree : ∀ {z : Addr}, H z = none → tg z = none := fun {z} hz => by
      cases e : tg z with
      | none => rfl
      | some t =>
        obtain ⟨o, ho⟩ := I.live z t e
        rw [hz] at ho
        cases ho
    have bfree : ∀ {z : Addr}, H z = none → z ≠ nt → B1 z = none := fun {z} hz hn => by
      rw [← hB1, upd_ne hn]
      exact fresh_back I.bh hz
    have hnew : NewPkg K H1 q ⟨a, b, c⟩ g ns := ⟨dx, _, vp, l, h1, lk_Package_version _ _ _ _ _, lk_Package_group _ _ _ _ _, lk_Package_needs _ _ _ _ _, (hver.mono g1.b).mono g1.s, (hns.mono g1.b).mono g1.s⟩
    obtain ⟨A, a1, a2, a3, a4, a5, hv⟩ := I1.hv ok.tree
    refine q_asg (ev_call (ea_cons (ev_var rfl) (ea_cons (ev_var rfl) ea_nil)) (a1 ▸ spv_package_refusal hv (a1 ▸ I1.hp) hnew (by omega))) fun H2 e2 => ?_
    refine q_when (et_test (ev_neI (ev_var rfl) ev_c)) (fun hb H3 e3 => ?_) (fun hb H3 e3 => ?_)
    · have hne : refP S.tree S.plan.length ⟨a, b, c⟩ g ns ≠ 0 := by simpa using hb
      rw [r1 hne] at k
      refine s_retL (el_lst (ea_cons (ev_var rfl) ea_nil) (by show 1 ≤ 100000; decide)) fun p H4 hp e4 h4 => ?_
      have e14 := (e2.trans e3).trans e4
      exact k p B1 H4 tg ad nl (fresh_back (eH.trans (e2.trans e3)) hp) h4 (I1.ex e14) ok.up ⟨g1.b, g1.n, fun z o hz _ => e14 _ _ (eH _ _ hz), fun _ _ _ h => h, rfl⟩
    · have he : refP S.tree S.plan.length ⟨a, b, c⟩ g ns = 0 := by simpa using hb
      obtain ⟨hpl, h6, h4n, hnn, hhn, hst⟩ := r2 he
      rw [hst] at k
      have e13 := e2.trans e3
      have I3 := I1.ex e13
      have hv3 := hv.mono e13
      have hpk : H3 (ad .pkgs) = some (.lst ((List.range S.tree.length).map fun i => V.ref (ad (.pkg i)))) := by
        obtain ⟨o, w1, w2⟩ := I3.c .pkgs trivial
        rw [w1]
        exact congrArg some w2
      refine q_app hpk (a2 ▸ hv3.e_pk T (a1 ▸ ev_var rfl)) (ev_var rfl) (by rw [List.length_map, List.length_range]; omega) fun H4 e4 => ?_
      have e14 := e13.trans e4
      have I5 := (I1.ex e14).add (v := ⟨a, b, c⟩) (g := g) (ns := ns) (a := q) (w := w) (r := r) (x := x) (dx := dx) (d := d) (va := vp) (na := l) (nt := nt) ok.outp (tfree hq) (tfree fw) (tfree frr) (tfree fx) (bfree hq (fun z => nntq z.symm)) (bfree fw nwnt) (bfree frr nrnt) (bfree fx nxnt)
        (fun z => nwq z.symm) (fun z => nrq z.symm) (fun z => nxq z.symm) nwr nwx nrx (e14 _ _ h1) (e14 _ _ h2) (e14 _ _ h3) (e14 _ _ h4) (hver.mono g1.b) (hns.mono g1.b) hnt1
      have ok' := pkg_ok (v := ⟨a, b, c⟩) (g := g) ok h6 h4n hnn hpl hhn
      obtain ⟨A5, b1, b2, b3, b4, b5, hv5⟩ := I5.hv ok'.tree
      have ehouse : adAdd ad S.tree.length q w r x .house = ad .house := by
        unfold adAdd
        rw [if_neg (fun z => by cases z), if_neg (fun z => by cases z), if_neg (fun z => by cases z), if_neg (fun z => by cases z)]
      rw [ehouse] at b1
      refine s_retL (el_lst (ea_cons (ev_is (ev_op (hv5.e_len T (b1 ▸ ev_var rfl)) ev_c rv_I0) (show V.int (((pkgAdd S ⟨a, b, c⟩ g ns).tree.length : Int) - 1) = V.int (S.tree.length : Int) from ?_)) ea_nil) (by show 1 ≤ 100000; decide)) fun p H6 hp e6 h6' => ?_
      · congr 1
        show ((S.tree ++ [_]).length : Int) - 1 = _
        rw [List.length_append, List.length_singleton]
        omega
      · have npk : ∀ {z : Addr} {o : HO}, H z = some o → tg z = none → (upd H4 (ad .pkgs) (.lst ((List.range S.tree.length).map (fun i => V.ref (ad (.pkg i))) ++ [.ref q]))) z = some o := fun {z o} hz ht => by
          rw [upd_ne fun e => ?_]
          · exact e14 _ _ (eH _ _ hz)
          · rw [e, I.tag .pkgs trivial] at ht
            cases ht
        have hpH : H p = none := by
          cases e : H p with
          | none => rfl
          | some o =>
            by_cases z : p = ad .pkgs
            · rw [z, upd_same] at hp
              cases hp
            · rw [upd_ne z, e14 _ _ (eH _ _ e)] at hp
              cases hp
        refine k p B1 H6 _ _ nl hpH h6' (I5.ex e6) ok' ⟨g1.b, g1.n, fun z o hz ht => e6 _ _ (npk hz ht), fun z o hz ht => ?_, ehouse⟩
        unfold tgAdd
        rw [if_neg (ne_of_none hz hq), if_neg (ne_of_none hz fw), if_neg (ne_of_none hz frr), if_neg (ne_of_none hz fx)]
        exact ht
end Tg
namespace Tg
open PySem PySem.Spec PyProof.Rows L2 Evl
open Rp09 (Version Need Package)
/-- a release that stands at a place -/
def RelAt (K : PySem.W.Frag) (B H : Hp) (a : Addr) (o : Rp09.Out) : Prop := ∃ u, H a = some u ∧ RelO K B o u
section
variable {K : PySem.W.Frag} {B B' H H' : Hp} {tg : Addr → Option Tag} {ad : Tag → Addr} {S : Rp09.House} {nl : List Nat} {σ : L2.St} {ta tb te : TE} {mg : Str → Option Value} {a : Addr} {o : Rp09.Out}
theorem RelAt.mono (b : Ex B B') (e : Ex H H') (h : RelAt K B H a o) : RelAt K B' H' a o := by
  obtain ⟨u, h1, h2⟩ := h
  exact ⟨u, e _ _ h1, h2.mono b⟩
theorem RelAt.e_v (h : RelAt K B H a o) (T : Txt K mg) (ha : Ev te σ H (.ref a)) : ∃ p, VerAt B p o.version ∧ Ev (tFld K te "version") σ H (.ref p) := by
  obtain ⟨u, h1, dx, va, na, nt, rfl, h2, h3, h4⟩ := h
  exact ⟨va, h2, ev_fld ha h1 T.cl_Release T.na_Release_version (lk_Release_version _ _ _ _)⟩
theorem RelAt.e_ns (h : RelAt K B H a o) (T : Txt K mg) (ha : Ev te σ H (.ref a)) : ∃ l, NeedsAt K B l o.needs ∧ Ev (tFld K te "needs") σ H (.ref l) := by
  obtain ⟨u, h1, dx, va, na, nt, rfl, h2, h3, h4⟩ := h
  exact ⟨na, h3, ev_fld ha h1 T.cl_Release T.na_Release_needs (lk_Release_needs _ _ _ _)⟩
theorem RelAt.e_nt (h : RelAt K B H a o) (T : Txt K mg) (ha : Ev te σ H (.ref a)) : ∃ l, B l = some (.lst (visN o.notes)) ∧ Ev (tFld K te "notes") σ H (.ref l) := by
  obtain ⟨u, h1, dx, va, na, nt, rfl, h2, h3, h4⟩ := h
  exact ⟨nt, h4, ev_fld ha h1 T.cl_Release T.na_Release_notes (lk_Release_notes _ _ _ _)⟩
theorem RelAt.e_g (h : RelAt K B H a o) (T : Txt K mg) (ha : Ev te σ H (.ref a)) : Ev (tFld K te "withdrawn") σ H (.bl o.gone) := by
  obtain ⟨u, h1, dx, va, na, nt, rfl, h2, h3, h4⟩ := h
  exact ev_fld ha h1 T.cl_Release T.na_Release_withdrawn (lk_Release_withdrawn _ _ _ _)
theorem HInv.pk_at (I : HInv K B H tg ad S nl) : H (ad .pkgs) = some (.lst ((List.range S.tree.length).map fun i => V.ref (ad (.pkg i)))) := by
  obtain ⟨u, h1, h2⟩ := I.c .pkgs trivial
  rw [h1]
  exact congrArg some h2
theorem HInv.e_pk (I : HInv K B H tg ad S nl) (T : Txt K mg) (ha : Ev ta σ H (.ref (ad .house))) : Ev (tFld K ta "packages") σ H (.ref (ad .pkgs)) := by
  obtain ⟨u, h1, dx, pv, rfl, h2⟩ := I.c .house trivial
  exact ev_fld ha h1 T.cl_House T.na_House_packages (lk_House_packages _ _ _)
theorem HInv.e_pkg (I : HInv K B H tg ad S nl) (T : Txt K mg) {i : Nat} (hi : i < S.tree.length) (ha : Ev ta σ H (.ref (ad .house))) (hb : Ev tb σ H (.int (i : Int))) : Ev (tOp (rIxL K) (tFld K ta "packages") tb) σ H (.ref (ad (.pkg i))) :=
  ev_ixL (I.e_pk T ha) hb (sq_of I.pk_at) (atI_nat (by rw [List.getElem?_map, List.getElem?_range hi] <;> rfl))
theorem HInv.e_len (I : HInv K B H tg ad S nl) (T : Txt K mg) (ha : Ev ta σ H (.ref (ad .house))) : Ev (tCB (rLenS K) (tCons (tFld K ta "packages") tNil)) σ H (.int (S.tree.length : Int)) :=
  ev_is (ev_len (I.e_pk T ha) (sq_of I.pk_at)) (by rw [List.length_map, List.length_range])
theorem HInv.e_rels (I : HInv K B H tg ad S nl) (T : Txt K mg) {i : Nat} (hi : i < S.tree.length) (ha : Ev te σ H (.ref (ad (.pkg i)))) : Ev (tFld K te "releases") σ H (.ref (ad (.rels i))) := by
  obtain ⟨u, h1, dx, va, na, rfl, h2, h3⟩ := I.c (.pkg i) hi
  exact ev_fld ha h1 T.cl_Package T.na_Package_releases (lk_Package_releases _ _ _ _ _)
theorem HInv.e_wait (I : HInv K B H tg ad S nl) (T : Txt K mg) {i : Nat} (hi : i < S.tree.length) (ha : Ev te σ H (.ref (ad (.pkg i)))) : Ev (tFld K te "waiting") σ H (.ref (ad (.wait i))) := by
  obtain ⟨u, h1, dx, va, na, rfl, h2, h3⟩ := I.c (.pkg i) hi
  exact ev_fld ha h1 T.cl_Package T.na_Package_waiting (lk_Package_waiting _ _ _ _ _)
theorem HInv.e_ver (I : HInv K B H tg ad S nl) (T : Txt K mg) {i : Nat} (hi : i < S.tree.length) (ha : Ev te σ H (.ref (ad (.pkg i)))) : ∃ va, VerAt B va (Rp09.at_ S.tree i).version ∧ Ev (tFld K te "version") σ H (.ref va) := by
  obtain ⟨u, h1, dx, va, na, rfl, h2, h3⟩ := I.c (.pkg i) hi
  exact ⟨va, h2, ev_fld ha h1 T.cl_Package T.na_Package_version (lk_Package_version _ _ _ _ _)⟩
theorem HInv.rels_at (I : HInv K B H tg ad S nl) {i : Nat} (hi : i < S.tree.length) : H (ad (.rels i)) = some (.lst ((List.range (outs S i).length).map fun j => V.ref (ad (.rel i j)))) := by
  obtain ⟨u, h1, h2⟩ := I.c (.rels i) hi
  rw [h1]
  exact congrArg some h2
theorem HInv.wait_at (I : HInv K B H tg ad S nl) {i : Nat} (hi : i < S.tree.length) : H (ad (.wait i)) = some (.lst (visN ((Rp09.at_ S.tree i).notes.map fun y => y.1))) := by
  obtain ⟨u, h1, h2⟩ := I.c (.wait i) hi
  rw [h1]
  exact congrArg some h2
theorem HInv.rel_at (I : HInv K B H tg ad S nl) {i j : Nat} (hi : i < S.tree.length) (hj : (outs S i)[j]? = some o) : RelAt K B H (ad (.rel i j)) o := by
  obtain ⟨u, h1, h2⟩ := I.c (.rel i j) ⟨hi, (List.getElem?_eq_some_iff.mp hj).1⟩
  exact ⟨u, h1, h2 o hj⟩
end
/-! ### releases_left -/
def leftJ (S : Rp09.House) (i : Nat) : List Nat := (List.range (outs S i).length).filter (atD (outs S i) (fun o => !o.gone) false)
def leftV (ad : Tag → Addr) (S : Rp09.House) (i : Nat) : List V := (leftJ S i).map fun j => V.ref (ad (.rel i j))
theorem left_all (S : Rp09.House) (i : Nat) : All2 (fun j o => (outs S i)[j]? = some o) (leftJ S i) (lefts S i) := by
  have key := All2.atData (ds := outs S i) (p := fun o => !o.gone) (S := fun j o => (outs S i)[j]? = some o) (S' := fun i w => w = i) (fun i w d hd e => by rw [e]; exact hd) (n := (outs S i).length) (Nat.le_refl _) (ws := (leftJ S i).map id) (all2_map id (leftJ S i))
  rw [List.take_length, List.map_id] at key
  exact key
theorem leftV_len (ad : Tag → Addr) (S : Rp09.House) (i : Nat) : (leftV ad S i).length = (lefts S i).length := by
  unfold leftV
  rw [List.length_map, (left_all S i).len]
theorem leftV_get {ad : Tag → Addr} {S : Rp09.House} {i k : Nat} {x : V} (h : (leftV ad S i)[k]? = some x) : ∃ j o, x = V.ref (ad (.rel i j)) ∧ (lefts S i)[k]? = some o ∧ (outs S i)[j]? = some o := by
  unfold leftV at h
  rw [List.getElem?_map] at h
  cases e : (leftJ S i)[k]? with
  | none =>
    rw [e] at h
    cases h
  | some j =>
    rw [e] at h
    obtain ⟨o, h1, h2⟩ := (left_all S i).getL e
    exact ⟨j, o, (Option.some.inj h).symm, h1, h2⟩
def sp_releases_left (K : PySem.W.Frag) : Sp := fun vs H Q _ => ∃ (B : Hp) (tg : Addr → Option Tag) (ad : Tag → Addr) (S : Rp09.House) (nl : List Nat) (c i : Nat), vs = [.ref (ad .house), .int (i : Int)] ∧ HInv K B H tg ad S nl ∧ SOk S nl c ∧ c ≤ 60 ∧ RetL (leftV ad S i) H Q
theorem spl_releases_left {K : PySem.W.Frag} {B H : Hp} {tg : Addr → Option Tag} {ad : Tag → Addr} {S : Rp09.House} {nl : List Nat} {c i : Nat} (I : HInv K B H tg ad S nl) (ok : SOk S nl c) (hc : c ≤ 60) : SpL (sp_releases_left K) [.ref (ad .house), .int (i : Int)] H (leftV ad S i) :=
  fun H1 e Q q E => ⟨B, tg, ad, S, nl, c, i, rfl, I.ex e, ok, hc, q⟩
theorem outs60 {S : Rp09.House} {nl : List Nat} {c : Nat} (ok : SOk S nl c) (hc : c ≤ 60) (i : Nat) : (outs S i).length ≤ 60 := Nat.le_trans (outs_len i) (Nat.le_trans ok.out hc)
theorem lefts60 {S : Rp09.House} {nl : List Nat} {c : Nat} (ok : SOk S nl c) (hc : c ≤ 60) (i : Nat) : (lefts S i).length ≤ 60 := Nat.le_trans (lefts_len i) (Nat.le_trans ok.out hc)
theorem ok_releases_left {P : Program} {w : World} {K : PySem.W.Frag} {mg : Str → Option Value} {base : Heap} (T : Txt K mg) : Ok P w K mg base 1 "releases_left" p_releases_left (sp_releases_left K) := by
  refine Ok.of T.e_releases_left T.g_releases_left sc_releases_left (fun _ _ _ _ _ _ us hl => match us, hl with | [_, _], _ => rfl) (fun vs H Q E h => ?_) (fun cdv A outer s H vs Q E hr h => ?_)
  · obtain ⟨B, tg, ad, S, nl, c, i, rfl, _⟩ := h
    rfl
  · obtain ⟨B, tg, ad, S, nl, c, i, rfl, I, ok, hc, k⟩ := h
    refine ⟨_, (pss_cons (ps_if (pt_cmpR op_ge (pv 1) (pe_callB (k_len (K := K) rfl) (by rfl) T.f_len PySem.boot_len (pa_cons (k_fld (K := K) rfl (pv 0) rfl) pa_nil)) (nomark _))
      (pss_one (ps_ret (pe_lst pa_nil)))
      pss_nil)
      (pss_one (ps_ret (pe_lc (own := [("release", 2)]) (g := gName 2) (by rfl) sc_releases_left.nd (k_iList (K := K) rfl (k_fld (K := K) rfl (pe_ix (k_ixL (K := K) rfl) (k_fld (K := K) rfl (pv 0) rfl) (pv 1) (fun _ _ => rfl)) rfl)) (blkOk_by (own := [("release", 2)]) (N := n_releases_left) (sc := defScope s_releases_left) (by decide +kernel)) (fun _ _ _ _ _ => pg_name (i := 2) sc_releases_left.nd rfl (Or.inl rfl)) (fun _ _ _ _ _ => (pts_one (pt_not (pt_val (k_fld (K := K) rfl (pv 2) rfl))))) (fun _ _ _ _ _ => (pv 2)))))), ?_⟩
    refine q_when (et_test (ev_op (ev_var rfl) (I.e_len T (ev_var rfl)) rv_I0)) (fun hb H1 e1 => ?_) (fun hb H1 e1 => ?_)
    · have hi : S.tree.length ≤ i := by have := of_decide_eq_true hb; omega
      refine s_retL (el_lst ea_nil (by decide)) (RetL.from k e1 ?_)
      unfold leftV leftJ
      rw [outs_none ok.outp hi] <;> rfl
    · have hi : i < S.tree.length := by have := of_decide_eq_false hb; omega
      have I1 := I.ex e1
      have h60 := outs60 ok hc i
      refine s_retL (el_lcL (atD (outs S i) (fun o => !o.gone) false) (fun j => V.ref (ad (.rel i j))) (I1.e_rels T hi (I1.e_pkg T hi (ev_var rfl) (ev_var rfl))) (sq_of (I1.rels_at hi)) (by rw [List.length_map, List.length_range]; omega) (fun _ => rfl) ?_ ?_) (RetL.from k e1 ?_)
      · intro j x H2 e2 hx
        rw [List.getElem?_map] at hx
        have hj : j < (outs S i).length := by
          by_cases z : j < (outs S i).length
          · exact z
          · rw [List.getElem?_eq_none (by rw [List.length_range]; omega)] at hx
            cases hx
        rw [List.getElem?_range hj] at hx
        have ex : x = V.ref (ad (.rel i j)) := (Option.some.inj hx).symm
        subst ex
        have ho := List.getElem?_eq_getElem hj
        rw [atD_some ho]
        exact et_not (et_B (((I1.ex e2).rel_at hi ho).e_g T (ev_var rfl)))
      · intro j x H2 e2 hx _
        rw [List.getElem?_map] at hx
        have hj : j < (outs S i).length := by
          by_cases z : j < (outs S i).length
          · exact z
          · rw [List.getElem?_eq_none (by rw [List.length_range]; omega)] at hx
            cases hx
        rw [List.getElem?_range hj] at hx
        have ex : x = V.ref (ad (.rel i j)) := (Option.some.inj hx).symm
        subst ex
        exact ev_var rfl
      · unfold given
        rw [List.length_map, List.length_range] <;> rfl
/-! ### release_of -/
def FoundIs (ad : Tag → Addr) (S : Rp09.House) (i : Nat) (v : Version) (z : V) : Prop := (S.find i v = none ∧ z = .non) ∨ ∃ j o, S.find i v = some o ∧ (outs S i)[j]? = some o ∧ z = .ref (ad (.rel i j))
theorem found_ex (ad : Tag → Addr) (S : Rp09.House) (i : Nat) (v : Version) : ∃ z, FoundIs ad S i v z := by
  cases e : S.find i v with
  | none => exact ⟨.non, .inl ⟨e, rfl⟩⟩
  | some o =>
    obtain ⟨h1, h2, h3, h4⟩ := find_some e
    obtain ⟨j, hj⟩ := List.getElem?_of_mem (outs_mem.mpr ⟨h1, h2⟩)
    exact ⟨_, .inr ⟨j, o, e, hj, rfl⟩⟩
theorem found_at {ad : Tag → Addr} {S : Rp09.House} {i j : Nat} {v : Version} {z : V} {o : Rp09.Out} (M : More S) (h : FoundIs ad S i v z) (hj : (outs S i)[j]? = some o) (hv : o.version = v) (hg : o.gone = false) : z = .ref (ad (.rel i j)) := by
  obtain ⟨m1, m2⟩ := outs_mem.mp (List.mem_of_getElem? hj)
  have hf := find_of M m1 m2 hv hg
  rcases h with ⟨h1, _⟩ | ⟨j', o', h1, h2, h3⟩
  · rw [hf] at h1
    cases h1
  · rw [hf] at h1
    cases h1
    have : j' = j := (List.getElem?_inj (List.getElem?_eq_some_iff.mp h2).1 (outs_nodup M i)).mp (h2.trans hj.symm)
    rw [h3, this]
theorem found_no {ad : Tag → Addr} {S : Rp09.House} {i : Nat} {v : Version} {z : V} (h : FoundIs ad S i v z) (hno : ∀ o ∈ lefts S i, o.version ≠ v) : z = .non := by
  rcases h with ⟨_, h2⟩ | ⟨j, o, h1, h2, _⟩
  · exact h2
  · obtain ⟨k1, k2, k3, k4⟩ := find_some h1
    exact absurd k3 (hno o (lefts_mem.mpr ⟨k1, k2, k4⟩))
def sp_release_of (K : PySem.W.Frag) : Sp := fun vs H Q _ => ∃ (B : Hp) (tg : Addr → Option Tag) (ad : Tag → Addr) (S : Rp09.House) (nl : List Nat) (c i : Nat) (vp : Addr) (v : Version) (z : V), vs = [.ref (ad .house), .int (i : Int), .ref vp] ∧ HInv K B H tg ad S nl ∧ SOk S nl c ∧ c ≤ 60 ∧ VerAt H vp v ∧ FoundIs ad S i v z ∧ RetV z H Q
theorem spv_release_of {K : PySem.W.Frag} {B H : Hp} {tg : Addr → Option Tag} {ad : Tag → Addr} {S : Rp09.House} {nl : List Nat} {c i : Nat} {vp : Addr} {v : Version} {z : V} (I : HInv K B H tg ad S nl) (ok : SOk S nl c) (hc : c ≤ 60) (hv : VerAt H vp v) (hz : FoundIs ad S i v z) :
    SpV (sp_release_of K) [.ref (ad .house), .int (i : Int), .ref vp] H z := fun H1 e Q q E => ⟨B, tg, ad, S, nl, c, i, vp, v, z, rfl, I.ex e, ok, hc, hv.mono e, hz, q⟩
theorem lefts_lt {S : Rp09.House} (h : ∀ o ∈ S.out, o.pkg < S.tree.length) {i j : Nat} {o : Rp09.Out} (hj : (outs S i)[j]? = some o) : i < S.tree.length := by
  obtain ⟨m1, m2⟩ := outs_mem.mp (List.mem_of_getElem? hj)
  rw [← m2]
  exact h o m1
theorem ok_release_of {P : Program} {w : World} {K : PySem.W.Frag} {mg : Str → Option Value} {base : Heap} (T : Txt K mg) (O_releases_left : Ok P w K mg base 1 "releases_left" p_releases_left (sp_releases_left K)) : Ok P w K mg base 2 "release_of" p_release_of (sp_release_of K) := by
  refine Ok.of T.e_release_of T.g_release_of sc_release_of (fun _ _ _ _ _ _ us hl => match us, hl with | [_, _, _], _ => rfl) (fun vs H Q E h => ?_) (fun cdv A outer s H vs Q E hr h => ?_)
  · obtain ⟨B, tg, ad, S, nl, c, i, vp, v, z, rfl, _⟩ := h
    rfl
  · obtain ⟨B, tg, ad, S, nl, c, i, vp, v, z, rfl, I, ok, hc, hv, hz, k⟩ := h
    refine ⟨_, (pss_cons (ps_for PassesOwn.never rfl (k_iList (K := K) rfl (pe_callO O_releases_left (hr.mono (by decide)) (by rfl) (pa_cons (pv 0) (pa_cons (pv 1) pa_nil)))) (pg_name (i := 3) sc_release_of.nd rfl (Or.inl rfl))
      (pss_one (ps_if (pt_cmpR (k_eqD (K := K) rfl hr) (k_fld (K := K) rfl (pv 3) rfl) (pv 2) (nomark _))
      (pss_one (ps_ret (pv 3)))
      pss_nil)))
      (pss_one (ps_ret pe_non))), ?_⟩
    refine q_forNLn (K := K) (xs := leftV ad S i) (el_call (ea_cons (ev_var rfl) (ea_cons (ev_var rfl) ea_nil)) (spl_releases_left I ok hc)) (fun p n σ' H' => ∃ last : Option V, σ' = [some (.ref (ad .house)), some (.int (i : Int)), some (.ref vp), last] ∧ Ex H H' ∧ H' p = some (.lst (leftV ad S i)) ∧ ∀ o ∈ (lefts S i).take n, o.version ≠ v) ?_ ?_ ?_ ?_
    · intro p H1 hp e1 h1
      exact ⟨none, rfl, e1, h1, fun o ho => absurd ho (by simp)⟩
    · rintro p n σ' H' _ ⟨last, _, _, h, _⟩
      exact sq_of h
    · rintro p n x σ' H' hx ⟨last, rfl, e, hp, hno⟩
      obtain ⟨j, o, rfl, ho, hj⟩ := leftV_get hx
      have hi := lefts_lt ok.outp hj
      obtain ⟨m1, m2, m3⟩ := lefts_mem.mp (List.mem_of_getElem? ho)
      obtain ⟨pv, hpv, hpe⟩ := ((I.ex e).rel_at hi hj).e_v T (σ := [some (.ref (ad .house)), some (.int (i : Int)), some (.ref vp), some (.ref (ad (.rel i j)))]) (te := tVar 3) (ev_var rfl)
      refine s_when (et_test (evx_eqT (evx_tup hpe (hpv.mono (I.ex e).bh).sq) (evx_tup (ev_var rfl) (hv.mono e).sq))) (fun hb H1 e1 => ?_) (fun hb H1 e1 => ?_)
      · have hov : o.version = v := verL_inj (of_decide_eq_true hb)
        refine s_ret (ev_var rfl) fun H2 e2 => ?_
        have := k H2 ((e.trans e1).trans e2)
        rw [found_at ok.more hz hj hov m3] at this
        exact this
      · have hov : o.version ≠ v := fun z => of_decide_eq_false hb (by rw [z])
        refine ⟨some (.ref (ad (.rel i j))), rfl, e.trans e1, e1 _ _ hp, fun y hy => ?_⟩
        rw [take_next ho] at hy
        rcases List.mem_append.mp hy with h | h
        · exact hno y h
        · rw [List.mem_singleton.mp h]
          exact hov
    · rintro p σ' H' ⟨last, rfl, e, hp, hno⟩
      refine s_ret ev_c fun H2 e2 => ?_
      rw [leftV_len, List.take_length] at hno
      have := k H2 (e.trans e2)
      rw [found_no hz hno] at this
      exact this
/-! ### found_for -/
def sp_found_for (K : PySem.W.Frag) : Sp := fun vs H Q _ => ∃ (B : Hp) (tg : Addr → Option Tag) (ad : Tag → Addr) (S : Rp09.House) (nl : List Nat) (c : Nat) (a : Addr) (n : Need), vs = [.ref (ad .house), .ref a] ∧ HInv K B H tg ad S nl ∧ SOk S nl c ∧ c ≤ 60 ∧ NeedAt K H a n ∧ n.kind ≤ 3 ∧ RetX (VersIs K ((foundL S n).map verL)) H Q
theorem spx_found_for {K : PySem.W.Frag} {B H : Hp} {tg : Addr → Option Tag} {ad : Tag → Addr} {S : Rp09.House} {nl : List Nat} {c : Nat} {a : Addr} {n : Need} (I : HInv K B H tg ad S nl) (ok : SOk S nl c) (hc : c ≤ 60) (hn : NeedAt K H a n) (hk : n.kind ≤ 3) :
    SpX (sp_found_for K) [.ref (ad .house), .ref a] H (VersIs K ((foundL S n).map verL)) := fun H1 e Q q E => ⟨B, tg, ad, S, nl, c, a, n, rfl, I.ex e, ok, hc, hn.mono e, hk, q⟩
theorem madeD_vers {K : PySem.W.Frag} {B H : Hp} {v : V} {os : List Rp09.Out} (e : Ex B H) (h : MadeD os (fun o => VerRep o.version) v B) : VersIs K ((os.map fun o => o.version).map verL) v H := by
  obtain ⟨p, ws, h1, h2, h3⟩ := h
  have : ∃ ps : List Addr, ws = ps.map V.ref ∧ TupsAt K H ps ((os.map fun o => o.version).map verL) := by
    clear h2
    induction h3 with
    | nil => exact ⟨[], rfl, .nil⟩
    | cons q _ ih =>
      obtain ⟨a, rfl, ha⟩ := q
      obtain ⟨as, rfl, h4⟩ := ih
      exact ⟨a :: as, rfl, .cons (ha.mono e).sq h4⟩
  obtain ⟨ps, rfl, h4⟩ := this
  exact ⟨p, ps, h1, sq_of (e _ _ h2), h4⟩
theorem ok_found_for {P : Program} {w : World} {K : PySem.W.Frag} {mg : Str → Option Value} {base : Heap} (T : Txt K mg) (O_releases_left : Ok P w K mg base 1 "releases_left" p_releases_left (sp_releases_left K)) (O_holds : Ok P w K mg base 3 "holds" p_holds (sp_holds K)) : Ok P w K mg base 4 "found_for" p_found_for (sp_found_for K) := by
  refine Ok.of T.e_found_for T.g_found_for sc_found_for (fun _ _ _ _ _ _ us hl => match us, hl with | [_, _], _ => rfl) (fun vs H Q E h => ?_) (fun cdv A outer s H vs Q E hr h => ?_)
  · obtain ⟨B, tg, ad, S, nl, c, a, n, rfl, _⟩ := h
    rfl
  · obtain ⟨B, tg, ad, S, nl, c, a, n, rfl, I, ok, hc, hn, hk, k⟩ := h
    refine ⟨_, (pss_one (ps_ret (pe_lc (own := [("release", 2)]) (g := gName 2) (by rfl) sc_found_for.nd (k_iList (K := K) rfl (pe_callO O_releases_left (hr.mono (by decide)) (by rfl) (pa_cons (pv 0) (pa_cons (k_fld (K := K) rfl (pv 1) rfl) pa_nil)))) (blkOk_by (own := [("release", 2)]) (N := n_found_for) (sc := defScope s_found_for) (by decide +kernel)) (fun _ _ _ _ _ => pg_name (i := 2) sc_found_for.nd rfl (Or.inl rfl)) (fun _ _ _ _ _ => (pts_one (pt_val (pe_callO O_holds (hr.mono (by decide)) (by rfl) (pa_cons (pv 1) (pa_cons (k_fld (K := K) rfl (pv 2) rfl) pa_nil)))))) (fun _ _ _ _ _ => (k_fld (K := K) rfl (pv 2) rfl))))), ?_⟩
    have h60 := lefts60 ok hc n.on
    refine s_retX (evx_lcB (B := B) (ds := lefts S n.on) (xs := leftV ad S n.on) (fun o => n.holds o.version) (fun o => VerRep o.version) (fun d v B B' e h => h.mono e) (leftV_len ad S n.on) I.bh
      (el_call (ea_cons (ev_var rfl) (ea_cons (hn.e_on T (ev_var rfl)) ea_nil)) (spl_releases_left I ok hc)) (by rw [leftV_len]; omega) (fun _ => rfl) ?_ ?_ ?_) k
    · intro i x o H1 e1 hx ho
      obtain ⟨j, o', rfl, ho', hj⟩ := leftV_get hx
      rw [ho] at ho'
      cases ho'
      have hi := lefts_lt ok.outp hj
      obtain ⟨pv, hpv, hpe⟩ := ((I.ex e1).rel_at hi hj).e_v T (σ := [some (.ref (ad .house)), some (.ref a), some (.ref (ad (.rel n.on j)))]) (te := tVar 2) (ev_var rfl)
      exact et_B (ev_call (ea_cons (ev_var rfl) (ea_cons hpe ea_nil)) (spv_holds (hn.mono e1) (hpv.mono (I.ex e1).bh) hk))
    · intro i x o B1 H1 b1 b2 e1 hx ho _
      obtain ⟨j, o', rfl, ho', hj⟩ := leftV_get hx
      rw [ho] at ho'
      cases ho'
      have hi := lefts_lt ok.outp hj
      obtain ⟨pv, hpv, hpe⟩ := ((I.ex e1).rel_at hi hj).e_v T (σ := [some (.ref (ad .house)), some (.ref a), some (.ref (ad (.rel n.on j)))]) (te := tVar 2) (ev_var rfl)
      exact evr_imp (evr_of b2 hpe) fun w B' b' hw => ⟨pv, hw, (hpv.mono b1).mono b'⟩
    · intro v B' H' e h
      rw [← held_eq] at h
      exact madeD_vers e h
end Tg
namespace Tg
open PySem PySem.Spec PyProof.Rows L2 Evl
open Rp09 (Version Need Package)
/-! ### needs_left -/
def NeedsIs (K : PySem.W.Frag) (ns : List Need) : Rep := fun v H => ∃ p, v = .ref p ∧ NeedsAt K H p ns
def sp_needs_left (K : PySem.W.Frag) : Sp := fun vs H Q _ => ∃ (B : Hp) (tg : Addr → Option Tag) (ad : Tag → Addr) (S : Rp09.House) (nl : List Nat) (c : Nat), vs = [.ref (ad .house)] ∧ HInv K B H tg ad S nl ∧ SOk S nl c ∧ c ≤ 60 ∧ RetX (NeedsIs K (needsAll S S.tree.length)) H Q
theorem spx_needs_left {K : PySem.W.Frag} {B H : Hp} {tg : Addr → Option Tag} {ad : Tag → Addr} {S : Rp09.House} {nl : List Nat} {c : Nat} (I : HInv K B H tg ad S nl) (ok : SOk S nl c) (hc : c ≤ 60) : SpX (sp_needs_left K) [.ref (ad .house)] H (NeedsIs K (needsAll S S.tree.length)) :=
  fun H1 e Q q E => ⟨B, tg, ad, S, nl, c, rfl, I.ex e, ok, hc, q⟩
theorem needsL_len {S : Rp09.House} {nl : List Nat} {c : Nat} (ok : SOk S nl c) (hc : c ≤ 60) (i k : Nat) : (((lefts S i).take k).flatMap fun o => o.needs).length ≤ 240 := by
  have h1 := flatMap_len (f := fun o : Rp09.Out => o.needs) (m := 4) (l := (lefts S i).take k) fun x hx => (ok.more.on x (lefts_mem.mp (List.mem_of_mem_take hx)).1).1
  have h2 := lefts60 ok hc i
  rw [List.length_take] at h1
  omega
theorem needsAll_len {S : Rp09.House} {nl : List Nat} {c : Nat} (ok : SOk S nl c) (hc : c ≤ 60) (i : Nat) : (needsAll S i).length ≤ i * 240 := by
  have h1 := flatMap_len (f := needsL S) (m := 240) (l := List.range i) fun x _ => by
    have := needsL_len ok hc x (lefts S x).length
    rw [List.take_length] at this
    exact this
  rw [List.length_range] at h1
  exact h1
theorem needsAll_succ (S : Rp09.House) (i : Nat) : needsAll S (i + 1) = needsAll S i ++ (lefts S i).flatMap fun o => o.needs := by
  unfold needsAll
  rw [List.range_succ, List.flatMap_append, List.flatMap_singleton] <;> rfl
theorem ok_needs_left {P : Program} {w : World} {K : PySem.W.Frag} {mg : Str → Option Value} {base : Heap} (T : Txt K mg) (O_releases_left : Ok P w K mg base 1 "releases_left" p_releases_left (sp_releases_left K)) : Ok P w K mg base 2 "needs_left" p_needs_left (sp_needs_left K) := by
  refine Ok.of T.e_needs_left T.g_needs_left sc_needs_left (fun _ _ _ _ _ _ us hl => match us, hl with | [_], _ => rfl) (fun vs H Q E h => ?_) (fun cdv A outer s H vs Q E hr h => ?_)
  · obtain ⟨B, tg, ad, S, nl, c, rfl, _⟩ := h
    rfl
  · obtain ⟨B, tg, ad, S, nl, c, rfl, I, ok, hc, k⟩ := h
    refine ⟨_, (pss_cons (ps_set (i := 1) sc_needs_left.nd rfl (Or.inl rfl) (pe_lst pa_nil))
      (pss_cons (ps_for PassesOwn.never rfl (pi_range1 (by rfl) T.f_range (pa_cons (pe_callB (k_len (K := K) rfl) (by rfl) T.f_len PySem.boot_len (pa_cons (k_fld (K := K) rfl (pv 0) rfl) pa_nil)) pa_nil)) (pg_name (i := 2) sc_needs_left.nd rfl (Or.inl rfl))
      (pss_one (ps_for PassesOwn.never rfl (k_iList (K := K) rfl (pe_callO O_releases_left (hr.mono (by decide)) (by rfl) (pa_cons (pv 0) (pa_cons (pv 2) pa_nil)))) (pg_name (i := 3) sc_needs_left.nd rfl (Or.inl rfl))
      (pss_one (ps_expr (k_bm (K := K) rfl PySem.F.plainAttrs_list PySem.F.slot_list_extend PySem.F.type_list_extend mt_extend (pv 1) (pa_cons (k_fld (K := K) rfl (pv 3) rfl) pa_nil)))))))
      (pss_one (ps_ret (pv 1))))), ?_⟩
    have h6 := ok.tree.len
    refine q_asgL (el_lst ea_nil (by decide)) fun q H1 hq e1 h1 => ?_
    refine q_forR1 (n := (S.tree.length : Int)) (ea_cons ((I.ex e1).e_len T (ev_var rfl)) ea_nil) (by omega) (fun i σ' H' => ∃ (x2 x3 : Option V) (as : List Addr), σ' = [some (.ref (ad .house)), some (.ref q), x2, x3] ∧ Ex H H' ∧ H' q = some (.lst (as.map V.ref)) ∧ All2 (NeedAt K B) as (needsAll S i)) ?_ ?_ ?_
    · intro H2 e2
      exact ⟨none, none, [], rfl, e1.trans e2, e2 _ _ h1, .nil⟩
    · rintro i σ' H' hi ⟨x2, x3, as, rfl, e, hq', ha⟩
      have hi' : i < S.tree.length := by omega
      refine s_forNL (K := K) (xs := leftV ad S i) (el_call (ea_cons (ev_var rfl) (ea_cons (ev_var rfl) ea_nil)) (spl_releases_left (I.ex e) ok hc)) (fun p n σ2 H2 => ∃ (x3 : Option V) (as : List Addr), σ2 = [some (.ref (ad .house)), some (.ref q), some (.int (i : Int)), x3] ∧ Ex H H2 ∧ p ≠ q ∧ H2 p = some (.lst (leftV ad S i)) ∧
        H2 q = some (.lst (as.map V.ref)) ∧ All2 (NeedAt K B) as (needsAll S i ++ ((lefts S i).take n).flatMap fun o => o.needs)) ?_ ?_ ?_ ?_
      · intro p H2 hp e2 h2
        refine ⟨x3, as, rfl, e.trans e2, fun z => ?_, h2, e2 _ _ hq', ?_⟩
        · rw [z, hq'] at hp
          cases hp
        · rw [List.take_zero, List.flatMap_nil, List.append_nil]
          exact ha
      · rintro p n σ2 H2 _ ⟨x3, as, _, _, _, h, _⟩
        exact sq_of h
      · rintro p n x σ2 H2 hx ⟨x3, as, rfl, e2, npq, hp, hq2, ha2⟩
        obtain ⟨j, o, rfl, ho, hj⟩ := leftV_get hx
        have I2 := I.ex e2
        obtain ⟨l, ⟨bs, hb1, hb2⟩, hle⟩ := (I2.rel_at hi' hj).e_ns T (σ := [some (.ref (ad .house)), some (.ref q), some (.int (i : Int)), some (.ref (ad (.rel i j)))]) (te := tVar 3) (ev_var rfl)
        have z1 := needsAll_len ok hc i
        have z2 := needsL_len ok hc i n
        have z3 := (ok.more.on o (lefts_mem.mp (List.mem_of_getElem? ho)).1).1
        have z4 := ha2.len
        rw [List.length_append] at z4
        have z5 := hb2.len
        refine s_extS hq2 (ev_var rfl) hle (I2.bh _ _ hb1) (by rw [List.length_map, List.length_map]; have : i * 240 ≤ 6 * 240 := Nat.mul_le_mul_right _ (by omega); omega) fun H3 e3 => ?_
        refine ⟨some (.ref (ad (.rel i j))), as ++ bs, rfl, Ex.mut (e2.trans e3) hq, npq, ?_, ?_, ?_⟩
        · rw [upd_ne npq]
          exact e3 _ _ hp
        · rw [upd_same, List.map_append]
        · rw [take_next ho, List.flatMap_append, List.flatMap_singleton, ← List.append_assoc]
          exact ha2.app hb2
      · rintro p σ2 H2 ⟨x3, as, rfl, e2, npq, hp, hq2, ha2⟩
        rw [leftV_len, List.take_length, ← needsAll_succ] at ha2
        exact ⟨_, x3, as, rfl, e2, hq2, ha2⟩
    · rintro σ' H' ⟨x2, x3, as, rfl, e, hq', ha⟩
      rw [Int.toNat_natCast] at ha
      refine s_ret (ev_var rfl) fun H2 e2 => k _ H2 (e.trans e2) ⟨q, rfl, as, e2 _ _ hq', ha.imp fun a n h => h.mono (I.ex (e.trans e2)).bh⟩
/-! ### finds_only -/
def sp_finds_only (K : PySem.W.Frag) : Sp := fun vs H Q _ => ∃ (B : Hp) (tg : Addr → Option Tag) (ad : Tag → Addr) (S : Rp09.House) (nl : List Nat) (c : Nat) (a : Addr) (n : Need) (p : Nat) (vp : Addr) (v : Version), vs = [.ref (ad .house), .ref a, .int (p : Int), .ref vp] ∧ HInv K B H tg ad S nl ∧ SOk S nl c ∧ c ≤ 60 ∧ NeedAt K H a n ∧ n.kind ≤ 3 ∧ VerAt H vp v ∧
  RetV (.bl (decide ((n.on : Int) = (p : Int)) && decide (foundL S n = [v]))) H Q
theorem spv_finds_only {K : PySem.W.Frag} {B H : Hp} {tg : Addr → Option Tag} {ad : Tag → Addr} {S : Rp09.House} {nl : List Nat} {c : Nat} {a : Addr} {n : Need} {p : Nat} {vp : Addr} {v : Version} (I : HInv K B H tg ad S nl) (ok : SOk S nl c) (hc : c ≤ 60) (hn : NeedAt K H a n) (hk : n.kind ≤ 3) (hv : VerAt H vp v) :
    SpV (sp_finds_only K) [.ref (ad .house), .ref a, .int (p : Int), .ref vp] H (.bl (decide ((n.on : Int) = (p : Int)) && decide (foundL S n = [v]))) := fun H1 e Q q E => ⟨B, tg, ad, S, nl, c, a, n, p, vp, v, rfl, I.ex e, ok, hc, hn.mono e, hk, hv.mono e, q⟩
theorem mapver_one (l : List Version) (v : Version) : decide (l.map verL = [verL v]) = decide (l = [v]) := by
  by_cases h : l = [v]
  · subst h
    simp
  · rw [decide_eq_false h, decide_eq_false fun e => h ?_]
    cases l with
    | nil => cases e
    | cons x r =>
      rw [List.map_cons] at e
      obtain ⟨e1, e2⟩ := List.cons.inj e
      rw [verL_inj e1, List.map_eq_nil_iff.mp e2]
theorem ok_finds_only {P : Program} {w : World} {K : PySem.W.Frag} {mg : Str → Option Value} {base : Heap} (T : Txt K mg) (O_found_for : Ok P w K mg base 4 "found_for" p_found_for (sp_found_for K)) : Ok P w K mg base 5 "finds_only" p_finds_only (sp_finds_only K) := by
  refine Ok.of T.e_finds_only T.g_finds_only sc_finds_only (fun _ _ _ _ _ _ us hl => match us, hl with | [_, _, _, _], _ => rfl) (fun vs H Q E h => ?_) (fun cdv A outer s H vs Q E hr h => ?_)
  · obtain ⟨B, tg, ad, S, nl, c, a, n, p, vp, v, rfl, _⟩ := h
    rfl
  · obtain ⟨B, tg, ad, S, nl, c, a, n, p, vp, v, rfl, I, ok, hc, hn, hk, hv, k⟩ := h
    refine ⟨_, (pss_one (ps_ret (pe_and (pe_cmpR op_eq (k_fld (K := K) rfl (pv 1) rfl) (pv 2) (nomark _)) (pe_one (pe_cmpR (k_eqD (K := K) rfl hr) (pe_callO O_found_for (hr.mono (by decide)) (by rfl) (pa_cons (pv 0) (pa_cons (pv 1) pa_nil))) (pe_lst (pa_cons (pv 3) pa_nil)) (nomark _)))))), ?_⟩
    refine s_ret (ev_andV (ev_eqI (hn.e_on T (ev_var rfl)) (ev_var rfl)) fun _ => ev_is (evx_eqV (evx_call (ea_cons (ev_var rfl) (ea_cons (ev_var rfl) ea_nil)) (spx_found_for I ok hc hn hk)) (evx_one (n := verL v) (ev_var rfl) hv.sq)) (congrArg V.bl (mapver_one _ _))) fun H1 e1 => k H1 e1
theorem needs_refs {K : PySem.W.Frag} {H : Hp} {as : List Addr} {ns : List Need} (h : All2 (NeedAt K H) as ns) : All2 (fun x n => ∃ a, x = V.ref a ∧ NeedAt K H a n) (as.map V.ref) ns := by
  induction h with
  | nil => exact .nil
  | cons x _ ih => exact .cons ⟨_, rfl, x⟩ ih
/-! ### yank_refusal -/
def sp_yank_refusal (K : PySem.W.Frag) : Sp := fun vs H Q _ => ∃ (B : Hp) (tg : Addr → Option Tag) (ad : Tag → Addr) (S : Rp09.House) (nl : List Nat) (c p : Nat) (vp : Addr) (v : Version), vs = [.ref (ad .house), .int (p : Int), .ref vp] ∧ HInv K B H tg ad S nl ∧ SOk S nl c ∧ c ≤ 60 ∧ VerAt H vp v ∧ RetV (.int (refY S p v)) H Q
theorem spv_yank_refusal {K : PySem.W.Frag} {B H : Hp} {tg : Addr → Option Tag} {ad : Tag → Addr} {S : Rp09.House} {nl : List Nat} {c p : Nat} {vp : Addr} {v : Version} (I : HInv K B H tg ad S nl) (ok : SOk S nl c) (hc : c ≤ 60) (hv : VerAt H vp v) :
    SpV (sp_yank_refusal K) [.ref (ad .house), .int (p : Int), .ref vp] H (.int (refY S p v)) := fun H1 e Q q E => ⟨B, tg, ad, S, nl, c, p, vp, v, rfl, I.ex e, ok, hc, hv.mono e, q⟩
theorem ok_yank_refusal {P : Program} {w : World} {K : PySem.W.Frag} {mg : Str → Option Value} {base : Heap} (T : Txt K mg) (O_release_of : Ok P w K mg base 2 "release_of" p_release_of (sp_release_of K)) (O_needs_left : Ok P w K mg base 2 "needs_left" p_needs_left (sp_needs_left K)) (O_finds_only : Ok P w K mg base 5 "finds_only" p_finds_only (sp_finds_only K)) : Ok P w K mg base 6 "yank_refusal" p_yank_refusal (sp_yank_refusal K) := by
  refine Ok.of T.e_yank_refusal T.g_yank_refusal sc_yank_refusal (fun _ _ _ _ _ _ us hl => match us, hl with | [_, _, _], _ => rfl) (fun vs H Q E h => ?_) (fun cdv A outer s H vs Q E hr h => ?_)
  · obtain ⟨B, tg, ad, S, nl, c, p, vp, v, rfl, _⟩ := h
    rfl
  · obtain ⟨B, tg, ad, S, nl, c, p, vp, v, rfl, I, ok, hc, hv, k⟩ := h
    refine ⟨_, (pss_cons (ps_if (pt_cmpR op_isN (pe_callO O_release_of (hr.mono (by decide)) (by rfl) (pa_cons (pv 0) (pa_cons (pv 1) (pa_cons (pv 2) pa_nil)))) pe_non (nomark _))
      (pss_one (ps_ret (pe_gint T.k_UNKNOWN)))
      pss_nil)
      (pss_cons (ps_if (pt_cmpR (k_eqD (K := K) rfl hr) (k_fld (K := K) rfl (pe_ix (k_ixL (K := K) rfl) (k_fld (K := K) rfl (pv 0) rfl) (pv 1) (fun _ _ => rfl)) rfl) (pv 2) (nomark _))
      (pss_one (ps_ret (pe_gint T.k_IN_THE_TREE)))
      pss_nil)
      (pss_cons (ps_if (pt_val (pe_callB (k_any (K := K) rfl rfl) (by rfl) T.f_any (by decide +kernel) (pa_cons (pe_lc (own := [("need", 3)]) (g := gName 3) (by rfl) sc_yank_refusal.nd (k_iList (K := K) rfl (pe_callO O_needs_left (hr.mono (by decide)) (by rfl) (pa_cons (pv 0) pa_nil))) (blkOk_by (own := [("need", 3)]) (N := n_yank_refusal) (sc := defScope s_yank_refusal) (by decide +kernel)) (fun _ _ _ _ _ => pg_name (i := 3) sc_yank_refusal.nd rfl (Or.inl rfl)) (fun _ _ _ _ _ => pts_nil) (fun _ _ _ _ _ => (pe_callO O_finds_only (hr.mono (by decide)) (by rfl) (pa_cons (pv 0) (pa_cons (pv 3) (pa_cons (pv 1) (pa_cons (pv 2) pa_nil))))))) pa_nil)))
      (pss_one (ps_ret (pe_gint T.k_NEEDED)))
      pss_nil)
      (pss_one (ps_ret (pe_gint T.k_ACCEPTED)))))), ?_⟩
    obtain ⟨z, hz⟩ := found_ex ad S p v
    refine q_when (et_test (ev_op (ev_call (ea_cons (ev_var rfl) (ea_cons (ev_var rfl) (ea_cons (ev_var rfl) ea_nil))) (spv_release_of I ok hc hv hz)) ev_c rv_isN)) (fun hb H1 e1 => ?_) (fun hb H1 e1 => ?_)
    · have hz0 := of_decide_eq_true hb
      refine s_ret ev_c (ret_eq k e1 (congrArg V.int ?_))
      rcases hz with ⟨h1, _⟩ | ⟨j, o, _, _, h3⟩
      · unfold refY
        rw [h1]
      · rw [h3] at hz0
        cases hz0
    · have hz0 := of_decide_eq_false hb
      rcases hz with ⟨_, h2⟩ | ⟨j, o, h1, h2, h3⟩
      · exact absurd h2 hz0
      · obtain ⟨o1, o2, o3, o4⟩ := find_some h1
        have hp := lefts_lt ok.outp h2
        have I1 := I.ex e1
        have hv1 := hv.mono e1
        unfold refY at k
        rw [h1] at k
        dsimp only at k
        obtain ⟨va, hva, hvae⟩ := I1.e_ver T hp (I1.e_pkg T hp (σ := [some (.ref (ad .house)), some (.int (p : Int)), some (.ref vp), none]) (ta := tVar 0) (tb := tVar 1) (ev_var rfl) (ev_var rfl))
        refine q_when (et_test (evx_eqT (evx_tup hvae (hva.mono I1.bh).sq) (evx_tup (ev_var rfl) hv1.sq))) (fun hb H2 e2 => ?_) (fun hb H2 e2 => ?_)
        · have he : (Rp09.at_ S.tree p).version = o.version := by
            rw [o3]
            exact verL_inj (of_decide_eq_true hb)
          rw [if_pos he] at k
          exact s_ret ev_c (ret_eq k (e1.trans e2) rfl)
        · have he : ¬ (Rp09.at_ S.tree p).version = o.version := fun z => of_decide_eq_false hb (by rw [z, o3])
          rw [if_neg he, needed_eq ok.more ok.outp o1 o4, o2, o3] at k
          have e12 := e1.trans e2
          have I2 := I.ex e12
          have hlen : (needsAll S S.tree.length).length ≤ 40000 := by
            have h1 := needsAll_len ok hc S.tree.length
            have h2 := ok.tree.len
            have : S.tree.length * 240 ≤ 6 * 240 := Nat.mul_le_mul_right _ (by omega)
            omega
          have hkind : ∀ n ∈ needsAll S S.tree.length, n.kind ≤ 3 := fun n hn => by
            obtain ⟨x, x1, _, x3⟩ := (needsAll_mem ok.outp).mp hn
            exact ((ok.more.on x x1).2.1 n x3).2
          have hany : Ev (tCB (rAny K) (tCons (tLc (iList K (tCall (sp_needs_left K) [] E0 (tCons (tVar 0) tNil))) (gName 3) tYes (tCall (sp_finds_only K) [] E0 (tCons (tVar 0) (tCons (tVar 3) (tCons (tVar 1) (tCons (tVar 2) tNil))))) [3]) tNil)) [some (.ref (ad .house)), some (.int (p : Int)), some (.ref vp), none] H2
              (.bl ((needsAll S S.tree.length).any fun n => decide ((n.on : Int) = (p : Int)) && decide (foundL S n = [v]))) := by
            refine ev_is (ev_any (bs := (needsAll S S.tree.length).map fun n => decide ((n.on : Int) = (p : Int)) && decide (foundL S n = [v])) ?_) (by rw [List.any_map] <;> rfl)
            rw [List.map_map]
            refine el_lcX (ds := needsAll S S.tree.length) (R := fun H x n => ∃ a, x = V.ref a ∧ NeedAt K H a n) _ (fun H H' x d e h => by
              obtain ⟨a, h1, h2⟩ := h
              exact ⟨a, h1, h2.mono e⟩) ?_ hlen (fun _ => rfl) ?_
            · refine evx_imp (evx_call (ea_cons (ev_var rfl) ea_nil) (spx_needs_left I2 ok hc)) fun w H3 hw => ?_
              obtain ⟨q, rfl, as, h1, h2⟩ := hw
              exact ⟨q, as.map V.ref, rfl, sq_of h1, needs_refs h2⟩
            · rintro x d H3 e3 hd ⟨a, rfl, hna⟩
              exact ev_call (ea_cons (ev_var rfl) (ea_cons (ev_var rfl) (ea_cons (ev_var rfl) (ea_cons (ev_var rfl) ea_nil)))) (spv_finds_only (I2.ex e3) ok hc hna (hkind d hd) (hv.mono (e12.trans e3)))
          refine q_when (et_B hany) (fun hb H3 e3 => ?_) (fun hb H3 e3 => ?_)
          · rw [if_pos hb] at k
            exact s_ret ev_c (ret_eq k (e12.trans e3) rfl)
          · rw [if_neg (by rw [hb]; decide)] at k
            exact s_ret ev_c (ret_eq k (e12.trans e3) rfl)
end Tg
namespace Tg
open PySem PySem.Spec PyProof.Rows L2 Evl
open Rp09 (Version Need Package)
theorem upd_fresh {H H1 : Hp} {a q : Addr} {o : HO} (e : Ex H H1) (h : upd H1 a o q = none) : H q = none := by
  by_cases c : q = a
  · rw [c, upd_same] at h
    cases h
  · rw [upd_ne c] at h
    exact fresh_back e h
theorem upd_keep {H H1 : Hp} {tg : Addr → Option Tag} {a : Addr} {t : Tag} {o : HO} (e : Ex H H1) (ht : tg a = some t) : ∀ b u, H b = some u → tg b = none → upd H1 a o b = some u := fun b u hb hn => by
  rw [upd_ne fun z => ?_]
  · exact e _ _ hb
  · rw [z, ht] at hn
    cases hn
/-! ### answer_yank -/
def sp_answer_yank (K : PySem.W.Frag) : Sp := fun vs H Q _ => ∃ (B : Hp) (tg : Addr → Option Tag) (ad : Tag → Addr) (S : Rp09.House) (nl : List Nat) (cc p : Nat) (vp : Addr) (a b c : Nat), vs = [.ref (ad .house), .int (p : Int), .ref vp] ∧ HInv K B H tg ad S nl ∧ SOk S nl cc ∧ cc ≤ 60 ∧ VerAt H vp ⟨a, b, c⟩ ∧
  Done K cc B H tg ad (Rp09.step S (.yank p a b c)).1 (ansL S (.yank p a b c)) Q
theorem ok_answer_yank {P : Program} {w : World} {K : PySem.W.Frag} {mg : Str → Option Value} {base : Heap} (T : Txt K mg) (O_yank_refusal : Ok P w K mg base 6 "yank_refusal" p_yank_refusal (sp_yank_refusal K)) (O_release_of : Ok P w K mg base 2 "release_of" p_release_of (sp_release_of K)) : Ok P w K mg base 7 "answer_yank" p_answer_yank (sp_answer_yank K) := by
  refine Ok.of T.e_answer_yank T.g_answer_yank sc_answer_yank (fun _ _ _ _ _ _ us hl => match us, hl with | [_, _, _], _ => rfl) (fun vs H Q E h => ?_) (fun cdv A outer s H vs Q E hr h => ?_)
  · obtain ⟨B, tg, ad, S, nl, cc, p, vp, a, b, c, rfl, _⟩ := h
    rfl
  · obtain ⟨B, tg, ad, S, nl, cc, p, vp, a, b, c, rfl, I, ok, hc, hv, k⟩ := h
    refine ⟨_, (pss_cons (ps_set (i := 3) sc_answer_yank.nd rfl (Or.inl rfl) (pe_callO O_yank_refusal (hr.mono (by decide)) (by rfl) (pa_cons (pv 0) (pa_cons (pv 1) (pa_cons (pv 2) pa_nil)))))
      (pss_cons (ps_if (pt_cmpR op_ne (pv 3) (pe_gint T.k_ACCEPTED) (nomark _))
      (pss_one (ps_ret (pe_lst (pa_cons (pv 3) pa_nil))))
      pss_nil)
      (pss_cons (ps_set (i := 4) sc_answer_yank.nd rfl (Or.inl rfl) (pe_callO O_release_of (hr.mono (by decide)) (by rfl) (pa_cons (pv 0) (pa_cons (pv 1) (pa_cons (pv 2) pa_nil)))))
      (pss_cons (k_put (K := K) rfl (pv 4) pe_bl rfl)
      (pss_one (ps_ret (pe_lst (pa_cons pe_int pa_nil)))))))), ?_⟩
    obtain ⟨r1, r2⟩ := yank_ref S p a b c
    unfold ansL at k
    refine q_asg (ev_call (ea_cons (ev_var rfl) (ea_cons (ev_var rfl) (ea_cons (ev_var rfl) ea_nil))) (spv_yank_refusal I ok hc hv)) fun H1 e1 => ?_
    refine q_when (et_test (ev_neI (ev_var rfl) ev_c)) (fun hb H2 e2 => ?_) (fun hb H2 e2 => ?_)
    · have hne : refY S p ⟨a, b, c⟩ ≠ 0 := by simpa using hb
      rw [r1 hne] at k
      exact s_retL (el_lst (ea_cons (ev_var rfl) ea_nil) (by show 1 ≤ 100000; decide)) (RetL.from (Done.same k I ok) (e1.trans e2) rfl)
    · have he : refY S p ⟨a, b, c⟩ = 0 := by simpa using hb
      obtain ⟨o, hf, ht, hn, hst⟩ := r2 he
      rw [hst] at k
      obtain ⟨o1, o2, o3, o4⟩ := find_some hf
      obtain ⟨j, hj⟩ := List.getElem?_of_mem (outs_mem.mpr ⟨o1, o2⟩)
      have hjl := (List.getElem?_eq_some_iff.mp hj).1
      have hp := lefts_lt ok.outp hj
      have e12 := e1.trans e2
      have I2 := I.ex e12
      refine q_asg (ev_call (ea_cons (ev_var rfl) (ea_cons (ev_var rfl) (ea_cons (ev_var rfl) ea_nil))) (spv_release_of I2 ok hc (hv.mono e12) (.inr ⟨j, o, hf, hj, rfl⟩))) fun H3 e3 => ?_
      have I3 := I2.ex e3
      obtain ⟨u, g1, dx, va, na, nt, rfl, g2, g3, g4⟩ := I3.rel_at hp hj
      refine q_put ev_c (ev_var rfl) g1 T.cl_Release T.na_Release_withdrawn (by show 4 < 1000; decide) fun H4 e4 => ?_
      rw [pt_Release_withdrawn]
      have e04 := (e12.trans e3).trans e4
      have hlen : ∀ i, (outs (yankSt S o) i).length = (outs S i).length := fun i => by rw [outs_yank, List.length_map]
      have I5 : HInv K B (upd H4 (ad (.rel p j)) (.ins (He.ga K "Release") dx (fs_Release [.ref va, .ref na, .ref nt, .bl true]))) tg ad (yankSt S o) nl := (I3.ex e4).set (S' := yankSt S o) (nl' := nl) (t0 := .rel p j) ⟨hp, hjl⟩ (fun t h => by
          cases t with
          | rel i l =>
            refine ⟨h.1, ?_⟩
            have := h.2
            rw [hlen] at this
            exact this
          | _ => exact h) (fun r hr' => by
          rw [outs_yank, List.getElem?_map, hj] at hr'
          have er : { o with gone := true } = r := by
            have := Option.some.inj hr'
            rw [← this]
            exact (if_pos rfl).symm
          subst er
          exact ⟨dx, va, na, nt, rfl, g2, g3, g4⟩) (fun t u hne hval h => by
          cases t with
          | rels i =>
            show u = HO.lst ((List.range (outs (yankSt S o) i).length).map fun l => V.ref (ad (.rel i l)))
            rw [hlen]
            exact h
          | rel i l =>
            intro r hr'
            rw [outs_yank, List.getElem?_map] at hr'
            cases er : (outs S i)[l]? with
            | none =>
              rw [er] at hr'
              cases hr'
            | some x =>
              rw [er] at hr'
              have ex : markG o x = r := Option.some.inj hr'
              have hxo : x ≠ o := fun z => by
                subst z
                have hip : i = p := (outs_mem.mp (List.mem_of_getElem? er)).2.symm.trans o2
                subst hip
                exact hne (by rw [(List.getElem?_inj (List.getElem?_eq_some_iff.mp er).1 (outs_nodup ok.more i)).mp (er.trans hj.symm)])
              have : markG o x = x := if_neg hxo
              rw [← ex, this]
              exact h x er
          | _ => exact h)
      refine s_retL (el_lst (ea_cons ev_c ea_nil) (by show 1 ≤ 100000; decide)) fun q H6 hq e6 h6 => ?_
      exact k q B H6 tg ad nl (upd_fresh e04 hq) h6 (I5.ex e6) (yank_ok ok o1 o4 (by rw [o2]; exact ht) hn) ⟨Ex.refl _, fun _ _ h => .inl h, fun x w hx hn => e6 _ _ (upd_keep e04 (I.tag (.rel p j) ⟨hp, hjl⟩) x w hx hn), fun _ _ _ h => h, rfl⟩
/-! ### answer_resolve -/
def resT (S : Rp09.House) (ns : List Need) : List Nat := ns.flatMap fun n => n.on :: Rp09.numbers (Rp09.top (foundL S n) n.from_)
theorem resT_len (S : Rp09.House) (ns : List Need) : (resT S ns).length ≤ ns.length * 4 := flatMap_len fun _ _ => Nat.le_refl 4
theorem ans_resolve (S : Rp09.House) (p a b c : Nat) : ansL S (.resolve p a b c) = match S.find p ⟨a, b, c⟩ with
    | none => [-2]
    | some o => (o.needs.length :: resT S o.needs).map fun (n : Nat) => (n : Int) := by
  unfold ansL
  rw [resolve_step]
  cases S.find p ⟨a, b, c⟩ <;> rfl
def sp_answer_resolve (K : PySem.W.Frag) : Sp := fun vs H Q _ => ∃ (B : Hp) (tg : Addr → Option Tag) (ad : Tag → Addr) (S : Rp09.House) (nl : List Nat) (cc p : Nat) (vp : Addr) (a b c : Nat), vs = [.ref (ad .house), .int (p : Int), .ref vp] ∧ HInv K B H tg ad S nl ∧ SOk S nl cc ∧ cc ≤ 60 ∧ VerAt H vp ⟨a, b, c⟩ ∧
  RetL (vis (ansL S (.resolve p a b c))) H Q
theorem ok_answer_resolve {P : Program} {w : World} {K : PySem.W.Frag} {mg : Str → Option Value} {base : Heap} (T : Txt K mg) (O_release_of : Ok P w K mg base 2 "release_of" p_release_of (sp_release_of K)) (O_found_for : Ok P w K mg base 4 "found_for" p_found_for (sp_found_for K)) : Ok P w K mg base 5 "answer_resolve" p_answer_resolve (sp_answer_resolve K) := by
  refine Ok.of T.e_answer_resolve T.g_answer_resolve sc_answer_resolve (fun _ _ _ _ _ _ us hl => match us, hl with | [_, _, _], _ => rfl) (fun vs H Q E h => ?_) (fun cdv A outer s H vs Q E hr h => ?_)
  · obtain ⟨B, tg, ad, S, nl, cc, p, vp, a, b, c, rfl, _⟩ := h
    rfl
  · obtain ⟨B, tg, ad, S, nl, cc, p, vp, a, b, c, rfl, I, ok, hc, hv, k⟩ := h
    refine ⟨_, (pss_cons (ps_set (i := 3) sc_answer_resolve.nd rfl (Or.inl rfl) (pe_callO O_release_of (hr.mono (by decide)) (by rfl) (pa_cons (pv 0) (pa_cons (pv 1) (pa_cons (pv 2) pa_nil)))))
      (pss_cons (ps_if (pt_cmpR op_isN (pv 3) pe_non (nomark _))
      (pss_one (ps_ret (pe_lst (pa_cons (pe_gint T.k_UNKNOWN) pa_nil))))
      pss_nil)
      (pss_cons (ps_set (i := 4) sc_answer_resolve.nd rfl (Or.inl rfl) (pe_lst (pa_cons (pe_callB (k_len (K := K) rfl) (by rfl) T.f_len PySem.boot_len (pa_cons (k_fld (K := K) rfl (pv 3) rfl) pa_nil)) pa_nil)))
      (pss_cons (ps_for PassesOwn.never rfl (k_iList (K := K) rfl (k_fld (K := K) rfl (pv 3) rfl)) (pg_name (i := 5) sc_answer_resolve.nd rfl (Or.inl rfl))
      (pss_cons (ps_expr (k_bm (K := K) rfl PySem.F.plainAttrs_list PySem.F.slot_list_append PySem.F.type_list_append mt_append (pv 4) (pa_cons (k_fld (K := K) rfl (pv 5) rfl) pa_nil)))
      (pss_one (ps_expr (k_bm (K := K) rfl PySem.F.plainAttrs_list PySem.F.slot_list_extend PySem.F.type_list_extend (k_extT (K := K) rfl) (pv 4) (pa_cons (pe_callB (k_maxV (K := K) rfl hr rfl) (by rfl) T.f_max (by decide +kernel) (pa_cons (pe_callO O_found_for (hr.mono (by decide)) (by rfl) (pa_cons (pv 0) (pa_cons (pv 5) pa_nil))) pa_nil)) pa_nil))))))
      (pss_one (ps_ret (pv 4))))))), ?_⟩
    obtain ⟨z, hz⟩ := found_ex ad S p ⟨a, b, c⟩
    rw [ans_resolve] at k
    refine q_asg (ev_call (ea_cons (ev_var rfl) (ea_cons (ev_var rfl) (ea_cons (ev_var rfl) ea_nil))) (spv_release_of I ok hc hv hz)) fun H1 e1 => ?_
    refine q_when (et_test (ev_op (ev_var rfl) ev_c rv_isN)) (fun hb H2 e2 => ?_) (fun hb H2 e2 => ?_)
    · have hz0 := of_decide_eq_true hb
      rcases hz with ⟨h1, _⟩ | ⟨j, o, _, _, h3⟩
      · rw [h1] at k
        exact s_retL (el_lst (ea_cons ev_c ea_nil) (by show 1 ≤ 100000; decide)) (RetL.from k (e1.trans e2) rfl)
      · rw [h3] at hz0
        cases hz0
    · have hz0 := of_decide_eq_false hb
      rcases hz with ⟨_, h2⟩ | ⟨j, o, h1, hj, rfl⟩
      · exact absurd h2 hz0
      · rw [h1] at k
        dsimp only at k
        rw [← vis_visN] at k
        obtain ⟨o1, o2, o3, o4⟩ := find_some h1
        obtain ⟨n4, nk, _⟩ := ok.more.on o o1
        have hp := lefts_lt ok.outp hj
        have e12 := e1.trans e2
        have I2 := I.ex e12
        obtain ⟨l, ⟨as, ha1, ha2⟩, hle⟩ := (I2.rel_at hp hj).e_ns T (σ := [some (.ref (ad .house)), some (.int (p : Int)), some (.ref vp), some (.ref (ad (.rel p j))), none, none]) (te := tVar 3) (ev_var rfl)
        refine q_asgL (el_lst (ea_cons (ev_len hle (sq_of (I2.bh _ _ ha1))) ea_nil) (by show 1 ≤ 100000; decide)) fun q H3 hq e3 h3 => ?_
        have e13 := e12.trans e3
        have I3 := I.ex e13
        obtain ⟨l', ⟨as', hb1, hb2⟩, hle'⟩ := (I3.rel_at hp hj).e_ns T (σ := [some (.ref (ad .house)), some (.int (p : Int)), some (.ref vp), some (.ref (ad (.rel p j))), some (.ref q), none]) (te := tVar 3) (ev_var rfl)
        have hqH : H q = none := fresh_back e12 hq
        refine q_forLn (K := K) (a := l') (xs := as'.map V.ref) hle' (sq_of (I3.bh _ _ hb1)) (fun i σ' H' => ∃ last : Option V, σ' = [some (.ref (ad .house)), some (.int (p : Int)), some (.ref vp), some (.ref (ad (.rel p j))), some (.ref q), last] ∧ Ex H H' ∧ H' q = some (.lst (visN (o.needs.length :: resT S (o.needs.take i))))) ?_ ?_ ?_ ?_
        · intro H4 e4
          refine ⟨none, rfl, e13.trans e4, ?_⟩
          rw [e4 _ _ h3, List.length_map, ha2.len] <;> rfl
        · rintro i σ' H' _ ⟨_, _, e, _⟩
          exact sq_of ((I.ex e).bh _ _ hb1)
        · rintro i x σ' H' hx ⟨last, rfl, e, hq'⟩
          rw [List.getElem?_map] at hx
          cases ea : as'[i]? with
          | none =>
            rw [ea] at hx
            cases hx
          | some na =>
            rw [ea] at hx
            have ex : x = V.ref na := (Option.some.inj hx).symm
            subst ex
            obtain ⟨n, hn, hna⟩ := hb2.getL ea
            have hnm := List.mem_of_getElem? hn
            have Ie := I.ex e
            have hlen : (o.needs.length :: resT S (o.needs.take i)).length ≤ 40 := by
              have := resT_len S (o.needs.take i)
              rw [List.length_take] at this
              rw [List.length_cons]
              omega
            refine q_app hq' (ev_var rfl) ((hna.mono Ie.bh).e_on T (ev_var rfl)) (by rw [visN_len]; omega) fun H5 e5 => ?_
            have e6 : Ex H (upd H5 q (.lst (visN (o.needs.length :: resT S (o.needs.take i)) ++ [.int (n.on : Int)]))) := Ex.mut (e.trans e5) hqH
            have I6 := I.ex e6
            obtain ⟨y, ys, hf, htop⟩ := top_found ok.more o1 o4 hnm
            have hfx : EvX (tCall (sp_found_for K) [] E0 (tCons (tVar 0) (tCons (tVar 5) tNil))) [some (.ref (ad .house)), some (.int (p : Int)), some (.ref vp), some (.ref (ad (.rel p j))), some (.ref q), some (.ref na)] (upd H5 q (.lst (visN (o.needs.length :: resT S (o.needs.take i)) ++ [.int (n.on : Int)]))) (VersIs K (verL y :: ys.map verL)) := by
              have := evx_call (E := E0) (σ := [some (.ref (ad .house)), some (.int (p : Int)), some (.ref vp), some (.ref (ad (.rel p j))), some (.ref q), some (.ref na)]) (ta := tCons (tVar 0) (tCons (tVar 5) tNil)) (ea_cons (ev_var rfl) (ea_cons (ev_var rfl) ea_nil)) (spx_found_for I6 ok hc (hna.mono I6.bh) (nk n hnm).2)
              rw [hf] at this
              exact this
            refine s_extTX (ns := verL (Rp09.top (foundL S n) n.from_)) upd_same (ev_var rfl) (evx_imp (evx_maxX hfx) fun v H' h => ?_) (by rw [List.length_append, visN_len, List.length_singleton]; show _ + 3 ≤ _; omega) fun H7 e7 => ?_
            · rw [maxL_verL, ← htop] at h
              exact h
            · refine ⟨_, rfl, Ex.mut (e6.trans e7) hqH, ?_⟩
              rw [upd_same, take_next hn]
              have er : resT S (o.needs.take i ++ [n]) = resT S (o.needs.take i) ++ (n.on :: Rp09.numbers (Rp09.top (foundL S n) n.from_)) := by
                unfold resT
                rw [List.flatMap_append, List.flatMap_singleton]
              rw [er]
              show some (HO.lst (visN (o.needs.length :: resT S (o.needs.take i)) ++ visN [n.on] ++ visN (Rp09.numbers (Rp09.top (foundL S n) n.from_)))) = _
              rw [← visN_app, ← visN_app, List.append_assoc] <;> rfl
        · rintro σ' H' ⟨last, rfl, e, hq'⟩
          refine s_ret (ev_var rfl) fun H4 e4 => k q H4 hqH (e.trans e4) ?_
          rw [List.length_map, hb2.len, List.take_length] at hq'
          exact e4 _ _ hq'
/-! ### release_told, answer_log -/
def relT (o : Rp09.Out) : List Nat := Rp09.numbers o.version ++ ((if o.gone = true then 1 else 0) :: o.notes.length :: o.notes)
def sp_release_told (K : PySem.W.Frag) : Sp := fun vs H Q _ => ∃ (B : Hp) (a : Addr) (o : Rp09.Out), vs = [.ref a] ∧ Ex B H ∧ RelAt K B H a o ∧ o.notes.length ≤ 30 ∧ RetL (visN (relT o)) H Q
theorem spl_release_told {K : PySem.W.Frag} {B H : Hp} {a : Addr} {o : Rp09.Out} (hB : Ex B H) (h : RelAt K B H a o) (hl : o.notes.length ≤ 30) : SpL (sp_release_told K) [.ref a] H (visN (relT o)) := fun H1 e Q q E => ⟨B, a, o, rfl, hB.trans e, h.mono (Ex.refl _) e, hl, q⟩
theorem ok_release_told {P : Program} {w : World} {K : PySem.W.Frag} {mg : Str → Option Value} {base : Heap} (T : Txt K mg) : Ok P w K mg base 1 "release_told" p_release_told (sp_release_told K) := by
  refine Ok.of T.e_release_told T.g_release_told sc_release_told (fun _ _ _ _ _ _ us hl => match us, hl with | [_], _ => rfl) (fun vs H Q E h => ?_) (fun cdv A outer s H vs Q E hr h => ?_)
  · obtain ⟨B, a, o, rfl, _⟩ := h
    rfl
  · obtain ⟨B, a, o, rfl, hB, h, hl, k⟩ := h
    refine ⟨_, (pss_cons (ps_set (i := 1) sc_release_told.nd rfl (Or.inl rfl) (pe_callTy (k_list (K := K) rfl) (by rfl) T.f_list (by decide +kernel) (pa_cons (k_fld (K := K) rfl (pv 0) rfl) pa_nil)))
      (pss_cons (ps_expr (k_bm (K := K) rfl PySem.F.plainAttrs_list PySem.F.slot_list_extend PySem.F.type_list_extend mt_extend (pv 1) (pa_cons (pe_lst (pa_cons (pe_ifExp (pt_val (k_fld (K := K) rfl (pv 0) rfl)) pe_int pe_int) (pa_cons (pe_callB (k_len (K := K) rfl) (by rfl) T.f_len PySem.boot_len (pa_cons (k_fld (K := K) rfl (pv 0) rfl) pa_nil)) pa_nil))) pa_nil)))
      (pss_cons (ps_expr (k_bm (K := K) rfl PySem.F.plainAttrs_list PySem.F.slot_list_extend PySem.F.type_list_extend mt_extend (pv 1) (pa_cons (k_fld (K := K) rfl (pv 0) rfl) pa_nil)))
      (pss_one (ps_ret (pv 1)))))), ?_⟩
    obtain ⟨pv, hpv, hpe⟩ := h.e_v T (σ := [some (.ref a), none]) (te := tVar 0) (ev_var rfl)
    refine q_asgL (el_listT hpe (hpv.mono hB).sq) fun q H1 hq e1 h1 => ?_
    have h1' := h.mono (Ex.refl _) e1
    obtain ⟨nt, hnt, hnte⟩ := h1'.e_nt T (σ := [some (.ref a), some (.ref q)]) (te := tVar 0) (ev_var rfl)
    refine q_extL (ys := visN [(if o.gone = true then 1 else 0), o.notes.length]) h1 (ev_var rfl) (el_lst (ea_cons (ev_if (v := .int (((if o.gone = true then 1 else 0) : Nat) : Int)) (et_B (h1'.e_g T (ev_var rfl))) (fun hg => ev_is ev_c (by rw [hg] <;> rfl)) (fun hg => ev_is ev_c (by rw [hg] <;> rfl)))
      (ea_cons (ev_is (ev_len hnte (sq_of ((hB.trans e1) _ _ hnt))) (by rw [visN_len])) ea_nil)) (by show 2 ≤ 100000; decide)) (by show 3 + 2 ≤ 100000; decide) fun H2 e2 => ?_
    have e3 : Ex H (upd H2 q (.lst (vver o.version ++ visN [(if o.gone = true then 1 else 0), o.notes.length]))) := Ex.mut (e1.trans e2) hq
    have h3 := h.mono (Ex.refl _) e3
    obtain ⟨nt', hnt', hnte'⟩ := h3.e_nt T (σ := [some (.ref a), some (.ref q)]) (te := tVar 0) (ev_var rfl)
    refine q_extS upd_same (ev_var rfl) hnte' ((hB.trans e3) _ _ hnt') (by rw [visN_len]; show 3 + 2 + _ ≤ _; omega) fun H4 e4 => ?_
    refine s_ret (ev_var rfl) fun H5 e5 => k q H5 hq ((Ex.mut (e3.trans e4) hq).trans e5) (e5 _ _ ?_)
    rw [upd_same, vver_visN, ← visN_app, ← visN_app, List.append_assoc] <;> rfl
def logT (os : List Rp09.Out) : List Nat := os.flatMap relT
theorem ans_log (S : Rp09.House) (p : Nat) : ansL S (.log p) = if S.tree.length ≤ p then [-2] else ((outs S p).length :: logT (outs S p)).map fun (n : Nat) => (n : Int) := by
  unfold ansL
  rw [log_step]
  by_cases h : S.tree.length ≤ p
  · rw [if_pos h, if_pos h] <;> rfl
  · rw [if_neg h, if_neg h] <;> rfl
theorem relT_len {o : Rp09.Out} (h : o.notes.length ≤ 30) : (relT o).length ≤ 35 := by
  unfold relT
  rw [List.length_append, List.length_cons, List.length_cons]
  show 3 + _ ≤ _
  omega
def sp_answer_log (K : PySem.W.Frag) : Sp := fun vs H Q _ => ∃ (B : Hp) (tg : Addr → Option Tag) (ad : Tag → Addr) (S : Rp09.House) (nl : List Nat) (cc p : Nat), vs = [.ref (ad .house), .int (p : Int)] ∧ HInv K B H tg ad S nl ∧ SOk S nl cc ∧ cc ≤ 60 ∧ RetL (vis (ansL S (.log p))) H Q
theorem ok_answer_log {P : Program} {w : World} {K : PySem.W.Frag} {mg : Str → Option Value} {base : Heap} (T : Txt K mg) (O_release_told : Ok P w K mg base 1 "release_told" p_release_told (sp_release_told K)) : Ok P w K mg base 2 "answer_log" p_answer_log (sp_answer_log K) := by
  refine Ok.of T.e_answer_log T.g_answer_log sc_answer_log (fun _ _ _ _ _ _ us hl => match us, hl with | [_, _], _ => rfl) (fun vs H Q E h => ?_) (fun cdv A outer s H vs Q E hr h => ?_)
  · obtain ⟨B, tg, ad, S, nl, cc, p, rfl, _⟩ := h
    rfl
  · obtain ⟨B, tg, ad, S, nl, cc, p, rfl, I, ok, hc, k⟩ := h
    refine ⟨_, (pss_cons (ps_if (pt_cmpR op_ge (pv 1) (pe_callB (k_len (K := K) rfl) (by rfl) T.f_len PySem.boot_len (pa_cons (k_fld (K := K) rfl (pv 0) rfl) pa_nil)) (nomark _))
      (pss_one (ps_ret (pe_lst (pa_cons (pe_gint T.k_UNKNOWN) pa_nil))))
      pss_nil)
      (pss_cons (ps_set (i := 2) sc_answer_log.nd rfl (Or.inl rfl) (k_fld (K := K) rfl (pe_ix (k_ixL (K := K) rfl) (k_fld (K := K) rfl (pv 0) rfl) (pv 1) (fun _ _ => rfl)) rfl))
      (pss_cons (ps_set (i := 3) sc_answer_log.nd rfl (Or.inl rfl) (pe_lst (pa_cons (pe_callB (k_len (K := K) rfl) (by rfl) T.f_len PySem.boot_len (pa_cons (pv 2) pa_nil)) pa_nil)))
      (pss_cons (ps_for PassesOwn.never rfl (k_iList (K := K) rfl (pv 2)) (pg_name (i := 4) sc_answer_log.nd rfl (Or.inl rfl))
      (pss_one (ps_expr (k_bm (K := K) rfl PySem.F.plainAttrs_list PySem.F.slot_list_extend PySem.F.type_list_extend mt_extend (pv 3) (pa_cons (pe_callO O_release_told (hr.mono (by decide)) (by rfl) (pa_cons (pv 4) pa_nil)) pa_nil)))))
      (pss_one (ps_ret (pv 3))))))), ?_⟩
    rw [ans_log] at k
    refine q_when (et_test (ev_op (ev_var rfl) (I.e_len T (ev_var rfl)) rv_I0)) (fun hb H1 e1 => ?_) (fun hb H1 e1 => ?_)
    · have hp : S.tree.length ≤ p := by have := of_decide_eq_true hb; omega
      rw [if_pos hp] at k
      exact s_retL (el_lst (ea_cons ev_c ea_nil) (by show 1 ≤ 100000; decide)) (RetL.from k e1 rfl)
    · have hp : p < S.tree.length := by have := of_decide_eq_false hb; omega
      rw [if_neg (by omega), ← vis_visN] at k
      have I1 := I.ex e1
      have h60 := outs60 ok hc p
      refine q_asg (I1.e_rels T hp (I1.e_pkg T hp (ev_var rfl) (ev_var rfl))) fun H2 e2 => ?_
      have e12 := e1.trans e2
      have I2 := I.ex e12
      refine q_asgL (el_lst (ea_cons (ev_len (ev_var rfl) (sq_of (I2.rels_at hp))) ea_nil) (by show 1 ≤ 100000; decide)) fun q H3 hq e3 h3 => ?_
      have hqH : H q = none := fresh_back e12 hq
      have I3 := I.ex (e12.trans e3)
      refine q_forLn (K := K) (a := ad (.rels p)) (xs := (List.range (outs S p).length).map fun j => V.ref (ad (.rel p j))) (ev_var rfl) (sq_of (I3.rels_at hp)) (fun i σ' H' => ∃ last : Option V, σ' = [some (.ref (ad .house)), some (.int (p : Int)), some (.ref (ad (.rels p))), some (.ref q), last] ∧ Ex H H' ∧
        H' q = some (.lst (visN ((outs S p).length :: logT ((outs S p).take i))))) ?_ ?_ ?_ ?_
      · intro H4 e4
        refine ⟨none, rfl, (e12.trans e3).trans e4, ?_⟩
        rw [e4 _ _ h3, List.length_map, List.length_range] <;> rfl
      · rintro i σ' H' _ ⟨_, _, e, _⟩
        exact sq_of ((I.ex e).rels_at hp)
      · rintro i x σ' H' hx ⟨last, rfl, e, hq'⟩
        rw [List.getElem?_map] at hx
        have hi : i < (outs S p).length := by
          by_cases z : i < (outs S p).length
          · exact z
          · rw [List.getElem?_eq_none (by rw [List.length_range]; omega)] at hx
            cases hx
        rw [List.getElem?_range hi] at hx
        have ex : x = V.ref (ad (.rel p i)) := (Option.some.inj hx).symm
        subst ex
        have ho := List.getElem?_eq_getElem hi
        generalize (outs S p)[i] = o at ho
        have hn := (ok.more.on o (outs_mem.mp (List.mem_of_getElem? ho)).1).2.2
        have Ie := I.ex e
        have hlen : ((outs S p).length :: logT ((outs S p).take i)).length ≤ 60 * 35 + 1 := by
          have := flatMap_len (f := relT) (m := 35) (l := (outs S p).take i) fun x hx => relT_len (ok.more.on x (outs_mem.mp (List.mem_of_mem_take hx)).1).2.2
          rw [List.length_take] at this
          rw [List.length_cons]
          unfold logT
          omega
        have hl2 := relT_len hn
        refine s_extL (ys := visN (relT o)) hq' (ev_var rfl) (el_call (ea_cons (ev_var rfl) ea_nil) (spl_release_told Ie.bh (Ie.rel_at hp ho) hn)) (by rw [visN_len, visN_len]; omega) fun H5 e5 => ?_
        refine ⟨_, rfl, Ex.mut (e.trans e5) hqH, ?_⟩
        rw [upd_same, take_next ho, ← visN_app]
        unfold logT
        rw [List.flatMap_append, List.flatMap_singleton] <;> rfl
      · rintro σ' H' ⟨last, rfl, e, hq'⟩
        refine s_ret (ev_var rfl) fun H4 e4 => k q H4 hqH (e.trans e4) ?_
        rw [List.length_map, List.length_range, List.take_length] at hq'
        exact e4 _ _ hq'
/-! ### answer_tree -/
def treT (ps : List Package) : List Nat := ps.flatMap fun x => Rp09.numbers x.version ++ [x.notes.length]
theorem ans_tree (S : Rp09.House) : ansL S .tree = (S.tree.length :: treT S.tree).map fun (n : Nat) => (n : Int) := rfl
def sp_answer_tree (K : PySem.W.Frag) : Sp := fun vs H Q _ => ∃ (B : Hp) (tg : Addr → Option Tag) (ad : Tag → Addr) (S : Rp09.House) (nl : List Nat) (cc : Nat), vs = [.ref (ad .house)] ∧ HInv K B H tg ad S nl ∧ SOk S nl cc ∧ RetL (vis (ansL S .tree)) H Q
theorem ok_answer_tree {P : Program} {w : World} {K : PySem.W.Frag} {mg : Str → Option Value} {base : Heap} (T : Txt K mg) : Ok P w K mg base 1 "answer_tree" p_answer_tree (sp_answer_tree K) := by
  refine Ok.of T.e_answer_tree T.g_answer_tree sc_answer_tree (fun _ _ _ _ _ _ us hl => match us, hl with | [_], _ => rfl) (fun vs H Q E h => ?_) (fun cdv A outer s H vs Q E hr h => ?_)
  · obtain ⟨B, tg, ad, S, nl, cc, rfl, _⟩ := h
    rfl
  · obtain ⟨B, tg, ad, S, nl, cc, rfl, I, ok, k⟩ := h
    refine ⟨_, (pss_cons (ps_set (i := 1) sc_answer_tree.nd rfl (Or.inl rfl) (pe_lst (pa_cons (pe_callB (k_len (K := K) rfl) (by rfl) T.f_len PySem.boot_len (pa_cons (k_fld (K := K) rfl (pv 0) rfl) pa_nil)) pa_nil)))
      (pss_cons (ps_for PassesOwn.never rfl (k_iList (K := K) rfl (k_fld (K := K) rfl (pv 0) rfl)) (pg_name (i := 2) sc_answer_tree.nd rfl (Or.inl rfl))
      (pss_cons (ps_expr (k_bm (K := K) rfl PySem.F.plainAttrs_list PySem.F.slot_list_extend PySem.F.type_list_extend (k_extT (K := K) rfl) (pv 1) (pa_cons (k_fld (K := K) rfl (pv 2) rfl) pa_nil)))
      (pss_one (ps_expr (k_bm (K := K) rfl PySem.F.plainAttrs_list PySem.F.slot_list_append PySem.F.type_list_append mt_append (pv 1) (pa_cons (pe_callB (k_len (K := K) rfl) (by rfl) T.f_len PySem.boot_len (pa_cons (k_fld (K := K) rfl (pv 2) rfl) pa_nil)) pa_nil))))))
      (pss_one (ps_ret (pv 1))))), ?_⟩
    rw [ans_tree, ← vis_visN] at k
    have h6 := ok.tree.len
    refine q_asgL (el_lst (ea_cons (I.e_len T (ev_var rfl)) ea_nil) (by show 1 ≤ 100000; decide)) fun q H1 hq e1 h1 => ?_
    have I1 := I.ex e1
    refine q_forLn (K := K) (a := ad .pkgs) (xs := (List.range S.tree.length).map fun i => V.ref (ad (.pkg i))) (I1.e_pk T (ev_var rfl)) (sq_of I1.pk_at) (fun i σ' H' => ∃ last : Option V, σ' = [some (.ref (ad .house)), some (.ref q), last] ∧ Ex H H' ∧ H' q = some (.lst (visN (S.tree.length :: treT (S.tree.take i))))) ?_ ?_ ?_ ?_
    · intro H2 e2
      exact ⟨none, rfl, e1.trans e2, e2 _ _ h1⟩
    · rintro i σ' H' _ ⟨_, _, e, _⟩
      exact sq_of (I.ex e).pk_at
    · rintro i x σ' H' hx ⟨last, rfl, e, hq'⟩
      rw [List.getElem?_map] at hx
      have hi : i < S.tree.length := by
        by_cases z : i < S.tree.length
        · exact z
        · rw [List.getElem?_eq_none (by rw [List.length_range]; omega)] at hx
          cases hx
      rw [List.getElem?_range hi] at hx
      have ex : x = V.ref (ad (.pkg i)) := (Option.some.inj hx).symm
      subst ex
      have Ie := I.ex e
      have hlen : (S.tree.length :: treT (S.tree.take i)).length ≤ 6 * 4 + 1 := by
        have := flatMap_len (f := fun x : Package => Rp09.numbers x.version ++ [x.notes.length]) (m := 4) (l := S.tree.take i) fun x _ => Nat.le_refl 4
        rw [List.length_take] at this
        rw [List.length_cons]
        unfold treT
        omega
      obtain ⟨va, hva, hvae⟩ := Ie.e_ver T hi (σ := [some (.ref (ad .house)), some (.ref q), some (.ref (ad (.pkg i)))]) (te := tVar 2) (ev_var rfl)
      refine q_extT hq' (ev_var rfl) hvae (hva.mono Ie.bh).sq (by rw [visN_len]; show _ + 3 ≤ _; omega) fun H2 e2 => ?_
      have e3 : Ex H (upd H2 q (.lst (visN (S.tree.length :: treT (S.tree.take i)) ++ vver (Rp09.at_ S.tree i).version))) := Ex.mut (e.trans e2) hq
      have I3 := I.ex e3
      refine s_app upd_same (ev_var rfl) (ev_len (I3.e_wait T hi (ev_var rfl)) (sq_of (I3.wait_at hi))) (by rw [List.length_append, visN_len]; show _ + 3 < _; omega) fun H4 e4 => ?_
      refine ⟨_, rfl, Ex.mut (e3.trans e4) hq, ?_⟩
      rw [upd_same, take_next (at_getElem hi), visN_len, List.length_map]
      have er : treT (S.tree.take i ++ [Rp09.at_ S.tree i]) = treT (S.tree.take i) ++ (Rp09.numbers (Rp09.at_ S.tree i).version ++ [(Rp09.at_ S.tree i).notes.length]) := by
        unfold treT
        rw [List.flatMap_append, List.flatMap_singleton]
      rw [er]
      show some (HO.lst (visN (S.tree.length :: treT (S.tree.take i)) ++ visN (Rp09.numbers (Rp09.at_ S.tree i).version) ++ visN [(Rp09.at_ S.tree i).notes.length])) = _
      rw [← visN_app, ← visN_app, List.append_assoc] <;> rfl
    · rintro σ' H' ⟨last, rfl, e, hq'⟩
      refine s_ret (ev_var rfl) fun H4 e4 => k q H4 hq (e.trans e4) ?_
      rw [List.length_map, List.length_range, List.take_length] at hq'
      exact e4 _ _ hq'
/-! ### answer_drop -/
def sp_answer_drop (K : PySem.W.Frag) : Sp := fun vs H Q _ => ∃ (B : Hp) (tg : Addr → Option Tag) (ad : Tag → Addr) (S : Rp09.House) (nl : List Nat) (c : Nat), vs = [.ref (ad .house)] ∧ HInv K B H tg ad S nl ∧ SOk S nl c ∧ Done K c B H tg ad (Rp09.step S .drop).1 (ansL S .drop) Q
theorem HInv.plan_set {K : PySem.W.Frag} {B H : Hp} {tg : Addr → Option Tag} {ad : Tag → Addr} {S : Rp09.House} {nl : List Nat} {dx : Addr} {v : V} {pl : List Stp} (I : HInv K B H tg ad S nl) (hx : StepsRep K pl v B) :
    HInv K B (upd H (ad .house) (.ins (He.ga K "House") dx (fs_House [.ref (ad .pkgs), .ref (ad .notes), v]))) tg ad { S with plan := pl } nl := I.set (S' := { S with plan := pl }) (nl' := nl) (t0 := .house) trivial (fun t h => by cases t <;> exact h) ⟨dx, v, rfl, hx⟩ (fun t o hne _ h => by
        cases t with
        | house => exact absurd rfl hne
        | _ => exact h)
theorem ok_answer_drop {P : Program} {w : World} {K : PySem.W.Frag} {mg : Str → Option Value} {base : Heap} (T : Txt K mg) : Ok P w K mg base 1 "answer_drop" p_answer_drop (sp_answer_drop K) := by
  refine Ok.of T.e_answer_drop T.g_answer_drop sc_answer_drop (fun _ _ _ _ _ _ us hl => match us, hl with | [_], _ => rfl) (fun vs H Q E h => ?_) (fun cdv A outer s H vs Q E hr h => ?_)
  · obtain ⟨B, tg, ad, S, nl, c, rfl, _⟩ := h
    rfl
  · obtain ⟨B, tg, ad, S, nl, c, rfl, I, ok, k⟩ := h
    refine ⟨_, (pss_cons (ps_if (pt_cmpR op_eq (pe_callB (k_len (K := K) rfl) (by rfl) T.f_len PySem.boot_len (pa_cons (k_fld (K := K) rfl (pv 0) rfl) pa_nil)) pe_int (nomark _))
      (pss_one (ps_ret (pe_lst (pa_cons (pe_gint T.k_WRONG_TIME) pa_nil))))
      pss_nil)
      (pss_cons (ps_setLc (i := 1) (own := [("step", 2)]) (g := gName 2) (by rfl) sc_answer_drop.nd rfl rfl (sw_true rfl rfl rfl (by decide +kernel)) (k_iList (K := K) rfl (k_fld (K := K) rfl (pv 0) rfl)) (blkOk_by (own := [("step", 2)]) (N := n_answer_drop) (sc := defScope s_answer_drop) (by decide +kernel)) (fun _ _ _ _ _ => pg_name (i := 2) sc_answer_drop.nd rfl (Or.inl rfl)) (fun _ _ _ _ _ => pts_nil) (fun _ _ _ _ _ => (k_fld (K := K) rfl (pv 2) rfl)))
      (pss_cons (k_put (K := K) rfl (pv 0) (pe_lst pa_nil) rfl)
      (pss_one (ps_ret (pe_op op_cat (pe_lst (pa_cons (pe_callB (k_len (K := K) rfl) (by rfl) T.f_len PySem.boot_len (pa_cons (pv 1) pa_nil)) pa_nil)) (pv 1))))))), ?_⟩
    unfold ansL at k
    rw [drop_step] at k
    refine q_when (et_test (ev_eqI (I.hp.e_plen I.bh T (ev_var rfl)) ev_c)) (fun hb H1 e1 => ?_) (fun hb H1 e1 => ?_)
    · have hp : S.plan = [] := List.eq_nil_of_length_eq_zero (by have := of_decide_eq_true hb; omega)
      rw [if_pos hp] at k
      exact s_retL (el_lst (ea_cons ev_c ea_nil) (by show 1 ≤ 100000; decide)) (RetL.from (Done.same k I ok) e1 rfl)
    · have hp : ¬ S.plan = [] := fun z => of_decide_eq_false hb (by rw [z] <;> rfl)
      rw [if_neg hp] at k
      have I1 := I.ex e1
      obtain ⟨oh, h1, dx, pv, rfl, h2⟩ := I1.c .house trivial
      have hstp := h2
      obtain ⟨pp, ws, rfl, g1, g2⟩ := h2
      refine q_asgL (xs := visN (S.plan.map fun s => s.pkg)) ?_ fun r H2 hr2 e2 hr3 => ?_
      · rw [visN_map]
        refine el_lcM (ds := S.plan) _ g2.len (ev_fld (ev_var rfl) h1 T.cl_House T.na_House_plan (lk_House_plan _ _ _)) (sq_of (I1.bh _ _ g1)) (by rw [g2.len]; have := ok.plan.1; omega) (fun _ => rfl) ?_
        intro j x d H2 e2 hx hd
        obtain ⟨d', hd', hr'⟩ := g2.getL hx
        rw [hd] at hd'
        cases hd'
        exact (hr'.mono (I1.bh.trans e2)).e_pkg T (ev_var rfl)
      · have I2 := I1.ex e2
        refine q_putR I2.bh (evr_ofL I2.bh (el_lst ea_nil (by decide))) (ev_var rfl) (e2 _ _ h1) T.cl_House T.na_House_plan (by show 3 < 1000; decide) fun v B3 H3 g3 hx => ?_
        obtain ⟨ep, rfl, hep⟩ := hx
        rw [pt_House_plan]
        have I3 := (I2.gr g3).plan_set (dx := dx) (v := .ref ep) (pl := []) ⟨ep, [], rfl, hep, .nil⟩
        have nrh : r ≠ ad .house := fun z => by
          rw [z, h1] at hr2
          cases hr2
        have hr4 : (upd H3 (ad .house) (.ins (He.ga K "House") dx (fs_House [.ref (ad .pkgs), .ref (ad .notes), .ref ep]))) r = some (.lst (visN (S.plan.map fun s => s.pkg))) := by
          rw [upd_ne nrh]
          exact g3.h _ _ hr3
        have e03 := (e1.trans e2).trans g3.h
        refine s_retCat (el_lst (ea_cons (ev_len (ev_var rfl) (sq_of hr4)) ea_nil) (by show 1 ≤ 100000; decide)) (ev_var rfl) hr4 (by rw [visN_len, List.length_map]; have := ok.plan.1; show 1 + _ ≤ _; omega) fun q H5 hq e5 h5 => ?_
        refine k q B3 H5 tg ad nl (upd_fresh e03 hq) ?_ (I3.ex e5) (drop_ok ok) ⟨g3.b, fun x o h => ?_, fun x o hx hn => e5 _ _ (upd_keep e03 (I.tag .house trivial) x o hx hn), fun _ _ _ h => h, rfl⟩
        · rw [h5, visN_len, List.length_map]
          show some (HO.lst (visN (S.plan.length :: S.plan.map fun s => s.pkg))) = _
          rw [vis_visN] <;> rfl
        · rcases g3.n x o h with z | z
          · exact .inl z
          · exact .inr (fresh_back (e1.trans e2) z)
end Tg
namespace Tg
open PySem PySem.Spec PyProof.Rows L2 Evl
open Rp09 (Version Need Package)
/-! ### a step's version is out: a new release, a new list of what waits -/
def adOut (ad : Tag → Addr) (p n : Nat) (w x : Addr) : Tag → Addr := fun t => if t = .wait p then w else if t = .rel p n then x else ad t
def tgOut (tg : Addr → Option Tag) (p n : Nat) (w x : Addr) : Addr → Option Tag := fun b => if b = w then some (.wait p) else if b = x then some (.rel p n) else tg b
theorem HInv.out {K : PySem.W.Frag} {B H H' : Hp} {tg : Addr → Option Tag} {ad : Tag → Addr} {S : Rp09.House} {nl : List Nat} {p : Nat} {s : Stp} {dx d va na nt w x : Addr} (I : HInv K B H tg ad S nl) (hp : p < S.tree.length) (fw : H w = none) (fx : H x = none) (nwx : w ≠ x)
    (keep : ∀ a o, H a = some o → a ≠ ad (.pkg p) → a ≠ ad (.rels p) → H' a = some o)
    (hpk : H' (ad (.pkg p)) = some (.ins (He.ga K "Package") dx (fs_Package [.ref va, .int ((Rp09.at_ S.tree p).group : Int), .ref na, .ref w, .ref (ad (.rels p))])))
    (hrl : H' (ad (.rels p)) = some (.lst ((List.range (outs S p).length).map (fun j => V.ref (ad (.rel p j))) ++ [.ref x])))
    (hx : H' x = some (.ins (He.ga K "Release") d (fs_Release [.ref va, .ref na, .ref nt, .bl false])))
    (hw : H' w = some (.lst (visN (((Rp09.at_ S.tree p).notes.filter fun y => !s.notes.contains y.1).map fun y => y.1))))
    (hva : VerAt B va s.version) (hna : NeedsAt K B na s.needs) (hnt : B nt = some (.lst (visN s.notes))) :
    HInv K B H' (tgOut tg p (outs S p).length w x) (adOut ad p (outs S p).length w x) (outKeep S p s) nl := by
  have hl : (outKeep S p s).tree.length = S.tree.length := by
    show (S.tree.set p _).length = _
    exact List.length_set ..
  have anyAt : ∀ {t : Tag}, Valid S t → H (ad t) ≠ none := fun {t} h z => by
    obtain ⟨o, h1, _⟩ := I.c t h
    rw [z] at h1
    cases h1
  have ado : ∀ {t : Tag}, Valid S t → t ≠ .wait p → adOut ad p (outs S p).length w x t = ad t := fun {t} h h2 => by
    unfold adOut
    rw [if_neg h2, if_neg (fun z => by subst z; exact Nat.lt_irrefl _ h.2)]
  have e1 : adOut ad p (outs S p).length w x (.wait p) = w := if_pos rfl
  have e2 : adOut ad p (outs S p).length w x (.rel p (outs S p).length) = x := by
    unfold adOut
    rw [if_neg (fun z => by cases z), if_pos rfl]
  have g1 : tgOut tg p (outs S p).length w x w = some (.wait p) := if_pos rfl
  have g2 : tgOut tg p (outs S p).length w x x = some (.rel p (outs S p).length) := by
    unfold tgOut
    rw [if_neg (fun z => nwx z.symm), if_pos rfl]
  have tgo : ∀ {b : Addr}, H b ≠ none → tgOut tg p (outs S p).length w x b = tg b := fun {b} h => by
    unfold tgOut
    rw [if_neg (fun z => by rw [z] at h; exact h fw), if_neg (fun z => by rw [z] at h; exact h fx)]
  have split : ∀ t, Valid (outKeep S p s) t → (Valid S t ∧ t ≠ .wait p) ∨ t = .wait p ∨ t = .rel p (outs S p).length := fun t h => by
    cases t with
    | house => exact .inl ⟨trivial, fun z => by cases z⟩
    | pkgs => exact .inl ⟨trivial, fun z => by cases z⟩
    | notes => exact .inl ⟨trivial, fun z => by cases z⟩
    | pkg i => exact .inl ⟨Nat.lt_of_lt_of_eq h hl, fun z => by cases z⟩
    | wait i =>
      by_cases c : i = p
      · exact .inr (.inl (by rw [c]))
      · exact .inl ⟨Nat.lt_of_lt_of_eq h hl, fun z => c (Tag.wait.inj z)⟩
    | rels i => exact .inl ⟨Nat.lt_of_lt_of_eq h hl, fun z => by cases z⟩
    | rel i j =>
      have h2 := h.2
      by_cases c : i = p
      · subst c
        rw [outs_out_eq, List.length_append, List.length_singleton] at h2
        by_cases c2 : j < (outs S i).length
        · exact .inl ⟨⟨hp, c2⟩, fun z => by cases z⟩
        · exact .inr (.inr (by rw [show j = (outs S i).length by omega]))
      · rw [outs_out_ne c] at h2
        exact .inl ⟨⟨Nat.lt_of_lt_of_eq h.1 hl, h2⟩, fun z => by cases z⟩
  have tne : ∀ {t u : Tag}, Valid S t → Valid S u → t ≠ u → ad t ≠ ad u := fun {t u} h1 h2 hne z => by
    have q1 := I.tag t h1
    rw [z, I.tag u h2] at q1
    exact hne (Option.some.inj q1).symm
  have vpk : Valid S (.pkg p) := hp
  have vrl : Valid S (.rels p) := hp
  refine ⟨fun t ht => ?_, fun t ht => ?_, fun b o hb => ?_, fun b o hb => ?_, fun b t hb => ?_⟩
  · rcases split t ht with ⟨h, hne⟩ | rfl | rfl
    · rw [ado h hne]
      by_cases c1 : t = .pkg p
      · subst c1
        refine ⟨_, hpk, ?_⟩
        have ea : Rp09.at_ (outKeep S p s).tree p = ⟨s.version, (Rp09.at_ S.tree p).group, s.needs, (Rp09.at_ S.tree p).notes.filter fun x => !s.notes.contains x.1⟩ := at_set_eq hp
        refine ⟨dx, va, na, ?_, by rw [ea]; exact hva, by rw [ea]; exact hna⟩
        rw [e1, ado vrl (fun z => by cases z), ea]
      · by_cases c2 : t = .rels p
        · subst c2
          refine ⟨_, hrl, ?_⟩
          show _ = HO.lst ((List.range (outs (outKeep S p s) p).length).map fun j => V.ref (adOut ad p (outs S p).length w x (.rel p j)))
          rw [outs_out_eq, List.length_append, List.length_singleton, List.range_succ, List.map_append]
          congr 2
          · apply List.map_congr_left
            intro j hj
            rw [ado (show Valid S (.rel p j) from ⟨hp, List.mem_range.mp hj⟩) (fun z => by cases z)]
          · show [V.ref x] = [V.ref (adOut ad p (outs S p).length w x (.rel p (outs S p).length))]
            rw [e2]
        · obtain ⟨o, h1, h2⟩ := I.c t h
          refine ⟨o, keep _ _ h1 (tne h vpk c1) (tne h vrl c2), ?_⟩
          cases t with
          | house =>
            obtain ⟨dx', pv, w1, w2⟩ := h2
            refine ⟨dx', pv, ?_, w2⟩
            rw [ado (show Valid S .pkgs from trivial) (fun z => by cases z), ado (show Valid S .notes from trivial) (fun z => by cases z)]
            exact w1
          | pkgs =>
            show o = HO.lst ((List.range (outKeep S p s).tree.length).map fun i => V.ref (adOut ad p (outs S p).length w x (.pkg i)))
            rw [hl]
            have h2' : o = HO.lst ((List.range S.tree.length).map fun i => V.ref (ad (.pkg i))) := h2
            rw [h2']
            congr 1
          | notes => exact h2
          | pkg i =>
            have hip : i ≠ p := fun z => c1 (by rw [z])
            obtain ⟨dx', va', na', w1, w2, w3⟩ := h2
            have ea : Rp09.at_ (outKeep S p s).tree i = Rp09.at_ S.tree i := at_set_ne hip
            refine ⟨dx', va', na', ?_, by rw [ea]; exact w2, by rw [ea]; exact w3⟩
            rw [ado (show Valid S (.wait i) from h) (fun z => hip (Tag.wait.inj z)), ado (show Valid S (.rels i) from h) (fun z => by cases z), ea]
            exact w1
          | wait i =>
            have hip : i ≠ p := fun z => hne (by rw [z])
            have ea : Rp09.at_ (outKeep S p s).tree i = Rp09.at_ S.tree i := at_set_ne hip
            show o = _
            rw [ea]
            exact h2
          | rels i =>
            have hip : i ≠ p := fun z => c2 (by rw [z])
            show o = HO.lst ((List.range (outs (outKeep S p s) i).length).map fun j => V.ref (adOut ad p (outs S p).length w x (.rel i j)))
            rw [outs_out_ne hip]
            have h2' : o = HO.lst ((List.range (outs S i).length).map fun j => V.ref (ad (.rel i j))) := h2
            rw [h2']
            congr 1
            apply List.map_congr_left
            intro j hj
            rw [ado (show Valid S (.rel i j) from ⟨h, List.mem_range.mp hj⟩) (fun z => by cases z)]
          | rel i j =>
            intro q hq
            refine h2 q ?_
            by_cases c : i = p
            · subst c
              rw [outs_out_eq, List.getElem?_append_left h.2] at hq
              exact hq
            · rw [outs_out_ne c] at hq
              exact hq
    · rw [e1]
      refine ⟨_, hw, ?_⟩
      have ea : Rp09.at_ (outKeep S p s).tree p = ⟨s.version, (Rp09.at_ S.tree p).group, s.needs, (Rp09.at_ S.tree p).notes.filter fun x => !s.notes.contains x.1⟩ := at_set_eq hp
      show _ = HO.lst (visN ((Rp09.at_ (outKeep S p s).tree p).notes.map fun y => y.1))
      rw [ea]
    · rw [e2]
      refine ⟨_, hx, ?_⟩
      intro q hq
      rw [outs_out_eq, List.getElem?_append_right (Nat.le_refl _), Nat.sub_self] at hq
      have hq : (⟨p, s.version, s.needs, s.notes, false⟩ : Rp09.Out) = q := Option.some.inj hq
      subst hq
      exact ⟨d, va, na, nt, rfl, hva, hna, hnt⟩
  · rcases split t ht with ⟨h, hne⟩ | rfl | rfl
    · rw [ado h hne, tgo (anyAt h)]
      exact I.tag t h
    · rw [e1]
      exact g1
    · rw [e2]
      exact g2
  · rw [tgo (by rw [I.bh _ _ hb]; exact fun z => by cases z)]
    exact I.im b o hb
  · have ht := I.im b o hb
    refine keep b o (I.bh _ _ hb) (fun z => ?_) (fun z => ?_)
    · rw [z, I.tag _ vpk] at ht
      cases ht
    · rw [z, I.tag _ vrl] at ht
      cases ht
  · by_cases c1 : b = w
    · rw [c1]
      exact ⟨_, hw⟩
    · by_cases c2 : b = x
      · rw [c2]
        exact ⟨_, hx⟩
      · unfold tgOut at hb
        rw [if_neg c1, if_neg c2] at hb
        obtain ⟨o, ho⟩ := I.live b t hb
        by_cases c3 : b = ad (.pkg p)
        · rw [c3]
          exact ⟨_, hpk⟩
        · by_cases c4 : b = ad (.rels p)
          · rw [c4]
            exact ⟨_, hrl⟩
          · exact ⟨o, keep b o ho c3 c4⟩
/-! ### give_out -/
theorem q_appR {K : PySem.W.Frag} {σ : L2.St} {B H : Hp} {ta te : TE} {D : Ends} {tz : TS} {R : Rep} {l : Addr} {xs : List V} (hl : H l = some (.lst xs)) (ha : Ev ta σ H (.ref l)) (h : EvR te σ B H R) (hz : xs.length < 100000) (k : ∀ v B1 H1, Gr B H B1 H1 → R v B1 → tz D σ (upd H1 l (.lst (xs ++ [v])))) :
    tSeq (tDrop (tBM K "list" rAppend ta (tCons te tNil))) tz D σ H := ha H (Ex.refl H) _ fun H1 e1 =>
  ⟨Or.inl ⟨rfl, xs, sq_of (e1 l _ hl)⟩, h H1 e1 _ fun v B1 H2 g hv => ⟨l, xs, v, rfl, rfl, g.h l _ (e1 l _ hl), sz_lt hz, k v B1 H2 (Gr.of e1 g) hv⟩⟩
theorem q_call {sp : Sp} {σ : L2.St} {H : Hp} {D : Ends} {tz : TS} {E : XK} {ta : TA} {vs : List V} (h : EvA ta σ H vs) (k : ∀ H1, Ex H H1 → sp (vs ++ []) H1 (fun _ H2 => tz D σ H2) E) : tSeq (tDrop (tCall sp [] E ta)) tz D σ H := h H (Ex.refl H) _ fun H1 e => k H1 e
theorem inV_visN (y : Nat) (l : List Nat) : inV (.int (y : Int)) (visN l) = l.contains y := by
  rw [visN_vis, inV_ints, List.any_map, List.contains_eq_any_beq]
  congr 1
  funext b
  show decide ((b : Int) = (y : Int)) = (y == b)
  by_cases c : b = y
  · subst c
    simp
  · rw [decide_eq_false fun z => c (by omega)]
    exact (beq_false_of_ne fun z => c z.symm).symm
def sp_give_out (K : PySem.W.Frag) : Sp := fun vs H Q _ => ∃ (pa dx r0 w0 sa ds nt : Addr) (v0 g n0 pk lv vv nn : V) (rs : List V) (ns sn : List Nat), vs = [.ref pa, .ref sa] ∧ H pa = some (.ins (He.ga K "Package") dx (fs_Package [v0, g, n0, .ref w0, .ref r0])) ∧ H r0 = some (.lst rs) ∧ H w0 = some (.lst (visN ns)) ∧
  H sa = some (.ins (He.ga K "Step") ds (fs_Step [pk, lv, vv, nn, .ref nt])) ∧ H nt = some (.lst (visN sn)) ∧ r0 ≠ w0 ∧ r0 ≠ nt ∧ pa ≠ sa ∧ rs.length ≤ 1000 ∧ ns.length ≤ 1000 ∧
  ∀ (H' : Hp) (x d w : Addr), H x = none → H w = none → w ≠ x → (∀ a o, H a = some o → a ≠ pa → a ≠ r0 → H' a = some o) → H' pa = some (.ins (He.ga K "Package") dx (fs_Package [vv, g, nn, .ref w, .ref r0])) → H' r0 = some (.lst (rs ++ [.ref x])) →
    H' x = some (.ins (He.ga K "Release") d (fs_Release [vv, nn, .ref nt, .bl false])) → H' w = some (.lst (visN (ns.filter fun y => !sn.contains y))) → Q .non H'
theorem ok_give_out {P : Program} {w : World} {K : PySem.W.Frag} {mg : Str → Option Value} {base : Heap} (T : Txt K mg) (O_Release : OkC P w K mg base 1 "Release" p_Release_init (spi_Release K)) : Ok P w K mg base 3 "give_out" p_give_out (sp_give_out K) := by
  refine Ok.of T.e_give_out T.g_give_out sc_give_out (fun _ _ _ _ _ _ us hl => match us, hl with | [_, _], _ => rfl) (fun vs H Q E h => ?_) (fun cdv A outer s H vs Q E hr h => ?_)
  · obtain ⟨pa, dx, r0, w0, sa, ds, nt, v0, g, n0, pk, lv, vv, nn, rs, ns, sn, rfl, _⟩ := h
    rfl
  · obtain ⟨pa, dx, r0, w0, sa, ds, nt, v0, g, n0, pk, lv, vv, nn, rs, ns, sn, rfl, hpa, hr0, hw0, hsa, hnt, nrw, nrn, nps, hrl, hnl, k⟩ := h
    refine ⟨_, (pss_cons (ps_expr (k_bm (K := K) rfl PySem.F.plainAttrs_list PySem.F.slot_list_append PySem.F.type_list_append mt_append (k_fld (K := K) rfl (pv 0) rfl) (pa_cons (k_make (K := K) rfl O_Release (hr.mono (by decide)) (by rfl) (pa_cons (k_fld (K := K) rfl (pv 1) rfl) (pa_cons (k_fld (K := K) rfl (pv 1) rfl) (pa_cons (k_fld (K := K) rfl (pv 1) rfl) pa_nil)))) pa_nil)))
      (pss_cons (k_put (K := K) rfl (pv 0) (k_fld (K := K) rfl (pv 1) rfl) rfl)
      (pss_cons (k_put (K := K) rfl (pv 0) (k_fld (K := K) rfl (pv 1) rfl) rfl)
      (pss_one (k_put (K := K) rfl (pv 0) (pe_lc (own := [("note", 2)]) (g := gName 2) (by rfl) sc_give_out.nd (k_iList (K := K) rfl (k_fld (K := K) rfl (pv 0) rfl)) (blkOk_by (own := [("note", 2)]) (N := n_give_out) (sc := defScope s_give_out) (by decide +kernel)) (fun _ _ _ _ _ => pg_name (i := 2) sc_give_out.nd rfl (Or.inl rfl)) (fun _ _ _ _ _ => (pts_one (pt_cmpR (k_notIn (K := K) rfl) (pv 2) (k_fld (K := K) rfl (pv 1) rfl) (by rfl)))) (fun _ _ _ _ _ => (pv 2))) rfl))))), ?_⟩
    have npr : pa ≠ r0 := fun z => by rw [z, hr0] at hpa; cases hpa
    have npw : pa ≠ w0 := fun z => by rw [z, hw0] at hpa; cases hpa
    have npn : pa ≠ nt := fun z => by rw [z, hnt] at hpa; cases hpa
    have nsr : sa ≠ r0 := fun z => by rw [z, hr0] at hsa; cases hsa
    have hB0 : Ex (fun _ => none) H := fun a o h => by cases h
    have fS : ∀ {f : Str} {v : V} {G : Hp}, G sa = some (.ins (He.ga K "Step") ds (fs_Step [pk, lv, vv, nn, .ref nt])) → NoAttr K (He.ga K "Step") f → (fs_Step [pk, lv, vv, nn, .ref nt]).lookup f = some v → Ev (tFld K (tVar 1) f) [some (.ref pa), some (.ref sa), none] G v := fun {f v G} h n l => ev_fld (ev_var rfl) h T.cl_Step n l
    have eV := fS hsa T.na_Step_version (lk_Step_version pk lv vv nn (.ref nt))
    have eN := fS hsa T.na_Step_needs (lk_Step_needs pk lv vv nn (.ref nt))
    have eT := fS hsa T.na_Step_notes (lk_Step_notes pk lv vv nn (.ref nt))
    refine q_appR (B := fun _ => none) hr0 (ev_fld (ev_var rfl) hpa T.cl_Package T.na_Package_releases (lk_Package_releases _ _ _ _ _)) (evr_make (RA := fun vs _ => vs = [vv, nn, .ref nt]) (ear_consV hB0 eV (ear_consV hB0 eN (ear_consV hB0 eT (ear_end hB0 rfl)))) (fun _ _ _ _ h => h) (fun vs _ h => by rw [h] <;> rfl)) (by omega) ?_
    rintro v B1 H1 g1 ⟨x, d, vs, rfl, hx, rfl⟩
    have hxH : H x = none := by
      rcases g1.n x _ hx with z | z
      · cases z
      · exact z
    have hx1 : H1 x = some (.ins (He.ga K "Release") d (fs_Release [vv, nn, .ref nt, .bl false])) := g1.s _ _ hx
    have nxr : x ≠ r0 := fun z => by rw [z, hr0] at hxH; cases hxH
    have nxp : x ≠ pa := fun z => by rw [z, hpa] at hxH; cases hxH
    have k2 : ∀ a o, H a = some o → a ≠ r0 → (upd H1 r0 (.lst (rs ++ [.ref x]))) a = some o := fun a o h n => by
      rw [upd_ne n]
      exact g1.h _ _ h
    have r2 : (upd H1 r0 (.lst (rs ++ [.ref x]))) r0 = some (.lst (rs ++ [.ref x])) := upd_same
    have x2 : (upd H1 r0 (.lst (rs ++ [.ref x]))) x = some (.ins (He.ga K "Release") d (fs_Release [vv, nn, .ref nt, .bl false])) := by
      rw [upd_ne nxr]
      exact hx1
    generalize upd H1 r0 (.lst (rs ++ [.ref x])) = H2 at k2 r2 x2 ⊢
    refine q_put (fS (k2 _ _ hsa nsr) T.na_Step_version (lk_Step_version pk lv vv nn (.ref nt))) (ev_var rfl) (k2 _ _ hpa npr) T.cl_Package T.na_Package_version (by show 5 < 1000; decide) fun H3 e3 => ?_
    rw [pt_Package_version]
    have k4 : ∀ a o, H2 a = some o → a ≠ pa → (upd H3 pa (.ins (He.ga K "Package") dx (fs_Package [vv, g, n0, .ref w0, .ref r0]))) a = some o := fun a o h n => by
      rw [upd_ne n]
      exact e3 _ _ h
    have p4 : (upd H3 pa (.ins (He.ga K "Package") dx (fs_Package [vv, g, n0, .ref w0, .ref r0]))) pa = some (.ins (He.ga K "Package") dx (fs_Package [vv, g, n0, .ref w0, .ref r0])) := upd_same
    generalize upd H3 pa (.ins (He.ga K "Package") dx (fs_Package [vv, g, n0, .ref w0, .ref r0])) = H4 at k4 p4 ⊢
    refine q_put (fS (k4 _ _ (k2 _ _ hsa nsr) (fun z => nps z.symm)) T.na_Step_needs (lk_Step_needs pk lv vv nn (.ref nt))) (ev_var rfl) p4 T.cl_Package T.na_Package_needs (by show 5 < 1000; decide) fun H5 e5 => ?_
    rw [pt_Package_needs]
    have k6 : ∀ a o, H2 a = some o → a ≠ pa → (upd H5 pa (.ins (He.ga K "Package") dx (fs_Package [vv, g, nn, .ref w0, .ref r0]))) a = some o := fun a o h n => by
      rw [upd_ne n]
      exact e5 _ _ (k4 _ _ h n)
    have p6 : (upd H5 pa (.ins (He.ga K "Package") dx (fs_Package [vv, g, nn, .ref w0, .ref r0]))) pa = some (.ins (He.ga K "Package") dx (fs_Package [vv, g, nn, .ref w0, .ref r0])) := upd_same
    generalize upd H5 pa (.ins (He.ga K "Package") dx (fs_Package [vv, g, nn, .ref w0, .ref r0])) = H6 at k6 p6 ⊢
    have w6 : H6 w0 = some (.lst (visN ns)) := k6 _ _ (k2 _ _ hw0 (fun z => nrw z.symm)) (fun z => npw z.symm)
    have s6 := k6 _ _ (k2 _ _ hsa nsr) (fun z => nps z.symm)
    have n6 := k6 _ _ (k2 _ _ hnt (fun z => nrn z.symm)) (fun z => npn z.symm)
    refine s_putL (xs := visN (ns.filter fun y => !sn.contains y)) (el_lcD (ds := ns) (fun y => !sn.contains y) (fun (y : Nat) => V.int (y : Int)) (visN_len ns) (ev_fld (ev_var rfl) p6 T.cl_Package T.na_Package_waiting (lk_Package_waiting _ _ _ _ _)) (sq_of w6) (by rw [visN_len]; omega) (fun _ => rfl) ?_ ?_) (ev_var rfl) p6 T.cl_Package T.na_Package_waiting (by show 5 < 1000; decide) fun w H7 hw e7 h7 => ?_
    · intro i y z H7 e7 hy hz
      have ey := item_visN hy hz
      subst ey
      have eTs : Ev (tFld K (tVar 1) "notes") [some (.ref pa), some (.ref sa), some (.int (z : Int))] H7 (.ref nt) := ev_fld (ev_var rfl) (e7 _ _ s6) T.cl_Step T.na_Step_notes (lk_Step_notes _ _ _ _ _)
      refine et_test (ev_is (ev_op (ev_var rfl) eTs (rv_niL (sq_of (e7 _ _ n6)) rfl ?_)) (by rw [inV_visN]))
      rw [List.all_eq_true]
      intro u hu
      obtain ⟨q, _, rfl⟩ := List.mem_map.mp hu
      rfl
    · intro i y z H7 e7 hy hz _
      have ey := item_visN hy hz
      subst ey
      exact ev_var rfl
    · rw [pt_Package_waiting]
      have k26 : ∀ a o, H a = some o → a ≠ pa → a ≠ r0 → H6 a = some o := fun a o h n1 n2 => k6 _ _ (k2 _ _ h n2) n1
      have nwp : w ≠ pa := fun z => by rw [z, p6] at hw; cases hw
      have r6 : H6 r0 = some (.lst (rs ++ [.ref x])) := k6 _ _ r2 (fun z => npr z.symm)
      have nwr : w ≠ r0 := fun z => by rw [z, r6] at hw; cases hw
      have x6 := k6 _ _ x2 nxp
      have hwH : H w = none := by
        cases e : H w with
        | none => rfl
        | some o =>
          rw [k26 w o e nwp nwr] at hw
          cases hw
      refine k _ x d w hxH hwH (fun z => by rw [z, x6] at hw; cases hw) (fun a o h n1 n2 => ?_) upd_same ?_ ?_ ?_
      · rw [upd_ne n1]
        exact e7 _ _ (k26 a o h n1 n2)
      · rw [upd_ne (fun z => npr z.symm)]
        exact e7 _ _ r6
      · rw [upd_ne nxp]
        exact e7 _ _ x6
      · rw [upd_ne nwp]
        exact h7
/-! ### answer_out -/
theorem pkg_eq (p : Nat) : (fun s : Stp => decide ((s.pkg : Int) = (p : Int))) = fun s => s.pkg == p := by
  funext s
  by_cases c : s.pkg = p
  · rw [c]
    simp
  · rw [decide_eq_false fun z => c (by omega)]
    simp [c]
def sp_answer_out (K : PySem.W.Frag) : Sp := fun vs H Q _ => ∃ (B : Hp) (tg : Addr → Option Tag) (ad : Tag → Addr) (S : Rp09.House) (nl : List Nat) (cc p : Nat), vs = [.ref (ad .house), .int (p : Int)] ∧ HInv K B H tg ad S nl ∧ SOk S nl cc ∧ cc ≤ 60 ∧ Done K cc B H tg ad (Rp09.step S (.out p)).1 (ansL S (.out p)) Q
theorem ok_answer_out {P : Program} {w : World} {K : PySem.W.Frag} {mg : Str → Option Value} {base : Heap} (T : Txt K mg) (O_is_ready : Ok P w K mg base 1 "is_ready" p_is_ready (sp_is_ready K)) (O_give_out : Ok P w K mg base 3 "give_out" p_give_out (sp_give_out K)) : Ok P w K mg base 4 "answer_out" p_answer_out (sp_answer_out K) := by
  refine Ok.of T.e_answer_out T.g_answer_out sc_answer_out (fun _ _ _ _ _ _ us hl => match us, hl with | [_, _], _ => rfl) (fun vs H Q E h => ?_) (fun cdv A outer s H vs Q E hr h => ?_)
  · obtain ⟨B, tg, ad, S, nl, cc, p, rfl, _⟩ := h
    rfl
  · obtain ⟨B, tg, ad, S, nl, cc, p, rfl, I, ok, hc, k⟩ := h
    refine ⟨_, (pss_cons (ps_setLc (i := 2) (own := [("step", 3)]) (g := gName 3) (by rfl) sc_answer_out.nd rfl rfl (sw_true rfl rfl rfl (by decide +kernel)) (k_iList (K := K) rfl (k_fld (K := K) rfl (pv 0) rfl)) (blkOk_by (own := [("step", 3)]) (N := n_answer_out) (sc := defScope s_answer_out) (by decide +kernel)) (fun _ _ _ _ _ => pg_name (i := 3) sc_answer_out.nd rfl (Or.inl rfl)) (fun _ _ _ _ _ => (pts_one (pt_cmpR op_eq (k_fld (K := K) rfl (pv 3) rfl) (pv 1) (nomark _)))) (fun _ _ _ _ _ => (pv 3)))
      (pss_cons (ps_if (pt_cmpR op_eq (pe_callB (k_len (K := K) rfl) (by rfl) T.f_len PySem.boot_len (pa_cons (pv 2) pa_nil)) pe_int (nomark _))
      (pss_one (ps_ret (pe_lst (pa_cons (pe_gint T.k_NOT_PLANNED) pa_nil))))
      pss_nil)
      (pss_cons (ps_if (pt_not (pt_val (pe_callO O_is_ready (hr.mono (by decide)) (by rfl) (pa_cons (k_fld (K := K) rfl (pv 0) rfl) (pa_cons (pe_ix (k_ixL (K := K) rfl) (pv 2) pe_int (fun _ _ => rfl)) pa_nil)))))
      (pss_one (ps_ret (pe_lst (pa_cons (pe_gint T.k_NOT_READY) pa_nil))))
      pss_nil)
      (pss_cons (ps_expr (pe_callO O_give_out (hr.mono (by decide)) (by rfl) (pa_cons (pe_ix (k_ixL (K := K) rfl) (k_fld (K := K) rfl (pv 0) rfl) (pv 1) (fun _ _ => rfl)) (pa_cons (pe_ix (k_ixL (K := K) rfl) (pv 2) pe_int (fun _ _ => rfl)) pa_nil))))
      (pss_cons (k_put (K := K) rfl (pv 0) (pe_lc (own := [("step", 3)]) (g := gName 3) (by rfl) sc_answer_out.nd (k_iList (K := K) rfl (k_fld (K := K) rfl (pv 0) rfl)) (blkOk_by (own := [("step", 3)]) (N := n_answer_out) (sc := defScope s_answer_out) (by decide +kernel)) (fun _ _ _ _ _ => pg_name (i := 3) sc_answer_out.nd rfl (Or.inl rfl)) (fun _ _ _ _ _ => (pts_one (pt_cmpR op_ne (k_fld (K := K) rfl (pv 3) rfl) (pv 1) (nomark _)))) (fun _ _ _ _ _ => (pv 3))) rfl)
      (pss_one (ps_ret (pe_lst (pa_cons (pe_callB (k_len (K := K) rfl) (by rfl) T.f_len PySem.boot_len (pa_cons (k_fld (K := K) rfl (pv 0) rfl) pa_nil)) pa_nil))))))))), ?_⟩
    unfold ansL at k
    rw [out_step] at k
    have h6 := ok.plan.1
    obtain ⟨v, hv, he⟩ := I.hp.e_plan T (σ := [some (.ref (ad .house)), some (.int (p : Int)), none, none]) (te := tVar 0) (ev_var rfl)
    have hv0 := hv
    obtain ⟨pp, ws, rfl, g1, g2⟩ := hv
    obtain ⟨xs, hA, hxs⟩ := el_lcF (K := K) (σ := [some (.ref (ad .house)), some (.int (p : Int)), none, none]) (ds := S.plan) (ws := ws) (R := fun w d => StepRep K d w B) (t := tTest (tOp rEq (tFld K (tVar 3) "package") (tVar 1))) (te := tVar 3) (j := 3) (vs := [3]) (fun s => decide ((s.pkg : Int) = (p : Int))) g2 he (sq_of (I.bh _ _ g1)) (by rw [g2.len]; omega) (fun _ => rfl)
      (fun x d H1 e1 _ hr' => et_test (ev_eqI ((hr'.mono (I.bh.trans e1)).e_pkg T (ev_var rfl)) (ev_var rfl))) (fun x H1 => ev_var rfl)
    rw [pkg_eq] at hA
    refine q_asgL hxs fun q H1 hq e1 h1 => ?_
    cases hf : S.plan.find? (fun s => s.pkg == p) with
    | none =>
      rw [hf] at k
      have hnil : S.plan.filter (fun s => s.pkg == p) = [] := by
        rw [List.filter_eq_nil_iff]
        exact List.find?_eq_none.mp hf
      rw [hnil] at hA
      cases hA
      refine q_when (et_test (ev_eqI (ev_len (ev_var rfl) (sq_of h1)) ev_c)) (fun hb H2 e2 => ?_) (fun hb H2 e2 => ?_)
      · exact s_retL (el_lst (ea_cons ev_c ea_nil) (by show 1 ≤ 100000; decide)) (RetL.from (Done.same k I ok) (e1.trans e2) rfl)
      · exact absurd rfl (of_decide_eq_false hb)
    | some s =>
      rw [hf] at k
      dsimp only at k
      have hsm := List.mem_of_find?_eq_some hf
      have hsp : s.pkg = p := beq_iff_eq.mp (List.find?_some (p := fun s : Stp => s.pkg == p) hf)
      obtain ⟨rest, hrest⟩ : ∃ rest, S.plan.filter (fun s => s.pkg == p) = s :: rest := by
        have hh : (S.plan.filter (fun s => s.pkg == p)).head? = some s := by rw [List.head?_filter, hf]
        cases e : S.plan.filter (fun s => s.pkg == p) with
        | nil =>
          rw [e] at hh
          cases hh
        | cons a r =>
          rw [e] at hh
          exact ⟨r, by rw [Option.some.inj hh]⟩
      rw [hrest] at hA
      cases hA with
      | cons hs0 hxr =>
        rename_i x0 xr
        refine q_when (et_test (ev_eqI (ev_len (ev_var rfl) (sq_of h1)) ev_c)) (fun hb H2 e2 => ?_) (fun hb H2 e2 => ?_)
        · have hb := of_decide_eq_true hb
          rw [List.length_cons] at hb
          omega
        · have e12 := e1.trans e2
          have I2 := I.ex e12
          have h2 := e2 _ _ h1
          obtain ⟨v2, hv2, he2⟩ := I2.hp.e_plan T (σ := [some (.ref (ad .house)), some (.int (p : Int)), some (.ref q), none]) (te := tVar 0) (ev_var rfl)
          refine q_when (et_not (et_B (ev_call (ea_cons he2 (ea_cons (ev_ixL (v := x0) (ev_var rfl) ev_c (sq_of h2) (atI_nat (j := 0) rfl)) ea_nil)) (spv_is_ready (hv2.mono I2.bh) (hs0.mono I2.bh) h6 (ok.plan.2 s hsm))))) (fun hb H3 e3 => ?_) (fun hb H3 e3 => ?_)
          · have hr0 : S.ready s = false := not_t hb
            rw [if_pos hr0] at k
            exact s_retL (el_lst (ea_cons ev_c ea_nil) (by show 1 ≤ 100000; decide)) (RetL.from (Done.same k I ok) (e12.trans e3) rfl)
          · have hr1 : S.ready s = true := not_f hb
            rw [if_neg (by rw [hr1]; decide)] at k
            have e13 := e12.trans e3
            have I3 := I.ex e13
            have h3 := e3 _ _ h2
            have hp : p < S.tree.length := by
              rw [← hsp]
              exact (ok.more.pl s hsm).1
            refine q_call (vs := [.ref (ad (.pkg p)), x0]) (ea_cons (I3.e_pkg T hp (ev_var rfl) (ev_var rfl)) (ea_cons (ev_ixL (v := x0) (ev_var rfl) ev_c (sq_of h3) (atI_nat (j := 0) rfl)) ea_nil)) fun H4 e4 => ?_
            have e04 := e13.trans e4
            have I4 := I.ex e04
            obtain ⟨sa, ds, pv, l, nt, rfl, s1, s2, s3, s4⟩ := hs0
            obtain ⟨op, k1, dx, va0, na0, rfl, k2, k3⟩ := I4.c (.pkg p) hp
            have tR := I4.tag (.rels p) hp
            have tW := I4.tag (.wait p) hp
            have tP := I4.tag (.pkg p) hp
            have hnotes := (ok.tree.notes _ (at_mem hp)).1
            have hnl30 := ok.tree.nl
            have h60 := outs60 ok hc p
            refine ⟨ad (.pkg p), dx, ad (.rels p), ad (.wait p), sa, ds, nt, .ref va0, .int ((Rp09.at_ S.tree p).group : Int), .ref na0, .int (s.pkg : Int), .int (s.level : Int), .ref pv, .ref l, (List.range (outs S p).length).map fun j => V.ref (ad (.rel p j)), (Rp09.at_ S.tree p).notes.map fun y => y.1, s.notes, rfl, k1, I4.rels_at hp, I4.wait_at hp, I4.bh _ _ s1, I4.bh _ _ s4, fun z => ?_, fun z => ?_, fun z => ?_, ?_, ?_, fun H5 x d w hxn hwn nwx keep q1 q2 q3 q4 => ?_⟩
            · rw [z, tW] at tR
              cases tR
            · rw [z, I4.im _ _ s4] at tR
              cases tR
            · rw [z, I4.im _ _ s1] at tP
              cases tP
            · rw [List.length_map, List.length_range]
              omega
            · rw [List.length_map]
              omega
            · have hw5 : H5 w = some (.lst (visN (((Rp09.at_ S.tree p).notes.filter fun y => !s.notes.contains y.1).map fun y => y.1))) := by
                rw [q4, List.filter_map] <;> rfl
              have I5 := I4.out (s := s) hp hwn hxn nwx keep q1 q2 q3 hw5 s2 s3 s4
              have ehouse : adOut ad p (outs S p).length w x .house = ad .house := by
                unfold adOut
                rw [if_neg (fun z => by cases z), if_neg (fun z => by cases z)]
              obtain ⟨oh, y1, dh, pv5, rfl, y2⟩ := I5.c .house trivial
              rw [ehouse] at y1
              obtain ⟨pp5, ws5, rfl, y3, y4⟩ := y2
              refine q_putR (B := B) (R := MadeD (S.plan.filter fun s => !decide ((s.pkg : Int) = (p : Int))) (StepRep K)) I5.bh (evr_lcD (ds := S.plan) (xs := ws5) (fun s => !decide ((s.pkg : Int) = (p : Int))) (StepRep K) (fun d v B B' e h => h.mono e) y4.len I5.bh (ev_fld (ev_var rfl) y1 T.cl_House T.na_House_plan (lk_House_plan _ _ _)) (sq_of (I5.bh _ _ y3)) (by rw [y4.len]; show S.plan.length ≤ 40000; omega) (fun _ => rfl) ?_ ?_) (ev_var rfl) y1 T.cl_House T.na_House_plan (by show 3 < 1000; decide) fun v6 B6 H6 g6 hx6 => ?_
              · intro i y s' H6 e6 hy hs'
                obtain ⟨d', hd', hr'⟩ := y4.getL hy
                rw [hs'] at hd'
                cases hd'
                exact et_test (ev_neI ((hr'.mono (I5.bh.trans e6)).e_pkg T (ev_var rfl)) (ev_var rfl))
              · intro i y s' B6 H6 b1 b2 e6 hy hs' _
                obtain ⟨d', hd', hr'⟩ := y4.getL hy
                rw [hs'] at hd'
                cases hd'
                refine evr_imp (evr_of b2 (ev_var rfl)) fun w' B' b' hw' => ?_
                rw [hw']
                exact (hr'.mono b1).mono b'
              · rw [pt_House_plan]
                have epl : (S.plan.filter fun s => !decide ((s.pkg : Int) = (p : Int))) = S.plan.filter fun x => x.pkg != p := by
                  apply List.filter_congr
                  intro y _
                  have := congrFun (pkg_eq p) y
                  show (!decide ((y.pkg : Int) = (p : Int))) = !(y.pkg == p)
                  rw [this]
                rw [epl] at hx6
                have I7 := (I5.gr g6).plan_set (dx := dh) (v := v6) (pl := S.plan.filter fun x => x.pkg != p) hx6
                rw [ehouse] at I7
                have e56 : ∀ b o, H b = some o → tg b = none → H5 b = some o := fun b o hb ht => keep b o (e04 _ _ hb) (fun z => by rw [z, tP] at ht; cases ht) (fun z => by rw [z, tR] at ht; cases ht)
                have hlen : Ev (tCB (rLenS K) (tCons (tFld K (tVar 0) "plan") tNil)) [some (.ref (ad .house)), some (.int (p : Int)), some (.ref q), none] (upd H6 (ad .house) (.ins (He.ga K "House") dh (fs_House [.ref (adOut ad p (outs S p).length w x .pkgs), .ref (adOut ad p (outs S p).length w x .notes), v6]))) (.int ((S.plan.length - 1 : Nat) : Int)) := by
                  have hh := I7.hp
                  rw [ehouse] at hh
                  refine ev_is (hh.e_plen I7.bh T (ev_var rfl)) (congrArg V.int ?_)
                  have this : (S.plan.filter fun x => x.pkg != s.pkg).length + 1 = S.plan.length := filter_out (f := fun x : Stp => x.pkg) ok.more.pd hsm
                  show ((S.plan.filter fun x => x.pkg != p).length : Int) = _
                  rw [hsp] at this
                  omega
                refine s_retL (el_lst (ea_cons hlen ea_nil) (by show 1 ≤ 100000; decide)) fun r H8 hr8 e8 h8 => ?_
                have back : ∀ b, H5 b = none → H b = none := fun b hb => by
                  cases e : H b with
                  | none => rfl
                  | some o =>
                    by_cases z1 : b = ad (.pkg p)
                    · rw [z1, q1] at hb
                      cases hb
                    · by_cases z2 : b = ad (.rels p)
                      · rw [z2, q2] at hb
                        cases hb
                      · rw [keep b o (e04 _ _ e) z1 z2] at hb
                        cases hb
                refine k r B6 H8 _ _ nl (back r (upd_fresh g6.h hr8)) h8 (I7.ex e8) (out_ok ok hsm hsp hr1) ⟨g6.b, fun b o hb => ?_, fun b o hb ht => e8 _ _ ?_, fun b o hb ht => ?_, ehouse⟩
                · rcases g6.n b o hb with z | z
                  · exact .inl z
                  · exact .inr (back b z)
                · rw [upd_ne fun z => ?_]
                  · exact g6.h _ _ (e56 b o hb ht)
                  · rw [z, I.tag .house trivial] at ht
                    cases ht
                · unfold tgOut
                  rw [if_neg (fun z => by rw [z] at hb; rw [e04 _ _ hb] at hwn; cases hwn), if_neg (fun z => by rw [z] at hb; rw [e04 _ _ hb] at hxn; cases hxn)]
                  exact ht
end Tg
namespace Tg
open PySem PySem.Spec PyProof.Rows L2 Evl
open Rp09 (Version Need Package)
theorem noxed {P : Program} {w : World} {K : PySem.W.Frag} {mg : Str → Option Value} {base : Heap} {N : List Str} {qual : Str} {scope : Scope} {f : Addr} {cdv : Value} {A : Around} {outer : List Env} {s : Shared} {H : Hp} {E : XK} {body : List Stmt} {D : Ends} {σ : L2.St}
    (h : ∃ t, PSs (cxOf CX0 P w K mg base N qual scope f cdv A outer s H E).nox body t ∧ t D σ H) : ∃ t, PSs (cxOf CX0 P w K mg base N qual scope f cdv A outer s H E) body t ∧ t D σ H := by
  obtain ⟨t, h1, h2⟩ := h
  exact ⟨t, h1.nox, h2⟩
section
variable {K : PySem.W.Frag} {σ : L2.St} {H : Hp} {ta te : TE} {v : V} {D : Ends} {tz : TS}
theorem q_appZ {l : Addr} {xs : List V} (hl : H l = some (.lst xs)) (ha : Ev ta σ H (.ref l)) (h : Ev te σ H v) (hz : xs.length < sizeLine) (k : ∀ H1, Ex H H1 → tz D σ (upd H1 l (.lst (xs ++ [v])))) : tSeq (tDrop (tBM K "list" rAppend ta (tCons te tNil))) tz D σ H :=
  ha H (Ex.refl H) _ fun H1 e1 => ⟨Or.inl ⟨rfl, xs, sq_of (e1 l _ hl)⟩, h H1 e1 _ fun H2 e2 => ⟨l, xs, v, rfl, rfl, e2 l _ (e1 l _ hl), hz, k H2 (e1.trans e2)⟩⟩
theorem s_extZ {l b : Addr} {xs ys : List V} (hl : H l = some (.lst xs)) (ha : Ev ta σ H (.ref l)) (h : Ev te σ H (.ref b)) (hb : H b = some (.lst ys)) (hz : xs.length + ys.length ≤ sizeLine) (k : ∀ H1, Ex H H1 → D.nx σ (upd H1 l (.lst (xs ++ ys)))) :
    tDrop (tBM K "list" rExtend ta (tCons te tNil)) D σ H := ha H (Ex.refl H) _ fun H1 e1 =>
  ⟨Or.inl ⟨rfl, xs, sq_of (e1 l _ hl)⟩, h H1 e1 _ fun H2 e2 => ⟨l, b, xs, ys, rfl, rfl, e2 l _ (e1 l _ hl), (e1.trans e2) _ _ hb, hz, k H2 (e1.trans e2)⟩⟩
end
/-- an empty house, its three lists new -/
def tg0 (h a b : Addr) : Addr → Option Tag := fun z => if z = h then some .house else if z = a then some .pkgs else if z = b then some .notes else none
def ad0 (h a b : Addr) : Tag → Addr
  | .house => h
  | .pkgs => a
  | .notes => b
  | _ => 0
theorem hinv_init {K : PySem.W.Frag} {B H : Hp} {h a b c dx : Addr} (hh : H h = some (.ins (He.ga K "House") dx (fs_House [.ref a, .ref b, .ref c]))) (ha : H a = some (.lst [])) (hb : H b = some (.lst [])) (hc : B c = some (.lst [])) (bh : Ex B H) (Bh : B h = none) (Ba : B a = none) (Bb : B b = none) (nha : h ≠ a) (nhb : h ≠ b) (nab : a ≠ b) :
    HInv K B H (tg0 h a b) (ad0 h a b) Rp09.init [] := by
  have t1 : tg0 h a b h = some .house := if_pos rfl
  have t2 : tg0 h a b a = some .pkgs := by
    unfold tg0
    rw [if_neg (fun z => nha z.symm), if_pos rfl]
  have t3 : tg0 h a b b = some .notes := by
    unfold tg0
    rw [if_neg (fun z => nhb z.symm), if_neg (fun z => nab z.symm), if_pos rfl]
  refine ⟨fun t ht => ?_, fun t ht => ?_, fun z o hz => ?_, bh, fun z t hz => ?_⟩
  · cases t with
    | house => exact ⟨_, hh, dx, .ref c, rfl, c, [], rfl, hc, .nil⟩
    | pkgs => exact ⟨_, ha, rfl⟩
    | notes => exact ⟨_, hb, rfl⟩
    | pkg i => exact absurd ht (Nat.not_lt_zero _)
    | wait i => exact absurd ht (Nat.not_lt_zero _)
    | rels i => exact absurd ht (Nat.not_lt_zero _)
    | rel i j => exact absurd ht.1 (Nat.not_lt_zero _)
  · cases t with
    | house => exact t1
    | pkgs => exact t2
    | notes => exact t3
    | pkg i => exact absurd ht (Nat.not_lt_zero _)
    | wait i => exact absurd ht (Nat.not_lt_zero _)
    | rels i => exact absurd ht (Nat.not_lt_zero _)
    | rel i j => exact absurd ht.1 (Nat.not_lt_zero _)
  · unfold tg0
    rw [if_neg (fun e => by rw [e, Bh] at hz; cases hz), if_neg (fun e => by rw [e, Ba] at hz; cases hz), if_neg (fun e => by rw [e, Bb] at hz; cases hz)]
  · unfold tg0 at hz
    by_cases c1 : z = h
    · rw [c1]
      exact ⟨_, hh⟩
    · by_cases c2 : z = a
      · rw [c2]
        exact ⟨_, ha⟩
      · by_cases c3 : z = b
        · rw [c3]
          exact ⟨_, hb⟩
        · rw [if_neg c1, if_neg c2, if_neg c3] at hz
          cases hz
/-- house = House(), behind anything -/
theorem make_house {K : PySem.W.Frag} {σ : L2.St} {B H : Hp} {E : XK} {Q : VK} (bh : Ex B H) (k : ∀ (x : Addr) (B' H' : Hp) (tg : Addr → Option Tag) (ad : Tag → Addr), HInv K B' H' tg ad Rp09.init [] → ad .house = x → Gr B H B' H' → (∀ a o, H a = some o → tg a = none) → Q (.ref x) H') :
    tMake (He.ga K "House") (spi_House K) [] E tNil σ H Q := by
  intro x dx hx hdx hne
  refine ⟨x, dx, rfl, upd_same, fun H1 a b c kp ha hb hc nab nac nbc h1 h2 h3 h4 => ⟨rfl, ?_⟩⟩
  have fr : ∀ {z : Addr}, (upd (upd H dx (.own x)) x (.ins (He.ga K "House") dx [])) z = none → H z = none ∧ z ≠ x := fun {z} hz => by
    have n1 : z ≠ x := fun e => by
      rw [e, upd_same] at hz
      cases hz
    rw [upd_ne n1] at hz
    have n2 : z ≠ dx := fun e => by
      rw [e, upd_same] at hz
      cases hz
    rw [upd_ne n2] at hz
    exact ⟨hz, n1⟩
  obtain ⟨fa, nax⟩ := fr ha
  obtain ⟨fb, nbx⟩ := fr hb
  obtain ⟨fc, ncx⟩ := fr hc
  have eH : Ex H H1 := fun z o hz => by
    have n1 : z ≠ x := ne_of_none hz hx
    refine kp z o ?_ n1
    rw [upd_ne n1, upd_ne (ne_of_none hz hdx)]
    exact hz
  have g : Gr B H (upd B c (.lst [])) H1 := by
    refine ⟨Ex.new (fresh_back bh fc), fun z o hz => ?_, eH, fun z o hz => ?_⟩
    · by_cases e : z = c
      · subst e
        rw [upd_same] at hz
        exact hz ▸ h4
      · rw [upd_ne e] at hz
        exact eH _ _ (bh _ _ hz)
    · by_cases e : z = c
      · subst e
        exact .inr fc
      · rw [upd_ne e] at hz
        exact .inl hz
  refine k x (upd B c (.lst [])) H1 (tg0 x a b) (ad0 x a b) (hinv_init (c := c) h1 h2 h3 upd_same g.s ?_ ?_ ?_ (fun z => nax z.symm) (fun z => nbx z.symm) nab) rfl g fun z o hz => ?_
  · rw [upd_ne (fun z => ncx z.symm)]
    exact fresh_back bh hx
  · rw [upd_ne nac]
    exact fresh_back bh fa
  · rw [upd_ne nbc]
    exact fresh_back bh fb
  · unfold tg0
    rw [if_neg (ne_of_none hz hx), if_neg (ne_of_none hz fa), if_neg (ne_of_none hz fb)]
theorem q_house {K : PySem.W.Frag} {σ : L2.St} {B H : Hp} {E : XK} {D : Ends} {tz : TS} {i : Nat} (bh : Ex B H) (k : ∀ (x : Addr) (B' H' : Hp) (tg : Addr → Option Tag) (ad : Tag → Addr), HInv K B' H' tg ad Rp09.init [] → ad .house = x → Gr B H B' H' → (∀ a o, H a = some o → tg a = none) → tz D (σ.set i (some (.ref x))) H') :
    tSeq (tAsg (tMake (He.ga K "House") (spi_House K) [] E tNil) (gName i)) tz D σ H := make_house (σ := σ) (Q := fun v H1 => gName i v σ H1 (tz D)) bh k
theorem q_forR {K : PySem.W.Frag} {σ : L2.St} {B H : Hp} {tl : TE} {R : Rep} {D : Ends} {tz tu : TS} {j : Nat} (h : EvR tl σ B H R) (k : ∀ v B1 H1, Gr B H B1 H1 → R v B1 → ∃ a xs, v = .ref a ∧ SqL K H1 a xs ∧ ∃ Pv : Nat → L2.St → Hp → Prop, Pv 0 σ H1 ∧ (∀ i σ' H', i ≤ xs.length → Pv i σ' H' → SqL K H' a xs) ∧
      (∀ i x σ' H', xs[i]? = some x → Pv i σ' H' → tu { D with nx := Pv (i + 1), ct := Pv (i + 1), bk := tz D } (σ'.set j (some x)) H') ∧ ∀ σ' H', Pv xs.length σ' H' → tz D σ' H') : tSeq (tFor (iList K tl) (gName j) tu) tz D σ H :=
  h H (Ex.refl _) _ fun v B1 H1 g hv => by
    obtain ⟨a, xs, rfl, hx, Pv, p0, p1, p2, p3⟩ := k v B1 H1 g hv
    exact ⟨a, rfl, ⟨xs, hx⟩, for_list Pv p0 p1 p2 p3⟩
/-! ### answer_to's promise; answers -/
def sp_answer_to (K : PySem.W.Frag) : Sp := fun vs H Q _ => ∃ (B : Hp) (tg : Addr → Option Tag) (ad : Tag → Addr) (S : Rp09.House) (nl : List Nat) (cc : Nat) (v : V) (c : List (List Int)), vs = [.ref (ad .house), v] ∧ HInv K B H tg ad S nl ∧ SOk S nl cc ∧ cc ≤ 60 ∧ CallRep K c v B ∧ Rp09Neutral.asked1 c = true ∧ c ≠ [[0]] ∧
  Done K cc B H tg ad (Rp09Neutral.step S c).1 (Rp09Neutral.step S c).2 Q
def sp_answers (K : PySem.W.Frag) : Sp := fun vs H Q _ => ∃ (a : Addr) (ns : List Int), vs = [.ref a] ∧ SqL K H a (vis ns) ∧ ns.length ≤ 2600 ∧ PyRp09.answers_asked ns = true ∧ ∀ (H' : Hp) (p : Addr), H' p = some (.lst (vis (PyRp09.answers ns))) → Q (.ref p) H'
structure AnInv (K : PySem.W.Frag) (B1 : Hp) (a q p : Addr) (ns : List Int) (cs : List (List (List Int))) (i : Nat) (σ : L2.St) (H' : Hp) : Prop where
  ex : ∃ (B' : Hp) (tg : Addr → Option Tag) (ad : Tag → Addr) (S : Rp09.House) (nl : List Nat) (done : List Int) (x3 x4 : Option V), σ = [some (.ref a), some (.ref q), some (.ref (ad .house)), x3, x4] ∧ HInv K B' H' tg ad S nl ∧ SOk S nl i ∧ Ex B1 B' ∧ tg q = none ∧ B' q = none ∧ H' q = some (.lst (vis done)) ∧
    PyRp09.answers ns = done ++ PyFlat.told (PyFlat.played Rp09Neutral.step S (cs.drop i))
theorem drop_at {α : Type} {l : List α} {i : Nat} {x : α} (h : l[i]? = some x) : l.drop i = x :: l.drop (i + 1) := by
  have hi := (List.getElem?_eq_some_iff.mp h).1
  rw [List.drop_eq_getElem_cons hi]
  congr 1
  exact Option.some.inj ((List.getElem?_eq_getElem hi).symm.trans h)
theorem fn_answers {P : Program} {w : World} {K : PySem.W.Frag} {mg : Str → Option Value} {base : Heap} {fd : FuncData} (T : Txt K mg) (F : FunD K "answers" "answers" (defArgs s_answers) (defBody s_answers) (defScope s_answers) [] [] (He.ga K "answers") fd) (O_read_calls : Ok P w K mg base 4 "read_calls" p_read_calls (sp_read_calls K)) (O_answer_to : Ok P w K mg base 10 "answer_to" p_answer_to (sp_answer_to K)) (O_House : OkC P w K mg base 1 "House" p_House_init (spi_House K)) : FnOk P w K mg base CX0 11 (He.ga K "answers") fd p_answers (sp_answers K) := by
  refine F.ok sc_answers (fun vs H Q E h => ?_) (fun cdv A outer s H vs Q E hr h => noxed ?_)
  · obtain ⟨a, ns, rfl, _⟩ := h
    rfl
  · obtain ⟨a, ns, rfl, hs, hlen, hask, k⟩ := h
    refine ⟨_, (pss_cons (ps_set (i := 1) sc_answers.nd rfl (Or.inl rfl) (pe_lst pa_nil))
      (pss_cons (ps_set (i := 2) sc_answers.nd rfl (Or.inl rfl) (k_make0 (K := K) rfl O_House (hr.mono (by decide)) (by rfl)))
      (pss_cons (ps_for PassesOwn.never rfl (k_iList (K := K) rfl (pe_callO O_read_calls (hr.mono (by decide)) (by rfl) (pa_cons (pv 0) pa_nil))) (pg_name (i := 3) sc_answers.nd rfl (Or.inl rfl))
      (pss_cons (ps_if (pt_cmpR op_eq (k_fld (K := K) rfl (pv 3) rfl) (pe_gint T.k_BEGINS) (nomark _))
      (pss_cons (ps_set (i := 2) sc_answers.nd rfl (Or.inl rfl) (k_make0 (K := K) rfl O_House (hr.mono (by decide)) (by rfl)))
      (pss_one (ps_set (i := 4) sc_answers.nd rfl (Or.inl rfl) (pe_lst (pa_cons pe_int pa_nil)))))
      (pss_one (ps_set (i := 4) sc_answers.nd rfl (Or.inl rfl) (pe_callO O_answer_to (hr.mono (by decide)) (by rfl) (pa_cons (pv 2) (pa_cons (pv 3) pa_nil))))))
      (pss_cons (ps_expr (k_bm (K := K) rfl PySem.F.plainAttrs_list PySem.F.slot_list_append PySem.F.type_list_append mt_append (pv 1) (pa_cons (pe_callB (k_len (K := K) rfl) (by rfl) T.f_len PySem.boot_len (pa_cons (pv 4) pa_nil)) pa_nil)))
      (pss_one (ps_expr (k_bm (K := K) rfl PySem.F.plainAttrs_list PySem.F.slot_list_extend PySem.F.type_list_extend mt_extend (pv 1) (pa_cons (pv 4) pa_nil)))))))
      (pss_one (ps_ret (pv 1)))))), ?_⟩
    obtain ⟨cs, hcs, has1, hcl, hans, htot⟩ := asked_parts hask
    refine q_asgL (el_lst ea_nil (by decide)) fun q H1 hq e1 h1 => ?_
    -- house = House()
    refine q_house (B := H) e1 fun x B2 H2 tg2 ad2 I2 hx2 g2 ht2 => ?_
    have nqB : B2 q = none := g2.out hq (by rw [h1]; exact fun z => by cases z)
    have hs2 : SqL K H2 a (vis ns) := ex_l (e1.trans g2.h) hs
    -- for call in read_calls(calls)
    have rc : SpR (sp_read_calls K) [.ref a] B2 H2 (CallsRep K cs) := fun H3 e3 Q3 q3 E3 => ⟨B2, a, ns, cs, rfl, I2.bh.trans e3, ex_l e3 hs2, hlen, hcs, q3⟩
    refine q_forR (evr_callV I2.bh (ea_cons (ev_var rfl) ea_nil) rc) fun v B3 H3 g3 hc3 => ?_
    obtain ⟨p, ws, rfl, hp3, hw3⟩ := hc3
    have I3 := I2.gr g3
    have tq : tg2 q = none := ht2 q _ h1
    have nqB3 : B3 q = none := g3.out nqB (by rw [g2.h _ _ h1]; exact fun z => by cases z)
    have hq3 : H3 q = some (.lst (vis [])) := g3.h _ _ (g2.h _ _ h1)
    refine ⟨p, ws, rfl, sq_of (g3.s _ _ hp3), AnInv K B3 a q p ns cs, ⟨B3, tg2, ad2, Rp09.init, [], [], none, none, by rw [hx2] <;> rfl, I3, sok_init 0, Ex.refl _, tq, nqB3, hq3, hans⟩, ?_, ?_, ?_⟩
    · rintro i σ' H' _ ⟨B', tg, ad, S, nl, done, x3, x4, _, I, _, b, _⟩
      exact sq_of (I.bh _ _ (b _ _ hp3))
    · rintro i y σ' H' hy ⟨B', tg, ad, S, nl, done, x3, x4, rfl, I, ok, b, tq', nq', hq', heq⟩
      obtain ⟨c, hc, hrep⟩ := hw3.getL hy
      have hi : i < cs.length := (List.getElem?_eq_some_iff.mp hc).1
      have hask1 := has1 c (List.mem_of_getElem? hc)
      obtain ⟨qn, w', xs', hceq⟩ := asked_head hask1
      have hrB := hrep.mono b
      rw [drop_at hc, played_cons] at heq
      have hlen' : done.length + (1 + (Rp09Neutral.step S c).2.length) ≤ 1000060 := by
        have := congrArg List.length heq
        rw [List.length_append, List.length_append, List.length_cons] at this
        omega
      -- the turn's rest: told.append(len(answer)); told.extend(answer)
      have rest : ∀ (B4 H4 : Hp) (tg4 : Addr → Option Tag) (ad4 : Tag → Addr) (nl4 : List Nat) (ap : Addr) (x : Option V), HInv K B4 H4 tg4 ad4 (Rp09Neutral.step S c).1 nl4 → SOk (Rp09Neutral.step S c).1 nl4 (i + 1) → Ex B' B4 → tg4 q = none → B4 q = none → H4 q = some (.lst (vis done)) → ap ≠ q → H4 ap = some (.lst (vis (Rp09Neutral.step S c).2)) →
          (tSeq (tDrop (tBM K "list" rAppend (tVar 1) (tCons (tCB (rLenS K) (tCons (tVar 4) tNil)) tNil))) (tDrop (tBM K "list" rExtend (tVar 1) (tCons (tVar 4) tNil)))) { nx := AnInv K B3 a q p ns cs (i + 1), rt := Q, ct := AnInv K B3 a q p ns cs (i + 1), bk := fun σ H => (tRet (tVar 1)) { nx := fun _ H' => Q .non H', rt := Q } σ H } [some (.ref a), some (.ref q), some (.ref (ad4 .house)), some y, some (.ref ap)] H4 := by
        intro B4 H4 tg4 ad4 nl4 ap x I4 ok4 b4 t4 n4 hq4 nap hap
        refine q_appZ hq4 (ev_var rfl) (ev_len (ev_var rfl) (sq_of hap)) (by rw [List.length_map]; show _ < 2 ^ 24; omega) fun H5 e5 => ?_
        have hap5 : (upd H5 q (.lst (vis done ++ [.int ((vis (Rp09Neutral.step S c).2).length : Int)]))) ap = some (.lst (vis (Rp09Neutral.step S c).2)) := by
          rw [upd_ne nap]
          exact e5 _ _ hap
        refine s_extZ upd_same (ev_var rfl) (ev_var rfl) hap5 (by rw [List.length_append, List.length_map, List.length_map, List.length_singleton]; show _ ≤ 2 ^ 24; omega) fun H6 e6 => ?_
        have I5 := (I4.ex e5).updU (p := q) (o := .lst (vis done ++ [.int ((vis (Rp09Neutral.step S c).2).length : Int)])) t4 n4
        have I6 := (I5.ex e6).updU (p := q) (o := .lst (vis done ++ [.int ((vis (Rp09Neutral.step S c).2).length : Int)] ++ vis (Rp09Neutral.step S c).2)) t4 n4
        refine ⟨B4, tg4, ad4, _, nl4, done ++ (((Rp09Neutral.step S c).2.length : Int) :: (Rp09Neutral.step S c).2), some y, some (.ref ap), rfl, I6, ok4, b.trans b4, t4, n4, ?_, ?_⟩
        · rw [upd_same, List.length_map]
          congr 2
          show _ = List.map V.int _
          rw [List.map_append, List.map_cons, List.append_assoc] <;> rfl
        · rw [heq, List.append_assoc]
      have hnum : Ev (tFld K (tVar 3) "number") [some (.ref a), some (.ref q), some (.ref (ad .house)), some y, x4] H' (.int qn) := by
        obtain ⟨q1, w1, xs1, x1, dx1, pw1, l1, c1, rfl, c3, _, _⟩ := hrB
        rw [hceq] at c1
        cases c1
        exact ev_fld (ev_var rfl) (I.bh _ _ c3) T.cl_Call T.na_Call_number (lk_Call_number _ _ _)
      refine q_if (et_test (ev_eqI hnum ev_c)) (fun hb H4 e4 => ?_) (fun hb H4 e4 => ?_)
      · have hq0 : qn = 0 := of_decide_eq_true hb
        obtain ⟨hw0, hx0⟩ := asked_begins (hceq ▸ hask1) hq0
        have hc0 : c = [[0]] := by rw [hceq, hq0, hw0, hx0]
        have I4 := I.ex e4
        refine q_house (B := B') I4.bh fun x5 B5 H5 tg5 ad5 I5 hx5 g5 ht5 => ?_
        refine s_asgL (el_lst (ea_cons ev_c ea_nil) (by show 1 ≤ 100000; decide)) fun ap H6 hap e6 h6 => ?_
        have hq5 : H5 q = some (.lst (vis done)) := g5.h _ _ (e4 _ _ hq')
        have hst : Rp09Neutral.step S c = (Rp09.init, [0]) := by rw [hc0]; exact step_begins S
        subst hx5
        refine rest B5 H6 tg5 ad5 [] ap none ?_ ?_ g5.b (ht5 q _ (e4 _ _ hq')) (g5.out nq' (by rw [e4 _ _ hq']; exact fun z => by cases z)) (e6 _ _ hq5) (fun z => by rw [z, hq5] at hap; cases hap) ?_
        · rw [hst]
          exact I5.ex e6
        · rw [hst]
          exact sok_init _
        · rw [h6, hst] <;> rfl
      · have hq0 : ¬ qn = 0 := of_decide_eq_false hb
        have hc0 : c ≠ [[0]] := fun z => by
          rw [hceq] at z
          simp only [List.cons.injEq] at z
          exact hq0 z.1.1
        have I4 := I.ex e4
        refine ⟨_, rfl, _, rfl, B', tg, ad, S, nl, i, y, c, rfl, I4, ok, by omega, hrB, hask1, hc0, fun ap B5 H5 tg5 ad5 nl5 hap h5 I5 ok5 fr => ?_⟩
        have hqH4 : H4 q = some (.lst (vis done)) := e4 _ _ hq'
        have nB5 : B5 q = none := by
          cases e : B5 q with
          | none => rfl
          | some o =>
            rcases fr.n q o e with z | z
            · rw [nq'] at z
              cases z
            · rw [hqH4] at z
              cases z
        have := rest B5 H5 tg5 ad5 nl5 ap none I5 ok5 fr.b (fr.t q _ hqH4 tq') nB5 (fr.u q _ hqH4 tq') (fun z => by rw [z, hqH4] at hap; cases hap) h5
        rw [fr.h] at this
        exact this
    · rintro σ' H' ⟨B', tg, ad, S, nl, done, x3, x4, rfl, I, ok, b, tq', nq', hq', heq⟩
      rw [hw3.len, List.drop_length] at heq
      have he : PyRp09.answers ns = done := by
        rw [heq]
        show done ++ [] = done
        exact List.append_nil _
      refine s_ret (ev_var rfl) fun H4 e4 => k H4 q ?_
      rw [he]
      exact e4 _ _ hq'
end Tg
namespace Tg
open PySem PySem.Spec PyProof.Rows L2 Evl
open Rp09 (Version Need Package)
section
variable {K : PySem.W.Frag} {B B1 H H1 : Hp} {tg : Addr → Option Tag} {ad : Tag → Addr} {S' : Rp09.House} {c : Nat} {ans : List Int} {Q : VK} {σ : L2.St} {D : Ends} {sp : Sp} {E : XK} {ta : TA}
theorem Done.gr (k : Done K c B H tg ad S' ans Q) (g : Gr B H B1 H1) : Done K c B1 H1 tg ad S' ans Q := fun p B' H' tg' ad' nl' hp h I ok f => k p B' H' tg' ad' nl' (fresh_back g.h hp) h I ok ⟨g.b.trans f.b, fun a o ha => by
  rcases f.n a o ha with z | z
  · exact g.n a o z
  · exact .inr (fresh_back g.h z), fun a o ha ht => f.u a o (g.h _ _ ha) ht, fun a o ha ht => f.t a o (g.h _ _ ha) ht, f.h⟩
theorem s_call {vs : List V} (h : EvA ta σ H vs) (k : ∀ H1, Ex H H1 → sp (vs ++ []) H1 D.rt E) : tRet (tCall sp [] E ta) D σ H := h H (Ex.refl H) _ fun H1 e => k H1 e
theorem s_callR {RA : List V → Hp → Prop} (h : EvAR ta σ B H RA) (k : ∀ vs B1 H1, Gr B H B1 H1 → RA vs B1 → sp (vs ++ []) H1 D.rt E) : tRet (tCall sp [] E ta) D σ H := h H (Ex.refl H) _ fun vs B1 H1 g hvs => k vs B1 H1 g hvs
end
theorem ok_answer_to {P : Program} {w : World} {K : PySem.W.Frag} {mg : Str → Option Value} {base : Heap} (T : Txt K mg) (O_need_from : Ok P w K mg base 3 "need_from" p_need_from (sp_need_from K)) (O_answer_package : Ok P w K mg base 6 "answer_package" p_answer_package (sp_answer_package K)) (O_answer_note : Ok P w K mg base 3 "answer_note" p_answer_note (sp_answer_note K)) (O_answer_look : Ok P w K mg base 9 "answer_look" p_answer_look (sp_answer_look K)) (O_answer_plan : Ok P w K mg base 9 "answer_plan" p_answer_plan (sp_answer_plan K)) (O_answer_ready : Ok P w K mg base 3 "answer_ready" p_answer_ready (sp_answer_ready K)) (O_answer_out : Ok P w K mg base 4 "answer_out" p_answer_out (sp_answer_out K)) (O_answer_drop : Ok P w K mg base 1 "answer_drop" p_answer_drop (sp_answer_drop K)) (O_answer_yank : Ok P w K mg base 7 "answer_yank" p_answer_yank (sp_answer_yank K)) (O_answer_resolve : Ok P w K mg base 5 "answer_resolve" p_answer_resolve (sp_answer_resolve K)) (O_answer_log : Ok P w K mg base 2 "answer_log" p_answer_log (sp_answer_log K)) (O_answer_tree : Ok P w K mg base 1 "answer_tree" p_answer_tree (sp_answer_tree K)) : Ok P w K mg base 10 "answer_to" p_answer_to (sp_answer_to K) := by
  refine Ok.of T.e_answer_to T.g_answer_to sc_answer_to (fun _ _ _ _ _ _ us hl => match us, hl with | [_, _], _ => rfl) (fun vs H Q E h => ?_) (fun cdv A outer s H vs Q E hr h => ?_)
  · obtain ⟨B, tg, ad, S, nl, cc, v, c, rfl, _⟩ := h
    rfl
  · obtain ⟨B, tg, ad, S, nl, cc, v, c, rfl, I, ok, hcc, hrep, hask, hc0, k⟩ := h
    refine ⟨_, (pss_cons (ps_if (pt_cmpR op_eq (k_fld (K := K) rfl (pv 1) rfl) (pe_gint T.k_PACKAGE) (nomark _))
      (pss_cons (ps_setLc (i := 2) (own := [("numbers", 3)]) (g := gName 3) (by rfl) sc_answer_to.nd rfl rfl (sw_true rfl rfl rfl (by decide +kernel)) (k_iList (K := K) rfl (k_fld (K := K) rfl (pv 1) rfl)) (blkOk_by (own := [("numbers", 3)]) (N := n_answer_to) (sc := defScope s_answer_to) (by decide +kernel)) (fun _ _ _ _ _ => pg_name (i := 3) sc_answer_to.nd rfl (Or.inl rfl)) (fun _ _ _ _ _ => pts_nil) (fun _ _ _ _ _ => (pe_callO O_need_from (hr.mono (by decide)) (by rfl) (pa_cons (pv 3) pa_nil))))
      (pss_one (ps_ret (pe_callO O_answer_package (hr.mono (by decide)) (by rfl) (pa_cons (pv 0) (pa_cons (pe_callTy (k_tuple (K := K) rfl) (by rfl) T.f_tuple (by decide +kernel) (pa_cons (pe_slice (k_slL (K := K) rfl) (k_fld (K := K) rfl (pv 1) rfl) po_none (po_some pe_int)) pa_nil)) (pa_cons (pe_ix (k_ixL (K := K) rfl) (k_fld (K := K) rfl (pv 1) rfl) pe_int (fun _ _ => rfl)) (pa_cons (pv 2) pa_nil))))))))
      pss_nil)
      (pss_cons (ps_if (pt_cmpR op_eq (k_fld (K := K) rfl (pv 1) rfl) (pe_gint T.k_NOTE) (nomark _))
      (pss_one (ps_ret (pe_callO O_answer_note (hr.mono (by decide)) (by rfl) (pa_cons (pv 0) (pa_cons (pe_ix (k_ixL (K := K) rfl) (k_fld (K := K) rfl (pv 1) rfl) pe_int (fun _ _ => rfl)) (pa_cons (pe_ix (k_ixL (K := K) rfl) (k_fld (K := K) rfl (pv 1) rfl) pe_int (fun _ _ => rfl)) pa_nil))))))
      pss_nil)
      (pss_cons (ps_if (pt_cmpR op_eq (k_fld (K := K) rfl (pv 1) rfl) (pe_gint T.k_LOOK) (nomark _))
      (pss_one (ps_ret (pe_callO O_answer_look (hr.mono (by decide)) (by rfl) (pa_cons (pv 0) pa_nil))))
      pss_nil)
      (pss_cons (ps_if (pt_cmpR op_eq (k_fld (K := K) rfl (pv 1) rfl) (pe_gint T.k_PLAN) (nomark _))
      (pss_one (ps_ret (pe_callO O_answer_plan (hr.mono (by decide)) (by rfl) (pa_cons (pv 0) pa_nil))))
      pss_nil)
      (pss_cons (ps_if (pt_cmpR op_eq (k_fld (K := K) rfl (pv 1) rfl) (pe_gint T.k_READY) (nomark _))
      (pss_one (ps_ret (pe_callO O_answer_ready (hr.mono (by decide)) (by rfl) (pa_cons (pv 0) pa_nil))))
      pss_nil)
      (pss_cons (ps_if (pt_cmpR op_eq (k_fld (K := K) rfl (pv 1) rfl) (pe_gint T.k_OUT) (nomark _))
      (pss_one (ps_ret (pe_callO O_answer_out (hr.mono (by decide)) (by rfl) (pa_cons (pv 0) (pa_cons (pe_ix (k_ixL (K := K) rfl) (k_fld (K := K) rfl (pv 1) rfl) pe_int (fun _ _ => rfl)) pa_nil)))))
      pss_nil)
      (pss_cons (ps_if (pt_cmpR op_eq (k_fld (K := K) rfl (pv 1) rfl) (pe_gint T.k_DROP) (nomark _))
      (pss_one (ps_ret (pe_callO O_answer_drop (hr.mono (by decide)) (by rfl) (pa_cons (pv 0) pa_nil))))
      pss_nil)
      (pss_cons (ps_if (pt_cmpR op_eq (k_fld (K := K) rfl (pv 1) rfl) (pe_gint T.k_YANK) (nomark _))
      (pss_one (ps_ret (pe_callO O_answer_yank (hr.mono (by decide)) (by rfl) (pa_cons (pv 0) (pa_cons (pe_ix (k_ixL (K := K) rfl) (k_fld (K := K) rfl (pv 1) rfl) pe_int (fun _ _ => rfl)) (pa_cons (pe_callTy (k_tuple (K := K) rfl) (by rfl) T.f_tuple (by decide +kernel) (pa_cons (pe_slice (k_slL (K := K) rfl) (k_fld (K := K) rfl (pv 1) rfl) (po_some pe_int) po_none) pa_nil)) pa_nil))))))
      pss_nil)
      (pss_cons (ps_if (pt_cmpR op_eq (k_fld (K := K) rfl (pv 1) rfl) (pe_gint T.k_RESOLVE) (nomark _))
      (pss_one (ps_ret (pe_callO O_answer_resolve (hr.mono (by decide)) (by rfl) (pa_cons (pv 0) (pa_cons (pe_ix (k_ixL (K := K) rfl) (k_fld (K := K) rfl (pv 1) rfl) pe_int (fun _ _ => rfl)) (pa_cons (pe_callTy (k_tuple (K := K) rfl) (by rfl) T.f_tuple (by decide +kernel) (pa_cons (pe_slice (k_slL (K := K) rfl) (k_fld (K := K) rfl (pv 1) rfl) (po_some pe_int) po_none) pa_nil)) pa_nil))))))
      pss_nil)
      (pss_cons (ps_if (pt_cmpR op_eq (k_fld (K := K) rfl (pv 1) rfl) (pe_gint T.k_LOG) (nomark _))
      (pss_one (ps_ret (pe_callO O_answer_log (hr.mono (by decide)) (by rfl) (pa_cons (pv 0) (pa_cons (pe_ix (k_ixL (K := K) rfl) (k_fld (K := K) rfl (pv 1) rfl) pe_int (fun _ _ => rfl)) pa_nil)))))
      pss_nil)
      (pss_one (ps_ret (pe_callO O_answer_tree (hr.mono (by decide)) (by rfl) (pa_cons (pv 0) pa_nil)))))))))))))), ?_⟩
    obtain ⟨qn, wh, rows, x, dx, pw, l, hceq, rfl, h1, h2, h3⟩ := hrep
    obtain ⟨pl, ws, rfl, h4, h5⟩ := h3
    have fN : ∀ {H' : Hp} {σ : L2.St}, σ[1]? = some (some (.ref x)) → Ex H H' → Ev (tFld K (tVar 1) "number") σ H' (.int qn) := fun {H' σ} hs e => ev_fld (ev_var hs) (e _ _ (I.bh _ _ h1)) T.cl_Call T.na_Call_number (lk_Call_number _ _ _)
    have fW : ∀ {H' : Hp} {σ : L2.St}, σ[1]? = some (some (.ref x)) → Ex H H' → Ev (tFld K (tVar 1) "whole") σ H' (.ref pw) := fun {H' σ} hs e => ev_fld (ev_var hs) (e _ _ (I.bh _ _ h1)) T.cl_Call T.na_Call_whole (lk_Call_whole _ _ _)
    have fL : ∀ {H' : Hp} {σ : L2.St}, σ[1]? = some (some (.ref x)) → Ex H H' → Ev (tFld K (tVar 1) "lists") σ H' (.ref pl) := fun {H' σ} hs e => ev_fld (ev_var hs) (e _ _ (I.bh _ _ h1)) T.cl_Call T.na_Call_lists (lk_Call_lists _ _ _)
    have hpw : ∀ {H' : Hp}, Ex H H' → SqL K H' pw (vis wh) := fun {H'} e => sq_of (e _ _ (I.bh _ _ h2))
    rcases asked_cases hask hc0 with ⟨a, b, d, g, ns, rfl, hns⟩ | ⟨n, ps, rfl, hps⟩ | rfl | rfl | rfl | ⟨p, rfl⟩ | rfl | ⟨p, a, b, d, rfl⟩ | ⟨p, a, b, d, rfl⟩ | ⟨p, rfl⟩ | rfl
    · obtain ⟨⟨rfl, rfl⟩, rfl⟩ : (1 = qn ∧ _ = wh) ∧ _ = rows := by
        simp only [List.cons.injEq] at hceq
        exact hceq
      rw [step_1] at k
      refine q_take rfl (fN rfl (Ex.refl _)) ev_c fun H1 e1 => ?_
      have t := e1
      have bh := I.bh.trans t
      refine b_asgR bh (evr_lcMD (ds := ns) (fun n => NeedRep K n) (fun d v B B' e h => h.mono e) (by rw [h5.len, List.length_map]) bh (fL rfl t) (sq_of (bh _ _ h4)) (by rw [h5.len, List.length_map]; omega) (fun _ => rfl) ?_) ?_
      · intro i y m B2 H2 b1 b2 b3 hy hm
        obtain ⟨r, hr', q, rfl, hq⟩ := h5.getL hy
        rw [List.getElem?_map, hm] at hr'
        have er : rowZ m = r := Option.some.inj hr'
        subst er
        refine evr_callV b2 (ea_cons (ev_var rfl) ea_nil) (spr_need_from (q := m.on) (k := m.kind) (a := m.from_.major) (b := m.from_.minor) (c := m.from_.patch) b2 ?_)
        have := (b1.trans b2) _ _ hq
        rw [this]
        show some (HO.lst (vis ((rowOf m).map fun (x : Nat) => (x : Int)))) = some (HO.lst (visN (rowOf m)))
        rw [vis_visN]
      · intro v B2 H2 g2 hm
        obtain ⟨pn, rfl, hpn⟩ := madeD_needs (f := fun n => n) hm
        rw [List.map_id'] at hpn
        have t2 := t.trans g2.h
        refine s_callR (RA := fun vs B' => ∃ pv, vs = [.ref (ad .house), .ref pv, .int (g : Int), .ref pn] ∧ VerAt B' pv ⟨a, b, d⟩ ∧ NeedsAt K B' pn ns) (ear_consV g2.s (ev_var rfl) (ear_cons (R := fun x B' => ∃ pv, x = .ref pv ∧ B' pv = some (.tup (vver ⟨a, b, d⟩))) (evr_ofU g2.s (eu_tupL (el_sl (fW rfl t2) eo_none (eo_some ev_c) (hpw t2)))) ?_)) ?_
        · rintro y B3 H3 b1 b2 b3 ⟨pv, rfl, hpv⟩
          exact ear_consV b2 (ev_ixL (v := .int (g : Int)) (fW rfl (t2.trans b3)) ev_c (hpw (t2.trans b3)) rfl) (ear_consV b2 (ev_var rfl) (ear_end b2 ⟨pv, rfl, hpv, hpn.mono b1⟩))
        · rintro vs B3 H3 g3 ⟨pv, rfl, hpv, hpn3⟩
          have gg : Gr B H B3 H3 := Gr.of t (g2.trans g3)
          exact ⟨B3, tg, ad, S, nl, cc, pv, a, b, d, g, pn, ns, rfl, I.gr gg, ok, hpv, hpn3, hns, k.gr gg⟩
    · obtain ⟨⟨rfl, rfl⟩, rfl⟩ : (2 = qn ∧ _ = wh) ∧ _ = rows := by
        simp only [List.cons.injEq] at hceq
        exact hceq
      rw [step_2] at k
      refine q_skip (by decide) (fN rfl (Ex.refl _)) ev_c fun H1 e1 => ?_
      have t1 := e1
      refine q_take rfl (fN rfl t1) ev_c fun H2 e2 => ?_
      have t := t1.trans e2
      obtain ⟨w0, rfl, q, rfl, hq⟩ := h5.one
      refine s_call (vs := [.ref (ad .house), .int (n : Int), .ref q]) (ea_cons (ev_var rfl) (ea_cons (ev_ixL (v := .int (n : Int)) (fW rfl t) ev_c (hpw t) rfl) (ea_cons (ev_ixL (v := .ref q) (fL rfl t) ev_c (sq_of (t _ _ (I.bh _ _ h4))) rfl) ea_nil))) fun H' e => ?_
      rw [← vis_visN] at hq
      exact ⟨B, tg, ad, S, nl, cc, n, q, ps, rfl, I.ex (t.trans e), ok, (t.trans e) _ _ (I.bh _ _ hq), I.im _ _ hq, hps, k.gr (Gr.up I.bh (t.trans e))⟩
    · obtain ⟨⟨rfl, rfl⟩, rfl⟩ : (3 = qn ∧ _ = wh) ∧ _ = rows := by
        simp only [List.cons.injEq] at hceq
        exact hceq
      rw [step_3] at k
      refine q_skip (by decide) (fN rfl (Ex.refl _)) ev_c fun H1 e1 => ?_
      have t1 := e1
      refine q_skip (by decide) (fN rfl t1) ev_c fun H2 e2 => ?_
      have t2 := t1.trans e2
      refine q_take rfl (fN rfl t2) ev_c fun H3 e3 => ?_
      have t := t2.trans e3
      rw [look_same] at k
      exact s_call (vs := [.ref (ad .house)]) (ea_cons (ev_var rfl) ea_nil) fun H' e => ⟨B, tg, ad, S, nl, cc, rfl, I.ex (t.trans e), ok, RetL.from (Done.same k I ok) (t.trans e) rfl⟩
    · obtain ⟨⟨rfl, rfl⟩, rfl⟩ : (4 = qn ∧ _ = wh) ∧ _ = rows := by
        simp only [List.cons.injEq] at hceq
        exact hceq
      rw [step_4] at k
      refine q_skip (by decide) (fN rfl (Ex.refl _)) ev_c fun H1 e1 => ?_
      have t1 := e1
      refine q_skip (by decide) (fN rfl t1) ev_c fun H2 e2 => ?_
      have t2 := t1.trans e2
      refine q_skip (by decide) (fN rfl t2) ev_c fun H3 e3 => ?_
      have t3 := t2.trans e3
      refine q_take rfl (fN rfl t3) ev_c fun H4 e4 => ?_
      have t := t3.trans e4
      exact s_call (vs := [.ref (ad .house)]) (ea_cons (ev_var rfl) ea_nil) fun H' e => ⟨B, tg, ad, S, nl, cc, rfl, I.ex (t.trans e), ok, k.gr (Gr.up I.bh (t.trans e))⟩
    · obtain ⟨⟨rfl, rfl⟩, rfl⟩ : (5 = qn ∧ _ = wh) ∧ _ = rows := by
        simp only [List.cons.injEq] at hceq
        exact hceq
      rw [step_5] at k
      refine q_skip (by decide) (fN rfl (Ex.refl _)) ev_c fun H1 e1 => ?_
      have t1 := e1
      refine q_skip (by decide) (fN rfl t1) ev_c fun H2 e2 => ?_
      have t2 := t1.trans e2
      refine q_skip (by decide) (fN rfl t2) ev_c fun H3 e3 => ?_
      have t3 := t2.trans e3
      refine q_skip (by decide) (fN rfl t3) ev_c fun H4 e4 => ?_
      have t4 := t3.trans e4
      refine q_take rfl (fN rfl t4) ev_c fun H5 e5 => ?_
      have t := t4.trans e5
      exact s_call (vs := [.ref (ad .house)]) (ea_cons (ev_var rfl) ea_nil) fun H' e => ⟨B, tg, ad, S, nl, cc, rfl, I.ex (t.trans e), ok, RetL.from (Done.same k I ok) (t.trans e) rfl⟩
    · obtain ⟨⟨rfl, rfl⟩, rfl⟩ : (6 = qn ∧ _ = wh) ∧ _ = rows := by
        simp only [List.cons.injEq] at hceq
        exact hceq
      rw [step_6] at k
      refine q_skip (by decide) (fN rfl (Ex.refl _)) ev_c fun H1 e1 => ?_
      have t1 := e1
      refine q_skip (by decide) (fN rfl t1) ev_c fun H2 e2 => ?_
      have t2 := t1.trans e2
      refine q_skip (by decide) (fN rfl t2) ev_c fun H3 e3 => ?_
      have t3 := t2.trans e3
      refine q_skip (by decide) (fN rfl t3) ev_c fun H4 e4 => ?_
      have t4 := t3.trans e4
      refine q_skip (by decide) (fN rfl t4) ev_c fun H5 e5 => ?_
      have t5 := t4.trans e5
      refine q_take rfl (fN rfl t5) ev_c fun H6 e6 => ?_
      have t := t5.trans e6
      exact s_call (vs := [.ref (ad .house), .int (p : Int)]) (ea_cons (ev_var rfl) (ea_cons (ev_ixL (v := .int (p : Int)) (fW rfl t) ev_c (hpw t) rfl) ea_nil)) fun H' e => ⟨B, tg, ad, S, nl, cc, p, rfl, I.ex (t.trans e), ok, hcc, k.gr (Gr.up I.bh (t.trans e))⟩
    · obtain ⟨⟨rfl, rfl⟩, rfl⟩ : (7 = qn ∧ _ = wh) ∧ _ = rows := by
        simp only [List.cons.injEq] at hceq
        exact hceq
      rw [step_7] at k
      refine q_skip (by decide) (fN rfl (Ex.refl _)) ev_c fun H1 e1 => ?_
      have t1 := e1
      refine q_skip (by decide) (fN rfl t1) ev_c fun H2 e2 => ?_
      have t2 := t1.trans e2
      refine q_skip (by decide) (fN rfl t2) ev_c fun H3 e3 => ?_
      have t3 := t2.trans e3
      refine q_skip (by decide) (fN rfl t3) ev_c fun H4 e4 => ?_
      have t4 := t3.trans e4
      refine q_skip (by decide) (fN rfl t4) ev_c fun H5 e5 => ?_
      have t5 := t4.trans e5
      refine q_skip (by decide) (fN rfl t5) ev_c fun H6 e6 => ?_
      have t6 := t5.trans e6
      refine q_take rfl (fN rfl t6) ev_c fun H7 e7 => ?_
      have t := t6.trans e7
      exact s_call (vs := [.ref (ad .house)]) (ea_cons (ev_var rfl) ea_nil) fun H' e => ⟨B, tg, ad, S, nl, cc, rfl, I.ex (t.trans e), ok, k.gr (Gr.up I.bh (t.trans e))⟩
    · obtain ⟨⟨rfl, rfl⟩, rfl⟩ : (8 = qn ∧ _ = wh) ∧ _ = rows := by
        simp only [List.cons.injEq] at hceq
        exact hceq
      rw [step_8] at k
      refine q_skip (by decide) (fN rfl (Ex.refl _)) ev_c fun H1 e1 => ?_
      have t1 := e1
      refine q_skip (by decide) (fN rfl t1) ev_c fun H2 e2 => ?_
      have t2 := t1.trans e2
      refine q_skip (by decide) (fN rfl t2) ev_c fun H3 e3 => ?_
      have t3 := t2.trans e3
      refine q_skip (by decide) (fN rfl t3) ev_c fun H4 e4 => ?_
      have t4 := t3.trans e4
      refine q_skip (by decide) (fN rfl t4) ev_c fun H5 e5 => ?_
      have t5 := t4.trans e5
      refine q_skip (by decide) (fN rfl t5) ev_c fun H6 e6 => ?_
      have t6 := t5.trans e6
      refine q_skip (by decide) (fN rfl t6) ev_c fun H7 e7 => ?_
      have t7 := t6.trans e7
      refine q_take rfl (fN rfl t7) ev_c fun H8 e8 => ?_
      have t := t7.trans e8
      have bh := I.bh.trans t
      refine s_callR (RA := fun vs B' => ∃ pv, vs = [.ref (ad .house), .int (p : Int), .ref pv] ∧ VerAt B' pv ⟨a, b, d⟩) (ear_consV bh (ev_var rfl) (ear_consV bh (ev_ixL (v := .int (p : Int)) (fW rfl t) ev_c (hpw t) rfl) (ear_cons (R := fun x B' => ∃ pv, x = .ref pv ∧ B' pv = some (.tup (vver ⟨a, b, d⟩))) (evr_ofU bh (eu_tupL (el_sl (fW rfl t) (eo_some ev_c) eo_none (hpw t)))) ?_))) ?_
      · rintro y B3 H3 b1 b2 b3 ⟨pv, rfl, hpv⟩
        exact ear_end b2 ⟨pv, rfl, hpv⟩
      · rintro vs B3 H3 g3 ⟨pv, rfl, hpv⟩
        have gg : Gr B H B3 H3 := Gr.of t g3
        exact ⟨B3, tg, ad, S, nl, cc, p, pv, a, b, d, rfl, I.gr gg, ok, hcc, hpv.mono g3.s, k.gr gg⟩
    · obtain ⟨⟨rfl, rfl⟩, rfl⟩ : (9 = qn ∧ _ = wh) ∧ _ = rows := by
        simp only [List.cons.injEq] at hceq
        exact hceq
      rw [step_9] at k
      refine q_skip (by decide) (fN rfl (Ex.refl _)) ev_c fun H1 e1 => ?_
      have t1 := e1
      refine q_skip (by decide) (fN rfl t1) ev_c fun H2 e2 => ?_
      have t2 := t1.trans e2
      refine q_skip (by decide) (fN rfl t2) ev_c fun H3 e3 => ?_
      have t3 := t2.trans e3
      refine q_skip (by decide) (fN rfl t3) ev_c fun H4 e4 => ?_
      have t4 := t3.trans e4
      refine q_skip (by decide) (fN rfl t4) ev_c fun H5 e5 => ?_
      have t5 := t4.trans e5
      refine q_skip (by decide) (fN rfl t5) ev_c fun H6 e6 => ?_
      have t6 := t5.trans e6
      refine q_skip (by decide) (fN rfl t6) ev_c fun H7 e7 => ?_
      have t7 := t6.trans e7
      refine q_skip (by decide) (fN rfl t7) ev_c fun H8 e8 => ?_
      have t8 := t7.trans e8
      refine q_take rfl (fN rfl t8) ev_c fun H9 e9 => ?_
      have t := t8.trans e9
      have bh := I.bh.trans t
      refine s_callR (RA := fun vs B' => ∃ pv, vs = [.ref (ad .house), .int (p : Int), .ref pv] ∧ VerAt B' pv ⟨a, b, d⟩) (ear_consV bh (ev_var rfl) (ear_consV bh (ev_ixL (v := .int (p : Int)) (fW rfl t) ev_c (hpw t) rfl) (ear_cons (R := fun x B' => ∃ pv, x = .ref pv ∧ B' pv = some (.tup (vver ⟨a, b, d⟩))) (evr_ofU bh (eu_tupL (el_sl (fW rfl t) (eo_some ev_c) eo_none (hpw t)))) ?_))) ?_
      · rintro y B3 H3 b1 b2 b3 ⟨pv, rfl, hpv⟩
        exact ear_end b2 ⟨pv, rfl, hpv⟩
      · rintro vs B3 H3 g3 ⟨pv, rfl, hpv⟩
        have gg : Gr B H B3 H3 := Gr.of t g3
        exact ⟨B3, tg, ad, S, nl, cc, p, pv, a, b, d, rfl, I.gr gg, ok, hcc, hpv.mono g3.s, RetL.from (Done.same k I ok) gg.h rfl⟩
    · obtain ⟨⟨rfl, rfl⟩, rfl⟩ : (10 = qn ∧ _ = wh) ∧ _ = rows := by
        simp only [List.cons.injEq] at hceq
        exact hceq
      rw [step_10] at k
      refine q_skip (by decide) (fN rfl (Ex.refl _)) ev_c fun H1 e1 => ?_
      have t1 := e1
      refine q_skip (by decide) (fN rfl t1) ev_c fun H2 e2 => ?_
      have t2 := t1.trans e2
      refine q_skip (by decide) (fN rfl t2) ev_c fun H3 e3 => ?_
      have t3 := t2.trans e3
      refine q_skip (by decide) (fN rfl t3) ev_c fun H4 e4 => ?_
      have t4 := t3.trans e4
      refine q_skip (by decide) (fN rfl t4) ev_c fun H5 e5 => ?_
      have t5 := t4.trans e5
      refine q_skip (by decide) (fN rfl t5) ev_c fun H6 e6 => ?_
      have t6 := t5.trans e6
      refine q_skip (by decide) (fN rfl t6) ev_c fun H7 e7 => ?_
      have t7 := t6.trans e7
      refine q_skip (by decide) (fN rfl t7) ev_c fun H8 e8 => ?_
      have t8 := t7.trans e8
      refine q_skip (by decide) (fN rfl t8) ev_c fun H9 e9 => ?_
      have t9 := t8.trans e9
      refine q_take rfl (fN rfl t9) ev_c fun H10 e10 => ?_
      have t := t9.trans e10
      exact s_call (vs := [.ref (ad .house), .int (p : Int)]) (ea_cons (ev_var rfl) (ea_cons (ev_ixL (v := .int (p : Int)) (fW rfl t) ev_c (hpw t) rfl) ea_nil)) fun H' e => ⟨B, tg, ad, S, nl, cc, p, rfl, I.ex (t.trans e), ok, hcc, RetL.from (Done.same k I ok) (t.trans e) rfl⟩
    · obtain ⟨⟨rfl, rfl⟩, rfl⟩ : (11 = qn ∧ _ = wh) ∧ _ = rows := by
        simp only [List.cons.injEq] at hceq
        exact hceq
      rw [step_11] at k
      refine q_skip (by decide) (fN rfl (Ex.refl _)) ev_c fun H1 e1 => ?_
      have t1 := e1
      refine q_skip (by decide) (fN rfl t1) ev_c fun H2 e2 => ?_
      have t2 := t1.trans e2
      refine q_skip (by decide) (fN rfl t2) ev_c fun H3 e3 => ?_
      have t3 := t2.trans e3
      refine q_skip (by decide) (fN rfl t3) ev_c fun H4 e4 => ?_
      have t4 := t3.trans e4
      refine q_skip (by decide) (fN rfl t4) ev_c fun H5 e5 => ?_
      have t5 := t4.trans e5
      refine q_skip (by decide) (fN rfl t5) ev_c fun H6 e6 => ?_
      have t6 := t5.trans e6
      refine q_skip (by decide) (fN rfl t6) ev_c fun H7 e7 => ?_
      have t7 := t6.trans e7
      refine q_skip (by decide) (fN rfl t7) ev_c fun H8 e8 => ?_
      have t8 := t7.trans e8
      refine q_skip (by decide) (fN rfl t8) ev_c fun H9 e9 => ?_
      have t9 := t8.trans e9
      refine q_skip (by decide) (fN rfl t9) ev_c fun H10 e10 => ?_
      have t10 := t9.trans e10
      have t := t10
      exact s_call (vs := [.ref (ad .house)]) (ea_cons (ev_var rfl) ea_nil) fun H' e => ⟨B, tg, ad, S, nl, cc, rfl, I.ex (t.trans e), ok, RetL.from (Done.same k I ok) (t.trans e) rfl⟩
end Tg
namespace Tg
open PySem PySem.Spec PyProof.Rows L2
open PySem.W (WData Codec OpenSpec Well WellAll ReadsW ReadsAllW)
/-- the end of a row whose written part is known by its facts alone -/
theorem walkE {r : OpenSpec} {k : Nat} {q : Program} {loose : List Str} {XP : (Str → Option Value) → Heap → Prop} {YP : World → Heap → Prop} {d : DefRec} {ps : List Str} {sp : PySem.W.Frag → Sp} (hwell : r.wellSaid = true) (hlen : r.args.length = ps.length) (hr : Room k callerA)
    (F : ∀ (w : World) (mg : Str → Option Value) (fa : Addr) (h : Heap), YP w h → h.Ns mainGlobals mg → mg d.name = some (.ref fa) → ∃ (K : PySem.W.Frag) (fd : FuncData), K.In h ∧
      (∀ (s : Shared) (us : List Value), us.length = ps.length → BindsTo s fd ⟨us, []⟩ (ps.zip us)) ∧ ∀ base : Heap, K.In base → base.Ns mainGlobals mg → FnOk r.prog w K mg base CX0 k fa fd ps (sp K))
    (hsp : ∀ (K : PySem.W.Frag) (H : Hp) (xs : List V) (a : Codec.denoteAll r.args), OnlyF H → Codec.withinAll r.args a = true → Codec.app r.args r.asked a = true → DwAll K H xs (Codec.encAll r.args a) →
      sp K xs H (fun v H' => Dw K H' v (r.ret.enc (Codec.app r.args r.f a))) fun _ _ _ => False) :
    PySem.W.WalkOS q loose XP YP r d [] (fun f vs => PySem.call f vs) := by
  intro w s₀ s₁ mg mb G Y fa o pm cd doc dV kV ho hd hcd hD hmg hg args vals as hpre hlay hrd hwl hlo
  obtain ⟨a, e1, e2⟩ := PySem.W.os_pre_some hpre
  obtain ⟨e3, hwi⟩ := Codec.encAll_of_decAll r.args args a e1
  subst e3
  obtain ⟨K, fd, KX, hb, hF⟩ := F w mg fa _ Y G.T.g hmg
  have hl : (Codec.encAll r.args a).length = ps.length := by
    rw [encAll_len]
    exact hlen
  have run := spec_call (R := []) (cl := classAt s₀.heap) (d0 := r.ret.enc (Codec.app r.args r.f a)) KX G.T.g G.T.b G.T.builtins G.T.nolimit hg hwl (pl_encAll _ _) (layable_weight hlay) hr hF hb hl (fun H xs hO hS => hsp K H xs a hO hwi e2 hS) fun H e s' z => z
  refine PySem.W.enter_call (codeAny_mono run fun r' s' hq => ?_)
  obtain ⟨u, as', rfl, h1, h2, h3, h4⟩ := hq
  exact ⟨.inl ⟨u, _, as', rfl, fun _ => rfl, h1, (OpenSpec.post_iff hwell hwi _ _).mpr rfl, fun z => Bool.noConfusion (show false = true from z)⟩, h2, h3, h4⟩
end Tg
namespace Tg
open PySem PySem.Spec PyProof.Rows L2
def lo0 : List PySem.Str := ["ACCEPTED", "BAD_FORM", "UNKNOWN", "WRONG_TIME", "NOT_PLANNED", "IN_THE_TREE", "DOES_NOT_FIT", "NOT_READY", "NEEDED", "FULL", "Release", "Package", "Step", "House", "MEND", "NEW", "BREAK", "ONLY_THAT", "SAME_SECOND", "COMPATIBLE", "ANY_LATER", "Need", "raised", "numbers_to_first_not_zero", "numbers_to_share", "holds", "NO_GROUP", "mates", "mates_differ", "version_ahead"]
def lo1 : List PySem.Str := ["need_lasts", "level_asked", "all_asked", "least_levels", "need_ahead", "step_of", "steps_now", "is_ready", "ready_packages", "steps_told", "answer_look", "answer_plan", "answer_ready", "give_out", "answer_out", "answer_drop", "Call", "counted", "read_lists", "read_call", "call_length", "read_calls", "releases_left", "release_of", "found_for", "needs_left", "finds_only", "yank_refusal", "answer_yank", "answer_resolve"]
def lo2 : List PySem.Str := ["release_told", "answer_log", "MOST_HANDED", "MOST_NEEDS", "MOST_PACKAGES", "MOST_NOTES", "rise", "need_from", "need_is_formed", "needs_are_formed", "fits", "package_refusal", "answer_package", "note_refusal", "answer_note", "answer_tree", "BEGINS", "PACKAGE", "NOTE", "LOOK", "PLAN", "READY", "OUT", "DROP", "YANK", "RESOLVE", "LOG", "answer_to"]
def loose : List PySem.Str := lo0 ++ lo1 ++ lo2
abbrev R : PySem.W.OpenSpec := PySem.Challenge.rw_treegiven_s01_answers
abbrev hk : PySem.W.Hook := He.hookD 5 faL fnL
def ob (s : PySem.W.SharedT) : He.AlD := He.obsDG 5 faL fnL (HandSHeadRun.getT s)
theorem ob_eq (s : PySem.W.SharedT) : ob s = hk.obs s.abs := He.obsDG_eq (HandSHeadRun.getT_eq s)
set_option maxHeartbeats 0 in
theorem run (w : World) : HandSHeadRun.RunEqS R (PySem.W.view R.prog [96]) hk ob 6000 loose w := by
  intro os
  kernel_rfl
theorem all_fn {P : Program} {w : World} {K : PySem.W.Frag} {mg : Str → Option Value} {base : Heap} {fd : FuncData} (T : Txt K mg) (F : FunD K "answers" "answers" (defArgs s_answers) (defBody s_answers) (defScope s_answers) [] [] (He.ga K "answers") fd) :
    FnOk P w K mg base CX0 11 (He.ga K "answers") fd p_answers (sp_answers K) := by
  have O_counted : Ok P w K mg base 1 "counted" p_counted (sp_counted K) := ok_counted T
  have O_read_lists : Ok P w K mg base 2 "read_lists" p_read_lists (sp_read_lists K) := ok_read_lists T O_counted
  have O_Call : OkC P w K mg base 1 "Call" p_Call_init (spi_Call K) := okc_Call T
  have O_read_call : Ok P w K mg base 3 "read_call" p_read_call (sp_read_call K) := ok_read_call T O_counted O_read_lists O_Call
  have O_call_length : Ok P w K mg base 1 "call_length" p_call_length (sp_call_length K) := ok_call_length T
  have O_read_calls : Ok P w K mg base 4 "read_calls" p_read_calls (sp_read_calls K) := ok_read_calls T O_read_call O_call_length
  have O_Need : OkC P w K mg base 1 "Need" p_Need_init (spi_Need K) := okc_Need T
  have O_need_from : Ok P w K mg base 3 "need_from" p_need_from (sp_need_from K) := ok_need_from T O_Need
  have O_need_is_formed : Ok P w K mg base 1 "need_is_formed" p_need_is_formed (sp_need_is_formed K) := ok_need_is_formed T
  have O_rise : Ok P w K mg base 1 "rise" p_rise (sp_rise K) := ok_rise T
  have O_needs_are_formed : Ok P w K mg base 2 "needs_are_formed" p_needs_are_formed (sp_needs_are_formed K) := ok_needs_are_formed T O_need_is_formed O_rise
  have O_numbers_to_first_not_zero : Ok P w K mg base 1 "numbers_to_first_not_zero" p_numbers_to_first_not_zero (sp_numbers_to_first_not_zero K) := ok_numbers_to_first_not_zero T
  have O_numbers_to_share : Ok P w K mg base 2 "numbers_to_share" p_numbers_to_share (sp_numbers_to_share K) := ok_numbers_to_share T O_numbers_to_first_not_zero
  have O_holds : Ok P w K mg base 3 "holds" p_holds (sp_holds K) := ok_holds T O_numbers_to_share
  have O_fits : Ok P w K mg base 4 "fits" p_fits (sp_fits K) := ok_fits T O_holds
  have O_package_refusal : Ok P w K mg base 5 "package_refusal" p_package_refusal (sp_package_refusal K) := ok_package_refusal T O_needs_are_formed O_fits
  have O_Release : OkC P w K mg base 1 "Release" p_Release_init (spi_Release K) := okc_Release T
  have O_Package : OkC P w K mg base 3 "Package" p_Package_init (spi_Package K) := okc_Package T O_Release
  have O_answer_package : Ok P w K mg base 6 "answer_package" p_answer_package (sp_answer_package K) := ok_answer_package T O_package_refusal O_Package
  have O_note_refusal : Ok P w K mg base 2 "note_refusal" p_note_refusal (sp_note_refusal K) := ok_note_refusal T O_rise
  have O_answer_note : Ok P w K mg base 3 "answer_note" p_answer_note (sp_answer_note K) := ok_answer_note T O_note_refusal
  have O_steps_told : Ok P w K mg base 1 "steps_told" p_steps_told (sp_steps_told K) := ok_steps_told T
  have O_mates : Ok P w K mg base 1 "mates" p_mates (sp_mates K) := ok_mates T
  have O_raised : Ok P w K mg base 1 "raised" p_raised (sp_raised K) := ok_raised T
  have O_version_ahead : Ok P w K mg base 2 "version_ahead" p_version_ahead (sp_version_ahead K) := ok_version_ahead T O_mates O_raised
  have O_need_lasts : Ok P w K mg base 4 "need_lasts" p_need_lasts (sp_need_lasts K) := ok_need_lasts T O_holds O_version_ahead
  have O_mates_differ : Ok P w K mg base 2 "mates_differ" p_mates_differ (sp_mates_differ K) := ok_mates_differ T O_mates
  have O_level_asked : Ok P w K mg base 5 "level_asked" p_level_asked (sp_level_asked K) := ok_level_asked T O_mates O_need_lasts O_mates_differ
  have O_all_asked : Ok P w K mg base 6 "all_asked" p_all_asked (sp_all_asked K) := ok_all_asked T O_level_asked
  have O_least_levels : Ok P w K mg base 7 "least_levels" p_least_levels (sp_least_levels K) := ok_least_levels T O_all_asked
  have O_need_ahead : Ok P w K mg base 5 "need_ahead" p_need_ahead (sp_need_ahead K) := ok_need_ahead T O_need_lasts O_version_ahead O_Need
  have O_Step : OkC P w K mg base 1 "Step" p_Step_init (spi_Step K) := okc_Step T
  have O_step_of : Ok P w K mg base 6 "step_of" p_step_of (sp_step_of K) := ok_step_of T O_need_ahead O_version_ahead O_Step
  have O_steps_now : Ok P w K mg base 8 "steps_now" p_steps_now (sp_steps_now K) := ok_steps_now T O_least_levels O_step_of
  have O_answer_look : Ok P w K mg base 9 "answer_look" p_answer_look (sp_answer_look K) := ok_answer_look T O_steps_told O_steps_now
  have O_answer_plan : Ok P w K mg base 9 "answer_plan" p_answer_plan (sp_answer_plan K) := ok_answer_plan T O_steps_now O_steps_told
  have O_is_ready : Ok P w K mg base 1 "is_ready" p_is_ready (sp_is_ready K) := ok_is_ready T
  have O_ready_packages : Ok P w K mg base 2 "ready_packages" p_ready_packages (sp_ready_packages K) := ok_ready_packages T O_is_ready
  have O_answer_ready : Ok P w K mg base 3 "answer_ready" p_answer_ready (sp_answer_ready K) := ok_answer_ready T O_ready_packages
  have O_give_out : Ok P w K mg base 3 "give_out" p_give_out (sp_give_out K) := ok_give_out T O_Release
  have O_answer_out : Ok P w K mg base 4 "answer_out" p_answer_out (sp_answer_out K) := ok_answer_out T O_is_ready O_give_out
  have O_answer_drop : Ok P w K mg base 1 "answer_drop" p_answer_drop (sp_answer_drop K) := ok_answer_drop T
  have O_releases_left : Ok P w K mg base 1 "releases_left" p_releases_left (sp_releases_left K) := ok_releases_left T
  have O_release_of : Ok P w K mg base 2 "release_of" p_release_of (sp_release_of K) := ok_release_of T O_releases_left
  have O_needs_left : Ok P w K mg base 2 "needs_left" p_needs_left (sp_needs_left K) := ok_needs_left T O_releases_left
  have O_found_for : Ok P w K mg base 4 "found_for" p_found_for (sp_found_for K) := ok_found_for T O_releases_left O_holds
  have O_finds_only : Ok P w K mg base 5 "finds_only" p_finds_only (sp_finds_only K) := ok_finds_only T O_found_for
  have O_yank_refusal : Ok P w K mg base 6 "yank_refusal" p_yank_refusal (sp_yank_refusal K) := ok_yank_refusal T O_release_of O_needs_left O_finds_only
  have O_answer_yank : Ok P w K mg base 7 "answer_yank" p_answer_yank (sp_answer_yank K) := ok_answer_yank T O_yank_refusal O_release_of
  have O_answer_resolve : Ok P w K mg base 5 "answer_resolve" p_answer_resolve (sp_answer_resolve K) := ok_answer_resolve T O_release_of O_found_for
  have O_release_told : Ok P w K mg base 1 "release_told" p_release_told (sp_release_told K) := ok_release_told T
  have O_answer_log : Ok P w K mg base 2 "answer_log" p_answer_log (sp_answer_log K) := ok_answer_log T O_release_told
  have O_answer_tree : Ok P w K mg base 1 "answer_tree" p_answer_tree (sp_answer_tree K) := ok_answer_tree T
  have O_answer_to : Ok P w K mg base 10 "answer_to" p_answer_to (sp_answer_to K) := ok_answer_to T O_need_from O_answer_package O_answer_note O_answer_look O_answer_plan O_answer_ready O_answer_out O_answer_drop O_answer_yank O_answer_resolve O_answer_log O_answer_tree
  have O_House : OkC P w K mg base 1 "House" p_House_init (spi_House K) := okc_House T
  exact fn_answers T F O_read_calls O_answer_to O_House
end Tg
open PySem PySem.W PySem.Calls PyProof.Rows
set_option maxHeartbeats 8000000 in
theorem PySem.Challenge.cw_treegiven_s01_answers_holds : PySem.Challenge.rw_treegiven_s01_answers.Holds := by
  w_on
  refine HandSHeadRun.head_spec (r := Tg.R) (q := view Tg.R.prog [96]) (H := Tg.hk) (ob := Tg.ob) (M := 6000) (loose := Tg.loose) (d := HandSHeadRun.topDef Tg.R.prog 96) (kwd := []) Tg.ob_eq (by kernel_rfl) (fun s => by kernel_rfl) Tg.run (by kernel_rfl) (by kernel_rfl) (by kernel_rfl) os_shapes
    (by first | assumption | decide +kernel) (by decide +kernel) ⟨rfl, rfl, rfl, rfl, rfl, by decide +kernel⟩ ?hw ?hc
  case hw => exact ⟨[.list [.int 0, .int 0, .int 0]], by decide +kernel, by decide +kernel⟩
  case hc =>
    refine Tg.walkE (k := 11) (ps := ["calls"]) (sp := Tg.sp_answers) (by decide +kernel) rfl ⟨rfl, by decide, by decide⟩ ?F ?S
    case F =>
      intro w mg fa h Y G hmg0
      obtain ⟨K, KX, c⟩ := Y
      have hmg : mg ("answers" : PySem.Str) = some (.ref fa) := by
        have e : (HandSHeadRun.topDef Tg.R.prog 96).name = ("answers" : PySem.Str) := by kernel_rfl
        rw [← e]
        exact hmg0
      have T := Tg.txt_of KX G c
      have e := hmg.symm.trans T.g_answers
      cases e
      obtain ⟨fd, FD⟩ := T.e_answers
      exact ⟨K, fd, KX, L2.FunD.bindsA (ps := ["calls"]) FD fun _ _ _ _ _ _ us hl => match us, hl with | [_], _ => rfl, fun base _ _ => Tg.all_fn T FD⟩
    case S =>
      intro K H xs a hO hwi hask hx
      cases hx with
      | cons h1 h2 =>
        cases h2
        cases h1 with
        | lst hs ha =>
          have e := L2.ints_dw a.1 _ ha
          subst e
          have q : ((Codec.inLen 0 2600 a.1 && a.1.all (Codec.inInt 0 4294967295)) && true) = true := hwi
          rw [Bool.and_eq_true, Bool.and_eq_true] at q
          exact ⟨_, a.1, rfl, hs, (Codec.inNat_iff.mp q.1.1).2, hask, fun H' p hp => .lst (L2.SqL.of hp) (L2.dw_ints _)⟩
#print axioms PySem.Challenge.cw_treegiven_s01_answers_holds
