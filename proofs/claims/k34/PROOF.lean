import PyProof.Rows.All
import Wide.All
import OpenK.AllK
import Wide.FinOn
import HandS.ForMost
import HandS.Wide
import HandS.Property
import HandS.ExcInit
import HandS.ExcField
import HandS.IsInst
import HandS.Defaults
import HandS.MakeKw
import HandS.Style
import HandS.TupAny
import HandS.Zip
import HandS.Strs
import HandS.SortKw
import HandS.Conv
import PySem.Challenge.RW_seerings_k34_misfiling_and_splitting_rej
import HandS.Walk
import HandS.Iter
import KE.GoesMore
import KE.GoesEnum
import PyProof.P3Eq
import KE.DataMinMax
import HandS.SetFor
import HandS.OwnEq
import HandS.More
import HandS.SetKeys
import HandS.Sort
import HandS.Lambda
import KE.SortKeyHeap
import HandS.SetBool
import HandS.DictComp
import KE.DataEq
import HandS.Words
import HandS.Text
import HandS.FStr
import HandS.ExcOwn
import HandS.TryMany
import HandS.WordsExc
import HandS.Comp
import HandS.Replace
import HandS.TupLen
import HandS.Deep
import HandS.DictTup
import KE.KDictDisplayH
import PyProof.Rows.TupDisplay
import KE.SortData
import HandS.EndTab
set_option Elab.async false
set_option linter.all false
set_option maxRecDepth 100000
set_option maxHeartbeats 4000000
namespace My
open PySem L2
def top (i : Nat) : Stmt := PySem.Challenge.pw_seerings_k34_misfiling_and_splitting_rej.main.body.getD i (.Pass ⟨0, 0, 0, 0⟩)
abbrev s_InvalidTally_init : Stmt := inClass (top 9) 0
abbrev N_InvalidTally_init : List Str := ["self", "index"]
theorem sc_InvalidTally_init : FnScope N_InvalidTally_init ["self", "index"] (defScope s_InvalidTally_init) := ⟨rfl, rfl, rfl, by decide +kernel, rfl, by decide +kernel, by decide +kernel⟩
abbrev s_is_word : Stmt := top 15
abbrev N_is_word : List Str := ["text", "letter"]
theorem sc_is_word : FnScope N_is_word ["text"] (defScope s_is_word) := ⟨rfl, rfl, rfl, by decide +kernel, rfl, by decide +kernel, by decide +kernel⟩
abbrev s_is_number : Stmt := top 16
abbrev N_is_number : List Str := ["number", "least", "greatest"]
theorem sc_is_number : FnScope N_is_number ["number", "least", "greatest"] (defScope s_is_number) := ⟨rfl, rfl, rfl, by decide +kernel, rfl, by decide +kernel, by decide +kernel⟩
abbrev s_check_rule : Stmt := top 17
abbrev N_check_rule : List Str := ["rule"]
theorem sc_check_rule : FnScope N_check_rule ["rule"] (defScope s_check_rule) := ⟨rfl, rfl, rfl, by decide +kernel, rfl, by decide +kernel, by decide +kernel⟩
abbrev s_check_heading : Stmt := top 18
abbrev N_check_heading : List Str := ["heading"]
theorem sc_check_heading : FnScope N_check_heading ["heading"] (defScope s_check_heading) := ⟨rfl, rfl, rfl, by decide +kernel, rfl, by decide +kernel, by decide +kernel⟩
abbrev s_check_number : Stmt := top 19
abbrev N_check_number : List Str := ["number", "least", "greatest"]
theorem sc_check_number : FnScope N_check_number ["number", "least", "greatest"] (defScope s_check_number) := ⟨rfl, rfl, rfl, by decide +kernel, rfl, by decide +kernel, by decide +kernel⟩
abbrev s_check_place : Stmt := top 20
abbrev N_check_place : List Str := ["many", "place"]
theorem sc_check_place : FnScope N_check_place ["many", "place"] (defScope s_check_place) := ⟨rfl, rfl, rfl, by decide +kernel, rfl, by decide +kernel, by decide +kernel⟩
abbrev s_first_without_word : Stmt := top 21
abbrev N_first_without_word : List Str := ["rows", "index", "row"]
theorem sc_first_without_word : FnScope N_first_without_word ["rows"] (defScope s_first_without_word) := ⟨rfl, rfl, rfl, by decide +kernel, rfl, by decide +kernel, by decide +kernel⟩
abbrev s_check_tally : Stmt := top 22
abbrev N_check_tally : List Str := ["tally", "index"]
theorem sc_check_tally : FnScope N_check_tally ["tally"] (defScope s_check_tally) := ⟨rfl, rfl, rfl, by decide +kernel, rfl, by decide +kernel, by decide +kernel⟩
abbrev s_Drawer_init : Stmt := inClass (top 25) 0
abbrev N_Drawer_init : List Str := ["self", "cards"]
theorem sc_Drawer_init : FnScope N_Drawer_init ["self", "cards"] (defScope s_Drawer_init) := ⟨rfl, rfl, rfl, by decide +kernel, rfl, by decide +kernel, by decide +kernel⟩
abbrev s_Drawer_cards : Stmt := inClass (top 25) 1
abbrev N_Drawer_cards : List Str := ["self"]
theorem sc_Drawer_cards : FnScope N_Drawer_cards ["self"] (defScope s_Drawer_cards) := ⟨rfl, rfl, rfl, by decide +kernel, rfl, by decide +kernel, by decide +kernel⟩
abbrev s_Drawer_headings : Stmt := inClass (top 25) 2
abbrev N_Drawer_headings : List Str := ["self", "card"]
theorem sc_Drawer_headings : FnScope N_Drawer_headings ["self"] (defScope s_Drawer_headings) := ⟨rfl, rfl, rfl, by decide +kernel, rfl, by decide +kernel, by decide +kernel⟩
abbrev s_Drawer_getitem : Stmt := inClass (top 25) 5
abbrev N_Drawer_getitem : List Str := ["self", "place"]
theorem sc_Drawer_getitem : FnScope N_Drawer_getitem ["self", "place"] (defScope s_Drawer_getitem) := ⟨rfl, rfl, rfl, by decide +kernel, rfl, by decide +kernel, by decide +kernel⟩
abbrev s_Drawer_len : Stmt := inClass (top 25) 7
abbrev N_Drawer_len : List Str := ["self"]
theorem sc_Drawer_len : FnScope N_Drawer_len ["self"] (defScope s_Drawer_len) := ⟨rfl, rfl, rfl, by decide +kernel, rfl, by decide +kernel, by decide +kernel⟩
abbrev s_headings_along : Stmt := top 26
abbrev N_headings_along : List Str := ["drawer", "card"]
theorem sc_headings_along : FnScope N_headings_along ["drawer"] (defScope s_headings_along) := ⟨rfl, rfl, rfl, by decide +kernel, rfl, by decide +kernel, by decide +kernel⟩
abbrev s_filed : Stmt := top 27
abbrev N_filed : List Str := ["drawer"]
theorem sc_filed : FnScope N_filed ["drawer"] (defScope s_filed) := ⟨rfl, rfl, rfl, by decide +kernel, rfl, by decide +kernel, by decide +kernel⟩
abbrev s_seek_along : Stmt := top 29
abbrev N_seek_along : List Str := ["row", "heading", "gives_up", "place", "there"]
theorem sc_seek_along : FnScope N_seek_along ["row", "heading", "gives_up"] (defScope s_seek_along) := ⟨rfl, rfl, rfl, by decide +kernel, rfl, by decide +kernel, by decide +kernel⟩
abbrev s_seek_by_halves : Stmt := top 30
abbrev N_seek_by_halves : List Str := ["row", "heading", "places", "first", "last", "middle"]
theorem sc_seek_by_halves : FnScope N_seek_by_halves ["row", "heading"] (defScope s_seek_by_halves) := ⟨rfl, rfl, rfl, by decide +kernel, rfl, by decide +kernel, by decide +kernel⟩
abbrev s_seek : Stmt := top 31
abbrev N_seek : List Str := ["row", "rule", "heading"]
theorem sc_seek : FnScope N_seek ["row", "rule", "heading"] (defScope s_seek) := ⟨rfl, rfl, rfl, by decide +kernel, rfl, by decide +kernel, by decide +kernel⟩
abbrev s_Trip_init : Stmt := inClass (top 33) 0
abbrev N_Trip_init : List Str := ["self", "word", "asked", "found", "total"]
theorem sc_Trip_init : FnScope N_Trip_init ["self", "word", "asked", "found", "total"] (defScope s_Trip_init) := ⟨rfl, rfl, rfl, by decide +kernel, rfl, by decide +kernel, by decide +kernel⟩
abbrev s_travel : Stmt := top 34
abbrev N_travel : List Str := ["drawer", "rule", "heading", "row", "asked", "found", "total", "sought", "place", "seen"]
theorem sc_travel : FnScope N_travel ["drawer", "rule", "heading"] (defScope s_travel) := ⟨rfl, rfl, rfl, by decide +kernel, rfl, by decide +kernel, by decide +kernel⟩
abbrev s_known_headings : Stmt := top 35
abbrev N_known_headings : List Str := ["drawer", "known", "card", "heading"]
theorem sc_known_headings : FnScope N_known_headings ["drawer"] (defScope s_known_headings) := ⟨rfl, rfl, rfl, by decide +kernel, rfl, by decide +kernel, by decide +kernel⟩
abbrev s_joined : Stmt := top 37
abbrev N_joined : List Str := ["one", "other"]
theorem sc_joined : FnScope N_joined ["one", "other"] (defScope s_joined) := ⟨rfl, rfl, rfl, by decide +kernel, rfl, by decide +kernel, by decide +kernel⟩
abbrev s_card_at_end : Stmt := top 38
abbrev N_card_at_end : List Str := ["drawer", "rule", "heading", "place"]
theorem sc_card_at_end : FnScope N_card_at_end ["drawer", "rule", "heading"] (defScope s_card_at_end) := ⟨rfl, rfl, rfl, by decide +kernel, rfl, by decide +kernel, by decide +kernel⟩
abbrev s_still_found : Stmt := top 39
abbrev N_still_found : List Str := ["one", "other", "rule", "both", "found", "heading", "card"]
theorem sc_still_found : FnScope N_still_found ["one", "other", "rule"] (defScope s_still_found) := ⟨rfl, rfl, rfl, by decide +kernel, rfl, by decide +kernel, by decide +kernel⟩
abbrev s_parts_at : Stmt := top 40
abbrev N_parts_at : List Str := ["drawer", "border", "ahead", "behind", "card"]
theorem sc_parts_at : FnScope N_parts_at ["drawer", "border"] (defScope s_parts_at) := ⟨rfl, rfl, rfl, by decide +kernel, rfl, by decide +kernel, by decide +kernel⟩
abbrev s_split : Stmt := top 41
abbrev N_split : List Str := ["drawer", "heading"]
theorem sc_split : FnScope N_split ["drawer", "heading"] (defScope s_split) := ⟨rfl, rfl, rfl, by decide +kernel, rfl, by decide +kernel, by decide +kernel⟩
abbrev s_card_behind_split : Stmt := top 42
abbrev N_card_behind_split : List Str := ["parts", "border", "rule", "heading", "asked", "sought", "part", "place"]
theorem sc_card_behind_split : FnScope N_card_behind_split ["parts", "border", "rule", "heading"] (defScope s_card_behind_split) := ⟨rfl, rfl, rfl, by decide +kernel, rfl, by decide +kernel, by decide +kernel⟩
abbrev s_lost_at : Stmt := top 43
abbrev N_lost_at : List Str := ["drawer", "rule", "border", "parts", "lost", "heading", "card"]
theorem sc_lost_at : FnScope N_lost_at ["drawer", "rule", "border"] (defScope s_lost_at) := ⟨rfl, rfl, rfl, by decide +kernel, rfl, by decide +kernel, by decide +kernel⟩
abbrev s_lost_by_split : Stmt := top 44
abbrev N_lost_by_split : List Str := ["drawer", "rule", "heading"]
theorem sc_lost_by_split : FnScope N_lost_by_split ["drawer", "rule", "heading"] (defScope s_lost_by_split) := ⟨rfl, rfl, rfl, by decide +kernel, rfl, by decide +kernel, by decide +kernel⟩
abbrev s_best_split : Stmt := top 45
abbrev N_best_split : List Str := ["drawer", "rule", "borders", "border"]
theorem sc_best_split : FnScope N_best_split ["drawer", "rule"] (defScope s_best_split) := ⟨rfl, rfl, rfl, by decide +kernel, rfl, by decide +kernel, by decide +kernel⟩
abbrev s_are_books : Stmt := top 50
abbrev N_are_books : List Str := ["books", "book", "later"]
theorem sc_are_books : FnScope N_are_books ["books"] (defScope s_are_books) := ⟨rfl, rfl, rfl, by decide +kernel, rfl, by decide +kernel, by decide +kernel⟩
abbrev s_is_target : Stmt := top 51
abbrev N_is_target : List Str := ["see", "heading"]
theorem sc_is_target : FnScope N_is_target ["see", "heading"] (defScope s_is_target) := ⟨rfl, rfl, rfl, by decide +kernel, rfl, by decide +kernel, by decide +kernel⟩
abbrev s_are_further : Stmt := top 52
abbrev N_are_further : List Str := ["also", "heading", "word"]
theorem sc_are_further : FnScope N_are_further ["also", "heading"] (defScope s_are_further) := ⟨rfl, rfl, rfl, by decide +kernel, rfl, by decide +kernel, by decide +kernel⟩
abbrev s_wrong_part : Stmt := top 53
abbrev N_wrong_part : List Str := ["heading", "books", "see", "also"]
theorem sc_wrong_part : FnScope N_wrong_part ["heading", "books", "see", "also"] (defScope s_wrong_part) := ⟨rfl, rfl, rfl, by decide +kernel, rfl, by decide +kernel, by decide +kernel⟩
abbrev s_Card_init : Stmt := inClass (top 54) 0
abbrev N_Card_init : List Str := ["self", "heading", "books", "see", "also", "part"]
theorem sc_Card_init : FnScope N_Card_init ["self", "heading", "books", "see", "also"] (defScope s_Card_init) := ⟨rfl, rfl, rfl, by decide +kernel, rfl, by decide +kernel, by decide +kernel⟩
abbrev s_Card_heading : Stmt := inClass (top 54) 1
abbrev N_Card_heading : List Str := ["self"]
theorem sc_Card_heading : FnScope N_Card_heading ["self"] (defScope s_Card_heading) := ⟨rfl, rfl, rfl, by decide +kernel, rfl, by decide +kernel, by decide +kernel⟩
abbrev s_Card_see : Stmt := inClass (top 54) 3
abbrev N_Card_see : List Str := ["self"]
theorem sc_Card_see : FnScope N_Card_see ["self"] (defScope s_Card_see) := ⟨rfl, rfl, rfl, by decide +kernel, rfl, by decide +kernel, by decide +kernel⟩
abbrev s_Card_also : Stmt := inClass (top 54) 4
abbrev N_Card_also : List Str := ["self"]
theorem sc_Card_also : FnScope N_Card_also ["self"] (defScope s_Card_also) := ⟨rfl, rfl, rfl, by decide +kernel, rfl, by decide +kernel, by decide +kernel⟩
abbrev s_Card_leads : Stmt := inClass (top 54) 5
abbrev N_Card_leads : List Str := ["self"]
theorem sc_Card_leads : FnScope N_Card_leads ["self"] (defScope s_Card_leads) := ⟨rfl, rfl, rfl, by decide +kernel, rfl, by decide +kernel, by decide +kernel⟩
abbrev s_Card_eq : Stmt := inClass (top 54) 6
abbrev N_Card_eq : List Str := ["self", "other"]
theorem sc_Card_eq : FnScope N_Card_eq ["self", "other"] (defScope s_Card_eq) := ⟨rfl, rfl, rfl, by decide +kernel, rfl, by decide +kernel, by decide +kernel⟩
abbrev s_moves_of : Stmt := top 57
abbrev N_moves_of : List Str := ["row", "moves", "place", "heading", "rest", "other"]
theorem sc_moves_of : FnScope N_moves_of ["row"] (defScope s_moves_of) := ⟨rfl, rfl, rfl, by decide +kernel, rfl, by decide +kernel, by decide +kernel⟩
abbrev s_orders_after : Stmt := top 59
abbrev N_orders_after : List Str := ["many", "most", "orders", "_", "order", "move", "moved"]
theorem sc_orders_after : FnScope N_orders_after ["many", "most"] (defScope s_orders_after) := ⟨rfl, rfl, rfl, by decide +kernel, rfl, by decide +kernel, by decide +kernel⟩
abbrev s_fits_tally : Stmt := top 60
abbrev N_fits_tally : List Str := ["row", "rule", "tally", "heading", "total"]
theorem sc_fits_tally : FnScope N_fits_tally ["row", "rule", "tally"] (defScope s_fits_tally) := ⟨rfl, rfl, rfl, by decide +kernel, rfl, by decide +kernel, by decide +kernel⟩
abbrev s_orders_by : Stmt := top 61
abbrev N_orders_by : List Str := ["drawer", "rule", "tally", "most", "row", "orders", "order", "place"]
theorem sc_orders_by : FnScope N_orders_by ["drawer", "rule", "tally", "most"] (defScope s_orders_by) := ⟨rfl, rfl, rfl, by decide +kernel, rfl, by decide +kernel, by decide +kernel⟩
abbrev s_possible_orders : Stmt := top 62
abbrev N_possible_orders : List Str := ["drawer", "rule", "tally", "most"]
theorem sc_possible_orders : FnScope N_possible_orders ["drawer", "rule", "tally", "most"] (defScope s_possible_orders) := ⟨rfl, rfl, rfl, by decide +kernel, rfl, by decide +kernel, by decide +kernel⟩
abbrev s_misplaced : Stmt := top 63
abbrev N_misplaced : List Str := ["drawer", "rule", "tally", "most", "orders", "place", "order"]
theorem sc_misplaced : FnScope N_misplaced ["drawer", "rule", "tally", "most"] (defScope s_misplaced) := ⟨rfl, rfl, rfl, by decide +kernel, rfl, by decide +kernel, by decide +kernel⟩
abbrev s_llaw_taken : Stmt := top 65
abbrev N_llaw_taken : List Str := ["_law_row", "_law_many", "_law_found", "_law_cell"]
theorem sc_llaw_taken : FnScope N_llaw_taken ["_law_row", "_law_many"] (defScope s_llaw_taken) := ⟨rfl, rfl, rfl, by decide +kernel, rfl, by decide +kernel, by decide +kernel⟩
abbrev s_llaw_card : Stmt := top 66
abbrev N_llaw_card : List Str := ["_law_row", "_law_names", "_law_name", "_law_pick", "_law_others", "_law_more", "_law_other", "_law_one"]
theorem sc_llaw_card : FnScope N_llaw_card ["_law_row"] (defScope s_llaw_card) := ⟨rfl, rfl, rfl, by decide +kernel, rfl, by decide +kernel, by decide +kernel⟩
abbrev s_llaw_drawer : Stmt := top 67
abbrev N_llaw_drawer : List Str := ["_law_row", "_law_most", "_law_found", "_law_k"]
theorem sc_llaw_drawer : FnScope N_llaw_drawer ["_law_row", "_law_most"] (defScope s_llaw_drawer) := ⟨rfl, rfl, rfl, by decide +kernel, rfl, by decide +kernel, by decide +kernel⟩
abbrev s_llaw_told : Stmt := top 68
abbrev N_llaw_told : List Str := ["_law_work", "e"]
theorem sc_llaw_told : FnScope N_llaw_told ["_law_work"] (defScope s_llaw_told) := ⟨rfl, rfl, rfl, by decide +kernel, rfl, by decide +kernel, by decide +kernel⟩
abbrev s_law : Stmt := top 69
abbrev N_law : List Str := ["_law_script", "_law_row", "_law_turn", "_law_due", "_law_bad", "_law_wrong", "_law_k", "_law_word", "_law_drawer_here", "_law_most", "_law_name", "_law_rule", "_law_tally"]
theorem sc_law : FnScope N_law ["_law_script"] (defScope s_law) := ⟨rfl, rfl, rfl, by decide +kernel, rfl, by decide +kernel, by decide +kernel⟩
structure Top (K : PySem.W.Frag) (mg : Str → Option Value) where
  m_all : mg "all" = none
  m_bool : mg "bool" = none
  m_enumerate : mg "enumerate" = none
  m_int : mg "int" = none
  m_isinstance : mg "isinstance" = none
  m_len : mg "len" = none
  m_list : mg "list" = none
  m_min : mg "min" = none
  m_range : mg "range" = none
  m_set : mg "set" = none
  m_sorted : mg "sorted" = none
  m_str : mg "str" = none
  m_tuple : mg "tuple" = none
  m_zip : mg "zip" = none
  v_LETTERS : Value
  g_LETTERS : mg "LETTERS" = some v_LETTERS
  r_LETTERS : RelV (.str "abcdefghijklmnopqrstuvwxyz") v_LETTERS
  v_LONGEST_WORD : Value
  g_LONGEST_WORD : mg "LONGEST_WORD" = some v_LONGEST_WORD
  r_LONGEST_WORD : RelV (.int 8) v_LONGEST_WORD
  v_MOST_CARDS : Value
  g_MOST_CARDS : mg "MOST_CARDS" = some v_MOST_CARDS
  r_MOST_CARDS : RelV (.int 16) v_MOST_CARDS
  v_MOST_BOOKS : Value
  g_MOST_BOOKS : mg "MOST_BOOKS" = some v_MOST_BOOKS
  r_MOST_BOOKS : RelV (.int 6) v_MOST_BOOKS
  v_LAST_BOOK : Value
  g_LAST_BOOK : mg "LAST_BOOK" = some v_LAST_BOOK
  r_LAST_BOOK : RelV (.int 999) v_LAST_BOOK
  v_MOST_ALSO : Value
  g_MOST_ALSO : mg "MOST_ALSO" = some v_MOST_ALSO
  r_MOST_ALSO : RelV (.int 4) v_MOST_ALSO
  v_MOST_MOVES : Value
  g_MOST_MOVES : mg "MOST_MOVES" = some v_MOST_MOVES
  r_MOST_MOVES : RelV (.int 2) v_MOST_MOVES
  a_RULES : Addr
  g_RULES : mg "RULES" = some (.ref a_RULES)
  r_RULES : RelV (.ref a_RULES) (.ref a_RULES)
  t_RULES : ∀ H : Hp, SqT K H a_RULES [.str "all", .str "leaf", .str "half"]
  a_InvalidTally_init : Addr
  fd_InvalidTally_init : FuncData
  F_InvalidTally_init : Fun K "__init__" "InvalidTally.__init__" s_InvalidTally_init a_InvalidTally_init fd_InvalidTally_init
  a_is_word : Addr
  fd_is_word : FuncData
  F_is_word : Fun K "is_word" "is_word" s_is_word a_is_word fd_is_word
  g_is_word : mg "is_word" = some (.ref a_is_word)
  a_is_number : Addr
  fd_is_number : FuncData
  F_is_number : Fun K "is_number" "is_number" s_is_number a_is_number fd_is_number
  g_is_number : mg "is_number" = some (.ref a_is_number)
  a_check_rule : Addr
  fd_check_rule : FuncData
  F_check_rule : Fun K "check_rule" "check_rule" s_check_rule a_check_rule fd_check_rule
  g_check_rule : mg "check_rule" = some (.ref a_check_rule)
  a_check_heading : Addr
  fd_check_heading : FuncData
  F_check_heading : Fun K "check_heading" "check_heading" s_check_heading a_check_heading fd_check_heading
  g_check_heading : mg "check_heading" = some (.ref a_check_heading)
  a_check_number : Addr
  fd_check_number : FuncData
  F_check_number : Fun K "check_number" "check_number" s_check_number a_check_number fd_check_number
  g_check_number : mg "check_number" = some (.ref a_check_number)
  a_check_place : Addr
  fd_check_place : FuncData
  F_check_place : Fun K "check_place" "check_place" s_check_place a_check_place fd_check_place
  g_check_place : mg "check_place" = some (.ref a_check_place)
  a_first_without_word : Addr
  fd_first_without_word : FuncData
  F_first_without_word : Fun K "first_without_word" "first_without_word" s_first_without_word a_first_without_word fd_first_without_word
  g_first_without_word : mg "first_without_word" = some (.ref a_first_without_word)
  a_check_tally : Addr
  fd_check_tally : FuncData
  F_check_tally : Fun K "check_tally" "check_tally" s_check_tally a_check_tally fd_check_tally
  g_check_tally : mg "check_tally" = some (.ref a_check_tally)
  a_Drawer_init : Addr
  fd_Drawer_init : FuncData
  F_Drawer_init : Fun K "__init__" "Drawer.__init__" s_Drawer_init a_Drawer_init fd_Drawer_init
  a_Drawer_cards : Addr
  fd_Drawer_cards : FuncData
  F_Drawer_cards : Fun K "cards" "Drawer.cards" s_Drawer_cards a_Drawer_cards fd_Drawer_cards
  a_Drawer_headings : Addr
  fd_Drawer_headings : FuncData
  F_Drawer_headings : Fun K "headings" "Drawer.headings" s_Drawer_headings a_Drawer_headings fd_Drawer_headings
  a_Drawer_getitem : Addr
  fd_Drawer_getitem : FuncData
  F_Drawer_getitem : Fun K "__getitem__" "Drawer.__getitem__" s_Drawer_getitem a_Drawer_getitem fd_Drawer_getitem
  a_Drawer_len : Addr
  fd_Drawer_len : FuncData
  F_Drawer_len : Fun K "__len__" "Drawer.__len__" s_Drawer_len a_Drawer_len fd_Drawer_len
  a_headings_along : Addr
  fd_headings_along : FuncData
  F_headings_along : Fun K "headings_along" "headings_along" s_headings_along a_headings_along fd_headings_along
  g_headings_along : mg "headings_along" = some (.ref a_headings_along)
  a_filed : Addr
  fd_filed : FuncData
  F_filed : Fun K "filed" "filed" s_filed a_filed fd_filed
  g_filed : mg "filed" = some (.ref a_filed)
  a_seek_along : Addr
  fd_seek_along : FuncData
  F_seek_along : Fun K "seek_along" "seek_along" s_seek_along a_seek_along fd_seek_along
  g_seek_along : mg "seek_along" = some (.ref a_seek_along)
  a_seek_by_halves : Addr
  fd_seek_by_halves : FuncData
  F_seek_by_halves : Fun K "seek_by_halves" "seek_by_halves" s_seek_by_halves a_seek_by_halves fd_seek_by_halves
  g_seek_by_halves : mg "seek_by_halves" = some (.ref a_seek_by_halves)
  a_seek : Addr
  fd_seek : FuncData
  F_seek : Fun K "seek" "seek" s_seek a_seek fd_seek
  g_seek : mg "seek" = some (.ref a_seek)
  a_Trip_init : Addr
  fd_Trip_init : FuncData
  F_Trip_init : Fun K "__init__" "Trip.__init__" s_Trip_init a_Trip_init fd_Trip_init
  a_travel : Addr
  fd_travel : FuncData
  F_travel : Fun K "travel" "travel" s_travel a_travel fd_travel
  g_travel : mg "travel" = some (.ref a_travel)
  a_known_headings : Addr
  fd_known_headings : FuncData
  F_known_headings : Fun K "known_headings" "known_headings" s_known_headings a_known_headings fd_known_headings
  g_known_headings : mg "known_headings" = some (.ref a_known_headings)
  a_joined : Addr
  fd_joined : FuncData
  F_joined : Fun K "joined" "joined" s_joined a_joined fd_joined
  g_joined : mg "joined" = some (.ref a_joined)
  a_card_at_end : Addr
  fd_card_at_end : FuncData
  F_card_at_end : Fun K "card_at_end" "card_at_end" s_card_at_end a_card_at_end fd_card_at_end
  g_card_at_end : mg "card_at_end" = some (.ref a_card_at_end)
  a_still_found : Addr
  fd_still_found : FuncData
  F_still_found : Fun K "still_found" "still_found" s_still_found a_still_found fd_still_found
  g_still_found : mg "still_found" = some (.ref a_still_found)
  a_parts_at : Addr
  fd_parts_at : FuncData
  F_parts_at : Fun K "parts_at" "parts_at" s_parts_at a_parts_at fd_parts_at
  g_parts_at : mg "parts_at" = some (.ref a_parts_at)
  a_split : Addr
  fd_split : FuncData
  F_split : Fun K "split" "split" s_split a_split fd_split
  g_split : mg "split" = some (.ref a_split)
  a_card_behind_split : Addr
  fd_card_behind_split : FuncData
  F_card_behind_split : Fun K "card_behind_split" "card_behind_split" s_card_behind_split a_card_behind_split fd_card_behind_split
  g_card_behind_split : mg "card_behind_split" = some (.ref a_card_behind_split)
  a_lost_at : Addr
  fd_lost_at : FuncData
  F_lost_at : Fun K "lost_at" "lost_at" s_lost_at a_lost_at fd_lost_at
  g_lost_at : mg "lost_at" = some (.ref a_lost_at)
  a_lost_by_split : Addr
  fd_lost_by_split : FuncData
  F_lost_by_split : Fun K "lost_by_split" "lost_by_split" s_lost_by_split a_lost_by_split fd_lost_by_split
  g_lost_by_split : mg "lost_by_split" = some (.ref a_lost_by_split)
  a_best_split : Addr
  fd_best_split : FuncData
  F_best_split : Fun K "best_split" "best_split" s_best_split a_best_split fd_best_split
  g_best_split : mg "best_split" = some (.ref a_best_split)
  a_are_books : Addr
  fd_are_books : FuncData
  F_are_books : Fun K "are_books" "are_books" s_are_books a_are_books fd_are_books
  g_are_books : mg "are_books" = some (.ref a_are_books)
  a_is_target : Addr
  fd_is_target : FuncData
  F_is_target : Fun K "is_target" "is_target" s_is_target a_is_target fd_is_target
  g_is_target : mg "is_target" = some (.ref a_is_target)
  a_are_further : Addr
  fd_are_further : FuncData
  F_are_further : Fun K "are_further" "are_further" s_are_further a_are_further fd_are_further
  g_are_further : mg "are_further" = some (.ref a_are_further)
  a_wrong_part : Addr
  fd_wrong_part : FuncData
  F_wrong_part : Fun K "wrong_part" "wrong_part" s_wrong_part a_wrong_part fd_wrong_part
  g_wrong_part : mg "wrong_part" = some (.ref a_wrong_part)
  a_Card_init : Addr
  e_Card_init_0 : Addr
  e_Card_init_2 : Addr
  ek_Card_init_2 : ∀ H : Hp, SqT K H e_Card_init_2 []
  fd_Card_init : FuncData
  F_Card_init : FunD K "__init__" "Card.__init__" (defArgs s_Card_init) (defBody s_Card_init) (defScope s_Card_init) [.ref e_Card_init_0, .str "", .ref e_Card_init_2] [] a_Card_init fd_Card_init
  a_Card_heading : Addr
  fd_Card_heading : FuncData
  F_Card_heading : Fun K "heading" "Card.heading" s_Card_heading a_Card_heading fd_Card_heading
  a_Card_see : Addr
  fd_Card_see : FuncData
  F_Card_see : Fun K "see" "Card.see" s_Card_see a_Card_see fd_Card_see
  a_Card_also : Addr
  fd_Card_also : FuncData
  F_Card_also : Fun K "also" "Card.also" s_Card_also a_Card_also fd_Card_also
  a_Card_leads : Addr
  fd_Card_leads : FuncData
  F_Card_leads : Fun K "leads" "Card.leads" s_Card_leads a_Card_leads fd_Card_leads
  a_Card_eq : Addr
  fd_Card_eq : FuncData
  F_Card_eq : Fun K "__eq__" "Card.__eq__" s_Card_eq a_Card_eq fd_Card_eq
  a_moves_of : Addr
  fd_moves_of : FuncData
  F_moves_of : Fun K "moves_of" "moves_of" s_moves_of a_moves_of fd_moves_of
  g_moves_of : mg "moves_of" = some (.ref a_moves_of)
  a_orders_after : Addr
  fd_orders_after : FuncData
  F_orders_after : Fun K "orders_after" "orders_after" s_orders_after a_orders_after fd_orders_after
  g_orders_after : mg "orders_after" = some (.ref a_orders_after)
  a_fits_tally : Addr
  fd_fits_tally : FuncData
  F_fits_tally : Fun K "fits_tally" "fits_tally" s_fits_tally a_fits_tally fd_fits_tally
  g_fits_tally : mg "fits_tally" = some (.ref a_fits_tally)
  a_orders_by : Addr
  fd_orders_by : FuncData
  F_orders_by : Fun K "orders_by" "orders_by" s_orders_by a_orders_by fd_orders_by
  g_orders_by : mg "orders_by" = some (.ref a_orders_by)
  a_possible_orders : Addr
  fd_possible_orders : FuncData
  F_possible_orders : Fun K "possible_orders" "possible_orders" s_possible_orders a_possible_orders fd_possible_orders
  g_possible_orders : mg "possible_orders" = some (.ref a_possible_orders)
  a_misplaced : Addr
  fd_misplaced : FuncData
  F_misplaced : Fun K "misplaced" "misplaced" s_misplaced a_misplaced fd_misplaced
  g_misplaced : mg "misplaced" = some (.ref a_misplaced)
  a_llaw_taken : Addr
  fd_llaw_taken : FuncData
  F_llaw_taken : Fun K "_law_taken" "_law_taken" s_llaw_taken a_llaw_taken fd_llaw_taken
  g_llaw_taken : mg "_law_taken" = some (.ref a_llaw_taken)
  a_llaw_card : Addr
  fd_llaw_card : FuncData
  F_llaw_card : Fun K "_law_card" "_law_card" s_llaw_card a_llaw_card fd_llaw_card
  g_llaw_card : mg "_law_card" = some (.ref a_llaw_card)
  a_llaw_drawer : Addr
  fd_llaw_drawer : FuncData
  F_llaw_drawer : Fun K "_law_drawer" "_law_drawer" s_llaw_drawer a_llaw_drawer fd_llaw_drawer
  g_llaw_drawer : mg "_law_drawer" = some (.ref a_llaw_drawer)
  a_llaw_told : Addr
  fd_llaw_told : FuncData
  F_llaw_told : Fun K "_law_told" "_law_told" s_llaw_told a_llaw_told fd_llaw_told
  g_llaw_told : mg "_law_told" = some (.ref a_llaw_told)
  a_law : Addr
  fd_law : FuncData
  F_law : Fun K "law" "law" s_law a_law fd_law
  g_law : mg "law" = some (.ref a_law)
  c_SeeError : Addr
  g_SeeError : mg "SeeError" = some (.ref c_SeeError)
  bg_SeeError : PySem.W.specialIn K (.ref c_SeeError) "__getattribute__" = some (some (.builtin "type.__getattribute__"))
  br_SeeError : PySem.W.readsIn K c_SeeError (.type "type") = true
  bv_SeeError : PySem.W.findCls K (.ref c_SeeError) (.type "type") "__init__" = some (.val (.builtin "ValueError.__init__"))
  c_InvalidRule : Addr
  g_InvalidRule : mg "InvalidRule" = some (.ref c_InvalidRule)
  xe_InvalidRule : PySem.W.excIn K c_InvalidRule [.type "ValueError", .type "Exception", .type "BaseException", .type "object"] "ValueError.__new__" = true
  xk_InvalidRule : PySem.W.keepIn K (.ref c_InvalidRule) = true
  xs_InvalidRule : PySem.W.subIn K (.ref c_InvalidRule) (.type "BaseException") = some true
  xt_InvalidRule : PySem.W.typeIn K (.ref c_InvalidRule) = some (.type "type")
  c_InvalidHeading : Addr
  g_InvalidHeading : mg "InvalidHeading" = some (.ref c_InvalidHeading)
  xe_InvalidHeading : PySem.W.excIn K c_InvalidHeading [.type "ValueError", .type "Exception", .type "BaseException", .type "object"] "ValueError.__new__" = true
  xk_InvalidHeading : PySem.W.keepIn K (.ref c_InvalidHeading) = true
  xs_InvalidHeading : PySem.W.subIn K (.ref c_InvalidHeading) (.type "BaseException") = some true
  xt_InvalidHeading : PySem.W.typeIn K (.ref c_InvalidHeading) = some (.type "type")
  c_InvalidNumber : Addr
  g_InvalidNumber : mg "InvalidNumber" = some (.ref c_InvalidNumber)
  xe_InvalidNumber : PySem.W.excIn K c_InvalidNumber [.type "ValueError", .type "Exception", .type "BaseException", .type "object"] "ValueError.__new__" = true
  xk_InvalidNumber : PySem.W.keepIn K (.ref c_InvalidNumber) = true
  xs_InvalidNumber : PySem.W.subIn K (.ref c_InvalidNumber) (.type "BaseException") = some true
  xt_InvalidNumber : PySem.W.typeIn K (.ref c_InvalidNumber) = some (.type "type")
  c_InvalidTally : Addr
  g_InvalidTally : mg "InvalidTally" = some (.ref c_InvalidTally)
  ox_InvalidTally : OexC K c_InvalidTally
  oi_InvalidTally : PySem.W.findIn K (.ref c_InvalidTally) "__init__" = some (some (.ref a_InvalidTally_init))
  ot_InvalidTally : PySem.W.typeIn K (.ref a_InvalidTally_init) = some (.type "function")
  nf_InvalidTally_index : PySem.W.findIn K (.ref c_InvalidTally) "index" = some none
  xf_InvalidTally : XfC K c_InvalidTally
  c_NoOrder : Addr
  g_NoOrder : mg "NoOrder" = some (.ref c_NoOrder)
  xe_NoOrder : PySem.W.excIn K c_NoOrder [.type "ValueError", .type "Exception", .type "BaseException", .type "object"] "ValueError.__new__" = true
  xk_NoOrder : PySem.W.keepIn K (.ref c_NoOrder) = true
  xs_NoOrder : PySem.W.subIn K (.ref c_NoOrder) (.type "BaseException") = some true
  xt_NoOrder : PySem.W.typeIn K (.ref c_NoOrder) = some (.type "type")
  c_Drawer : Addr
  g_Drawer : mg "Drawer" = some (.ref c_Drawer)
  cl_Drawer : Cls K c_Drawer
  n_Drawer__cards : NoAttr K c_Drawer "_cards"
  Mk_Drawer : Mk K c_Drawer a_Drawer_init
  p_Drawer_cards : Addr
  P_Drawer_cards : PropOf K c_Drawer "cards" p_Drawer_cards a_Drawer_cards
  p_Drawer_headings : Addr
  P_Drawer_headings : PropOf K c_Drawer "headings" p_Drawer_headings a_Drawer_headings
  M_Drawer_getitem : Meth K c_Drawer "__getitem__" a_Drawer_getitem
  I_Drawer_getitem : PySem.W.fnIn K a_Drawer_getitem = true
  M_Drawer_len : Meth K c_Drawer "__len__" a_Drawer_len
  c_Trip : Addr
  g_Trip : mg "Trip" = some (.ref c_Trip)
  cl_Trip : Cls K c_Trip
  n_Trip_word : NoAttr K c_Trip "word"
  n_Trip_asked : NoAttr K c_Trip "asked"
  n_Trip_found : NoAttr K c_Trip "found"
  n_Trip_total : NoAttr K c_Trip "total"
  n_Trip_end : NoAttr K c_Trip "end"
  Mk_Trip : Mk K c_Trip a_Trip_init
  c_Card : Addr
  g_Card : mg "Card" = some (.ref c_Card)
  cl_Card : Cls K c_Card
  n_Card__heading : NoAttr K c_Card "_heading"
  n_Card__books : NoAttr K c_Card "_books"
  n_Card__see : NoAttr K c_Card "_see"
  n_Card__also : NoAttr K c_Card "_also"
  qn_Card : PySem.W.findIn K (.ref c_Card) "__ne__" = some (some (.builtin "object.__ne__"))
  qo_Card : PySem.W.subIn K (.ref c_Card) (.type "object") = some true
  qu_Card : PySem.W.subIn K (.type "NoneType") (.ref c_Card) = some false
  qi_Card : PySem.W.isClsIn K c_Card = true
  qt_Card : PySem.W.typeIn K (.ref c_Card) = some (.type "type")
  qc_Card : PySem.W.findIn K (.ref c_Card) "__class__" = some (some (.builtin "object.__class__"))
  qm_Card : PySem.W.mroIn K c_Card (.type "object") = some true
  qg_Card : PySem.W.specialIn K (.builtin "object.__class__") "__get__" = some (some (.builtin "getset_descriptor.__get__"))
  qk_Card : PySem.W.takesIn K (.builtin "object.__class__") = some true
  Mk_Card : Mk K c_Card a_Card_init
  p_Card_heading : Addr
  P_Card_heading : PropOf K c_Card "heading" p_Card_heading a_Card_heading
  p_Card_see : Addr
  P_Card_see : PropOf K c_Card "see" p_Card_see a_Card_see
  p_Card_also : Addr
  P_Card_also : PropOf K c_Card "also" p_Card_also a_Card_also
  p_Card_leads : Addr
  P_Card_leads : PropOf K c_Card "leads" p_Card_leads a_Card_leads
  M_Card_eq : Meth K c_Card "__eq__" a_Card_eq
  ex_InvalidRule_InvalidRule : PySem.W.exmOne K (.ref c_InvalidRule) (.ref c_InvalidRule) = some true
  ex_InvalidHeading_InvalidHeading : PySem.W.exmOne K (.ref c_InvalidHeading) (.ref c_InvalidHeading) = some true
  ex_InvalidHeading_InvalidRule : PySem.W.exmOne K (.ref c_InvalidHeading) (.ref c_InvalidRule) = some false
  ex_InvalidNumber_InvalidHeading : PySem.W.exmOne K (.ref c_InvalidNumber) (.ref c_InvalidHeading) = some false
  ex_InvalidNumber_InvalidNumber : PySem.W.exmOne K (.ref c_InvalidNumber) (.ref c_InvalidNumber) = some true
  ex_InvalidNumber_InvalidRule : PySem.W.exmOne K (.ref c_InvalidNumber) (.ref c_InvalidRule) = some false
  ex_InvalidTally_InvalidHeading : PySem.W.exmOne K (.ref c_InvalidTally) (.ref c_InvalidHeading) = some false
  ex_InvalidTally_InvalidNumber : PySem.W.exmOne K (.ref c_InvalidTally) (.ref c_InvalidNumber) = some false
  ex_InvalidTally_InvalidRule : PySem.W.exmOne K (.ref c_InvalidTally) (.ref c_InvalidRule) = some false
  ex_InvalidTally_InvalidTally : PySem.W.exmOne K (.ref c_InvalidTally) (.ref c_InvalidTally) = some true
theorem b_InvalidTally_init {K : PySem.W.Frag} {mg : Str → Option Value} (T : Top K mg) : Binds K T.fd_InvalidTally_init ["self", "index"] [] := T.F_InvalidTally_init.binds (ps := ["self", "index"]) fun _ _ _ _ _ _ us hl => match us, hl with | [_, _], _ => rfl
theorem b_is_word {K : PySem.W.Frag} {mg : Str → Option Value} (T : Top K mg) : Binds K T.fd_is_word ["text"] [] := T.F_is_word.binds (ps := ["text"]) fun _ _ _ _ _ _ us hl => match us, hl with | [_], _ => rfl
theorem b_is_number {K : PySem.W.Frag} {mg : Str → Option Value} (T : Top K mg) : Binds K T.fd_is_number ["number", "least", "greatest"] [] := T.F_is_number.binds (ps := ["number", "least", "greatest"]) fun _ _ _ _ _ _ us hl => match us, hl with | [_, _, _], _ => rfl
theorem b_check_rule {K : PySem.W.Frag} {mg : Str → Option Value} (T : Top K mg) : Binds K T.fd_check_rule ["rule"] [] := T.F_check_rule.binds (ps := ["rule"]) fun _ _ _ _ _ _ us hl => match us, hl with | [_], _ => rfl
theorem b_check_heading {K : PySem.W.Frag} {mg : Str → Option Value} (T : Top K mg) : Binds K T.fd_check_heading ["heading"] [] := T.F_check_heading.binds (ps := ["heading"]) fun _ _ _ _ _ _ us hl => match us, hl with | [_], _ => rfl
theorem b_check_number {K : PySem.W.Frag} {mg : Str → Option Value} (T : Top K mg) : Binds K T.fd_check_number ["number", "least", "greatest"] [] := T.F_check_number.binds (ps := ["number", "least", "greatest"]) fun _ _ _ _ _ _ us hl => match us, hl with | [_, _, _], _ => rfl
theorem b_check_place {K : PySem.W.Frag} {mg : Str → Option Value} (T : Top K mg) : Binds K T.fd_check_place ["many", "place"] [] := T.F_check_place.binds (ps := ["many", "place"]) fun _ _ _ _ _ _ us hl => match us, hl with | [_, _], _ => rfl
theorem b_first_without_word {K : PySem.W.Frag} {mg : Str → Option Value} (T : Top K mg) : Binds K T.fd_first_without_word ["rows"] [] := T.F_first_without_word.binds (ps := ["rows"]) fun _ _ _ _ _ _ us hl => match us, hl with | [_], _ => rfl
theorem b_check_tally {K : PySem.W.Frag} {mg : Str → Option Value} (T : Top K mg) : Binds K T.fd_check_tally ["tally"] [] := T.F_check_tally.binds (ps := ["tally"]) fun _ _ _ _ _ _ us hl => match us, hl with | [_], _ => rfl
theorem b_Drawer_init {K : PySem.W.Frag} {mg : Str → Option Value} (T : Top K mg) : Binds K T.fd_Drawer_init ["self", "cards"] [] := T.F_Drawer_init.binds (ps := ["self", "cards"]) fun _ _ _ _ _ _ us hl => match us, hl with | [_, _], _ => rfl
theorem b_Drawer_cards {K : PySem.W.Frag} {mg : Str → Option Value} (T : Top K mg) : Binds K T.fd_Drawer_cards ["self"] [] := T.F_Drawer_cards.binds (ps := ["self"]) fun _ _ _ _ _ _ us hl => match us, hl with | [_], _ => rfl
theorem b_Drawer_headings {K : PySem.W.Frag} {mg : Str → Option Value} (T : Top K mg) : Binds K T.fd_Drawer_headings ["self"] [] := T.F_Drawer_headings.binds (ps := ["self"]) fun _ _ _ _ _ _ us hl => match us, hl with | [_], _ => rfl
theorem b_Drawer_getitem {K : PySem.W.Frag} {mg : Str → Option Value} (T : Top K mg) : Binds K T.fd_Drawer_getitem ["self", "place"] [] := T.F_Drawer_getitem.binds (ps := ["self", "place"]) fun _ _ _ _ _ _ us hl => match us, hl with | [_, _], _ => rfl
theorem b_Drawer_len {K : PySem.W.Frag} {mg : Str → Option Value} (T : Top K mg) : Binds K T.fd_Drawer_len ["self"] [] := T.F_Drawer_len.binds (ps := ["self"]) fun _ _ _ _ _ _ us hl => match us, hl with | [_], _ => rfl
theorem b_headings_along {K : PySem.W.Frag} {mg : Str → Option Value} (T : Top K mg) : Binds K T.fd_headings_along ["drawer"] [] := T.F_headings_along.binds (ps := ["drawer"]) fun _ _ _ _ _ _ us hl => match us, hl with | [_], _ => rfl
theorem b_filed {K : PySem.W.Frag} {mg : Str → Option Value} (T : Top K mg) : Binds K T.fd_filed ["drawer"] [] := T.F_filed.binds (ps := ["drawer"]) fun _ _ _ _ _ _ us hl => match us, hl with | [_], _ => rfl
theorem b_seek_along {K : PySem.W.Frag} {mg : Str → Option Value} (T : Top K mg) : Binds K T.fd_seek_along ["row", "heading", "gives_up"] [] := T.F_seek_along.binds (ps := ["row", "heading", "gives_up"]) fun _ _ _ _ _ _ us hl => match us, hl with | [_, _, _], _ => rfl
theorem b_seek_by_halves {K : PySem.W.Frag} {mg : Str → Option Value} (T : Top K mg) : Binds K T.fd_seek_by_halves ["row", "heading"] [] := T.F_seek_by_halves.binds (ps := ["row", "heading"]) fun _ _ _ _ _ _ us hl => match us, hl with | [_, _], _ => rfl
theorem b_seek {K : PySem.W.Frag} {mg : Str → Option Value} (T : Top K mg) : Binds K T.fd_seek ["row", "rule", "heading"] [] := T.F_seek.binds (ps := ["row", "rule", "heading"]) fun _ _ _ _ _ _ us hl => match us, hl with | [_, _, _], _ => rfl
theorem b_Trip_init {K : PySem.W.Frag} {mg : Str → Option Value} (T : Top K mg) : Binds K T.fd_Trip_init ["self", "word", "asked", "found", "total"] [] := T.F_Trip_init.binds (ps := ["self", "word", "asked", "found", "total"]) fun _ _ _ _ _ _ us hl => match us, hl with | [_, _, _, _, _], _ => rfl
theorem b_travel {K : PySem.W.Frag} {mg : Str → Option Value} (T : Top K mg) : Binds K T.fd_travel ["drawer", "rule", "heading"] [] := T.F_travel.binds (ps := ["drawer", "rule", "heading"]) fun _ _ _ _ _ _ us hl => match us, hl with | [_, _, _], _ => rfl
theorem b_known_headings {K : PySem.W.Frag} {mg : Str → Option Value} (T : Top K mg) : Binds K T.fd_known_headings ["drawer"] [] := T.F_known_headings.binds (ps := ["drawer"]) fun _ _ _ _ _ _ us hl => match us, hl with | [_], _ => rfl
theorem b_joined {K : PySem.W.Frag} {mg : Str → Option Value} (T : Top K mg) : Binds K T.fd_joined ["one", "other"] [] := T.F_joined.binds (ps := ["one", "other"]) fun _ _ _ _ _ _ us hl => match us, hl with | [_, _], _ => rfl
theorem b_card_at_end {K : PySem.W.Frag} {mg : Str → Option Value} (T : Top K mg) : Binds K T.fd_card_at_end ["drawer", "rule", "heading"] [] := T.F_card_at_end.binds (ps := ["drawer", "rule", "heading"]) fun _ _ _ _ _ _ us hl => match us, hl with | [_, _, _], _ => rfl
theorem b_still_found {K : PySem.W.Frag} {mg : Str → Option Value} (T : Top K mg) : Binds K T.fd_still_found ["one", "other", "rule"] [] := T.F_still_found.binds (ps := ["one", "other", "rule"]) fun _ _ _ _ _ _ us hl => match us, hl with | [_, _, _], _ => rfl
theorem b_parts_at {K : PySem.W.Frag} {mg : Str → Option Value} (T : Top K mg) : Binds K T.fd_parts_at ["drawer", "border"] [] := T.F_parts_at.binds (ps := ["drawer", "border"]) fun _ _ _ _ _ _ us hl => match us, hl with | [_, _], _ => rfl
theorem b_split {K : PySem.W.Frag} {mg : Str → Option Value} (T : Top K mg) : Binds K T.fd_split ["drawer", "heading"] [] := T.F_split.binds (ps := ["drawer", "heading"]) fun _ _ _ _ _ _ us hl => match us, hl with | [_, _], _ => rfl
theorem b_card_behind_split {K : PySem.W.Frag} {mg : Str → Option Value} (T : Top K mg) : Binds K T.fd_card_behind_split ["parts", "border", "rule", "heading"] [] := T.F_card_behind_split.binds (ps := ["parts", "border", "rule", "heading"]) fun _ _ _ _ _ _ us hl => match us, hl with | [_, _, _, _], _ => rfl
theorem b_lost_at {K : PySem.W.Frag} {mg : Str → Option Value} (T : Top K mg) : Binds K T.fd_lost_at ["drawer", "rule", "border"] [] := T.F_lost_at.binds (ps := ["drawer", "rule", "border"]) fun _ _ _ _ _ _ us hl => match us, hl with | [_, _, _], _ => rfl
theorem b_lost_by_split {K : PySem.W.Frag} {mg : Str → Option Value} (T : Top K mg) : Binds K T.fd_lost_by_split ["drawer", "rule", "heading"] [] := T.F_lost_by_split.binds (ps := ["drawer", "rule", "heading"]) fun _ _ _ _ _ _ us hl => match us, hl with | [_, _, _], _ => rfl
theorem b_best_split {K : PySem.W.Frag} {mg : Str → Option Value} (T : Top K mg) : Binds K T.fd_best_split ["drawer", "rule"] [] := T.F_best_split.binds (ps := ["drawer", "rule"]) fun _ _ _ _ _ _ us hl => match us, hl with | [_, _], _ => rfl
theorem b_are_books {K : PySem.W.Frag} {mg : Str → Option Value} (T : Top K mg) : Binds K T.fd_are_books ["books"] [] := T.F_are_books.binds (ps := ["books"]) fun _ _ _ _ _ _ us hl => match us, hl with | [_], _ => rfl
theorem b_is_target {K : PySem.W.Frag} {mg : Str → Option Value} (T : Top K mg) : Binds K T.fd_is_target ["see", "heading"] [] := T.F_is_target.binds (ps := ["see", "heading"]) fun _ _ _ _ _ _ us hl => match us, hl with | [_, _], _ => rfl
theorem b_are_further {K : PySem.W.Frag} {mg : Str → Option Value} (T : Top K mg) : Binds K T.fd_are_further ["also", "heading"] [] := T.F_are_further.binds (ps := ["also", "heading"]) fun _ _ _ _ _ _ us hl => match us, hl with | [_, _], _ => rfl
theorem b_wrong_part {K : PySem.W.Frag} {mg : Str → Option Value} (T : Top K mg) : Binds K T.fd_wrong_part ["heading", "books", "see", "also"] [] := T.F_wrong_part.binds (ps := ["heading", "books", "see", "also"]) fun _ _ _ _ _ _ us hl => match us, hl with | [_, _, _, _], _ => rfl
theorem b_Card_heading {K : PySem.W.Frag} {mg : Str → Option Value} (T : Top K mg) : Binds K T.fd_Card_heading ["self"] [] := T.F_Card_heading.binds (ps := ["self"]) fun _ _ _ _ _ _ us hl => match us, hl with | [_], _ => rfl
theorem b_Card_see {K : PySem.W.Frag} {mg : Str → Option Value} (T : Top K mg) : Binds K T.fd_Card_see ["self"] [] := T.F_Card_see.binds (ps := ["self"]) fun _ _ _ _ _ _ us hl => match us, hl with | [_], _ => rfl
theorem b_Card_also {K : PySem.W.Frag} {mg : Str → Option Value} (T : Top K mg) : Binds K T.fd_Card_also ["self"] [] := T.F_Card_also.binds (ps := ["self"]) fun _ _ _ _ _ _ us hl => match us, hl with | [_], _ => rfl
theorem b_Card_leads {K : PySem.W.Frag} {mg : Str → Option Value} (T : Top K mg) : Binds K T.fd_Card_leads ["self"] [] := T.F_Card_leads.binds (ps := ["self"]) fun _ _ _ _ _ _ us hl => match us, hl with | [_], _ => rfl
theorem b_Card_eq {K : PySem.W.Frag} {mg : Str → Option Value} (T : Top K mg) : Binds K T.fd_Card_eq ["self", "other"] [] := T.F_Card_eq.binds (ps := ["self", "other"]) fun _ _ _ _ _ _ us hl => match us, hl with | [_, _], _ => rfl
theorem b_moves_of {K : PySem.W.Frag} {mg : Str → Option Value} (T : Top K mg) : Binds K T.fd_moves_of ["row"] [] := T.F_moves_of.binds (ps := ["row"]) fun _ _ _ _ _ _ us hl => match us, hl with | [_], _ => rfl
theorem b_orders_after {K : PySem.W.Frag} {mg : Str → Option Value} (T : Top K mg) : Binds K T.fd_orders_after ["many", "most"] [] := T.F_orders_after.binds (ps := ["many", "most"]) fun _ _ _ _ _ _ us hl => match us, hl with | [_, _], _ => rfl
theorem b_fits_tally {K : PySem.W.Frag} {mg : Str → Option Value} (T : Top K mg) : Binds K T.fd_fits_tally ["row", "rule", "tally"] [] := T.F_fits_tally.binds (ps := ["row", "rule", "tally"]) fun _ _ _ _ _ _ us hl => match us, hl with | [_, _, _], _ => rfl
theorem b_orders_by {K : PySem.W.Frag} {mg : Str → Option Value} (T : Top K mg) : Binds K T.fd_orders_by ["drawer", "rule", "tally", "most"] [] := T.F_orders_by.binds (ps := ["drawer", "rule", "tally", "most"]) fun _ _ _ _ _ _ us hl => match us, hl with | [_, _, _, _], _ => rfl
theorem b_possible_orders {K : PySem.W.Frag} {mg : Str → Option Value} (T : Top K mg) : Binds K T.fd_possible_orders ["drawer", "rule", "tally", "most"] [] := T.F_possible_orders.binds (ps := ["drawer", "rule", "tally", "most"]) fun _ _ _ _ _ _ us hl => match us, hl with | [_, _, _, _], _ => rfl
theorem b_misplaced {K : PySem.W.Frag} {mg : Str → Option Value} (T : Top K mg) : Binds K T.fd_misplaced ["drawer", "rule", "tally", "most"] [] := T.F_misplaced.binds (ps := ["drawer", "rule", "tally", "most"]) fun _ _ _ _ _ _ us hl => match us, hl with | [_, _, _, _], _ => rfl
theorem b_llaw_taken {K : PySem.W.Frag} {mg : Str → Option Value} (T : Top K mg) : Binds K T.fd_llaw_taken ["_law_row", "_law_many"] [] := T.F_llaw_taken.binds (ps := ["_law_row", "_law_many"]) fun _ _ _ _ _ _ us hl => match us, hl with | [_, _], _ => rfl
theorem b_llaw_card {K : PySem.W.Frag} {mg : Str → Option Value} (T : Top K mg) : Binds K T.fd_llaw_card ["_law_row"] [] := T.F_llaw_card.binds (ps := ["_law_row"]) fun _ _ _ _ _ _ us hl => match us, hl with | [_], _ => rfl
theorem b_llaw_drawer {K : PySem.W.Frag} {mg : Str → Option Value} (T : Top K mg) : Binds K T.fd_llaw_drawer ["_law_row", "_law_most"] [] := T.F_llaw_drawer.binds (ps := ["_law_row", "_law_most"]) fun _ _ _ _ _ _ us hl => match us, hl with | [_, _], _ => rfl
theorem b_llaw_told {K : PySem.W.Frag} {mg : Str → Option Value} (T : Top K mg) : Binds K T.fd_llaw_told ["_law_work"] [] := T.F_llaw_told.binds (ps := ["_law_work"]) fun _ _ _ _ _ _ us hl => match us, hl with | [_], _ => rfl
theorem b_law {K : PySem.W.Frag} {mg : Str → Option Value} (T : Top K mg) : Binds K T.fd_law ["_law_script"] [] := T.F_law.binds (ps := ["_law_script"]) fun _ _ _ _ _ _ us hl => match us, hl with | [_], _ => rfl
end My
namespace My
open PySem L2
section
variable {K : PySem.W.Frag} {H H' H1 H2 : Hp} {a b p r : Addr} {o o' : HO} {xs ys : List V}
/-! ### what stands stays -/
theorem sql_upd (h : SqL K H a xs) (n : a ≠ p) : SqL K (upd H p o) a xs := by
  rcases h with (h | ⟨u, h⟩) | h
  · exact .inl (.inl (by rw [upd_ne n]; exact h))
  · exact .inl (.inr ⟨u, by rw [upd_ne n]; exact h⟩)
  · exact .inr h
theorem sqt_upd (h : SqT K H a xs) (n : a ≠ p) : SqT K (upd H p o) a xs := by
  rcases h with (h | ⟨u, h⟩) | h
  · exact .inl (.inl (by rw [upd_ne n]; exact h))
  · exact .inl (.inr ⟨u, by rw [upd_ne n]; exact h⟩)
  · exact .inr h
theorem _root_.L2.Same.seqT (e : Same H H') (h : SqT K H a xs) : SqT K H' a xs := by
  rcases h with (h | ⟨o, h⟩) | h
  · exact .inl (.inl (e _ _ h))
  · exact .inl (.inr ⟨o, e _ _ h⟩)
  · exact .inr h
theorem same_new (n : H p = none) : Same H (upd H p o) := fun b x e => by
  rw [upd_ne (ne_of_none e n)]
  exact e
/-- an object that H does not know may change -/
theorem same_mut (e : Same H H') (n : H p = none) : Same H (upd H' p o) := fun b x h => by
  rw [upd_ne (ne_of_none h n)]
  exact e b x h
theorem kp (h : H r = some o) (n : H p = none) : upd H p o' r = some o := by
  rw [upd_ne (ne_of_none h n)]
  exact h
theorem kn (h : H r = some o) (n : r ≠ p) : upd H p o' r = some o := by
  rw [upd_ne n]
  exact h
/-- all but one -/
def But (r : Addr) (H H' : Hp) : Prop := ∀ b o, H b = some o → b ≠ r → H' b = some o
theorem But.refl : But r H H := fun _ _ h _ => h
theorem But.trans (a : But r H H1) (b : But r H1 H2) : But r H H2 := fun c o h n => b c o (a c o h n) n
theorem But.upd (a : But r H H1) : But r H (L2.upd H1 r o) := fun c x h n => by
  rw [upd_ne n]
  exact a c x h n
theorem But.same (a : But r H H1) (b : Same H1 H2) : But r H H2 := fun c o h n => b c o (a c o h n)
theorem _root_.L2.Same.but (a : Same H H1) : But r H H1 := fun c o h _ => a c o h
theorem But.seq (e : But r H H') (n : a ≠ r) (h : SqL K H a xs) : SqL K H' a xs := by
  rcases h with (h | ⟨o, h⟩) | h
  · exact .inl (.inl (e _ _ h n))
  · exact .inl (.inr ⟨o, e _ _ h n⟩)
  · exact .inr h
theorem But.seqT (e : But r H H') (n : a ≠ r) (h : SqT K H a xs) : SqT K H' a xs := by
  rcases h with (h | ⟨o, h⟩) | h
  · exact .inl (.inl (e _ _ h n))
  · exact .inl (.inr ⟨o, e _ _ h n⟩)
  · exact .inr h
theorem But.free (e : But r H H') (hr : ∃ o, H r = some o) {l : Addr} (h : H' l = none) (hr' : ∃ o, H' r = some o) : H l = none := by
  cases q : H l with
  | none => rfl
  | some o =>
    by_cases z : l = r
    · subst z
      obtain ⟨o, ho⟩ := hr'
      rw [h] at ho
      cases ho
    · rw [e l o q z] at h
      cases h
/-- what never changes stays -/
def immO : HO → Bool
  | .tup _ => true
  | .ins _ _ _ => true
  | .frz _ _ => true
  | .own _ => true
  | _ => false
def Imm (H H' : Hp) : Prop := ∀ b o, H b = some o → immO o = true → H' b = some o
theorem Imm.refl : Imm H H := fun _ _ h _ => h
theorem Imm.trans (a : Imm H H1) (b : Imm H1 H2) : Imm H H2 := fun c o h n => b c o (a c o h n) n
theorem _root_.L2.Same.imm (a : Same H H1) : Imm H H1 := fun c o h _ => a c o h
theorem But.imm (a : But r H H1) (h : H r = some o) (n : immO o = false) : Imm H H1 := fun c u hc hu => a c u hc fun e => by
  subst e
  rw [h] at hc
  cases hc
  rw [n] at hu
  cases hu
theorem Imm.mut (a : Imm H H1) (h : H1 p = some o) (n : immO o = false) : Imm H (upd H1 p o') := fun c u hc hu => by
  have h1 := a c u hc hu
  rw [upd_ne (fun e => by
    subst e
    rw [h] at h1
    cases h1
    rw [n] at hu
    cases hu)]
  exact h1
theorem Imm.new (a : Imm H H1) (h : H1 p = none) : Imm H (upd H1 p o') := fun c u hc hu => by
  rw [upd_ne (ne_of_none (a c u hc hu) h)]
  exact a c u hc hu
theorem Imm.seqT (e : Imm H H') (h : SqT K H a xs) : SqT K H' a xs := by
  rcases h with (h | ⟨o, h⟩) | h
  · exact .inl (.inl (e _ _ h rfl))
  · exact .inl (.inr ⟨o, e _ _ h rfl⟩)
  · exact .inr h
theorem sizeLine_of {n : Nat} (h : n ≤ 1000000) : n < sizeLine := Nat.lt_of_le_of_lt h (by decide)
/-- a comprehension whose turns change nothing that stands: what it makes, turn by turn -/
theorem lc_rel {J : It} {n : Nat} {G : Hp → Prop} {Y : Nat → Hp → V → Hp → Prop} (w : Walk J n G Y) {g : TG} {tt : TT} {te : TE} {vs : List Nat} {σ : St} {D : Addr} {Qd : Hp → Prop} (hn : n ≤ 1000000) (hD : H1 D = none)
    (Rl : Nat → Option V → Hp → Prop) (mono : ∀ i z H H', Imm H H' → Rl i z H → Rl i z H') (hG : ∀ H, Same H1 H → G H)
    (hs : ∀ i x H H', i < n → Same H1 H → Y i H x H' → ∀ (R : V → Hp → Prop) (R0 : Hp → Prop), (∀ y H4, Rl i (some y) H4 → Same H H4 → R y H4) → (∀ H3, Rl i none H3 → Same H H3 → R0 H3) →
      g x (wipe σ vs) H' fun σ2 H2 => wipe σ2 vs = wipe σ vs ∧ tt σ2 H2 fun b H3 => if b = true then te σ2 H3 R else R0 H3)
    (hd : ∀ H (zs : List (Option V)), Same H1 H → zs.length = n → (∀ i z, zs[i]? = some z → Rl i z H) → H D = some (.lst (zs.filterMap id)) → Qd H) :
    ∃ W : Nat → Nat → Hp → Prop, (∃ m, W 0 m (upd H1 D (.lst []))) ∧ ∀ i m H, W i m H →
      (J.stop i H ∧ Qd H) ∨ (J.go i H ∧ ∃ Nx : Hp → Prop, (∀ H', Nx H' → ∃ m', m' < m ∧ W (i + 1) m' H') ∧ ∀ x H', J.yld i H x H' → g x (wipe σ vs) H' fun σ2 H2 => wipe σ2 vs = wipe σ vs ∧ tt σ2 H2 fun b H3 =>
        if b = true then te σ2 H3 fun y H4 => ∃ acc, H4 D = some (.lst acc) ∧ acc.length < sizeLine ∧ Nx (upd H4 D (.lst (acc ++ [y]))) else Nx H3) := by
  have fl : ∀ zs : List (Option V), (zs.filterMap id).length ≤ zs.length := fun zs => List.length_filterMap_le _ _
  have get_app : ∀ (zs : List (Option V)) (z : Option V) (j : Nat) (y : Option V), (zs ++ [z])[j]? = some y → zs[j]? = some y ∨ (j = zs.length ∧ y = z) := fun zs z j y h => by
    by_cases hj : j < zs.length
    · rw [List.getElem?_append_left hj] at h
      exact .inl h
    · rw [List.getElem?_append_right (by omega)] at h
      have hj2 : j - zs.length = 0 := by
        cases e : j - zs.length with
        | zero => rfl
        | succ k => rw [e] at h; simp at h
      rw [hj2] at h
      exact .inr ⟨by omega, (Option.some.inj h).symm⟩
  refine lc_it w (fun i H => ∃ zs : List (Option V), zs.length = i ∧ Same H1 H ∧ (∀ j z, zs[j]? = some z → Rl j z H) ∧ H D = some (.lst (zs.filterMap id)))
    ⟨[], rfl, same_new hD, fun j z h => by simp at h, upd_same⟩ (fun i H _ ⟨_, _, s, _⟩ => hG H s) ?_ (fun H ⟨zs, l, s, r, e⟩ => hd H zs s l r e)
  rintro i x H H' hi ⟨zs, l, s, r, e⟩ hy
  refine hs i x H H' hi s hy _ _ (fun y H4 hr s4 => ?_) (fun H3 hr s3 => ?_)
  · refine ⟨zs.filterMap id, s4 _ _ e, sizeLine_of (by have := fl zs; omega), zs ++ [some y], by rw [List.length_append, l]; rfl, same_mut (s.trans s4) hD, fun j z h => ?_, ?_⟩
    · have im : Imm H (upd H4 D (.lst (zs.filterMap id ++ [y]))) := s4.imm.mut (s4 _ _ e) rfl
      have im4 : Imm H4 (upd H4 D (.lst (zs.filterMap id ++ [y]))) := Imm.refl.mut (s4 _ _ e) rfl
      rcases get_app zs _ j z h with h | ⟨rfl, rfl⟩
      · exact mono j z _ _ im (r j z h)
      · rw [l]
        exact mono i _ _ _ im4 hr
    · rw [upd_same, List.filterMap_append]
      rfl
  · refine ⟨zs ++ [none], by rw [List.length_append, l]; rfl, s.trans s3, fun j z h => ?_, ?_⟩
    · rcases get_app zs _ j z h with h | ⟨rfl, rfl⟩
      · exact mono j z _ _ s3.imm (r j z h)
      · rw [l]
        exact hr
    · rw [s3 _ _ e, List.filterMap_append]
      simp
/-- .. of values that a function tells -/
theorem lc_fn {J : It} {n : Nat} {G : Hp → Prop} {Y : Nat → Hp → V → Hp → Prop} (w : Walk J n G Y) {g : TG} {tt : TT} {te : TE} {vs : List Nat} {σ : St} {D : Addr} {Qd : Hp → Prop} (hn : n ≤ 1000000) (hD : H1 D = none)
    (f : Nat → Option V) (hG : ∀ H, Same H1 H → G H)
    (hs : ∀ i x H H', i < n → Same H1 H → Y i H x H' → ∀ (R : V → Hp → Prop) (R0 : Hp → Prop), (∀ y H4, f i = some y → Same H H4 → R y H4) → (∀ H3, f i = none → Same H H3 → R0 H3) →
      g x (wipe σ vs) H' fun σ2 H2 => wipe σ2 vs = wipe σ vs ∧ tt σ2 H2 fun b H3 => if b = true then te σ2 H3 R else R0 H3)
    (hd : ∀ H, Same H1 H → H D = some (.lst ((List.range n).filterMap f)) → Qd H) :
    ∃ W : Nat → Nat → Hp → Prop, (∃ m, W 0 m (upd H1 D (.lst []))) ∧ ∀ i m H, W i m H →
      (J.stop i H ∧ Qd H) ∨ (J.go i H ∧ ∃ Nx : Hp → Prop, (∀ H', Nx H' → ∃ m', m' < m ∧ W (i + 1) m' H') ∧ ∀ x H', J.yld i H x H' → g x (wipe σ vs) H' fun σ2 H2 => wipe σ2 vs = wipe σ vs ∧ tt σ2 H2 fun b H3 =>
        if b = true then te σ2 H3 fun y H4 => ∃ acc, H4 D = some (.lst acc) ∧ acc.length < sizeLine ∧ Nx (upd H4 D (.lst (acc ++ [y]))) else Nx H3) := by
  refine lc_rel w hn hD (fun i z _ => f i = z) (fun _ _ _ _ _ h => h) hG hs fun H zs s l r e => hd H s ?_
  have ez : zs = (List.range n).map f := by
    apply List.ext_getElem?
    intro i
    rw [List.getElem?_map]
    cases h : zs[i]? with
    | none =>
      rw [List.getElem?_eq_none_iff] at h
      rw [List.getElem?_eq_none (by rw [List.length_range]; omega)]
      rfl
    | some z =>
      have hi := (List.getElem?_eq_some_iff.mp h).1
      rw [List.getElem?_range (by omega)]
      exact (congrArg some (r i z h)).symm
  rw [e, ez, List.filterMap_map]
  rfl
/-- .. without a test -/
theorem lc_map {J : It} {n : Nat} {G : Hp → Prop} {Y : Nat → Hp → V → Hp → Prop} (w : Walk J n G Y) {g : TG} {te : TE} {vs : List Nat} {σ : St} {D : Addr} {Qd : Hp → Prop} (hn : n ≤ 1000000) (hD : H1 D = none)
    (f : Nat → V) (hG : ∀ H, Same H1 H → G H)
    (hs : ∀ i x H H', i < n → Same H1 H → Y i H x H' → ∀ R : V → Hp → Prop, (∀ H4, Same H H4 → R (f i) H4) → g x (wipe σ vs) H' fun σ2 H2 => wipe σ2 vs = wipe σ vs ∧ te σ2 H2 R)
    (hd : ∀ H, Same H1 H → H D = some (.lst ((List.range n).map f)) → Qd H) (hg : ∀ x σ H (A B : St → Hp → Prop), (∀ σ2 H2, A σ2 H2 → B σ2 H2) → g x σ H A → g x σ H B) :
    ∃ W : Nat → Nat → Hp → Prop, (∃ m, W 0 m (upd H1 D (.lst []))) ∧ ∀ i m H, W i m H →
      (J.stop i H ∧ Qd H) ∨ (J.go i H ∧ ∃ Nx : Hp → Prop, (∀ H', Nx H' → ∃ m', m' < m ∧ W (i + 1) m' H') ∧ ∀ x H', J.yld i H x H' → g x (wipe σ vs) H' fun σ2 H2 => wipe σ2 vs = wipe σ vs ∧ tYes σ2 H2 fun b H3 =>
        if b = true then te σ2 H3 fun y H4 => ∃ acc, H4 D = some (.lst acc) ∧ acc.length < sizeLine ∧ Nx (upd H4 D (.lst (acc ++ [y]))) else Nx H3) := by
  refine lc_fn w hn hD (fun i => some (f i)) hG (fun i x H H' hi s hy R R0 r1 r0 => hg _ _ _ _ _ (fun σ2 H2 h => ⟨h.1, ?_⟩) (hs i x H H' hi s hy R fun H4 s4 => r1 _ _ rfl s4)) (fun H s e => hd H s (by rw [e, List.filterMap_eq_map']))
  show (if true = true then te σ2 H2 R else R0 H2)
  rw [if_pos rfl]
  exact h.2
theorem gName_mono {k : Nat} : ∀ (x : V) (σ : St) (H : Hp) (A B : St → Hp → Prop), (∀ σ2 H2, A σ2 H2 → B σ2 H2) → gName k x σ H A → gName k x σ H B := fun _ _ _ _ _ h a => h _ _ a
theorem range_get {α : Type} (l : List α) : (List.range l.length).filterMap (fun i => l[i]?) = l := by
  induction l with
  | nil => rfl
  | cons x r ih =>
    rw [List.length_cons, List.range_succ_eq_map, List.filterMap_cons]
    show x :: _ = _
    rw [List.filterMap_map]
    exact congrArg (x :: ·) ih
theorem range_map {α β : Type} (l : List α) (f : α → β) (g : Nat → β) (h : ∀ i x, l[i]? = some x → g i = f x) : (List.range l.length).map g = l.map f := by
  apply List.ext_getElem?
  intro i
  rw [List.getElem?_map, List.getElem?_map]
  cases e : l[i]? with
  | none =>
    rw [List.getElem?_eq_none_iff] at e
    rw [List.getElem?_eq_none (by rw [List.length_range]; omega)]
    rfl
  | some x =>
    rw [List.getElem?_range (List.getElem?_eq_some_iff.mp e).1]
    exact congrArg some (h i x e)
theorem range_fm {α β : Type} (l : List α) (f : α → Option β) (g : Nat → Option β) (h : ∀ i x, l[i]? = some x → g i = f x) : (List.range l.length).filterMap g = l.filterMap f := by
  have e : (List.range l.length).map g = l.map f := range_map l f g h
  have e1 : (List.range l.length).filterMap g = ((List.range l.length).map g).filterMap id := by rw [List.filterMap_map]; rfl
  have e2 : l.filterMap f = (l.map f).filterMap id := by rw [List.filterMap_map]; rfl
  rw [e1, e2, e]
end
end My
namespace My
open PySem PySem.Spec PyProof.Rows L2
/-! ### enumerate(tuple): by the library's Draws -/
def IteT (K : PySem.W.Frag) (a : Addr) : It :=
  ⟨fun i H => ∃ (xs : List V) (x : V), SqT K H a xs ∧ xs[i]? = some x,
   fun i H v H' => ∃ T x, v = .ref T ∧ H T = none ∧ H' = upd H T (.tup [.int (i : Nat), x]) ∧ ∀ xs, SqT K H a xs → xs[i]? = some x,
   fun i H => ∃ xs : List V, SqT K H a xs ∧ xs.length = i⟩
theorem turn_enumT {P : Program} {w : World} {K : PySem.W.Frag} {elts : List Expr} {kk : Nat} {tpos : Pos} (a e it : Addr) (hei : e ≠ it) (hea : e ≠ a) (hai : a ≠ it) :
    Turn P w K (.Tuple elts kk tpos) (IteT K a) [e, it] e (fun i h => (∃ old, IsEnum h e it ((i : Nat) : Int) old) ∧ h.IsTupleIter it a i) where
  mem := by simp
  obj := fun i h st b hb => by
    obtain ⟨⟨old, he⟩, ⟨o, ho, hc, hd⟩⟩ := st
    rcases (by simpa using hb : b = e ∨ b = it) with rfl | rfl
    · exact ⟨_, he, fun v q => nomatch q⟩
    · exact ⟨o, ho, fun v q => by rw [hd] at q; cases q⟩
  keep := fun i h h' st k => by
    obtain ⟨⟨old, he⟩, hi⟩ := st
    exact ⟨⟨old, k e (by simp) _ he⟩, hi.at fun o q => k it (by simp) o q⟩
  item := by
    intro X hP hw hK hc i pins s σ H E I hf st hg
    subst hP hw hK
    obtain ⟨⟨old, he⟩, hit⟩ := st
    obtain ⟨xs, x, hq, hx⟩ := hg
    obtain ⟨its, rv, p, hz⟩ := I.tuple hq
    obtain ⟨u, hu, ru⟩ := rv.get hx
    have lt_e : e < s.heap.objs.size := Heap.lt_size he
    have lt_i : it < s.heap.objs.size := by
      obtain ⟨_, q, _⟩ := hit
      exact Heap.lt_size q
    have hlt : i < its.toArray.size := by
      have := (List.getElem?_eq_some_iff.mp hu).1
      simpa using this
    have D : Draws X.prog X.w X.A.in1 it [it, a] its.toArray.size (fun i v => its.toArray[i]? = some v) (fun i h => h.IsTupleIter it a i ∧ h.IsTuple a its.toArray) :=
      Draws.tuple (show X.A.in1.handled = none from I.ok.hd hc) it a hai its.toArray
    refine wpAny_pyNext_enum_itemD D he ⟨hit, p⟩ hlt hei (by simp [hei, hea]) fun x' h' tk hx' ho hst' hT hsz hk => ?_
    obtain rfl : x' = u := by
      have e1 : its.toArray[i]? = some u := by simpa using hu
      exact Option.some.inj (hx'.symm.trans e1)
    refine ⟨_, rfl, wpAny_letOwnedTupleGo_enum (s := { s with heap := h', toks := tk + 1 }) ho fun h'' he' sb => ?_⟩
    have hT2 := (sb.2 _ (Nat.ne_of_gt lt_e)).trans hT
    have new : ObjOk X.prog X.w (upd H s.heap.objs.size (.tup [.int (i : Nat), x])) h'' s.heap.objs.size (.tup [.int (i : Nat), x]) :=
      ⟨by show 2 ≤ sizeLine; decide, [.int i tk, x'], .cons ⟨_, rfl⟩ (.cons ru .nil), ⟨_, hT2, rfl, _, rfl⟩⟩
    have I1 : Inv X pins σ (upd H s.heap.objs.size (.tup [.int (i : Nat), x])) { s with heap := h'', toks := tk + 1 } :=
      I.turnedNew (ch := [e, it]) (fun b ob hb q => (sb.2 b (fun z => hb (by simp [z]))).trans (hk b ob (fun z => hb (by simp [z])) (fun z => hb (by simp [z])) q)) hf (Nat.le_refl _) new
    refine ⟨.ref s.heap.objs.size, _, I1, rfl, ⟨_, x, rfl, I.hok.fresh (Nat.le_refl _), rfl, fun ys hy => by rw [I.tuple_inj hy hq]; exact hx⟩, ⟨⟨x', ?_⟩, ?_⟩, fun b hb => ?_⟩
    · have e1 : ((i + 1 : Nat) : Int) = (i : Int) + 1 := by omega
      rw [e1]
      exact he'
    · exact hst'.1.at fun o q => (sb.2 it (Ne.symm hei)).trans q
    · have lt_b : b < s.heap.objs.size := by
        rcases (by simpa using hb : b = e ∨ b = it) with z | z
        · rw [z]; exact lt_e
        · rw [z]; exact lt_i
      rw [upd_ne (Nat.ne_of_lt lt_b)]
      exact (hf b hb).1
  done := by
    intro X hP hw hK hc i pins s σ H E I hf st hg
    subst hP hw hK
    obtain ⟨⟨old, he⟩, hit⟩ := st
    obtain ⟨xs, hq, hx⟩ := hg
    obtain ⟨its, rv, p, hz⟩ := I.tuple hq
    obtain ⟨f0, f1, f2, f3, f4, f5⟩ := hf it (by simp)
    have hl := rv.length
    obtain rfl : i = its.toArray.size := by rw [← hx, hl, List.size_toArray]
    have D : Draws X.prog X.w X.A.in1 it [it, a] its.toArray.size (fun i v => its.toArray[i]? = some v) (fun i h => h.IsTupleIter it a i ∧ h.IsTuple a its.toArray) :=
      Draws.tuple (show X.A.in1.handled = none from I.ok.hd hc) it a hai its.toArray
    exact wpAny_pyNext_enum_endD D he ⟨hit, p⟩ fun h' eb => ⟨rfl, I.turned (t' := s.toks) (fun b o hb q => eb b o hb q) f0 f1 f3 f4 f5⟩
  self := fun A i s Q E st h => let ⟨⟨_, he⟩, _⟩ := st; wpAny_pyIter_enum he h
set_option maxHeartbeats 1000000 in
/-- enumerate(v), whatever v begins with -/
theorem meets_en1 {v : Value} {o : Obj} {H : Heap → Prop} (B : Begins v o H) :
    Meets (Builtin.«enumerate.__new__» ⟨[.type "enumerate", v], []⟩) (fun _ R s => H s.heap ∧
      R (.ok (.ret (.ref (s.heap.push o).objs.size))) { s with heap := (s.heap.push o).push { cls := .type "enumerate", data := .fields #[.none, .bool false, .ref s.heap.objs.size, rawInt 0, .none, .none] } }) :=
  .of_wp fun prog w A R s h => by
    obtain ⟨hp, g, d, tk, os⟩ := s
    obtain ⟨h1, h⟩ := h
    have hs := sub_enumerate
    have q1 : ∀ {A' : Around} {E : Value → Shared → Prop} {Q : Value → Shared → Prop}, Q (.ref hp.objs.size) ⟨hp.push o, g, d, tk, os⟩ → wpAny (model prog w) A' (pyIter v) Q E ⟨hp, g, d, tk, os⟩ :=
      fun q => B.iter prog w _ _ ⟨hp, g, d, tk, os⟩ _ h1 q
    wp_walk using q1
    refine wpAny_stack_any fun st => wpAny_pure ?_
    split
    · rename_i c _ _ _ _ _
      cases (c == Value.type "enumerate") <;> (wp_walk using q1; exact ⟨_, rfl, h⟩)
    · wp_walk using q1
      exact ⟨_, rfl, h⟩
theorem call_en1 {prog : Program} {w : World} {A : Around} {E : Value → Shared → Prop} {s : Shared} {v : Value} {o : Obj} {H : Heap → Prop} {Q : Value → Shared → Prop} (B : Begins v o H) (h1 : H s.heap)
    (h : ∀ h', IsEnum h' (s.heap.objs.size + 1) s.heap.objs.size 0 .none → h'.get? s.heap.objs.size = some o →
      (∀ b o, s.heap.get? b = some o → h'.get? b = some o) → Q (.ref (s.heap.objs.size + 1)) { s with heap := h' }) :
    wpAny (model prog w) A (call (.type "enumerate") [v]) Q E s := by
  refine callType_new F.called_enumerate (by decide) (F.typeCall_enumerate_1 _) (F.newCall_enumerate_1 _) (fun obj => F.args_object_init_2 obj _) F.entry_enumerate_new (meets_en1 B) ⟨h1, ?_⟩
  have hz : (s.heap.push o).objs.size = s.heap.objs.size + 1 := Heap.size_push ..
  show _ ∧ _
  rw [hz]
  have he : IsEnum ((s.heap.push o).push { cls := .type "enumerate", data := .fields #[.none, .bool false, .ref s.heap.objs.size, rawInt 0, .none, .none] }) (s.heap.objs.size + 1) s.heap.objs.size 0 .none := by
    have q := Heap.get?_push_size (s.heap.push o) (o := { cls := .type "enumerate", data := .fields #[.none, .bool false, .ref s.heap.objs.size, rawInt 0, .none, .none] }) rfl
    rw [hz] at q
    exact q
  exact ⟨⟨_, he, rfl⟩, h _ he (Heap.get?_push_of_some _ (Heap.get?_push_size _ B.free)) fun b o x => Heap.get?_push_of_some _ (Heap.get?_push_of_some _ x)⟩
def iEnumT (K : PySem.W.Frag) (ta : TA) : TI := fun σ H R => ta σ H fun vs H1 => ∃ a xs, vs = [.ref a] ∧ SqT K H1 a xs ∧ R (IteT K a) H1
theorem pi_enumT {X : Cx} {e : Expr} {ta : TA} {p pos tpos : Pos} {elts : List Expr} {kk : Nat} (hg : Gl X "enumerate") (hm : X.mg "enumerate" = none) (ha : PA X [e] ta) (hs : starEach [e] X.env = [(false, eval e X.env)] := by rfl) :
    PI X (.Tuple elts kk tpos) (.Call (.Name "enumerate" p) [e] [] pos) (iEnumT X.K ta) := by
  refine ⟨fun pins s σ H R I h => ?_⟩
  refine Call_ (ld_blt I hg hm boot_enumerate (PyProof.Rows.callWith_type1 (thn (ha.run pos pins s σ H _ I h) fun us s1 ⟨vs, H1, I1, r1, q1⟩ => ?_) hs rfl))
  obtain ⟨a, xs, ex, hq, q⟩ := q1
  subst ex
  cases r1 with
  | cons r rr =>
    cases rr
    cases r
    obtain ⟨its, rv, p', hz⟩ := I1.tuple hq
    have lt_a : a < s1.heap.objs.size := by
      obtain ⟨o1, ho1, _⟩ := id p'
      exact Heap.lt_size ho1
    refine call_en1 (begins_tuple a its.toArray) (show s1.heap.IsTuple a its.toArray from p') fun h' he hit hk => wpAny_pyIter_enum he ?_
    have I2 : Inv X pins σ H1 { s1 with heap := h' } := I1.kept (t' := s1.toks) hk
    refine ⟨s1.heap.objs.size + 1, [s1.heap.objs.size + 1, s1.heap.objs.size], _, _, H1, rfl, I2, turn_enumT a (s1.heap.objs.size + 1) s1.heap.objs.size (Nat.succ_ne_self _) (fun z => absurd lt_a (by rw [← z]; exact Nat.not_lt_of_le (Nat.le_succ _))) (Nat.ne_of_lt lt_a), ⟨⟨.none, he⟩, ⟨_, hit, rfl, rfl⟩⟩, fun b hb => ?_, q⟩
    have hle : s1.heap.objs.size ≤ b := by
      rcases (by simpa using hb : b = s1.heap.objs.size + 1 ∨ b = s1.heap.objs.size) with z | z
      · rw [z]; exact Nat.le_add_right _ _
      · rw [z]; exact Nat.le_refl _
    exact I1.fpOk hle (I1.hok.fresh hle)
theorem walk_enumT {K : PySem.W.Frag} {a : Addr} {xs : List V} : Walk (IteT K a) xs.length (fun H => SqT K H a xs) (YPair (fun i => some (.int (i : Nat))) (fun i => xs[i]?)) := by
  refine ⟨fun i _ hi q => ⟨xs, xs[i], q, by simp [hi]⟩, fun _ q => ⟨xs, q, rfl⟩, fun i H v H' _ q y => ?_⟩
  obtain ⟨T, x, h1, h2, h3, h4⟩ := y
  exact ⟨T, .int (i : Nat), x, h1, h2, h3, rfl, h4 xs q⟩
theorem walk_zipT {K : PySem.W.Frag} {a b : Addr} {xs ys : List V} {n : Nat} (hn : n = min xs.length ys.length) : Walk (RZ.ItzT K a b) n (fun H => SqT K H a xs ∧ SqT K H b ys) (YPair (fun i => xs[i]?) (fun i => ys[i]?)) := by
  subst hn
  refine ⟨fun i _ hi q => ?_, fun _ q => ⟨xs, ys, q.1, q.2, by omega⟩, fun i H v H' _ q y => ?_⟩
  · exact ⟨xs, ys, xs[i], ys[i], q.1, q.2, List.getElem?_eq_getElem (by omega), List.getElem?_eq_getElem (by omega)⟩
  · obtain ⟨T, x, z, h1, h2, h3, h4, h5⟩ := y
    exact ⟨T, x, z, h1, h2, h3, h4 xs q.1, h5 ys q.2⟩
/-- the class of a tuple -/
theorem ty_tup {K : PySem.W.Frag} {H : Hp} {a : Addr} {xs : List V} (h : SqT K H a xs) : TyX K H (.ref a) (.type "tuple") := by
  rcases h with (h | ⟨u, h⟩) | ⟨o, its, n, hk, hc, _⟩
  · exact .base (.tup h)
  · exact .fTuple h
  · exact .kTuple hk hc
end My
namespace My
open PySem L2
section
variable {K : PySem.W.Frag} {H H' : Hp} {a b : Addr}
/-! ### data that stands: what == asks -/
theorem dpAll_ints : ∀ ns : List Int, DpAll K H (ns.map V.int) (ns.map PyData.int)
  | [] => .nil
  | n :: r => .cons (.int n) (dpAll_ints r)
theorem dpAll_strs : ∀ ws : List Str, DpAll K H (ws.map V.str) (ws.map PyData.str)
  | [] => .nil
  | x :: r => .cons (.str x) (dpAll_strs r)
theorem dp_tInts {ns : List Int} (h : SqT K H a (ns.map V.int)) : Dp K H (.ref a) (.tuple (ns.map PyData.int)) := .tup h (dpAll_ints ns)
theorem dp_lInts {ns : List Int} (h : SqL K H a (ns.map V.int)) : Dp K H (.ref a) (.list (ns.map PyData.int)) := .lst h (dpAll_ints ns)
theorem dp_tStrs {ws : List Str} (h : SqT K H a (ws.map V.str)) : Dp K H (.ref a) (.tuple (ws.map PyData.str)) := .tup h (dpAll_strs ws)
theorem dp_lStrs {ws : List Str} (h : SqL K H a (ws.map V.str)) : Dp K H (.ref a) (.list (ws.map PyData.str)) := .lst h (dpAll_strs ws)
theorem dp_nil (h : SqT K H a []) : Dp K H (.ref a) (.tuple []) := .tup h .nil
theorem can_ints : ∀ ns : List Int, PyData.canLayAll0 (ns.map PyData.int) = true
  | [] => rfl
  | _ :: r => can_ints r
theorem dep_ints : ∀ ns : List Int, PyData.depthAll (ns.map PyData.int) = 0
  | [] => rfl
  | _ :: r => by
    show max 0 (PyData.depthAll (r.map PyData.int)) = 0
    rw [dep_ints r]
    rfl
theorem sh_tInts (ns : List Int) : SeqAt.shaped (.tuple (ns.map PyData.int)) = true := by
  show (PyData.canLayAll0 (ns.map PyData.int) && decide (PyData.depthAll (ns.map PyData.int) + 1 ≤ 64)) = true
  rw [can_ints, dep_ints]
  rfl
theorem sh_lInts (ns : List Int) : SeqAt.shaped (.list (ns.map PyData.int)) = true := by
  show (PyData.canLayAll0 (ns.map PyData.int) && decide (PyData.depthAll (ns.map PyData.int) + 1 ≤ 64)) = true
  rw [can_ints, dep_ints]
  rfl
theorem can_strs : ∀ ws : List Str, (∀ x ∈ ws, PyData.strOk x = true) → PyData.canLayAll0 (ws.map PyData.str) = true
  | [], _ => rfl
  | x :: r, h => by
    show (PyData.strOk x && PyData.canLayAll0 (r.map PyData.str)) = true
    rw [h x (List.mem_cons_self ..), can_strs r fun y hy => h y (List.mem_cons_of_mem _ hy)]
    rfl
theorem dep_strs : ∀ ws : List Str, PyData.depthAll (ws.map PyData.str) = 0
  | [] => rfl
  | _ :: r => by
    show max 0 (PyData.depthAll (r.map PyData.str)) = 0
    rw [dep_strs r]
    rfl
theorem sh_tStrs (ws : List Str) (h : ∀ x ∈ ws, PyData.strOk x = true) : SeqAt.shaped (.tuple (ws.map PyData.str)) = true := by
  show (PyData.canLayAll0 (ws.map PyData.str) && decide (PyData.depthAll (ws.map PyData.str) + 1 ≤ 64)) = true
  rw [can_strs ws h, dep_strs]
  rfl
theorem sh_lStrs (ws : List Str) (h : ∀ x ∈ ws, PyData.strOk x = true) : SeqAt.shaped (.list (ws.map PyData.str)) = true := by
  show (PyData.canLayAll0 (ws.map PyData.str) && decide (PyData.depthAll (ws.map PyData.str) + 1 ≤ 64)) = true
  rw [can_strs ws h, dep_strs]
  rfl
theorem eqv_ints : ∀ ns ms : List Int, PyData.eqvAll (ns.map PyData.int) (ms.map PyData.int) = decide (ns = ms)
  | [], [] => rfl
  | [], _ :: _ => rfl
  | _ :: _, [] => rfl
  | n :: r, m :: q => by
    show ((n == m) && PyData.eqvAll (r.map PyData.int) (q.map PyData.int)) = _
    rw [eqv_ints r q]
    by_cases e : n = m
    · subst e
      by_cases e2 : r = q
      · subst e2
        simp
      · rw [decide_eq_false e2, decide_eq_false (fun z => e2 (List.cons.inj z).2), Bool.and_false]
    · rw [decide_eq_false (fun z => e (List.cons.inj z).1), beq_eq_false_iff_ne.mpr e, Bool.false_and]
theorem eqv_strs : ∀ ns ms : List Str, PyData.eqvAll (ns.map PyData.str) (ms.map PyData.str) = decide (ns = ms)
  | [], [] => rfl
  | [], _ :: _ => rfl
  | _ :: _, [] => rfl
  | n :: r, m :: q => by
    show ((n == m) && PyData.eqvAll (r.map PyData.str) (q.map PyData.str)) = _
    rw [eqv_strs r q]
    by_cases e : n = m
    · subst e
      by_cases e2 : r = q
      · subst e2
        simp
      · rw [decide_eq_false e2, decide_eq_false (fun z => e2 (List.cons.inj z).2), Bool.and_false]
    · rw [decide_eq_false (fun z => e (List.cons.inj z).1), beq_eq_false_iff_ne.mpr e, Bool.false_and]
end
end My
namespace My
open PySem PySem.Spec PyProof.Rows L2
/-! ### max(xs, default=d) -/
def maxOr (d : Int) : List Int → Int
  | [] => d
  | x :: r => r.foldl max x
def rMaxD (K : PySem.W.Frag) : List V → List V → Hp → VK → Prop := fun vs zs H Q => ∃ (a : Addr) (ns : List Int) (d : Int), vs = [.ref a] ∧ zs = [.int d] ∧ SqL K H a (ns.map V.int) ∧ Q (.int (maxOr d ns)) H
theorem cr_maxD {X : Cx} (hc : X.calm = true) (hu : X.A.units + 64 < cLine) : CallRK X (.builtin "max") [Str.ofString "default"] (rMaxD X.K) := by
  intro pins s σ H vs zs us ws Q I r rz h
  obtain ⟨a, ns, d, rfl, rfl, hs, q⟩ := h
  obtain rfl := Vals.ref1 r
  obtain ⟨w1, rfl, t, rfl⟩ := vals1 rz
  obtain ⟨its, rv, hl, hz⟩ := I.list hs
  obtain ⟨as, hr⟩ := Dp.readsAll I (ns.map PyData.int) _ its (dpAll_ints ns) rv
  have al : PySem.W.AlikeAll (ns.map PyData.int) := by
    constructor
    · intro x hx y hy
      obtain ⟨i, _, rfl⟩ := List.mem_map.mp hx
      obtain ⟨j, _, rfl⟩ := List.mem_map.mp hy
      rfl
    · intro x hx
      obtain ⟨i, _, rfl⟩ := List.mem_map.mp hx
      intro z
      cases z
  refine PySem.W.max_list_default (I.ok.hd hc) hl.isList (by simpa using hr) al (by rw [dep_ints]; omega) (fun e h' tk hk => ?_) (fun y ys i v h' tk bs e hv hR hk => ?_)
  · have e' : ns = [] := List.map_eq_nil_iff.mp e
    subst e'
    exact ⟨.int d, H, I.kept hk, ⟨_, rfl⟩, q⟩
  · cases ns with
    | nil => cases e
    | cons n r =>
      obtain ⟨rfl, rfl⟩ := List.cons.inj e
      rw [PySem.W.maxD_ints] at hR
      cases hR with
      | int j t => exact ⟨.int _, H, I.kept hk, ⟨_, rfl⟩, q⟩
theorem maxOr_ge {d : Int} : ∀ {ns : List Int} {y : Int}, y ∈ ns → y ≤ maxOr d ns
  | x :: r, y, h => by
    have key : ∀ (r : List Int) (x y : Int), (y = x ∨ y ∈ r) → y ≤ r.foldl max x := by
      intro r
      induction r with
      | nil =>
        intro x y h
        rcases h with rfl | h
        · exact Int.le_refl _
        · cases h
      | cons z r ih =>
        intro x y h
        show y ≤ r.foldl max (max x z)
        rcases h with rfl | h
        · exact Int.le_trans (Int.le_max_left _ _) (ih _ _ (.inl rfl))
        · rcases List.mem_cons.mp h with rfl | h
          · exact Int.le_trans (Int.le_max_right _ _) (ih _ _ (.inl rfl))
          · exact ih _ _ (.inr h)
    exact key r x y (List.mem_cons.mp h)
theorem maxOr_mem {d : Int} : ∀ {ns : List Int}, ns ≠ [] → maxOr d ns ∈ ns
  | [], h => absurd rfl h
  | x :: r, _ => by
    have key : ∀ (r : List Int) (x : Int), r.foldl max x = x ∨ r.foldl max x ∈ r := by
      intro r
      induction r with
      | nil => exact fun x => .inl rfl
      | cons z r ih =>
        intro x
        show r.foldl max (max x z) = x ∨ r.foldl max (max x z) ∈ z :: r
        rcases ih (max x z) with e | e
        · rw [e]
          rcases Int.le_total x z with h | h
          · rw [Int.max_eq_right h]
            exact .inr (List.mem_cons_self ..)
          · rw [Int.max_eq_left h]
            exact .inl rfl
        · exact .inr (List.mem_cons_of_mem _ e)
    rcases key r x with e | e
    · show r.foldl max x ∈ x :: r
      rw [e]
      exact List.mem_cons_self ..
    · exact List.mem_cons_of_mem _ e
end My
namespace My
open PySem PySem.Spec PyProof.Rows L2
/-! ### rules with the written part told (for blocks of comprehensions) -/
section
variable {X : Cx} {K : PySem.W.Frag}
theorem ix_listK (h : X.K = K) : IxR X (rIxL K) := by
  subst h
  exact ix_list
theorem ix_tupK (h : X.K = K) : IxR X (rIxT K) := by
  subst h
  exact ix_tup
theorem ix_seqK (h : X.K = K) : IxR X (rIx K) := by
  subst h
  exact ix_seq
theorem op_in_seqK (h : X.K = K) : OpR X (compareOp .In) (rIn K false) := by
  subst h
  exact op_in_seq
theorem op_notIn_seqK (h : X.K = K) : OpR X (compareOp .NotIn) (rIn K true) := by
  subst h
  exact op_notIn_seq
theorem op_eqDK (h : X.K = K) (hu : X.A.units + 64 < cLine) : OpR X (compareOp .Eq) (rEqD K) := by
  subst h
  exact op_eqD hu
theorem op_neDK (h : X.K = K) (hu : X.A.units + 64 < cLine) : OpR X (compareOp .NotEq) (rNeD K) := by
  subst h
  exact op_neD hu
theorem call_len_seqK (h : X.K = K) : CallR X (.builtin "len") (fun xs H Q => ∃ p ys, xs = [.ref p] ∧ (SqL K H p ys ∨ SqT K H p ys) ∧ Q (.int ys.length) H) := by
  subst h
  exact call_len_seq
theorem call_list_ofK (h : X.K = K) : CallR X (.type "list") (fun xs H Q => ∃ p ys, xs = [.ref p] ∧ (SqL K H p ys ∨ SqT K H p ys) ∧ ∀ l, H l = none → Q (.ref l) (upd H l (.lst ys))) := by
  subst h
  exact call_list_of
theorem call_tuple_ofK (h : X.K = K) : CallR X (.type "tuple") (fun xs H Q => ∃ p ys, xs = [.ref p] ∧ ((SqL K H p ys ∧ ∀ l, H l = none → Q (.ref l) (upd H l (.tup ys))) ∨ (SqT K H p ys ∧ Q (.ref p) H))) := by
  subst h
  exact call_tuple_of
theorem sl_listK (h : X.K = K) : SlR X (rSlL K) := by
  subst h
  exact sl_list
theorem sl_tupAK (h : X.K = K) : SlR X (rSlA K) := by
  subst h
  exact sl_tupA
theorem cr_allK (h : X.K = K) (hc : X.calm = true) : CallR X (.builtin "all") (rAll K) := by
  subst h
  exact cr_all hc
theorem cr_anyK (h : X.K = K) (hc : X.calm = true) : CallR X (.builtin "any") (rAny K) := by
  subst h
  exact cr_any hc
theorem pe_fldK {ta : TE} {e : Expr} {f : Str} {pos : Pos} (h : X.K = K) (he : PE X e ta) (hb : attributeBase e f X.env (eval e X.env) = eval e X.env) : PE X (.Attribute e f pos) (tFld K ta f) := by
  subst h
  exact pe_fld he hb
end
theorem op_catAK {X : Cx} {K : PySem.W.Frag} (h : X.K = K) : OpR X (binaryOp .Add) (rCatA K) := by
  subst h
  exact op_catA
theorem tYes_of {te : TE} {σ : L2.St} {H : Hp} {R : VK} {R0 : Hp → Prop} (h : te σ H R) : tYes σ H fun b H3 => if b = true then te σ H3 R else R0 H3 := by
  show (if true = true then te σ H R else R0 H)
  rw [if_pos rfl]
  exact h
/-! ### enumerate of a list or a tuple -/
def iEnumA (K : PySem.W.Frag) (ta : TA) : TI := fun σ H R => ta σ H fun vs H1 => ∃ a xs, vs = [.ref a] ∧ ∃ H0, Same H0 H1 ∧ (SqL K H0 a xs ∨ SqT K H0 a xs) ∧
  ∀ (J : It) (G : Hp → Prop), Walk J xs.length G (YPair (fun i => some (.int (i : Nat))) (fun i => xs[i]?)) → (∀ H', Same H0 H' → G H') → R J H1
theorem pi_enumA {X : Cx} {e : Expr} {ta : TA} {p pos tpos : Pos} {elts : List Expr} {kk : Nat} (hg : Gl X "enumerate") (hm : X.mg "enumerate" = none) (ha : PA X [e] ta) (hs : starEach [e] X.env = [(false, eval e X.env)] := by rfl) :
    PI X (.Tuple elts kk tpos) (.Call (.Name "enumerate" p) [e] [] pos) (iEnumA X.K ta) := by
  refine ⟨fun pins s σ H R I h => ?_⟩
  refine Call_ (ld_blt I hg hm boot_enumerate (PyProof.Rows.callWith_type1 (thn (ha.run pos pins s σ H _ I h) fun us s1 ⟨vs, H1, I1, r1, q1⟩ => ?_) hs rfl))
  obtain ⟨a, xs, ex, q⟩ := q1
  subst ex
  cases r1 with
  | cons r rr =>
    cases rr
    cases r
    have fr : ∀ b, b ∈ [s1.heap.objs.size + 1, s1.heap.objs.size] → FpOk X pins H1 b := fun b hb => by
      have hle : s1.heap.objs.size ≤ b := by
        rcases (by simpa using hb : b = s1.heap.objs.size + 1 ∨ b = s1.heap.objs.size) with z | z
        · rw [z]; exact Nat.le_add_right _ _
        · rw [z]; exact Nat.le_refl _
      exact I1.fpOk hle (I1.hok.fresh hle)
    obtain ⟨H0, s0, hq0, q0⟩ := q
    rcases hq0 with hq0 | hq0
    · have hq := s0.seq hq0
      have q := q0 _ _ (walk_enum (K := X.K) (a := a) (xs := xs)) fun H' s' => s'.seq hq0
      obtain ⟨its, rv, p', hz⟩ := I1.list hq
      refine call_enumerate_list p'.isList fun h' he hit hsz hk => wpAny_pyIter_enum he ?_
      have I2 : Inv X pins σ H1 { s1 with heap := h' } := I1.kept (t' := s1.toks) hk
      exact ⟨s1.heap.objs.size + 1, [s1.heap.objs.size + 1, s1.heap.objs.size], _, _, H1, rfl, I2, turn_enum a (s1.heap.objs.size + 1) s1.heap.objs.size, ⟨⟨.none, he⟩, hit, Nat.succ_ne_self _⟩, fr, q⟩
    · have hq := s0.seqT hq0
      have q := q0 _ _ (walk_enumT (K := X.K) (a := a) (xs := xs)) fun H' s' => s'.seqT hq0
      obtain ⟨its, rv, p', hz⟩ := I1.tuple hq
      have lt_a : a < s1.heap.objs.size := by
        obtain ⟨o1, ho1, _⟩ := id p'
        exact Heap.lt_size ho1
      refine call_en1 (begins_tuple a its.toArray) (show s1.heap.IsTuple a its.toArray from p') fun h' he hit hk => wpAny_pyIter_enum he ?_
      have I2 : Inv X pins σ H1 { s1 with heap := h' } := I1.kept (t' := s1.toks) hk
      exact ⟨s1.heap.objs.size + 1, [s1.heap.objs.size + 1, s1.heap.objs.size], _, _, H1, rfl, I2, turn_enumT a (s1.heap.objs.size + 1) s1.heap.objs.size (Nat.succ_ne_self _) (fun z => absurd lt_a (by rw [← z]; exact Nat.not_lt_of_le (Nat.le_succ _))) (Nat.ne_of_lt lt_a), ⟨⟨.none, he⟩, ⟨_, hit, rfl, rfl⟩⟩, fr, q⟩
end My
namespace My
open PySem PySem.Spec PyProof.Rows L2
/-! ### set(t) of a tuple of ints, kept as an object -/
theorem nodup_len {α : Type} [DecidableEq α] {ks ns : List α} (h1 : ks.Nodup) (h2 : ns.Nodup) (h : ∀ k, k ∈ ks ↔ k ∈ ns) : ks.length = ns.length :=
  ((List.perm_ext_iff_of_nodup h1 h2).mpr h).length_eq
def rSetTI (K : PySem.W.Frag) (w : World) : List V → Hp → VK → Prop := fun xs H Q => ∃ (l : Addr) (ns : List Int), xs = [.ref l] ∧ SqT K H l (ns.map V.int) ∧ ns.length ≤ 1000 ∧
  ∀ (p : Addr) (ks : List Int), H p = none → ks.Nodup → (∀ k, k ∈ ks ↔ k ∈ ns) → Q (.ref p) (upd H p (SetO w p (fun j => decide (j ∈ ns)) ks.length))
section
variable {X : Cx}
theorem call_setTI (hc : X.calm = true) : CallR X (.type "set") (rSetTI X.K X.w) := by
  intro pins s σ H xs us Q I r h
  obtain ⟨l, ns, rfl, hq, hl, q⟩ := h
  obtain rfl := Vals.ref1 r
  obtain ⟨its, rv, pt, hz⟩ := I.tuple hq
  refine call_set_tupI ns (I.ok.hd hc) (show s.heap.IsTuple l its.toArray from pt) (ints_of_vals rv) (by unfold scanBound; omega) fun h' tk c R hcn k => ?_
  have hn : H s.heap.objs.size = none := I.hok.fresh (Nat.le_refl _)
  obtain ⟨ks, h1, h2, h3⟩ : ∃ ks : List Int, ks.Nodup ∧ (∀ k, k ∈ ks ↔ k ∈ ns) ∧ ks.length = c := by
    obtain ⟨o, es, ep, t, _, _, _, _, nd, hm, _, _, hn, _⟩ := R
    refine ⟨es.toList.map keyOf, nd, fun k => ?_, ?_⟩
    · rw [← hm k, decide_eq_true_eq]
    · rw [List.length_map, Array.length_toList, hn]
  subst h3
  exact ⟨.ref s.heap.objs.size, _, I.laid (t' := tk) k (Nat.le_refl _) (setO_new R), rfl, q _ ks hn h1 h2⟩
/-- len(s) of a set of ints -/
def rLenSO (w : World) : List V → Hp → VK → Prop := fun xs H Q => ∃ (a : Addr) (S : Int → Bool) (n : Nat), xs = [.ref a] ∧ H a = some (SetO w a S n) ∧ n ≤ 4000 ∧ Q (.int n) H
theorem call_lenSO : CallR X (.builtin "len") (rLenSO X.w) := by
  intro pins s σ H xs us Q I r h
  obtain ⟨a, S, n, rfl, ha, hl, q⟩ := h
  obtain rfl := Vals.ref1 r
  obtain ⟨o, es, ep, t, ho, hex, hd, _, _, _, _, hf, hn, _⟩ := setO_get I ha
  exact call_len_set ho hex hd hf (by rw [hn]; omega) ⟨.int n, H, I.tok _, ⟨_, by rw [hn]⟩, q⟩
theorem call_setTIK {K : PySem.W.Frag} {w : World} (h : X.K = K) (h2 : X.w = w) (hc : X.calm = true) : CallR X (.type "set") (rSetTI K w) := by
  subst h h2
  exact call_setTI hc
end
end My
namespace My
open PySem L2
/-! ### o[i] and len(o) by own methods -/
section
variable {X : Cx}
def inCx (X : Cx) : Cx := { X with A := X.A.in1 }
theorem ok_in (o : X.Ok) : (inCx X).Ok := ⟨o.mod, o.kind, o.glob, o.blt, o.above, o.inj, o.has, o.cab, o.hd, o.frames, o.stk, o.exf, o.bs, o.bsz, o.noex, o.exfs, o.funs, o.frf⟩
theorem ok_out (n : (inCx X).Ok) : X.Ok := ⟨n.mod, n.kind, n.glob, n.blt, n.above, n.inj, n.has, n.cab, n.hd, n.frames, n.stk, n.exf, n.bs, n.bsz, n.noex, n.exfs, n.funs, n.frf⟩
theorem inv_in {pins : List (Addr × Obj)} {σ : St} {H : Hp} {s : Shared} (I : L2.Inv X pins σ H s) : L2.Inv (inCx X) pins σ H s := ⟨ok_in I.ok, I.os, I.bare, I.base, I.loc, I.cell, I.free, I.freeC, I.pin, I.hok, I.len⟩
theorem inv_out {pins : List (Addr × Obj)} {σ : St} {H : Hp} {s : Shared} (I : L2.Inv (inCx X) pins σ H s) : L2.Inv X pins σ H s := ⟨ok_out I.ok, I.os, I.bare, I.base, I.loc, I.cell, I.free, I.freeC, I.pin, I.hok, I.len⟩
theorem passes_in {CX : CXT} {E : XK} (p : Passes CX X E) : Passes CX (inCx X) E := fun pins σ H s e s' I c => p pins σ H s e s' (inv_out I) c
def tItem (C : Addr) (sp : Sp) (E : XK) (ta tb : TE) : TE := fun σ H Q => ta σ H fun x H1 => tb σ H1 fun y H2 => ∃ (a dx : Addr) (fs : List (Str × V)), x = .ref a ∧ H2 a = some (.ins C dx fs) ∧ sp [.ref a, y] H2 Q E
theorem pe_item {CX : CXT} {k : Nat} {f C : Addr} {fd : FuncData} {ps : List Str} {sp : Sp} {E : XK} {ta tb : TE} {a b : PySem.Expr} {pos : Pos} (ha : PE X a ta) (hb : PE X b tb) (m : Meth X.K C "__getitem__" f) (fi : W.fnIn X.K f = true)
    (F : FnOk X.prog X.w X.K X.mg X.base CX k f fd ps sp) (hr : Room (k + 1) X.A) (bd : Binds X.K fd ps []) (px : Passes CX X E)
    (hs : ∀ (x : Addr) (i : Value), subscripted b true (.ref x) i = runValue (Code.builtin "lifetime.subscript" { pos := [.ref x, i] }) := by intros; with_unfolding_all rfl) : PE X (.Subscript a b pos) (tItem C sp E ta tb) := by
  refine ⟨fun pins s σ H Q I h => ?_⟩
  refine PyProof.Rows.Subscript_ (thn (ha.run pins s σ H _ I h) fun u s1 ⟨x, H1, I1, rx, q1⟩ => ?_)
  refine thn (hb.run pins s1 σ H1 _ I1 q1) fun v s2 ⟨y, H2, I2, ry, q2⟩ => ?_
  obtain ⟨p, dx, fs, rfl, hp, hsp⟩ := q2
  obtain rfl : u = .ref p := rx
  obtain ⟨mm, fr⟩ := I2.fr
  obtain ⟨mA, om, _⟩ := ins_get I2.hok hp
  obtain ⟨od, ia, _⟩ := om.look
  refine W.sub_K fr I2.ok.mod.kin ia m.at_ fi m.fn ?_ (hs p v)
  have q := run_fn (X := inCx X) F hr.in1 bd .nil (passes_in px) (inv_in I2) (vs := [.ref p, y]) (.cons rfl (.cons ry .nil)) (Q := Q) (by rw [List.append_nil]; exact hsp)
  exact thn q fun z s3 ⟨v3, H3, I3, r3, q3⟩ => ⟨v3, H3, inv_out I3, r3, q3⟩
theorem call_lenOwn {CX : CXT} {k : Nat} {f C : Addr} {fd : FuncData} {ps : List Str} {sp : Sp} {E : XK} (m : Meth X.K C "__len__" f)
    (F : FnOk X.prog X.w X.K X.mg X.base CX k f fd ps sp) (hr : Room (k + 1) X.A) (bd : Binds X.K fd ps []) (px : Passes CX X E) :
    CallR X (.builtin "len") (fun xs H Q => ∃ (a dx : Addr) (fs : List (Str × V)), xs = [.ref a] ∧ H a = some (.ins C dx fs) ∧ sp [.ref a] H (fun v H' => ∃ n : Int, v = .int n ∧ 0 ≤ n ∧ n < 2 ^ 63 ∧ Q (.int n) H') E) := by
  intro pins s σ H xs us Q I r h
  obtain ⟨p, dx, fs, rfl, hp, hsp⟩ := h
  obtain rfl := Vals.ref1 r
  obtain ⟨mm, fr⟩ := I.fr
  obtain ⟨mA, om, _⟩ := ins_get I.hok hp
  obtain ⟨od, ia, _⟩ := om.look
  refine W.len_K fr I.ok.mod.kin ia m.at_ m.fn ?_
  have q := run_fn (X := inCx X) F hr.in1 bd .nil (passes_in px) (inv_in I) (vs := [.ref p]) (.cons rfl .nil) (Q := fun v H' => ∃ n : Int, v = .int n ∧ 0 ≤ n ∧ n < 2 ^ 63 ∧ Q (.int n) H') (by rw [List.append_nil]; exact hsp)
  refine thn q fun z s3 ⟨v3, H3, I3, r3, q3⟩ => ?_
  obtain ⟨n, rfl, h0, h1, hq⟩ := q3
  obtain ⟨t, rfl⟩ := r3
  exact ⟨⟨h0, h1⟩, .int n, H3, (inv_out I3).tok _, ⟨_, rfl⟩, hq⟩
end
end My
namespace My
open PySem PySem.Spec PyProof.Rows L2
/-! ### sets of one kind, led: what they hold, that their places rise -/
section
variable {P : Program} {w : World} {κ : Type} [DecidableEq κ] {knd : KeyKind P w κ} {A : Around} {E : Value → Shared → Prop} {s : Shared} {a : Addr}
def Apart (knd : KeyKind P w κ) (e e' : Int × Value) : Prop := ∀ k, knd.is k e.snd = true → knd.is k e'.snd = true → False
def SetG (knd : KeyKind P w κ) (h : Heap) (a : Addr) (S : κ → Bool) (n : Nat) : Prop := ∃ o es ep t, h.get? a = some o ∧ o.ExactSet ∧ o.data = Data.set es ep t ∧ ElemsOf knd es.toList ∧ (∀ k, S k = true ↔ ∃ e, e ∈ es.toList ∧ knd.is k e.snd = true) ∧
  es.toList.Pairwise (Apart knd) ∧ es.size < scanBound ∧ t.fits es.size = true ∧ es.size = n ∧ Ris t.place.toList ∧ (w.params.followText "set-order" = true ∨ t.led = true)
theorem put_data {o : Obj} {es es' : Array (Int × Value)} {ep : Nat} {t t' : SetTable} (h : o.data = Data.set es ep t) (x : o.ExactSet) : (Obj.putSet es' t' o).data = Data.set es' (ep + 1) t' ∧ (Obj.putSet es' t' o).ExactSet ∧ (Obj.putSet es' t' o).isFreed = false := by
  obtain ⟨c, d, dt, sl⟩ := o
  obtain rfl : dt = Data.set es ep t := h
  exact ⟨rfl, x, rfl⟩
theorem same_put {h : Heap} {f : Obj → Obj} : Heap.SameBut a h (h.update a f) := ⟨Heap.size_update .., fun b n => Heap.get?_update_ne h b a f n⟩
theorem apart_perm {l l' : List (Int × Value)} (p : l.Perm l') (h : l'.Pairwise (Apart knd)) : l.Pairwise (Apart knd) :=
  (p.symm.pairwise_iff (fun {x y} (q : Apart knd x y) k h1 h2 => q k h2 h1)).mp h
theorem elems_perm {l l' : List (Int × Value)} (p : l.Perm l') (h : ElemsOf knd l') : ElemsOf knd l := fun e he => h e (p.mem_iff.mp he)
theorem setG_tail {g : Bool → Sem Unit} (hg : ∀ (b : Bool) (s₁ : Shared) (Q' : Unit → Shared → Prop), Q' () s₁ → wpAny (model P w) A (g b) Q' E s₁) {o : Obj} {es : Array (Int × Value)} {ep : Nat} {t : SetTable} (ho : s.heap.get? a = some o) (hx : o.ExactSet) (hd : o.data = Data.set es ep t)
    {es1 : Array (Int × Value)} {t2 : SetTable} {S' : κ → Bool} (he : ElemsOf knd es1.toList) (hS : ∀ k, S' k = true ↔ ∃ e, e ∈ es1.toList ∧ knd.is k e.snd = true) (hp : es1.toList.Pairwise (Apart knd)) (hz : es1.size < scanBound) (hf : t2.fits es1.size = true) (hr : Ris t2.place.toList) (hl : w.params.followText "set-order" = true ∨ t2.led = true)
    {wasDummy : Bool} {R : Option Bool → Shared → Prop} (k : ∀ h', Heap.SameBut a s.heap h' → SetG knd h' a S' es1.size → R (some true) { s with heap := h' }) :
    wpAny (model P w) A (do
      storeSet a es1 t2
      if (!wasDummy && t2.tooFull) = true then do
          g (relayAll t2 es1 (SetTable.grown es1.size)).snd.snd
          storeSet a (relayAll t2 es1 (SetTable.grown es1.size)).fst (relayAll t2 es1 (SetTable.grown es1.size)).snd.fst
          pure (some true)
        else pure (some true)) R E s := by
  have hb : ∀ n, n < scanBound → n ≤ sizeLine := fun n h => Nat.le_of_lt (Nat.lt_of_lt_of_le h (by decide))
  refine wpAny_bind (wpAny_storeSet_of ho hd ?_ (hb _ hz))
  obtain ⟨d1, x1, f1⟩ := put_data (es' := es1) (t' := t2) hd hx
  have h1 : (s.heap.update a (Obj.putSet es1 t2)).get? a = some (Obj.putSet es1 t2 o) := Heap.get?_update_self _ ho f1
  split
  · refine wpAny_bind (hg _ _ _ ?_)
    have pm := relayAll_perm t2 es1 (SetTable.grown es1.size)
    have ft := relayAll_fits t2 es1 (SetTable.grown es1.size)
    have rs := relayAll_ris t2 es1 (SetTable.grown es1.size)
    have ld := relayAll_led t2 es1 (SetTable.grown es1.size)
    generalize (relayAll t2 es1 (SetTable.grown es1.size)).fst = es2 at *
    generalize (relayAll t2 es1 (SetTable.grown es1.size)).snd.fst = t3 at *
    have sz : es2.size = es1.size := by
      have := pm.length_eq
      rwa [Array.length_toList, Array.length_toList] at this
    refine wpAny_bind (wpAny_storeSet_of h1 d1 ?_ (by rw [sz]; exact hb _ hz))
    refine wpAny_pure ?_
    obtain ⟨d2, x2, f2⟩ := put_data (es' := es2) (t' := t3) d1 x1
    refine k _ ⟨by rw [Heap.size_update, Heap.size_update], fun b n => by rw [Heap.get?_update_ne _ _ _ _ n, Heap.get?_update_ne _ _ _ _ n]⟩ ⟨_, es2, _, t3, Heap.get?_update_self _ h1 f2, x2, d2, elems_perm pm he, fun k => ?_, apart_perm pm hp, by rw [sz]; exact hz, ft, sz, rs, by rw [ld]; exact hl⟩
    rw [hS k]
    exact ⟨fun ⟨e, m, i⟩ => ⟨e, pm.mem_iff.mpr m, i⟩, fun ⟨e, m, i⟩ => ⟨e, pm.mem_iff.mp m, i⟩⟩
  · refine wpAny_pure ?_
    exact k _ same_put ⟨_, es1, _, t2, h1, x1, d1, he, hS, hp, hz, hf, rfl, hr, hl⟩
theorem gwAny {M : Model} {g : Bool → Sem Unit} {b : Bool} {Q : Unit → Shared → Prop} (h0 : g false = pure ()) (h1 : g true = rule "set.scan.the-table-gave-way") (q : Q () s) : wpAny M A (g b) Q E s := by
  cases b with
  | false =>
    rw [h0]
    exact wpAny_pure q
  | true =>
    rw [h1]
    exact wpAny_rule q
theorem setG_add_hashed {S : κ → Bool} {n : Nat} {k : κ} {x : Value} {Q : Bool → Shared → Prop} (hk : knd.is k x = true) (hsc : x.scannable = true) (hS : SetG knd s.heap a S n) (hn : n + 1 < scanBound)
    (c : ∀ h', Heap.SameBut a s.heap h' → SetG knd h' a (fun k' => S k' || decide (k' = k)) (if S k = true then n else n + 1) → Q (!S k) { s with heap := h' }) :
    wpAny (model P w) A (setAddHashed a x (knd.hash k)) Q E s := by
  obtain ⟨o, es, ep, t, ho, hx, hd, he, hm, hp, hz, hf, hsz, hr, hl⟩ := hS
  unfold setAddHashed
  refine wpAny_holding ?_
  unfold setAddHashedIn
  refine wpAny_bind (wpAny_setState_of ho hd hf ?_)
  have hbs := byScan_of (knd := knd) hsc hz he
  show wpAny _ _ (if byScan x es = true then _ else _) _ _ _
  rw [if_pos hbs]
  refine wpAny_bind ?_
  unfold setAddByScan
  refine wpAny_bind (wpAny_rule ?_)
  refine wpAny_bind (wpAny_setScan_of hk ho hd hf he ?_)
  cases hfi : List.findIdx? (fun e => knd.is k e.snd) es.toList with
  | some j =>
    refine wpAny_pure (wpAny_pure ?_)
    have hin : S k = true := by
      rw [hm k]
      obtain ⟨hj, hi, _⟩ := List.findIdx?_eq_some_iff_getElem.mp hfi
      exact ⟨_, List.getElem_mem hj, hi⟩
    have q := c s.heap ⟨rfl, fun _ _ => rfl⟩ ⟨o, es, ep, t, ho, hx, hd, he, fun k' => ?_, hp, hz, hf, by rw [if_pos hin]; exact hsz, hr, hl⟩
    · rw [hin] at q
      exact q
    · rw [← hm k', Bool.or_eq_true, decide_eq_true_eq]
      exact ⟨fun h => h.elim id fun e => by rw [e]; exact hin, .inl⟩
  | none =>
    have hout : S k = false := by
      cases q : S k with
      | false => rfl
      | true =>
        obtain ⟨e, em, ei⟩ := (hm k).mp q
        have := List.findIdx?_eq_none_iff.mp hfi e em
        rw [ei] at this
        cases this
    have pm := layNew_perm t es (knd.hash k) x
    have ft := layNew_fits t es (knd.hash k) x
    have ld := layNew_led t es (knd.hash k) x
    have rs := layNew_ris t es (knd.hash k) x hr
    dsimp only
    generalize layNew t es (knd.hash k) x = r at pm ft ld rs ⊢
    obtain ⟨es1, t1, wd, gv⟩ := r
    replace pm : es1.toList.Perm (es.push (knd.hash k, x)).toList := pm
    replace ft : t1.fits es1.size = true := ft
    replace ld : t1.led = t.led := ld
    replace rs : Ris t1.place.toList := rs
    have tl : (es.push (knd.hash k, x)).toList = es.toList ++ [(knd.hash k, x)] := Array.toList_push ..
    rw [tl] at pm
    have sz : es1.size = n + 1 := by
      have := pm.length_eq
      rw [Array.length_toList, List.length_append, Array.length_toList, hsz] at this
      exact this
    have he1 : ElemsOf knd es1.toList := elems_perm pm fun e hm' => by
      rcases List.mem_append.mp hm' with h | h
      · exact he e h
      · rw [List.mem_singleton.mp h]
        exact ⟨⟨k, hk, rfl⟩, hsc⟩
    have hS1 : ∀ k', (S k' || decide (k' = k)) = true ↔ ∃ e, e ∈ es1.toList ∧ knd.is k' e.snd = true := fun k' => by
      rw [Bool.or_eq_true, decide_eq_true_eq, hm k']
      constructor
      · rintro (⟨e, m, i⟩ | rfl)
        · exact ⟨e, pm.mem_iff.mpr (List.mem_append_left _ m), i⟩
        · exact ⟨_, pm.mem_iff.mpr (List.mem_append_right _ (List.mem_singleton.mpr rfl)), hk⟩
      · rintro ⟨e, m, i⟩
        rcases List.mem_append.mp (pm.mem_iff.mp m) with h | h
        · exact .inl ⟨e, h, i⟩
        · rw [List.mem_singleton.mp h] at i
          exact .inr (knd.inj _ _ _ i hk)
    have hp1 : es1.toList.Pairwise (Apart knd) := apart_perm pm (List.pairwise_append.mpr ⟨hp, List.pairwise_singleton _ _, fun e m e' m' k' h1 h2 => by
      rw [List.mem_singleton.mp m'] at h2
      have := knd.inj _ _ _ h2 hk
      subst this
      have z := (hm k').mpr ⟨e, m, h1⟩
      rw [hout] at z
      cases z⟩)
    have hz1 : es1.size < scanBound := by rw [sz]; exact hn
    have c' : ∀ h', Heap.SameBut a s.heap h' → SetG knd h' a (fun k' => S k' || decide (k' = k)) es1.size → Q true { s with heap := h' } := fun h' sb sg => by
      have q := c h' sb (by rw [hout, if_neg (by decide), ← sz]; exact sg)
      rw [hout] at q
      exact q
    dsimp only
    refine wpAny_bind (gwAny rfl rfl ?_)
    have T2 : ∀ b : Bool, (if b = true then t1 else { t1 with plain := false } : SetTable).fits es1.size = true ∧ Ris (if b = true then t1 else { t1 with plain := false } : SetTable).place.toList ∧ (w.params.followText "set-order" = true ∨ (if b = true then t1 else { t1 with plain := false } : SetTable).led = true) := fun b => by
      rw [← ld] at hl
      cases b with
      | true => exact ⟨ft, rs, hl⟩
      | false => exact ⟨ft, rs, hl⟩
    split
    · rw [hashByValue_scannable 8 hsc]
      refine wpAny_bind (wpAny_pure ?_)
      obtain ⟨q1, q2, q3⟩ := T2 (plainKind x)
      exact setG_tail (fun b s₁ Q' q => gwAny rfl rfl q) ho hx hd he1 hS1 hp1 hz1 q1 q2 q3 fun h' sb sg => wpAny_pure (c' h' sb sg)
    · refine wpAny_bind (wpAny_pure ?_)
      obtain ⟨q1, q2, q3⟩ := T2 true
      exact setG_tail (fun b s₁ Q' q => gwAny rfl rfl q) ho hx hd he1 hS1 hp1 hz1 q1 q2 q3 fun h' sb sg => wpAny_pure (c' h' sb sg)
theorem SetG.stay {h h' : Heap} {S : κ → Bool} {n : Nat} (q : SetG knd h a S n) (k : ∀ o, h.get? a = some o → h'.get? a = some o) : SetG knd h' a S n := by
  obtain ⟨o, es, ep, t, ho, r⟩ := q
  exact ⟨o, es, ep, t, k o ho, r⟩
theorem SetG.to {h : Heap} {S S' : κ → Bool} {n : Nat} (q : SetG knd h a S n) (e : ∀ k, S k = S' k) : SetG knd h a S' n := by
  rw [← funext e]
  exact q
theorem setG_update {I : Addr} {fp wr : List Addr} {G : Array GenState → Array GenState → Prop} {n : Nat} {Pv : Nat → Value → Prop} {St : Nat → Shared → Prop} {R : Result → Shared → Prop} (W : WalksS P w A.in1 I fp wr G n Pv St) (S : Addr) (hS : ¬ S ∈ fp) (ks : List κ) (hn : n = ks.length) (hb : ks.length + 1 < scanBound)
    (hv : ∀ i v, Pv i v → ∃ k, ks[i]? = some k ∧ knd.is k v = true ∧ v.scannable = true) : ∀ (d i : Nat) (s : Shared), n - i = d → i ≤ n → St i s → (∃ c, c ≤ i ∧ SetG knd s.heap S (fun j => decide (j ∈ ks.take i)) c) →
    (∀ s' c, Moved (S :: wr) G s s' → c ≤ n → SetG knd s'.heap S (fun j => decide (j ∈ ks)) c → R (Except.ok (Flow.ret Value.none)) s') → codeAny (model P w) A (Code.builtin "set.update.loop" { pos := [Value.ref S, Value.ref I] }) R s
  | 0, i, s, e, hi, hSt, ⟨c, hc, hG⟩, k => by
    obtain rfl : i = n := by omega
    refine codeAny_builtin PyProof.Rows.F.entry_set_update_loop ?_
    rw [Around.under_plain rfl (by with_unfolding_all rfl)]
    refine wpAny_bind (W.done s _ _ hSt fun s' mv => ?_)
    refine wpAny_pure ?_
    have hw : ¬ S ∈ wr := fun z => hS (W.sub S z)
    refine k s' c ⟨fun b o nb => mv.heap b o fun z => nb (List.mem_cons_of_mem _ z), mv.gens, mv.drawn, mv.os, mv.toks⟩ hc ((hG.stay fun o => mv.heap S o hw).to fun j => ?_)
    rw [List.take_of_length_le (by omega)]
  | d + 1, i, s, e, hi, hSt, ⟨c, hc, hG⟩, k => by
    refine codeAny_builtin PyProof.Rows.F.entry_set_update_loop ?_
    rw [Around.under_plain rfl (by with_unfolding_all rfl)]
    refine wpAny_bind (W.item i s _ _ (by omega) hSt fun v s' hp hSt' mv => ?_)
    obtain ⟨key, hk, his, hsc⟩ := hv i v hp
    have hw : ¬ S ∈ wr := fun z => hS (W.sub S z)
    have hG' := hG.stay (h' := s'.heap) fun o => mv.heap S o hw
    refine wpAny_bind (wpAny_holding (wpAny_holding ?_))
    refine wpAny_bind (knd.pyHash his ?_)
    refine setG_add_hashed (s := { s' with toks := s'.toks + 1 }) his hsc hG' (by omega) fun h'' sb sg => ?_
    refine wpAny_pure ?_
    refine And.intro (Code.quiet_builtin _ (by decide +kernel)) ?_
    have hil := (List.getElem?_eq_some_iff.mp hk).1
    have htk : ks.take (i + 1) = ks.take i ++ [key] := by
      rw [List.take_add_one, hk]
      rfl
    refine setG_update W S hS ks hn hb hv d (i + 1) _ (by omega) (by omega) (W.frame (i + 1) s' h'' (s'.toks + 1) hSt' (Nat.le_succ _) fun b hb o ho => ?_) ⟨_, ?_, sg.to fun j => ?_⟩ fun s3 c3 mv3 hc3 hg3 => ?_
    · rw [sb.2 b fun z => hS (z ▸ hb)]
      exact ho
    · split <;> omega
    · rw [htk]
      by_cases z : j ∈ ks.take i
      · rw [decide_eq_true z, Bool.true_or, decide_eq_true (List.mem_append_left _ z)]
      · by_cases z2 : j = key
        · rw [decide_eq_true z2, Bool.or_true, decide_eq_true (List.mem_append_right _ (List.mem_singleton.mpr z2))]
        · rw [decide_eq_false z, decide_eq_false z2, decide_eq_false (fun q => (List.mem_append.mp q).elim z fun q => z2 (List.mem_singleton.mp q))]
          rfl
    · refine k s3 c3 ⟨fun b o nb ho => ?_, W.gtrans _ _ _ mv.gens mv3.gens, mv3.drawn.trans mv.drawn, mv3.os.trans mv.os, Nat.le_trans mv.toks (Nat.le_trans (Nat.le_succ _) mv3.toks)⟩ hc3 hg3
      refine mv3.heap b o nb ?_
      rw [sb.2 b fun z => nb (by rw [z]; exact List.mem_cons_self ..)]
      exact mv.heap b o (fun z => nb (List.mem_cons_of_mem _ z)) ho
end
end My
namespace My
open PySem PySem.Spec PyProof.Rows L2
section
variable {P : Program} {w : World} {κ : Type} [DecidableEq κ] {knd : KeyKind P w κ} {A : Around} {E : Value → Shared → Prop} {s : Shared} {a : Addr}
def freshSet (w : World) : Obj := { cls := Value.type "set", data := Data.set #[] 0 (SetTable.fresh 0 0 !w.params.followText "set-order") }
theorem setG_fresh {h : Heap} {S : Addr} (hS : h.get? S = some (freshSet w)) (ks : List κ) : SetG knd h S (fun j => decide (j ∈ ks.take 0)) 0 := by
  refine ⟨freshSet w, #[], 0, _, hS, ⟨rfl, rfl, rfl⟩, rfl, (fun e (he : e ∈ ([] : List (Int × Value))) => nomatch he), fun k => ?_, List.Pairwise.nil, by decide, rfl, rfl, List.Pairwise.nil, ?_⟩
  · rw [List.take_zero]
    exact ⟨fun q => absurd (of_decide_eq_true q) (List.not_mem_nil), fun ⟨e, he, _⟩ => absurd he (List.not_mem_nil)⟩
  · cases q : w.params.followText "set-order" with
    | true => exact .inl rfl
    | false => exact .inr rfl
theorem setG_init {S l : Addr} {items : Array Value} (ks : List κ) {Φ : PySem.Fin → Shared → Prop} (hh : A.handled = none) (hS : s.heap.get? S = some (freshSet w)) (hl : s.heap.IsList l items) (hv : ∀ (i : Nat) (v : Value), items[i]? = some v → ∃ k, ks[i]? = some k ∧ knd.is k v = true ∧ v.scannable = true) (hn : items.size = ks.length) (hb : ks.length + 1 < scanBound)
    (h : ∀ (s' : Shared) (c : Nat), SetG knd s'.heap S (fun j => decide (j ∈ ks)) c → c ≤ ks.length → (∀ b o, b ≠ S → s.heap.get? b = some o → s'.heap.get? b = some o) → s'.gens = s.gens → s'.drawn = s.drawn → s'.os = s.os → Φ (Fin.done (Flow.ret .none)) s') :
    wpAny (model P w) A (Builtin.«set.__init__» { pos := [Value.ref S, Value.ref l] }) Φ E s := by
  have hT : s.TypeIs (Value.ref S) "set" := ⟨_, hS, rfl⟩
  have hl0 := hl
  obtain ⟨ol, hol, hlc, nl, hld⟩ := hl
  unfold Builtin.«set.__init__»
  refine wpAny_bind (wpAny_ite_true rfl (wpAny_pure ?_))
  refine wpAny_bind ?_
  refine wpAny_bind (wpAny_bind (wpAny_typeOf hT (wpAny_ite_false rfl (wpAny_pure (wpAny_pure ?_)))))
  unfold checkCount
  refine wpAny_bind (wpAny_ite_false rfl (wpAny_ite_false rfl (wpAny_ite_false rfl (wpAny_pure ?_))))
  refine wpAny_bind (wpAny_pure ?_)
  unfold setUsed
  refine wpAny_bind (wpAny_bind (wpAny_setState_of (es := #[]) hS rfl rfl ?_))
  refine wpAny_pure ?_
  refine wpAny_ite_false rfl ?_
  have hTl : s.TypeIs (Value.ref l) "list" := ⟨ol, hol, hlc⟩
  refine wpAny_bind ?_
  unfold Builtin.Frozenset.updateFrom Builtin.Frozenset.isAnySet
  refine wpAny_bind (wpAny_bind (wpAny_isInstance hTl F.sub_list_set ?_))
  refine wpAny_isInstance hTl F.sub_list_frozenset ?_
  refine wpAny_ite_false rfl ?_
  refine wpAny_bind (wpAny_typeOf hTl ?_)
  refine wpAny_ite_false rfl ?_
  refine wpAny_bind (wpAny_pyIter_list hl0 ?_)
  refine wpAny_bind (wpAny_runValue ?_)
  have hlt := Heap.lt_size hol
  have hSt := Heap.lt_size hS
  have hSl : S ≠ l := fun e => by
    rw [e, hol] at hS
    have z : ol.cls = Value.type "set" := by rw [Option.some.inj hS]; rfl
    exact absurd (Value.type.inj (hlc.symm.trans z)) (by decide)
  have W := Walks.toS (Walks.list (prog := P) (w := w) (A := A.in1) hh s.heap.objs.size l (Nat.ne_of_lt hlt) items)
  have pS := Heap.get?_push_of_some { cls := Value.type "list_iterator", data := Data.fields #[Value.ref l, Value.int 0 0] } hS
  have pl := Heap.get?_push_of_some { cls := Value.type "list_iterator", data := Data.fields #[Value.ref l, Value.int 0 0] } hol
  refine setG_update (knd := knd) W S (fun z => ?_) ks hn hb hv _ 0 _ rfl (Nat.zero_le _) ⟨?_, ⟨ol, pl, hlc, nl, hld⟩⟩ ⟨0, Nat.le_refl _, setG_fresh pS ks⟩ fun s' c mv hc hg => ?_
  · rcases List.mem_cons.mp z with z | z
    · exact absurd z (Nat.ne_of_lt hSt)
    · exact hSl (List.mem_singleton.mp z)
  · exact ⟨_, Heap.get?_push_size s.heap rfl, rfl, rfl⟩
  · show wpAny (model P w) A (pure ()) (fun a s' => wpAny (model P w) A ((fun __r => ret Value.none) a) Φ E s') E s'
    refine wpAny_pure ?_
    refine wpAny_pure ?_
    refine h s' c hg (by rw [← hn]; exact hc) (fun b o nb ho => ?_) mv.gens mv.drawn mv.os
    refine mv.heap b o (fun z => ?_) (Heap.get?_push_of_some _ ho)
    rcases List.mem_cons.mp z with z | z
    · exact nb z
    · rw [List.mem_singleton.mp z] at ho
      exact absurd (Heap.lt_size ho) (Nat.lt_irrefl _)
theorem call_set_listG {l : Addr} {items : Array Value} (ks : List κ) {Q : Value → Shared → Prop} (hh : A.handled = none) (hl : s.heap.IsList l items) (hv : ∀ (i : Nat) (v : Value), items[i]? = some v → ∃ k, ks[i]? = some k ∧ knd.is k v = true ∧ v.scannable = true) (hn : items.size = ks.length) (hb : ks.length + 1 < scanBound)
    (h : ∀ (h' : Heap) (tk c : Nat), SetG knd h' s.heap.objs.size (fun j => decide (j ∈ ks)) c → c ≤ ks.length → (∀ b o, s.heap.get? b = some o → h'.get? b = some o) → Q (.ref s.heap.objs.size) { s with heap := h', toks := tk }) : wpAny (model P w) A (call (.type "set") [.ref l]) Q E s := by
  obtain ⟨c, tl, hmro⟩ := F.called_set.mro
  have hmade := F.called_set.made
  have hsub := F.called_set.sub
  have h1 := F.called_set.notType
  have h2 := F.called_set.canCreate
  have hct := F.typeCall_set_1 (Value.ref l)
  refine wpAny_call (codeAny_of_tree ?_)
  refine wpAny_pure ⟨Code.quiet_builtin _ (by decide +kernel), codeAny_builtin F.entry_type_call ?_⟩
  rw [Around.under_plain (weight_type_call_type "set" [.ref l] []) (by with_unfolding_all rfl)]
  unfold Builtin.«type.__call__»
  refine wpAny_ite_false (Eq.refl _) ?_
  refine wpAny_ite_false (Eq.refl _) ?_
  refine wpAny_bind (wpAny_of_eq hct ?_)
  refine wpAny_bind (wpAny_of_eq hmro ?_)
  refine wpAny_ite_false rfl ?_
  refine wpAny_bind (wpAny_of_eq hmade ?_)
  refine wpAny_bind (wpAny_pure ?_)
  refine wpAny_bind (wpAny_holding ?_)
  refine wpAny_call (codeAny_mono (L2.code_set_led1 (E := fun _ _ => False) (Value.ref l) (Q₁ := fun v s₁ => v = .ref s.heap.objs.size ∧ s₁ = { s with heap := s.heap.push { cls := .type "set", data := Data.set #[] 0 (SetTable.fresh 0 0 !w.params.followText "set-order") } }) ⟨rfl, rfl⟩) fun r s₁ hr => ?_)
  obtain ⟨e1, e2⟩ | e3 : (∃ v, r = .ok (.ret v) ∧ v = .ref s.heap.objs.size ∧ s₁ = { s with heap := s.heap.push { cls := .type "set", data := Data.set #[] 0 (SetTable.fresh 0 0 !w.params.followText "set-order") } }) ∨ False := by
    cases r with
    | ok f =>
      cases f with
      | ret v => exact .inl ⟨v, rfl, hr⟩
      | _ => exact .inr hr
    | error e => exact .inr hr
  · obtain ⟨rfl, rfl, rfl⟩ := e2
    have hS := Heap.get?_push_size s.heap (o := { cls := .type "set", data := Data.set #[] 0 (SetTable.fresh 0 0 !w.params.followText "set-order") }) rfl
    have hT : Shared.TypeIs { s with heap := s.heap.push { cls := .type "set", data := Data.set #[] 0 (SetTable.fresh 0 0 !w.params.followText "set-order") } } (Value.ref s.heap.objs.size) "set" := ⟨_, hS, rfl⟩
    have hli := F.called_set.init.lookup
    have hbi := F.called_set.init.bind (Value.ref s.heap.objs.size)
    refine wpAny_bind (wpAny_isInstance hT hsub ?_)
    refine wpAny_ite_false rfl ?_
    refine wpAny_bind (wpAny_holding ?_)
    refine wpAny_bind (wpAny_specialOf hT hli ?_)
    refine wpAny_holding ?_
    refine wpAny_bind (wpAny_of_eq hbi ?_)
    refine wpAny_bind ?_
    refine wpAny_call (codeAny_mono (codeAny_call_builtin F.called_set.init.plain F.entry_set_init (check_set_init_1 hT ?_)) fun r s₂ hr2 => hr2)
    have hl1 : (s.heap.push (freshSet w)).IsList l items := by
      obtain ⟨ol, hol, hlc, nl, hld⟩ := hl
      exact ⟨ol, Heap.get?_push_of_some _ hol, hlc, nl, hld⟩
    refine setG_init (knd := knd) ks hh hS hl1 hv hn hb fun s' c hg hc hk hgn hdr hos => ?_
    refine wpAny_pure ?_
    refine wpAny_ite_false rfl ?_
    refine wpAny_pure ?_
    obtain ⟨hp', gn', dr', tk', os'⟩ := s'
    obtain rfl : gn' = s.gens := hgn
    obtain rfl : dr' = s.drawn := hdr
    obtain rfl : os' = s.os := hos
    refine h hp' tk' c hg hc fun b o ho => hk b o (fun z => ?_) (Heap.get?_push_of_some _ ho)
    rw [z] at ho
    exact absurd (Heap.lt_size ho) (Nat.lt_irrefl _)
  · exact e3.elim
end
end My
namespace My
open PySem PySem.Spec PyProof.Rows L2
/-! ### set(list of texts), its len, sorted of it -/
section
variable {P : Program} {w : World} {X : Cx}
theorem isStr {k : Str} {v : Value} (h : (PySem.strKind P w).is k v = true) : ∃ t, v = Value.str k t := by
  cases v with
  | str x t => exact ⟨t, by rw [eq_of_beq (show (x == k) = true from h)]⟩
  | _ => cases (show false = true from h)
theorem isStr_mk (k : Str) (t : Tok) : (PySem.strKind P w).is k (Value.str k t) = true := beq_self_eq_true k
def keyS : Value → Str
  | .str x _ => x
  | _ => Str.empty
def SetSO (P : Program) (w : World) (a : Addr) (S : Str → Bool) (n : Nat) : HO := .ext fun h => SetG (PySem.strKind P w) h a S n
theorem setS_ok {H : Hp} {h : Heap} {a : Addr} {S : Str → Bool} {n : Nat} (g : SetG (PySem.strKind P w) h a S n) : ObjOk P w H h a (SetSO P w a S n) := by
  refine ⟨g, ?_, fun h1 h2 q k => SetG.stay q k⟩
  obtain ⟨o, _, _, _, ho, _⟩ := g
  exact ⟨o, ho⟩
/-- the texts of a set, each once -/
theorem keysOf {l : List (Int × Value)} {S : Str → Bool} (he : ElemsOf (PySem.strKind P w) l) (hm : ∀ k, S k = true ↔ ∃ e, e ∈ l ∧ (PySem.strKind P w).is k e.snd = true) (hp : l.Pairwise (Apart (PySem.strKind P w))) :
    (l.map fun e => keyS e.snd).Nodup ∧ (∀ k, k ∈ (l.map fun e => keyS e.snd) ↔ S k = true) ∧ ∀ e ∈ l, ∃ t, e.snd = Value.str (keyS e.snd) t := by
  have hk : ∀ e ∈ l, ∃ t, e.snd = Value.str (keyS e.snd) t := fun e m => by
    obtain ⟨⟨k, i, _⟩, _⟩ := he e m
    obtain ⟨t, q⟩ := isStr i
    exact ⟨t, by rw [q]; rfl⟩
  refine ⟨?_, fun k => ?_, hk⟩
  · refine List.pairwise_map.mpr (hp.imp_of_mem fun {a b} ma mb q e => ?_)
    obtain ⟨t, ta⟩ := hk a ma
    obtain ⟨u, tb⟩ := hk b mb
    refine q (keyS a.snd) (by rw [ta]; exact isStr_mk _ _) ?_
    rw [e, tb]
    exact isStr_mk _ _
  · rw [hm k, List.mem_map]
    constructor
    · rintro ⟨e, m, rfl⟩
      obtain ⟨t, q⟩ := hk e m
      exact ⟨e, m, by rw [q]; exact isStr_mk _ _⟩
    · rintro ⟨e, m, i⟩
      obtain ⟨t, q⟩ := isStr i
      exact ⟨e, m, by rw [q]; rfl⟩
theorem vals_strs : ∀ {ws : List Str} {its : List Value}, Vals (ws.map V.str) its → its.length = ws.length ∧ ∀ (i : Nat) (v : Value), its[i]? = some v → ∃ k t, ws[i]? = some k ∧ v = Value.str k t
  | [], its, h => by
    cases h
    exact ⟨rfl, fun i v h => by simp at h⟩
  | x :: ws, its, h => by
    cases h with
    | cons r rr =>
      obtain ⟨t, rfl⟩ := r
      obtain ⟨l, g⟩ := vals_strs rr
      refine ⟨by rw [List.length_cons, List.length_cons, l], fun i v h => ?_⟩
      cases i with
      | zero =>
        cases h
        exact ⟨x, t, rfl, rfl⟩
      | succ i => exact g i v h
def rSetLS (K : PySem.W.Frag) (P : Program) (w : World) : List V → Hp → VK → Prop := fun xs H Q => ∃ (l : Addr) (ws : List Str), xs = [.ref l] ∧ SqL K H l (ws.map V.str) ∧ ws.length ≤ 1000 ∧
  ∀ (p : Addr) (ks : List Str), H p = none → ks.Nodup → (∀ k, k ∈ ks ↔ k ∈ ws) → Q (.ref p) (upd H p (SetSO P w p (fun j => decide (j ∈ ws)) ks.length))
theorem call_setLS (hc : X.calm = true) : CallR X (.type "set") (rSetLS X.K X.prog X.w) := by
  intro pins s σ H xs us Q I r h
  obtain ⟨l, ws, rfl, hq, hl, q⟩ := h
  obtain rfl := Vals.ref1 r
  obtain ⟨its, rv, pt, hz⟩ := I.list hq
  obtain ⟨hlen, hget⟩ := vals_strs rv
  refine call_set_listG (knd := PySem.strKind X.prog X.w) ws (I.ok.hd hc) (show s.heap.IsList l its.toArray from pt.isList) (fun i v hv => ?_) (by rw [List.size_toArray, hlen]) (by unfold scanBound; omega) fun h' tk c G hcn k => ?_
  · rw [List.getElem?_toArray] at hv
    obtain ⟨k, t, h1, rfl⟩ := hget i v hv
    exact ⟨k, h1, isStr_mk k t, rfl⟩
  · have hn : H s.heap.objs.size = none := I.hok.fresh (Nat.le_refl _)
    have G' := G
    obtain ⟨o, es, ep, t, _, _, _, he, hm, hp, _, _, hsz, _⟩ := G
    obtain ⟨h1, h2, _⟩ := keysOf he hm hp
    have h3 : (es.toList.map fun e => keyS e.snd).length = c := by rw [List.length_map, Array.length_toList, hsz]
    generalize (es.toList.map fun e => keyS e.snd) = ks at *
    subst h3
    exact ⟨.ref s.heap.objs.size, _, I.laid (t' := tk) k (Nat.le_refl _) (setS_ok G'), rfl, q _ ks hn h1 fun k => by rw [h2 k, decide_eq_true_eq]⟩
/-- len of such a set -/
def rLenSS (P : Program) (w : World) : List V → Hp → VK → Prop := fun xs H Q => ∃ (a : Addr) (S : Str → Bool) (n : Nat), xs = [.ref a] ∧ H a = some (SetSO P w a S n) ∧ n ≤ 4000 ∧ Q (.int n) H
theorem setS_get {pins : List (Addr × Obj)} {σ : L2.St} {H : Hp} {s : Shared} {a : Addr} {S : Str → Bool} {n : Nat} (I : L2.Inv X pins σ H s) (h : H a = some (SetSO X.prog X.w a S n)) : SetG (PySem.strKind X.prog X.w) s.heap a S n := (I.hok a _ h).1
theorem call_lenSS : CallR X (.builtin "len") (rLenSS X.prog X.w) := by
  intro pins s σ H xs us Q I r h
  obtain ⟨a, S, n, rfl, ha, hl, q⟩ := h
  obtain rfl := Vals.ref1 r
  obtain ⟨o, es, ep, t, ho, hex, hd, _, _, _, _, hf, hn, _⟩ := setS_get I ha
  exact call_len_set ho hex hd hf (by rw [hn]; omega) ⟨.int n, H, I.tok _, ⟨_, by rw [hn]⟩, q⟩
/-- sorted of such a set -/
def rSortedSS (P : Program) (w : World) : List V → Hp → VK → Prop := fun xs H Q => ∃ (a : Addr) (S : Str → Bool) (n : Nat), xs = [.ref a] ∧ H a = some (SetSO P w a S n) ∧ n < 64 ∧
  ∀ (ys : List Str) (p : Addr), ys.Nodup → sortedS ys = true → (∀ k, k ∈ ys ↔ S k = true) → ys.length = n → H p = none → Q (.ref p) (upd H p (.lst (ys.map V.str)))
theorem vals_of_perm {l : List (Int × Value)} {out : List Value} (hk : ∀ e ∈ l, ∃ t, e.snd = Value.str (keyS e.snd) t) (pm : out.Perm (l.map fun x => x.snd)) : ∃ zs : List Str, Vals (zs.map V.str) out ∧ zs.Perm (l.map fun e => keyS e.snd) := by
  refine ⟨out.map keyS, ?_, ?_⟩
  · have ho : ∀ v ∈ out, ∃ t, v = Value.str (keyS v) t := fun v m => by
      obtain ⟨e, me, rfl⟩ := List.mem_map.mp (pm.mem_iff.mp m)
      exact hk e me
    clear pm
    induction out with
    | nil => exact .nil
    | cons v r ih =>
      obtain ⟨t, e⟩ := ho v (List.mem_cons_self ..)
      exact .cons ⟨t, e⟩ (ih fun u m => ho u (List.mem_cons_of_mem _ m))
  · have q := pm.map keyS
    rw [List.map_map] at q
    exact q
theorem cr_sortedSS (hc : X.calm = true) : CallR X (.builtin "sorted") (rSortedSS X.prog X.w) := by
  intro pins s σ H xs us Q I r h
  obtain ⟨a, S, n, rfl, ha, hl, q⟩ := h
  obtain rfl := Vals.ref1 r
  obtain ⟨o, es, ep, t, ho, hex, hd, he, hm, hp, hz, hf, hn, hr, hled⟩ := setS_get I ha
  obtain ⟨k1, k2, k3⟩ := keysOf he hm hp
  refine Calls.call_function_entry kind_sorted plain_sorted entry_sorted (args_sorted1 _) ?_
  refine wpAny_bind (wpAny_pure ?_)
  refine wpAny_bind (collect_set (I.ok.hd hc) ⟨o, ho, hex.1, hd⟩ hf hz hr hled fun s' out keep hsz hg hos pm => ?_)
  obtain ⟨zs, vz, pz⟩ := vals_of_perm k3 pm
  have zl : zs.length = n := by
    have := pz.length_eq
    rw [List.length_map] at this
    rw [this, ← hn]
    exact Array.length_toList
  have I1 : L2.Inv X pins σ H s' := by
    have J := I.kept (t' := s'.toks) keep
    obtain ⟨hp', gn', dr', tk', os'⟩ := s'
    obtain rfl : gn' = s.gens := hg
    obtain rfl : os' = s.os := hos
    exact ⟨J.ok, J.os, J.bare, J.base, J.loc, J.cell, J.free, J.freeC, J.pin, J.hok, J.len⟩
  have ol : out.length = zs.length := (vals_strs vz).1
  have big : zs.length ≤ sizeLine := sizeLine_of (by omega) |> Nat.le_of_lt
  refine wpAny_bind (wpAny_newList ?_ (by rw [ol]; exact big))
  have I2 := I1.lnew (t' := s'.toks) vz (by rw [List.length_map]; exact big)
  have hn1 : H s'.heap.objs.size = none := I1.hok.fresh (Nat.le_refl _)
  refine wpAny_bind (wpAny_holding ?_)
  refine thn (mt_sortS (X := inCx X) pins _ σ _ (.ref s'.heap.objs.size) [] (.ref s'.heap.objs.size) [] (fun v H' => ∃ ys : List Str, ys.Perm zs ∧ sortedS ys = true ∧ H' = upd H s'.heap.objs.size (.lst (ys.map V.str))) (inv_in I2) rfl .nil ⟨_, zs, rfl, rfl, upd_same, by omega, fun ys h1 h2 => ⟨ys, h1, h2, upd_upd⟩⟩) fun v s3 ⟨x, H3, I3, _, ys, py, sy, e3⟩ => ?_
  subst e3
  refine wpAny_pure ⟨_, rfl, .ref s'.heap.objs.size, _, inv_out I3, rfl, ?_⟩
  have pk := py.trans pz
  exact q ys _ (pk.nodup_iff.mpr k1) sy (fun k => (pk.mem_iff).trans (k2 k)) (by rw [py.length_eq, zl]) hn1
end
end My
namespace My
open PySem PySem.Spec PyProof.Rows L2
section
variable {P : Program} {w : World} {X : Cx}
/-! ### set(list of ints) -/
theorem isInt {k : Int} {v : Value} (h : (intKind P w).is k v = true) : ∃ t, v = Value.int k t := by
  cases v with
  | int x t => exact ⟨t, by rw [eq_of_beq (show (x == k) = true from h)]⟩
  | _ => cases (show false = true from h)
theorem setR_of {h : Heap} {a : Addr} {S : Int → Bool} {n : Nat} (G : SetG (intKind P w) h a S n) : SetR w h a S n := by
  obtain ⟨o, es, ep, t, ho, hx, hd, he, hm, hp, hz, hf, hn, hr, hl⟩ := G
  have hk : ∀ e ∈ es.toList, ∃ t, e.snd = Value.int (keyOf e) t ∧ e.fst = hashInt (keyOf e) := fun e m => by
    obtain ⟨⟨k, i, q⟩, _⟩ := he e m
    obtain ⟨t, z⟩ := isInt i
    have kk : keyOf e = k := by
      unfold keyOf
      rw [z]
    rw [kk]
    exact ⟨t, z, q⟩
  have mk : ∀ (k : Int) (t : Tok), (intKind P w).is k (Value.int k t) = true := fun k t => beq_self_eq_true k
  refine ⟨o, es, ep, t, ho, hx, hd, fun e m => ?_, ?_, fun k => ?_, hz, hf, hn, hr, hl⟩
  · obtain ⟨t, z, q⟩ := hk e m
    exact ⟨_, t, z, q⟩
  · refine List.pairwise_map.mpr (hp.imp_of_mem fun {a b} ma mb q e => ?_)
    obtain ⟨t, ta, _⟩ := hk a ma
    obtain ⟨u, tb, _⟩ := hk b mb
    refine q (keyOf a) (by rw [ta]; exact mk _ _) ?_
    rw [e, tb]
    exact mk _ _
  · rw [hm k, List.mem_map]
    constructor
    · rintro ⟨e, m, i⟩
      obtain ⟨t, z⟩ := isInt i
      exact ⟨e, m, by unfold keyOf; rw [z]⟩
    · rintro ⟨e, m, rfl⟩
      obtain ⟨t, z, _⟩ := hk e m
      exact ⟨e, m, by rw [z]; exact mk _ _⟩
theorem vals_ints : ∀ {ns : List Int} {its : List Value}, Vals (ns.map V.int) its → its.length = ns.length ∧ ∀ (i : Nat) (v : Value), its[i]? = some v → ∃ k t, ns[i]? = some k ∧ v = Value.int k t
  | [], its, h => by
    cases h
    exact ⟨rfl, fun i v h => by simp at h⟩
  | x :: ns, its, h => by
    cases h with
    | cons r rr =>
      obtain ⟨t, rfl⟩ := r
      obtain ⟨l, g⟩ := vals_ints rr
      refine ⟨by rw [List.length_cons, List.length_cons, l], fun i v h => ?_⟩
      cases i with
      | zero =>
        cases h
        exact ⟨x, t, rfl, rfl⟩
      | succ i => exact g i v h
def rSetLI (K : PySem.W.Frag) (w : World) : List V → Hp → VK → Prop := fun xs H Q => ∃ (l : Addr) (ns : List Int), xs = [.ref l] ∧ SqL K H l (ns.map V.int) ∧ ns.length ≤ 1000 ∧
  ∀ (p : Addr) (ks : List Int), H p = none → ks.Nodup → (∀ k, k ∈ ks ↔ k ∈ ns) → Q (.ref p) (upd H p (SetO w p (fun j => decide (j ∈ ns)) ks.length))
theorem call_setLI (hc : X.calm = true) : CallR X (.type "set") (rSetLI X.K X.w) := by
  intro pins s σ H xs us Q I r h
  obtain ⟨l, ns, rfl, hq, hl, q⟩ := h
  obtain rfl := Vals.ref1 r
  obtain ⟨its, rv, pt, hz⟩ := I.list hq
  obtain ⟨hlen, hget⟩ := vals_ints rv
  refine call_set_listG (knd := intKind X.prog X.w) ns (I.ok.hd hc) (show s.heap.IsList l its.toArray from pt.isList) (fun i v hv => ?_) (by rw [List.size_toArray, hlen]) (by unfold scanBound; omega) fun h' tk c G hcn k => ?_
  · rw [List.getElem?_toArray] at hv
    obtain ⟨k, t, h1, rfl⟩ := hget i v hv
    exact ⟨k, h1, beq_self_eq_true k, rfl⟩
  · have hn : H s.heap.objs.size = none := I.hok.fresh (Nat.le_refl _)
    have R := setR_of G
    obtain ⟨ks, h1, h2, h3⟩ : ∃ ks : List Int, ks.Nodup ∧ (∀ k, k ∈ ks ↔ k ∈ ns) ∧ ks.length = c := by
      obtain ⟨o, es, ep, t, _, _, _, _, nd, hm, _, _, hn, _⟩ := R
      refine ⟨es.toList.map keyOf, nd, fun k => ?_, ?_⟩
      · rw [← hm k, decide_eq_true_eq]
      · rw [List.length_map, Array.length_toList, hn]
    subst h3
    exact ⟨.ref s.heap.objs.size, _, I.laid (t' := tk) k (Nat.le_refl _) (setO_new R), rfl, q _ ks hn h1 h2⟩
end
end My
namespace My
open PySem L2
theorem call_setLIK {X : Cx} {K : PySem.W.Frag} {w : World} (hK : X.K = K) (hw : X.w = w) (hc : X.calm = true) : CallR X (.type "set") (rSetLI K w) := by
  subst hK hw
  exact call_setLI hc
theorem cr_sortedSetK {X : Cx} {w : World} (hw : X.w = w) (hc : X.calm = true) : CallR X (.builtin "sorted") (rSortedSet w) := by
  subst hw
  exact cr_sortedSet hc
end My
namespace My
open PySem PySem.Spec PyProof.Rows L2
/-! ### set(tuple) -/
section
variable {P : Program} {w : World} {κ : Type} [DecidableEq κ] {knd : PySem.KeyKind P w κ} {A : Around} {E : Value → Shared → Prop} {s : Shared} {a : Addr}
theorem setG_initT {S l : Addr} {items : Array Value} (ks : List κ) {Φ : PySem.Fin → Shared → Prop} (hh : A.handled = none) (hS : s.heap.get? S = some (freshSet w)) (hl : s.heap.IsTuple l items) (hv : ∀ (i : Nat) (v : Value), items[i]? = some v → ∃ k, ks[i]? = some k ∧ knd.is k v = true ∧ v.scannable = true) (hn : items.size = ks.length) (hb : ks.length + 1 < scanBound)
    (h : ∀ (s' : Shared) (c : Nat), SetG knd s'.heap S (fun j => decide (j ∈ ks)) c → c ≤ ks.length → (∀ b o, b ≠ S → s.heap.get? b = some o → s'.heap.get? b = some o) → s'.gens = s.gens → s'.drawn = s.drawn → s'.os = s.os → Φ (Fin.done (Flow.ret .none)) s') :
    wpAny (model P w) A (Builtin.«set.__init__» { pos := [Value.ref S, Value.ref l] }) Φ E s := by
  have hT : s.TypeIs (Value.ref S) "set" := ⟨_, hS, rfl⟩
  have hl0 := hl
  obtain ⟨ol, hol, hlc, nl, hld⟩ := hl
  unfold Builtin.«set.__init__»
  refine wpAny_bind (wpAny_ite_true rfl (wpAny_pure ?_))
  refine wpAny_bind ?_
  refine wpAny_bind (wpAny_bind (wpAny_typeOf hT (wpAny_ite_false rfl (wpAny_pure (wpAny_pure ?_)))))
  unfold checkCount
  refine wpAny_bind (wpAny_ite_false rfl (wpAny_ite_false rfl (wpAny_ite_false rfl (wpAny_pure ?_))))
  refine wpAny_bind (wpAny_pure ?_)
  unfold setUsed
  refine wpAny_bind (wpAny_bind (wpAny_setState_of (es := #[]) hS rfl rfl ?_))
  refine wpAny_pure ?_
  refine wpAny_ite_false rfl ?_
  have hTl : s.TypeIs (Value.ref l) "tuple" := ⟨ol, hol, hlc⟩
  refine wpAny_bind ?_
  unfold Builtin.Frozenset.updateFrom Builtin.Frozenset.isAnySet
  refine wpAny_bind (wpAny_bind (wpAny_isInstance hTl F.sub_tuple_set ?_))
  refine wpAny_isInstance hTl F.sub_tuple_frozenset ?_
  refine wpAny_ite_false rfl ?_
  refine wpAny_bind (wpAny_typeOf hTl ?_)
  refine wpAny_ite_false rfl ?_
  refine wpAny_bind (wpAny_pyIter_tuple hl0 ?_)
  refine wpAny_bind (wpAny_runValue ?_)
  have hlt := Heap.lt_size hol
  have hSt := Heap.lt_size hS
  have hSl : S ≠ l := fun e => by
    rw [e, hol] at hS
    have z : ol.cls = Value.type "set" := by rw [Option.some.inj hS]; rfl
    exact absurd (Value.type.inj (hlc.symm.trans z)) (by decide)
  have W := Walks.toS (Walks.tuple (prog := P) (w := w) (A := A.in1) hh s.heap.objs.size l (Nat.ne_of_lt hlt) items)
  have pS := Heap.get?_push_of_some { cls := Value.type "tuple_iterator", data := Data.fields #[Value.ref l, Value.int 0 0] } hS
  have pl := Heap.get?_push_of_some { cls := Value.type "tuple_iterator", data := Data.fields #[Value.ref l, Value.int 0 0] } hol
  refine setG_update (knd := knd) W S (fun z => ?_) ks hn hb hv _ 0 _ rfl (Nat.zero_le _) ⟨?_, ⟨ol, pl, hlc, nl, hld⟩⟩ ⟨0, Nat.le_refl _, setG_fresh pS ks⟩ fun s' c mv hc hg => ?_
  · rcases List.mem_cons.mp z with z | z
    · exact absurd z (Nat.ne_of_lt hSt)
    · exact hSl (List.mem_singleton.mp z)
  · exact ⟨_, Heap.get?_push_size s.heap rfl, rfl, rfl⟩
  · show wpAny (model P w) A (pure ()) (fun a s' => wpAny (model P w) A ((fun __r => ret Value.none) a) Φ E s') E s'
    refine wpAny_pure ?_
    refine wpAny_pure ?_
    refine h s' c hg (by rw [← hn]; exact hc) (fun b o nb ho => ?_) mv.gens mv.drawn mv.os
    refine mv.heap b o (fun z => ?_) (Heap.get?_push_of_some _ ho)
    rcases List.mem_cons.mp z with z | z
    · exact nb z
    · rw [List.mem_singleton.mp z] at ho
      exact absurd (Heap.lt_size ho) (Nat.lt_irrefl _)
theorem call_set_tupG {l : Addr} {items : Array Value} (ks : List κ) {Q : Value → Shared → Prop} (hh : A.handled = none) (hl : s.heap.IsTuple l items) (hv : ∀ (i : Nat) (v : Value), items[i]? = some v → ∃ k, ks[i]? = some k ∧ knd.is k v = true ∧ v.scannable = true) (hn : items.size = ks.length) (hb : ks.length + 1 < scanBound)
    (h : ∀ (h' : Heap) (tk c : Nat), SetG knd h' s.heap.objs.size (fun j => decide (j ∈ ks)) c → c ≤ ks.length → (∀ b o, s.heap.get? b = some o → h'.get? b = some o) → Q (.ref s.heap.objs.size) { s with heap := h', toks := tk }) : wpAny (model P w) A (call (.type "set") [.ref l]) Q E s := by
  obtain ⟨c, tl, hmro⟩ := F.called_set.mro
  have hmade := F.called_set.made
  have hsub := F.called_set.sub
  have h1 := F.called_set.notType
  have h2 := F.called_set.canCreate
  have hct := F.typeCall_set_1 (Value.ref l)
  refine wpAny_call (codeAny_of_tree ?_)
  refine wpAny_pure ⟨Code.quiet_builtin _ (by decide +kernel), codeAny_builtin F.entry_type_call ?_⟩
  rw [Around.under_plain (weight_type_call_type "set" [.ref l] []) (by with_unfolding_all rfl)]
  unfold Builtin.«type.__call__»
  refine wpAny_ite_false (Eq.refl _) ?_
  refine wpAny_ite_false (Eq.refl _) ?_
  refine wpAny_bind (wpAny_of_eq hct ?_)
  refine wpAny_bind (wpAny_of_eq hmro ?_)
  refine wpAny_ite_false rfl ?_
  refine wpAny_bind (wpAny_of_eq hmade ?_)
  refine wpAny_bind (wpAny_pure ?_)
  refine wpAny_bind (wpAny_holding ?_)
  refine wpAny_call (codeAny_mono (L2.code_set_led1 (E := fun _ _ => False) (Value.ref l) (Q₁ := fun v s₁ => v = .ref s.heap.objs.size ∧ s₁ = { s with heap := s.heap.push { cls := .type "set", data := Data.set #[] 0 (SetTable.fresh 0 0 !w.params.followText "set-order") } }) ⟨rfl, rfl⟩) fun r s₁ hr => ?_)
  obtain ⟨e1, e2⟩ | e3 : (∃ v, r = .ok (.ret v) ∧ v = .ref s.heap.objs.size ∧ s₁ = { s with heap := s.heap.push { cls := .type "set", data := Data.set #[] 0 (SetTable.fresh 0 0 !w.params.followText "set-order") } }) ∨ False := by
    cases r with
    | ok f =>
      cases f with
      | ret v => exact .inl ⟨v, rfl, hr⟩
      | _ => exact .inr hr
    | error e => exact .inr hr
  · obtain ⟨rfl, rfl, rfl⟩ := e2
    have hS := Heap.get?_push_size s.heap (o := { cls := .type "set", data := Data.set #[] 0 (SetTable.fresh 0 0 !w.params.followText "set-order") }) rfl
    have hT : Shared.TypeIs { s with heap := s.heap.push { cls := .type "set", data := Data.set #[] 0 (SetTable.fresh 0 0 !w.params.followText "set-order") } } (Value.ref s.heap.objs.size) "set" := ⟨_, hS, rfl⟩
    have hli := F.called_set.init.lookup
    have hbi := F.called_set.init.bind (Value.ref s.heap.objs.size)
    refine wpAny_bind (wpAny_isInstance hT hsub ?_)
    refine wpAny_ite_false rfl ?_
    refine wpAny_bind (wpAny_holding ?_)
    refine wpAny_bind (wpAny_specialOf hT hli ?_)
    refine wpAny_holding ?_
    refine wpAny_bind (wpAny_of_eq hbi ?_)
    refine wpAny_bind ?_
    refine wpAny_call (codeAny_mono (codeAny_call_builtin F.called_set.init.plain F.entry_set_init (check_set_init_1 hT ?_)) fun r s₂ hr2 => hr2)
    have hl1 : (s.heap.push (freshSet w)).IsTuple l items := by
      obtain ⟨ol, hol, hlc, nl, hld⟩ := hl
      exact ⟨ol, Heap.get?_push_of_some _ hol, hlc, nl, hld⟩
    refine setG_initT (knd := knd) ks hh hS hl1 hv hn hb fun s' c hg hc hk hgn hdr hos => ?_
    refine wpAny_pure ?_
    refine wpAny_ite_false rfl ?_
    refine wpAny_pure ?_
    obtain ⟨hp', gn', dr', tk', os'⟩ := s'
    obtain rfl : gn' = s.gens := hgn
    obtain rfl : dr' = s.drawn := hdr
    obtain rfl : os' = s.os := hos
    refine h hp' tk' c hg hc fun b o ho => hk b o (fun z => ?_) (Heap.get?_push_of_some _ ho)
    rw [z] at ho
    exact absurd (Heap.lt_size ho) (Nat.lt_irrefl _)
  · exact e3.elim
end
section
variable {X : Cx}
def rSetTS (K : PySem.W.Frag) (P : Program) (w : World) : List V → Hp → VK → Prop := fun xs H Q => ∃ (l : Addr) (ws : List Str), xs = [.ref l] ∧ SqT K H l (ws.map V.str) ∧ ws.length ≤ 1000 ∧
  ∀ (p : Addr) (ks : List Str), H p = none → ks.Nodup → (∀ k, k ∈ ks ↔ k ∈ ws) → Q (.ref p) (upd H p (SetSO P w p (fun j => decide (j ∈ ws)) ks.length))
theorem call_setTS (hc : X.calm = true) : CallR X (.type "set") (rSetTS X.K X.prog X.w) := by
  intro pins s σ H xs us Q I r h
  obtain ⟨l, ws, rfl, hq, hl, q⟩ := h
  obtain rfl := Vals.ref1 r
  obtain ⟨its, rv, pt, hz⟩ := I.tuple hq
  obtain ⟨hlen, hget⟩ := vals_strs rv
  refine call_set_tupG (knd := PySem.strKind X.prog X.w) ws (I.ok.hd hc) (show s.heap.IsTuple l its.toArray from pt) (fun i v hv => ?_) (by rw [List.size_toArray, hlen]) (by unfold scanBound; omega) fun h' tk c G hcn k => ?_
  · rw [List.getElem?_toArray] at hv
    obtain ⟨k, t, h1, rfl⟩ := hget i v hv
    exact ⟨k, h1, isStr_mk k t, rfl⟩
  · have hn : H s.heap.objs.size = none := I.hok.fresh (Nat.le_refl _)
    have G' := G
    obtain ⟨o, es, ep, t, _, _, _, he, hm, hp, _, _, hsz, _⟩ := G
    obtain ⟨h1, h2, _⟩ := keysOf he hm hp
    have h3 : (es.toList.map fun e => keyS e.snd).length = c := by rw [List.length_map, Array.length_toList, hsz]
    generalize (es.toList.map fun e => keyS e.snd) = ks at *
    subst h3
    exact ⟨.ref s.heap.objs.size, _, I.laid (t' := tk) k (Nat.le_refl _) (setS_ok G'), rfl, q _ ks hn h1 fun k => by rw [h2 k, decide_eq_true_eq]⟩
theorem call_setTSK {K : PySem.W.Frag} {P : Program} {w : World} (hK : X.K = K) (hP : X.prog = P) (hw : X.w = w) (hc : X.calm = true) : CallR X (.type "set") (rSetTS K P w) := by
  subst hK hP hw
  exact call_setTS hc
end
end My
/-! sorted(xs, key=lambda one: ..), the keys texts: a lambda of one parameter that captures nothing -/
namespace My
open PySem L2 LamX PyProof.Rows
/-- what a key's expression makes of the item v: the text k; nothing that stood is changed -/
def KeyE (prog : Program) (w : World) (scope : Scope) (x : Str) (body : Expr) (R : Heap → Value → Str → Prop) : Prop :=
  ∀ (cenv : Env) (A' : Around) (E' : Value → Shared → Prop) (v : Value) (k : Str) (s₂ : Shared) (m₂ : Str → Option Value), cenv.scope = scope → s₂.heap.Ns cenv.locals m₂ → m₂ x = some v → R s₂.heap v k →
    wpAny (model prog w) A' (eval body cenv) (fun y s₃ => (∃ t, y = .str k t) ∧ Keeps s₂ s₃) E' s₂
/-- the tuple's first is the text -/
def TupK (h : Heap) (v : Value) (k : Str) : Prop := ∃ (t : Addr) (u : Tok) (its : List Value), v = .ref t ∧ IsTup h t (Value.str k u :: its).toArray
theorem tupK_keep {h h' : Heap} {v : Value} {k : Str} (e : ∀ b o, h.get? b = some o → h'.get? b = some o) (r : TupK h v k) : TupK h' v k := by
  obtain ⟨t, u, its, rfl, o, ho, r⟩ := r
  exact ⟨t, u, its, rfl, o, e _ _ ho, r⟩
theorem keeps_tok (s : Shared) (n : Nat) : Keeps s { s with toks := n } := ⟨s.heap, n, rfl, fun _ _ e => e⟩
/-- x[0] -/
theorem key_first {prog : Program} {w : World} {scope : Scope} {x : Str} {j : Nat} {p1 p2 p3 : Pos} (hk : scope.kind = .function) (hl : scope.names.lookup x = some .local) (hd : (x == ("__debug__" : Str)) = false := by decide) :
    KeyE prog w scope x (.Subscript (.Name x p1) (.Constant (.int 0) j p2) p3) TupK := by
  intro cenv A' E' v k s₂ m₂ hs hn hm r
  obtain ⟨t, u, its, rfl, pl⟩ := r
  refine Subscript_ (wpAny_Name (wpAny_loadName_local (by rw [hs]; exact hk) (show cenv.scope.names.lookup x = some .local by rw [hs]; exact hl) hn hm ?_) hd)
  refine wpAny_Constant_int ?_
  refine subscriptTail_builtinR (x := .str k u) (IsTup.typeIs (s := { s₂ with toks := _ }) pl) slot_tuple_getitem.lookup ?_ rfl
  refine getItem_tuple (k := 0) (j := 0) pl (by decide) (by decide) (by show seqIndex? 0 _ = some 0; unfold seqIndex?; simp) (by simp) ⟨rfl, ⟨u, rfl⟩, keeps_tok s₂ _⟩
/-- all but the tables of code objects -/
theorem extN_sql {K : PySem.W.Frag} {H H' : Hp} {a : Addr} {xs : List V} (e : ExtN H H') (h : SqL K H a xs) : SqL K H' a xs := by
  rcases h with (h | ⟨o, h⟩) | h
  · exact .inl (.inl (e _ _ h fun _ z => nomatch z))
  · exact .inl (.inr ⟨o, e _ _ h fun _ z => nomatch z⟩)
  · exact .inr h
theorem extN_imm {H H' : Hp} (e : ExtN H H') : Imm H H' := fun b o h i => e b o h fun ps z => by
  subst z
  cases i
theorem extN_same {H H' : Hp} (e : Same H H') : ExtN H H' := fun b o h _ => e b o h
def keyD (b : V × Str) : PyData := .str b.2
/-- sorted by the keys, equal ones as they stood -/
def sortBy (bs : List (V × Str)) : List (V × Str) := bs.mergeSort (PySem.W.dataLe false keyD)
theorem sortBy_perm (bs : List (V × Str)) : (sortBy bs).Perm bs := List.mergeSort_perm _ _
def tSortLam (K : PySem.W.Frag) (T : List (Addr × Str)) (RK : Hp → V → Str → Prop) (te : TE) : TE := fun σ H Q => te σ H fun v H1 => Tabs T H1 ∧ ∃ (a : Addr) (bs : List (V × Str)), v = .ref a ∧ SqL K H1 a (bs.map (·.1)) ∧ (∀ b ∈ bs, RK H1 b.1 b.2) ∧
  ∀ (p : Addr) (H2 : Hp), ExtN H1 H2 → Tabs T H2 → H2 p = none → Q (.ref p) (upd H2 p (.lst ((sortBy bs).map (·.1))))
section
variable {X : Cx}
theorem pe_sortLam {T : List (Addr × Str)} {te : TE} {c P : Addr} {k : Nat} {e : Expr} {params : Arguments} {body : Expr} {scope : Scope} {x : Str} {p lpos kpos pos : Pos} {R : Heap → Value → Str → Prop} {RK : Hp → V → Str → Prop}
    (hkey : KeyE X.prog X.w scope x body R) (hR : ∀ pins s σ H b u v, Inv X pins σ H s → RK H b u → RelV b v → R s.heap v u) (hRk : ∀ (h h' : Heap) v u, (∀ b o, h.get? b = some o → h'.get? b = some o) → R h v u → R h' v u) (hRe : ∀ H H' b u, ExtN H H' → RK H b u → RK H' b u)
    (hg : Gl X "sorted") (hm : X.mg "sorted" = none) (ha : PE X e te) (TB : TabB X.base X.mg c P) (hcode : X.env.code = .ref c) (hmT : (P, X.env.qual ++ "<lambda>") ∈ T) (hu : ∀ p ∈ T, p.1 = P → p.2 = X.env.qual ++ "<lambda>") (hr : Room k X.A)
    (hdef : defaultsOf params X.env = ([], [])) (hkind : scope.kind = .function) (hco : scope.isCoroutine = false) (hgen : scope.isGenerator = false) (hnames : ∀ y ∈ scope.names, y.2 ≠ .free ∧ y.2 ≠ .cell) (hx : scope.names.lookup x = some .local)
    (hbind : ∀ (q : Str) (cl : List (Str × Addr)) (pm cv ctv v : Value), bindArgs (PySem.W.kla_fn "<lambda>" q params body scope cl pm cv ctv) ⟨[v], []⟩ = pure [(x, v)])
    (hst : starEach [e] X.env = (false, eval e X.env) :: starEach [] X.env := by rfl) (he : backTo pos (starEach [e] X.env) = (false, eval e X.env) :: backTo pos (starEach [] X.env) := by rfl) (hpl : (backTo pos (starEach [e] X.env)).any (·.1) = false := by rfl) :
    PE X (.Call (.Name "sorted" p) [e] [⟨some "key", .Lambda params body scope lpos, kpos⟩] pos) (tSortLam X.K T RK te) := by
  refine ⟨fun pins s σ H Q I h => ?_⟩
  refine wpAny_Call_Name_kw (ld_blt (u := .builtin "sorted") I hg hm (by decide +kernel) ?_ (by decide) (by decide))
  refine PyProof.Rows.callWith_kw (thn ((pa_cons ha pa_nil hst).run pos pins s σ H (fun vs H1 => match vs with | [v] => Tabs T H1 ∧ ∃ (a : Addr) (bs : List (V × Str)), v = .ref a ∧ SqL X.K H1 a (bs.map (·.1)) ∧ (∀ b ∈ bs, RK H1 b.1 b.2) ∧ ∀ (p : Addr) (H2 : Hp), ExtN H1 H2 → Tabs T H2 → H2 p = none → Q (.ref p) (upd H2 p (.lst ((sortBy bs).map (·.1)))) | _ => False) I h) fun us s1 ⟨vs, H1, I1, r1, q1⟩ => ?_) he hpl rfl rfl
  obtain ⟨v, rfl⟩ : ∃ v, vs = [v] := by
    match vs, q1 with
    | [v], _ => exact ⟨v, rfl⟩
  obtain ⟨hT, a, bs, rfl, hL, hK, q⟩ := q1
  obtain rfl := Vals.ref1 r1
  show wpAny _ _ (evalAll [do let v ← eval (.Lambda params body scope lpos) X.env; standAt pos; pure v]) _ _ s1
  refine wpAny_evalAll_cons (wpAny_bind (lam_make2 I1 TB hcode hmT hu hT hdef (fun y hy z => absurd z (hnames y hy).1) fun f c' pm ctv H2 s2 I2 eN T2 hf hfn hfr hco' => wpAny_bind (wpAny_standAt (wpAny_pure (wpAny_evalAll_nil ?_)))))
  show wpAny (model X.prog X.w) X.A (call (.builtin "sorted") [.ref a] [("key", .ref f)]) _ _ s2
  have hL2 := extN_sql eN hL
  obtain ⟨its, rv, hl, hz⟩ := I2.list hL2
  obtain ⟨⟨oc, cvs, ct, hoc, hdc, hvc⟩, _, _⟩ := I2.hok c' _ hco'
  have hbs : ∀ (l : List (V × Str)) (us : List Value), Vals (l.map (·.1)) us → (∀ b ∈ l, b ∈ bs) → PySem.W.EachIs (fun (v : Value) (b : V × Str) => RelV b.1 v ∧ R s2.heap v b.2) us l := by
    intro l
    induction l with
    | nil =>
      intro us r _
      cases r
      exact .nil
    | cons b l ih =>
      intro us r m
      cases r with
      | cons r1 r2 => exact .cons ⟨r1, hR pins s2 σ H2 b.1 b.2 _ I2 (hRe _ _ _ _ eN (hK b (m b (.head _)))) r1⟩ (ih _ r2 fun b' h' => m b' (.tail _ h'))
  have e := hbs bs its rv fun _ h => h
  refine PySem.W.sorted_key_data (R := fun (v : Value) (b : V × Str) => RelV b.1 v ∧ R s2.heap v b.2) (b := false) keyD hl.isList e ?_ ?_ ?_ ?_ (PyProof.Rows.ksk_s1 _ _) (fun _ => PyProof.Rows.ksk_l1 _ _) (fun x => PyProof.Rows.ksk_t1 f x) (fun v b hb hm' g tk kp => ?_) fun out cc h' tk kp hn hD hlen hout => ?_
  · intro d hd d' hd'
    obtain ⟨b, _, rfl⟩ := List.mem_map.mp hd
    obtain ⟨b', _, rfl⟩ := List.mem_map.mp hd'
    rfl
  · refine .inr fun d hd => ?_
    obtain ⟨b, _, rfl⟩ := List.mem_map.mp hd
    exact ⟨nofun, fun _ => nofun⟩
  · rw [List.length_map] at hz
    exact hz
  · intro b _
    have := hr.units
    show X.A.units + 2 + (PyData.str b.2).depth < _
    have z : (PyData.str b.2).depth ≤ 1 := by show _ ≤ 1; simp [PyData.depth]
    omega
  · have of1 := kp _ _ hf
    refine wpAny_call ?_
    refine PySem.W.kla_callFunE (by have := hr.dp; show X.A.depth < _; omega) of1 rfl hco hgen rfl ⟨c', oc, cvs, ct, rfl, kp _ _ hoc, hdc, hvc⟩ ?_
    rw [hbind]
    refine wpAny_pure (wpAny_newFunctionEnv (fun y hy => (hnames y hy).2) (fun y hy => ?_) (fun h₁ hns hsb => ⟨(I2.nolimit.keeps kp).fresh _ hsb, ?_⟩) hkind)
    · obtain rfl := List.mem_singleton.mp hy
      exact hx
    · have kp1 : ∀ b o, g.get? b = some o → h₁.get? b = some o := fun b o e => hsb.extBut b o (Nat.ne_of_lt (Heap.lt_size e)) (Heap.get?_push_of_some _ e)
      refine PySem.W.kla_codeExpr (wpAny_mono (hkey _ _ (fun _ _ => False) v b.2 _ _ rfl hns (by simp) (hRk _ _ _ _ kp1 (hRk _ _ _ _ kp hb.2))) (fun y s3 hq => ?_) fun _ _ z => z.elim)
      obtain ⟨⟨t, rfl⟩, h3, tk3, rfl, kp3⟩ := hq
      exact ⟨h3, tk3, rfl, fun b o e => kp3 b o (kp1 b o e), .str _ _⟩
  · have hv : ∀ (l : List (V × Str)) (us : List Value), PySem.W.EachIs (fun (v : Value) (b : V × Str) => RelV b.1 v ∧ R s2.heap v b.2) us l → Vals (l.map (·.1)) us := by
      intro l us e
      induction e with
      | nil => exact .nil
      | cons r _ ih => exact .cons r.1 ih
    refine ⟨.ref _, upd H2 (s2.heap.objs.size + 1) (.lst ((sortBy bs).map (·.1))), I2.laid (t' := tk) kp (Nat.le_succ _) ⟨?_, out, cc, hv _ _ hout, hD⟩, rfl, q _ H2 eN T2 (I2.hok.fresh (Nat.le_succ _))⟩
    rw [List.length_map, (sortBy_perm bs).length_eq]
    rw [List.length_map] at hz
    exact hz
end
/-- the item is a tuple whose first is the text -/
def RKt (K : PySem.W.Frag) (H : Hp) (x : V) (k : Str) : Prop := ∃ (t : Addr) (xs : List V), x = .ref t ∧ SqT K H t (.str k :: xs)
section
variable {X : Cx}
/-- sorted(xs, key=lambda x: x[0]), the items tuples whose first is a text -/
theorem pe_sortFirst {te : TE} {c P : Addr} {k : Nat} {e : Expr} {params : Arguments} {scope : Scope} {x : Str} {j : Nat} {p p1 p2 p3 lpos kpos pos : Pos}
    (hg : Gl X "sorted") (hm : X.mg "sorted" = none) (ha : PE X e te) (TB : TabB X.base X.mg c P) (hcode : X.env.code = .ref c) (hr : Room k X.A)
    (hdef : defaultsOf params X.env = ([], []) := by rfl) (hkind : scope.kind = .function := by rfl) (hco : scope.isCoroutine = false := by rfl) (hgen : scope.isGenerator = false := by rfl) (hnames : ∀ y ∈ scope.names, y.2 ≠ .free ∧ y.2 ≠ .cell := by decide +kernel) (hx : scope.names.lookup x = some .local := by rfl)
    (hbind : ∀ (q : Str) (cl : List (Str × Addr)) (pm cv ctv v : Value), bindArgs (PySem.W.kla_fn "<lambda>" q params (.Subscript (.Name x p1) (.Constant (.int 0) j p2) p3) scope cl pm cv ctv) ⟨[v], []⟩ = pure [(x, v)] := by intros; rfl)
    (hd : (x == ("__debug__" : Str)) = false := by decide) (hst : starEach [e] X.env = (false, eval e X.env) :: starEach [] X.env := by rfl) (he : backTo pos (starEach [e] X.env) = (false, eval e X.env) :: backTo pos (starEach [] X.env) := by rfl) (hpl : (backTo pos (starEach [e] X.env)).any (·.1) = false := by rfl) :
    PE X (.Call (.Name "sorted" p) [e] [⟨some "key", .Lambda params (.Subscript (.Name x p1) (.Constant (.int 0) j p2) p3) scope lpos, kpos⟩] pos) (tSortLam X.K [(P, X.env.qual ++ "<lambda>")] (RKt X.K) te) := by
  refine pe_sortLam (x := x) (R := TupK) (RK := RKt X.K) (key_first hkind hx hd) (fun pins s σ H b u v I r rv => ?_) (fun h h' v u e r => tupK_keep e r) (fun H H' b u e r => ?_) hg hm ha TB hcode (.head _) (fun q hq _ => by rw [List.mem_singleton.mp hq]) hr hdef hkind hco hgen hnames hx hbind hst he hpl
  · obtain ⟨t, xs, rfl, hT⟩ := r
    obtain rfl : v = .ref t := rv
    obtain ⟨its, vs, pl, _⟩ := I.tuple hT
    cases vs with
    | cons r1 r2 =>
      obtain ⟨tk, rfl⟩ := r1
      exact ⟨t, tk, _, rfl, pl⟩
  · obtain ⟨t, xs, rfl, hT⟩ := r
    exact ⟨t, xs, rfl, (extN_imm e).seqT hT⟩
end
end My
namespace My
open PySem L2 LamX PyProof.Rows
/-- the rule for a def, its own code told -/
theorem _root_.L2.Fun.okC {P : Program} {w : World} {K : PySem.W.Frag} {mg : Str → Option Value} {base : Heap} {x qual : Str} {st : Stmt} {f : Addr} {fd : FuncData} {N ps : List Str} {k : Nat} {sp : Sp} (F : L2.Fun K x qual st f fd) (S : FnScope N ps (defScope st)) (len : ∀ vs H Q E, sp vs H Q E → vs.length = ps.length)
    (hbody : ∀ (A : Around) (outer : List Env) (s : Shared) (H : Hp) (vs : List V) (Q : VK) (E : XK), Room k (A.deeper (envOfC qual (defScope st) s.heap.objs.size f fd.code)) → sp vs H Q E →
      ∃ t, PSs (cxOf CX0 P w K mg base N qual (defScope st) f fd.code A outer s H E).nox (defBody st) t ∧ t { nx := fun _ H' => Q .non H', rt := Q } (start N vs) H) : FnOk P w K mg base CX0 (k + 1) f fd ps sp := by
  obtain ⟨oc, od, kV, doc, pm, an, cdv, ct, osl, rfl, lk, hcd⟩ := F.ex
  refine fn_of lk hcd S len fun A outer s H vs Q E hr hsp => ?_
  obtain ⟨t, h, q⟩ := hbody A outer s H vs Q E hr hsp
  exact ⟨t, h.nox, q⟩
/-- all but r and the tables -/
def ButN (r : Addr) (H H' : Hp) : Prop := ∀ b o, H b = some o → b ≠ r → (∀ ps, o ≠ .tbl ps) → H' b = some o
theorem ButN.of {r : Addr} {H H' : Hp} (b : But r H H') : ButN r H H' := fun c o h n _ => b c o h n
theorem ButN.ext {r : Addr} {H H1 H' : Hp} (b : But r H H1) (e : ExtN H1 H') : ButN r H H' := fun c o h n m => e c o (b c o h n) m
end My
namespace My
open PySem L2 LamX PyProof.Rows
theorem cut_take (xs : List V) (n : Nat) : cutV xs none (some (n : Int)) = xs.take n := by
  unfold cutV
  rw [show HT.sIx xs.length xs.length (some (n : Int)) = min n xs.length from HT.sIx_nat xs.length xs.length n, HT.sIx_none]
  show (xs.drop 0).take (min n xs.length - 0) = xs.take n
  rw [List.drop_zero, Nat.sub_zero]
  by_cases h : n ≤ xs.length
  · rw [Nat.min_eq_left h]
  · rw [Nat.min_eq_right (by omega), List.take_of_length_le (Nat.le_refl _), List.take_of_length_le (by omega)]
end My
namespace My
open PySem L2
section
variable {K : PySem.W.Frag} {H : Hp} {x y : V} {d : PyData} {Q : VK}
/-! ### equal data -/
theorem eqv_self (s : SeqAt.shaped d = true) : d.eqv d = true := by
  unfold SeqAt.shaped at s
  rw [Bool.and_eq_true] at s
  exact PySem.SeqAt.eqv_refl d s.1
theorem rNeD_self (h1 : Dp K H x d) (h2 : Dp K H y d) (s : SeqAt.shaped d = true) (q : Q (.bl false) H) : rNeD K x y H Q := ⟨d, d, h1, h2, s, s, by rw [eqv_self s]; exact q⟩
theorem rEqD_self (h1 : Dp K H x d) (h2 : Dp K H y d) (s : SeqAt.shaped d = true) (q : Q (.bl true) H) : rEqD K x y H Q := ⟨d, d, h1, h2, s, s, by rw [eqv_self s]; exact q⟩
/-- data of depth two: a tuple of scalars and tuples of ints -/
theorem can_app : ∀ a b : List PyData, PyData.canLayAll0 (a ++ b) = (PyData.canLayAll0 a && PyData.canLayAll0 b)
  | [], _ => (Bool.true_and _).symm
  | x :: r, b => by
    show (x.canLay0 && PyData.canLayAll0 (r ++ b)) = _
    rw [can_app r b]
    exact (Bool.and_assoc _ _ _).symm
end
end My
namespace My
open PySem PySem.Spec PyProof.Rows L2
/-! ### sets that grow: s.add(e), {e for ..}; of any kind of keys -/
/-- a kind of keys, as values -/
structure ZK (κ : Type) [DecidableEq κ] where
  kd : ∀ (P : Program) (w : World), KeyKind P w κ
  val : κ → V
  ok : ∀ (P : Program) (w : World) (k : κ) (v : Value), RelV (val k) v → (kd P w).is k v = true ∧ v.scannable = true
section
variable {κ : Type} [DecidableEq κ] (Z : ZK κ) {P : Program} {w : World} {X : Cx}
/-- the set at a: its members, how many -/
def SetZ (P : Program) (w : World) (a : Addr) (S : κ → Bool) (n : Nat) : HO := .ext fun h => SetG (Z.kd P w) h a S n
theorem setZ_ok {H : Hp} {h : Heap} {a : Addr} {S : κ → Bool} {n : Nat} (g : SetG (Z.kd P w) h a S n) : ObjOk P w H h a (SetZ Z P w a S n) := by
  have g' := g
  obtain ⟨o, _, _, _, ho, _⟩ := g'
  exact ⟨g, ⟨o, ho⟩, fun _ _ q k => q.stay k⟩
/-- with one more -/
def more (S : κ → Bool) (k : κ) : κ → Bool := fun j => S j || decide (j = k)
def moreN (S : κ → Bool) (k : κ) (n : Nat) : Nat := if S k = true then n else n + 1
/-- set.add: the object grows, nothing else does -/
theorem setZ_add {A : Around} {E : Value → Shared → Prop} {s : Shared} {a : Addr} {S : κ → Bool} {n : Nat} {k : κ} {v : Value} {Q : Value → Shared → Prop} (hv : RelV (Z.val k) v) (G : SetG (Z.kd P w) s.heap a S n) (hn : n + 1 < scanBound)
    (c : ∀ h', Heap.SameBut a s.heap h' → SetG (Z.kd P w) h' a (more S k) (moreN S k n) → Q .none { s with heap := h', toks := s.toks + 1 }) : wpAny (model P w) A (call (.builtin "set.add") [.ref a, v]) Q E s := by
  obtain ⟨his, hsc⟩ := Z.ok P w k v hv
  have hT : s.TypeIs (.ref a) "set" := by
    obtain ⟨o, _, _, _, ho, hx, _⟩ := G
    exact ⟨o, ho, hx.1⟩
  refine wpAny_call_entry F.slot_set_add hT F.entry_set_add ?_ (F.args_set_add_2 _ _)
  unfold Builtin.«set.add» Builtin.Frozenset.oneOther Builtin.Frozenset.addrOf setAdd
  simp only [List.isEmpty_nil, bind_assoc]
  refine wpAny_bind (wpAny_pure (wpAny_bind (wpAny_pure (wpAny_bind (wpAny_holding (wpAny_bind ((Z.kd P w).pyHash his ?_)))))))
  exact setG_add_hashed (s := { s with toks := s.toks + 1 }) his hsc G hn fun h' sb g => wpAny_pure ⟨_, rfl, c h' sb g⟩
/-- .. where the set is tracked -/
theorem setZ_grows {pins : List (Addr × Obj)} {σ : L2.St} {H : Hp} {s : Shared} {E : Value → Shared → Prop} {a : Addr} {S : κ → Bool} {n : Nat} {k : κ} {v : Value} {Q : Value → Shared → Prop} (I : Inv X pins σ H s) (ha : H a = some (SetZ Z X.prog X.w a S n)) (hv : RelV (Z.val k) v) (hn : n + 1 < scanBound)
    (c : ∀ s', Inv X pins σ (upd H a (SetZ Z X.prog X.w a (more S k) (moreN S k n))) s' → Q .none s') : wpAny (model X.prog X.w) X.A (call (.builtin "set.add") [.ref a, v]) Q E s := by
  have G : SetG (Z.kd X.prog X.w) s.heap a S n := (I.hok a _ ha).1
  refine setZ_add Z hv G hn fun h' sb g => c _ ?_
  have g' := g
  obtain ⟨o, _, _, _, ho, _⟩ := g'
  refine I.write (x := a) (e := a) (t' := s.toks + 1) (by rw [ha]; exact True.intro) (Or.inl rfl) (fun b u hb hu => ?_) ⟨o, ho⟩ (setZ_ok Z g)
  rw [sb.2 b hb]
  exact hu
/-- a.add(e) -/
def tGrow (P : Program) (w : World) (to te : TE) : TE := fun σ H Q => to σ H fun x H1 => ∃ a : Addr, x = .ref a ∧ (∃ S n, H1 a = some (SetZ Z P w a S n)) ∧ te σ H1 fun y H2 => ∃ (k : κ) (S : κ → Bool) (n : Nat), y = Z.val k ∧ H2 a = some (SetZ Z P w a S n) ∧ n ≤ 2000 ∧ Q .non (upd H2 a (SetZ Z P w a (more S k) (moreN S k n)))
theorem pe_grow {o e : Expr} {to te : TE} {apos cpos : Pos} (ho : PE X o to) (ha : PE X e te) (hbase : attributeBase o "add" X.env (eval o X.env) = eval o X.env := by rfl)
    (hfew : ((backTo cpos (starEach [e] X.env)).all (fun x => !x.1) && (backToKw cpos (keywordEach [] X.env)).all (fun x => x.1.isSome) && decide ([e].length + ([] : List Keyword).length + (if ([] : List Keyword).isEmpty then 0 else 1) < 30)) = true := by rfl)
    (hline : (apos.endLine == cpos.line) = true := by rfl) (hs : starEach [e] X.env = (false, eval e X.env) :: starEach [] X.env := by rfl) : PE X (.Call (.Attribute o "add" apos) [e] [] cpos) (tGrow Z X.prog X.w to te) := by
  refine ⟨fun pins s σ H Q I h => wpAny_Call_method_late hbase hfew hline rfl (thn (ho.run pins s σ H _ I h) fun v s1 ⟨x, H1, I1, r1, a, ex, ⟨S0, n0, h0⟩, q1⟩ => ?_)⟩
  subst ex
  obtain rfl : v = .ref a := r1
  have G0 : SetG (Z.kd X.prog X.w) s1.heap a S0 n0 := (I1.hok a _ h0).1
  obtain ⟨o0, es0, ep0, t0, ho0, hx0, _⟩ := G0
  refine ⟨"set", "set.add", F.plainAttrs_set, F.slot_set_add, F.type_set_add, ⟨o0, ho0, hx0.1⟩, fun b hb => ⟨o0, by cases hb; exact ho0, hx0.2.1⟩, ?_⟩
  rw [hs]
  refine Calls.callWith_builtin (by rfl) (Calls.evalArgs_plain ?_)
  refine Calls.spliced_cons (thn (ha.run pins s1 σ H1 _ I1 q1) fun u s2 ⟨y, H2, I2, r2, k, S, n, ey, h2, hn, q2⟩ => Calls.spliced_nil ?_)
  subst ey
  exact setZ_grows Z I2 h2 r2 (by unfold scanBound; omega) fun s' I' => ⟨.non, _, I', rfl, q2⟩
/-- an empty set, just made -/
theorem setZ_zero {h : Heap} : SetG (Z.kd P w) (h.push (freshSet w)) h.objs.size (fun _ => false) 0 :=
  (setG_fresh (knd := Z.kd P w) (Heap.get?_push_size h rfl) []).to fun k => by rw [List.take_nil]; exact decide_eq_false List.not_mem_nil
/-- {e for t in i if c ..}: J the thing walked over, D the new set, W what holds between the turns -/
def tSetZ (P : Program) (w : World) (wi : TI) (g : TG) (tt : TT) (te : TE) (vs : List Nat) : TE := fun σ H Q => wi σ H fun J H1 => ∀ D, H1 D = none → ∃ W : Nat → Nat → Hp → Prop, (∃ m, W 0 m (upd H1 D (SetZ Z P w D (fun _ => false) 0))) ∧ ∀ i m H, W i m H →
  (J.stop i H ∧ Q (.ref D) H) ∨ (J.go i H ∧ ∃ Nx : Hp → Prop, (∀ H', Nx H' → ∃ m', m' < m ∧ W (i + 1) m' H') ∧ ∀ x H', J.yld i H x H' → g x (wipe σ vs) H' fun σ2 H2 => wipe σ2 vs = wipe σ vs ∧ tt σ2 H2 fun b H3 =>
    if b = true then te σ2 H3 fun y H4 => ∃ (k : κ) (S : κ → Bool) (n : Nat), y = Z.val k ∧ H4 D = some (SetZ Z P w D S n) ∧ n ≤ 2000 ∧ Nx (upd H4 D (SetZ Z P w D (more S k) (moreN S k n))) else Nx H3)
theorem pe_setZ {elt tg iter : Expr} {ifs : List Expr} {scope : Scope} {own : List (Str × Nat)} {pos : Pos} {wi : TI} {g : TG} {tt : TT} {te : TE} (calm : X.calm = true) (nd : X.N.Nodup) (walks : PI X tg iter wi) (ok : BlkOk X.N X.env.scope scope own)
    (target : ∀ s H C cl fp, PG (X.blk s H scope (compEnvC scope cl C X.env) fp) tg g) (tests : ∀ s H C cl fp, PTs (X.blk s H scope (compEnvC scope cl C X.env) fp) ifs tt) (elem : ∀ s H C cl fp, PE (X.blk s H scope (compEnvC scope cl C X.env) fp) elt te)
    (hs : ∀ x, foldedSetIterable iter X.env x = pure x := by intro _; rfl) : PE X (.SetComp elt [⟨tg, iter, ifs, 0⟩] scope pos) (tSetZ Z X.prog X.w wi g tt te (own.map (·.2))) := by
  refine ⟨fun pins s σ H Q I spec => ?_⟩
  rw [PpSet.eval_SetComp]
  have caught : ∀ y ∈ scope.names, y.2 = .free → ∃ c, X.env.cells.lookup y.1 = some c := fun y hy e => (ok.free y hy e).elim (fun k => I.ok.has _ (.inl k)) fun k => I.ok.has _ (.inr k)
  refine wpAny_comprehension_free rfl hs (closure_ok caught) ok.kind (fun y hy e => by rw [ok.uniq y hy, e]) (thn (walks.run pins s σ H _ I spec) fun v0 s1 at1 => thn at1 fun v1 s2 at2 => ?_)
  obtain ⟨it, fp, tn, J, H2, rfl, I2, T, tn2, apart, spec2⟩ := at2
  refine PpSet.newSet_ok (newEnv_comp ?_)
  have free2 : H2 s2.heap.objs.size = none := I2.hok.fresh (Nat.le_refl _)
  have inside : ∀ b ∈ fp, b < s2.heap.objs.size := fun b hb => let ⟨_, e, _⟩ := T.obj _ _ tn2 b hb; Heap.lt_size e
  obtain ⟨W, ⟨m0, w0⟩, turn⟩ := spec2 _ free2
  -- the state with the new set
  have I3 := I2.laid (t' := s2.toks) (o := SetZ Z X.prog X.w s2.heap.objs.size (fun _ => false) 0) (h' := s2.heap.push (freshSet X.w)) (fun _ _ e => Heap.get?_push_of_some _ e) (Nat.le_refl _) (setZ_ok Z (setZ_zero Z))
  have apart3 : ∀ b ∈ fp, FpOk X pins (upd H2 s2.heap.objs.size (SetZ Z X.prog X.w s2.heap.objs.size (fun _ => false) 0)) b ∧ b < (s2.heap.push (freshSet X.w)).objs.size := fun b hb => by
    have lt := inside b hb
    have ne : b ≠ s2.heap.objs.size := Nat.ne_of_lt lt
    exact ⟨⟨(upd_ne ne).trans (apart b hb).1, (apart b hb).2⟩, by rw [Heap.size_push]; exact Nat.lt_succ_of_lt lt⟩
  have tn3 : tn 0 (s2.heap.push (freshSet X.w)) := T.keep _ _ _ tn2 fun b _ o e => Heap.get?_push_of_some _ e
  have I4 := block_start I3 ok nd apart3
  have tn4 : tn 0 (pushCells ((s2.heap.push (freshSet X.w)).push { cls := .type "dict", data := .dict #[] }) scope.names) := T.keep _ _ _ tn3 fun b _ o e => pushCells_keeps _ _ _ _ (Heap.get?_push_of_some _ e)
  have none3 : ∀ b ∈ fp, (upd H2 s2.heap.objs.size (SetZ Z X.prog X.w s2.heap.objs.size (fun _ => false) 0)) b = none := fun b hb => (apart3 b hb).1.1
  generalize s2.heap.objs.size = D at *
  generalize upd H2 D (SetZ Z X.prog X.w D (fun _ => false) 0) = H3 at *
  show codeAny (model X.prog X.w) X.A (.compStart (.SetComp elt [⟨tg, iter, ifs, 0⟩] scope pos) 0 (.ref it) (.ref D) (compEnvC scope (cellsFrom ((s2.heap.push (freshSet X.w)).objs.size + 1) scope.names (cloFrom X.env.cells scope.names [])) (s2.heap.push (freshSet X.w)).objs.size X.env)) _ _
  generalize hs3 : ({ s2 with heap := s2.heap.push (freshSet X.w) } : Shared) = s3 at I3 I4
  have e3 : s2.heap.push (freshSet X.w) = s3.heap := by rw [← hs3]
  rw [e3] at tn4 ⊢
  generalize hce : compEnvC scope (cellsFrom (s3.heap.objs.size + 1) scope.names (cloFrom X.env.cells scope.names [])) s3.heap.objs.size X.env = ce
  have T1 := target s3 H3 s3.heap.objs.size (cellsFrom (s3.heap.objs.size + 1) scope.names (cloFrom X.env.cells scope.names [])) fp
  have T2 := tests s3 H3 s3.heap.objs.size (cellsFrom (s3.heap.objs.size + 1) scope.names (cloFrom X.env.cells scope.names [])) fp
  have T3 := elem s3 H3 s3.heap.objs.size (cellsFrom (s3.heap.objs.size + 1) scope.names (cloFrom X.env.cells scope.names [])) fp
  rw [hce] at T1 T2 T3 I4
  have own_ : ce.locals = s3.heap.objs.size := by rw [← hce]; rfl
  have aside : ∀ {σ' : L2.St} {H' : Hp} {s' : Shared}, Inv (X.blk s3 H3 scope ce fp) [] σ' H' s' → (∀ b ∈ fp, H' b = none) → ∀ b ∈ fp, FpOk (X.blk s3 H3 scope ce fp) [] H' b := fun J' n b hb =>
    ⟨n b hb, (J'.ok.exf b hb).1, J'.ok.exfs b hb, Or.inl hb, fun x c e => (J'.ok.exf b hb).2 x c e, fun p hp => absurd (show p ∈ ([] : List (Addr × Obj)) ++ [] from hp) List.not_mem_nil⟩
  have whole : codeAny (model X.prog X.w) X.A (.compLoop (.SetComp elt [⟨tg, iter, ifs, 0⟩] scope pos) 0 (.ref it) (.ref D) ce) (compPost (model X.prog X.w) X.A X.xe none (EP X pins σ Q) (.ref D) s3.heap.objs.size) { s2 with heap := pushCells (s3.heap.push { cls := .type "dict", data := .dict #[] }) scope.names } := by
    refine PpSet.compLoopS_any (fun m s' => ∃ i H', Inv (X.blk s3 H3 scope ce fp) [] (wipe σ (own.map (·.2))) H' s' ∧ tn i s'.heap ∧ (∀ b ∈ fp, H' b = none) ∧ W i m H') (fun m s' ⟨i, H', J', tn', none', w'⟩ => ?_) m0 ⟨0, H3, by subst hs3; exact I4, tn4, none3, w0⟩
    rcases turn i m H' w' with ⟨stop, q⟩ | ⟨go, Nx, next, step⟩
    · refine thnF (T.done (X.blk s3 H3 scope ce fp) rfl rfl rfl calm i [] s' _ H' (fun _ _ => False) J' (aside J' none') tn' stop) fun r s'' ⟨er, J''⟩ => ?_
      subst er
      have back : Inv X pins σ H' s'' := I3.call' (ch := fp) J''.os J''.base J''.hok J''.bare fun b hb => ⟨(apart3 b hb).1.2.2.2.1, (apart3 b hb).1.2.1, (apart3 b hb).1.2.2.2.2.1, (apart3 b hb).1.2.2.2.2.2⟩
      have none'' : H' s3.heap.objs.size = none := by
        rw [← own_]
        exact J''.free
      obtain ⟨names, at_, _⟩ := J''.loc
      have at' : s''.heap.Ns s3.heap.objs.size names := by
        rw [← own_]
        exact at_
      obtain ⟨f0, f1, f2, f3, f4, f5⟩ := I3.fpOk (b := s3.heap.objs.size) (Nat.le_refl _) none''
      exact ⟨names, at', fun h2 sb => ⟨.ref D, H', back.turned (t' := s''.toks) (fun b o hb e => (sb.2 b hb).trans e) f0 f1 f3 f4 f5, rfl, q⟩⟩
    · refine thnF (T.item (X.blk s3 H3 scope ce fp) rfl rfl rfl calm i [] s' _ H' (fun _ _ => False) J' (aside J' none') tn' go) fun r s'' ⟨u, er, item⟩ => ?_
      subst er
      refine thnF item fun _ s5 ⟨x, H5, J5, rx, yx, tn5, none5⟩ => ?_
      have J5p := J5.pinned (aside J5 none5) (T.obj _ _ tn5)
      refine thnF (T1.run _ s5 _ H5 x u _ J5p rx (step x H5 yx)) fun _ s6 ⟨σ6, H6, J6, wiped, q6⟩ => ?_
      refine thnF (T2.run _ s6 σ6 H6 _ J6 q6) fun b s7 ⟨H7, J7, q7⟩ => ?_
      have ends : ∀ {s8 : Shared} {H8 : Hp}, Inv (X.blk s3 H3 scope ce fp) ([] ++ pinsAt fp s5.heap) σ6 H8 s8 → Nx H8 → ∃ m', m' < m ∧ ∃ i H', Inv (X.blk s3 H3 scope ce fp) [] (wipe σ (own.map (·.2))) H' s8 ∧ tn i s8.heap ∧ (∀ b ∈ fp, H' b = none) ∧ W i m' H' := fun {s8 H8} J8 nx => by
        obtain ⟨m', less, w8⟩ := next H8 nx
        have stays : ∀ b ∈ fp, ∀ o, s5.heap.get? b = some o → s8.heap.get? b = some o ∧ H8 b = none := fun b hb o e => by
          obtain ⟨a1, a2, _⟩ := J8.pin (b, o) (List.mem_append_right _ (List.mem_append_right _ (mem_pinsAt hb e)))
          exact ⟨a1, a2⟩
        refine ⟨m', less, i + 1, H8, (J8.unpinned (pins := [])).weak (by rw [← wiped, wipe_length]) (fun j v e => (wipe_some (by rw [wiped]; exact e)).1), T.keep _ _ _ tn5 fun b hb o e => (stays b hb o e).1, fun b hb => ?_, w8⟩
        obtain ⟨o, e, _⟩ := T.obj _ _ tn5 b hb
        exact (stays b hb o e).2
      cases b with
      | false => exact ends J7 q7
      | true =>
        refine thnF (T3.run _ s7 σ6 H7 _ J7 q7) fun z s8 ⟨yv, H8, J8, ry, k, S, n, ey, hD, hn, nx⟩ => ?_
        subst ey
        exact setZ_grows Z (X := X.blk s3 H3 scope ce fp) J8 hD ry (by unfold scanBound; omega) fun s9 J9 => ends J9 nx
  have r := PpSet.codeAny_compStart_set whole (T.self X.A 0 _ _ _ tn4 whole)
  subst hs3
  exact r
/-- .. where the elements are told by a function, and nothing that stands is changed -/
theorem sz_fn {J : It} {n : Nat} {G : Hp → Prop} {Y : Nat → Hp → V → Hp → Prop} (wk : Walk J n G Y) {g : TG} {tt : TT} {te : TE} {vs : List Nat} {σ : L2.St} {H1 : Hp} {D : Addr} {Qd : Hp → Prop} (hn : n ≤ 1000) (hD : H1 D = none) (f : Nat → Option κ) (hG : ∀ H, Same H1 H → G H)
    (hs : ∀ i x H H', i < n → Same H1 H → Y i H x H' → ∀ (R : V → Hp → Prop) (R0 : Hp → Prop), (∀ k H4, f i = some k → Same H H4 → R (Z.val k) H4) → (∀ H3, f i = none → Same H H3 → R0 H3) →
      g x (wipe σ vs) H' fun σ2 H2 => wipe σ2 vs = wipe σ vs ∧ tt σ2 H2 fun b H3 => if b = true then te σ2 H3 R else R0 H3)
    (hd : ∀ (H : Hp) (S : κ → Bool) (c : Nat), Same H1 H → (∀ k, S k = true ↔ k ∈ (List.range n).filterMap f) → c ≤ n → H D = some (SetZ Z P w D S c) → Qd H) :
    ∃ W : Nat → Nat → Hp → Prop, (∃ m, W 0 m (upd H1 D (SetZ Z P w D (fun _ => false) 0))) ∧ ∀ i m H, W i m H →
      (J.stop i H ∧ Qd H) ∨ (J.go i H ∧ ∃ Nx : Hp → Prop, (∀ H', Nx H' → ∃ m', m' < m ∧ W (i + 1) m' H') ∧ ∀ x H', J.yld i H x H' → g x (wipe σ vs) H' fun σ2 H2 => wipe σ2 vs = wipe σ vs ∧ tt σ2 H2 fun b H3 =>
        if b = true then te σ2 H3 fun y H4 => ∃ (k : κ) (S : κ → Bool) (n : Nat), y = Z.val k ∧ H4 D = some (SetZ Z P w D S n) ∧ n ≤ 2000 ∧ Nx (upd H4 D (SetZ Z P w D (more S k) (moreN S k n))) else Nx H3) := by
  refine ⟨fun i m H => m = n - i ∧ i ≤ n ∧ Same H1 H ∧ ∃ (S : κ → Bool) (c : Nat), (∀ k, S k = true ↔ k ∈ (List.range i).filterMap f) ∧ c ≤ i ∧ H D = some (SetZ Z P w D S c), ⟨n, rfl, Nat.zero_le _, same_new hD, fun _ => false, 0, fun k => by simp, Nat.le_refl _, upd_same⟩, ?_⟩
  rintro i m H ⟨rfl, hi, s, S, c, hS, hc, eD⟩
  by_cases hlt : i < n
  · refine .inr ⟨wk.goes i H hlt (hG H s), fun H' => i + 1 ≤ n ∧ Same H1 H' ∧ ∃ (S : κ → Bool) (c : Nat), (∀ k, S k = true ↔ k ∈ (List.range (i + 1)).filterMap f) ∧ c ≤ i + 1 ∧ H' D = some (SetZ Z P w D S c), fun H' p' => ⟨n - (i + 1), by omega, rfl, p'⟩, fun x H' y => ?_⟩
    have rg : (List.range (i + 1)).filterMap f = (List.range i).filterMap f ++ (f i).toList := by
      rw [List.range_succ, List.filterMap_append]
      cases q : f i <;> simp [q]
    refine hs i x H H' hlt s (wk.yields i H x H' hlt (hG H s) y) _ _ (fun k H4 hk s4 => ?_) (fun H3 hk s3 => ?_)
    · refine ⟨k, S, c, rfl, s4 _ _ eD, by omega, hlt, same_mut (s.trans s4) hD, _, _, fun j => ?_, ?_, upd_same⟩
      · rw [rg, hk]
        show (S j || decide (j = k)) = true ↔ _
        rw [Bool.or_eq_true, decide_eq_true_eq, hS j, List.mem_append]
        exact or_congr Iff.rfl ⟨fun z => List.mem_singleton.mpr z, fun z => List.mem_singleton.mp z⟩
      · unfold moreN
        split <;> omega
    · exact ⟨hlt, s.trans s3, S, c, fun j => by rw [rg, hk, hS j]; simp, by omega, s3 _ _ eD⟩
  · obtain rfl : i = n := by omega
    exact .inl ⟨wk.stops H (hG H s), hd H S c s hS hc eD⟩
end
def zStr : ZK Str := ⟨fun P w => PySem.strKind P w, V.str, fun P w k v r => by
  obtain ⟨t, rfl⟩ := r
  exact ⟨isStr_mk k t, rfl⟩⟩
def zInt : ZK Int := ⟨fun P w => intKind P w, V.int, fun P w k v r => by
  obtain ⟨t, rfl⟩ := r
  exact ⟨beq_self_eq_true k, rfl⟩⟩
end My
namespace My
open PySem PySem.Spec PyProof.Rows L2
/-! ### d != e, == : dicts whose values are equal data -/
def EqKV (K : PySem.W.Frag) (H : Hp) (x y : V) : Prop := ∃ (a b : Addr) (ks ls : List (Key × V)), x = .ref a ∧ y = .ref b ∧ H a = some (.dK ks) ∧ H b = some (.dK ls) ∧ ks.length = ls.length ∧
  ∀ p ∈ ks, ∃ (u : V) (d : PyData), valV ls p.1 = some u ∧ Dp K H p.2 d ∧ Dp K H u d ∧ SeqAt.shaped d = true
def rNeKV (K : PySem.W.Frag) : R2 := fun x y H Q => EqKV K H x y ∧ Q (.bl false) H
section
variable {X : Cx} {pins : List (Addr × Obj)} {σ : L2.St} {H : Hp} {s : Shared}
theorem kv_hits (I : Inv X pins σ H s) {A : Around} (hu : A.units + 64 < cLine) {ls : List (Key × V)} {vb : List (Key × Value)} (rb : KV ls vb) : ∀ {ks : List (Key × V)} {va : List (Key × Value)}, KV ks va →
    (∀ p ∈ ks, ∃ (u : V) (d : PyData), valV ls p.1 = some u ∧ Dp X.K H p.2 d ∧ Dp X.K H u d ∧ SeqAt.shaped d = true) → PySem.W.KeqHits A s vb va true := by
  intro ks va ra
  unfold KV at ra
  induction ra with
  | nil => exact fun _ => .nil
  | @cons p q ps qs h t ih =>
    intro hp
    obtain ⟨kq, vq⟩ := q
    obtain ⟨kp, vp⟩ := p
    obtain ⟨h1, h2⟩ := h
    obtain rfl : kp = kq := h1
    obtain ⟨u, d, e, d1, d2, sh⟩ := hp (kp, vp) (.head _)
    obtain ⟨y, hy, ry⟩ := (show RelO (some u) (valueAt vb kp) by rw [← e]; exact rb.val kp).some_of
    obtain ⟨as, r1⟩ := Dp.reads I d vp vq d1 h2
    obtain ⟨bs, r2⟩ := Dp.reads I d u y d2 ry
    have pl := PySem.PyData.plain_of_canLay0 d (SeqAt.canLay_of_shaped sh)
    have dp := SeqAt.depth_of_shaped sh
    have q := SeqAt.eqAt_plain d d A s vq y as bs r1 r2 pl pl (by omega)
    rw [eqv_self sh] at q
    exact PySem.W.KeqHits.hit (e := true) (b := true) hy q (ih fun p' hm => hp p' (.tail _ hm))
theorem op_neKV (hu : X.A.units + 80 < cLine) : OpR X (compareOp .NotEq) (rNeKV X.K) := by
  intro pins s σ H x y v u Q I rx ry h
  obtain ⟨⟨a, b, ks, ls, rfl, rfl, ea, eb, hlen, hp⟩, q⟩ := h
  obtain rfl : v = Value.ref a := rx
  obtain rfl : u = Value.ref b := ry
  obtain ⟨_, ya, va, ra, da⟩ := (show ObjOk X.prog X.w H s.heap a (.dK ks) from I.hok a _ ea)
  obtain ⟨_, yb, vb, rb, db⟩ := (show ObjOk X.prog X.w H s.heap b (.dK ls) from I.hok b _ eb)
  refine PySem.W.keq_ne (knd := mixKind X.prog X.w) (r := true) ya yb da db (by omega) (fun _ => kv_hits I (A := X.A.in1) (by show X.A.units + 1 + 64 < cLine; omega) rb ra hp) ?_
  have e : va.length = vb.length := by rw [← ra.length, ← rb.length, hlen]
  have z : (!(va.length == vb.length && true)) = false := by rw [e]; simp
  rw [z]
  exact ⟨.bl false, H, I, rfl, q⟩
end
/-! ### dicts filled by new keys -/
theorem putK_new {κ : Type} [DecidableEq κ] {kvs : List (κ × V)} {k : κ} {v : V} (h : ∀ p ∈ kvs, p.1 ≠ k) : putK kvs k v = kvs ++ [(k, v)] := by
  unfold putK
  rw [if_neg]
  intro z
  obtain ⟨p, hp, e⟩ := List.any_eq_true.mp z
  exact h p hp (of_decide_eq_true e)
theorem mergeK_new : ∀ {more kvs : List (Key × V)}, (kvs ++ more).Pairwise (fun p q => p.1 ≠ q.1) → mergeK kvs more = kvs ++ more
  | [], kvs, _ => (List.append_nil kvs).symm
  | (k, v) :: r, kvs, h => by
    have h1 : ∀ p ∈ kvs, p.1 ≠ k := fun p hp => (List.pairwise_append.mp h).2.2 p hp (k, v) (.head _)
    have e : mergeK kvs ((k, v) :: r) = mergeK (putK kvs k v) r := rfl
    rw [e, putK_new h1, mergeK_new (by rw [List.append_assoc]; exact h), List.append_assoc]
    rfl
theorem valV_at {κ : Type} [DecidableEq κ] : ∀ {kvs : List (κ × V)} {k : κ} {v : V}, kvs.Pairwise (fun p q => p.1 ≠ q.1) → (k, v) ∈ kvs → valV kvs k = some v
  | (k0, v0) :: r, k, v, h, hm => by
    obtain ⟨h1, h2⟩ := List.pairwise_cons.mp h
    rcases List.mem_cons.mp hm with e | hm
    · cases e
      exact valV_pos rfl
    · rw [valV_neg fun e => h1 _ hm e]
      exact valV_at h2 hm
theorem _root_.L2.Room.units80 {k : Nat} {A : Around} (r : Room k A) : A.units + 80 < cLine := by have := r.un; omega
end My
namespace My
open PySem PySem.Spec PyProof.Rows L2
section
variable {X : Cx}
/-! ### sorted(tuple of texts) -/
def rSortedTS (K : PySem.W.Frag) : List V → Hp → VK → Prop := fun xs H Q => ∃ (a : Addr) (ws : List Str), xs = [.ref a] ∧ SqT K H a (ws.map V.str) ∧ ws.length < 64 ∧
  ∀ (ys : List Str) (p : Addr), ys.Perm ws → sortedS ys = true → H p = none → Q (.ref p) (upd H p (.lst (ys.map V.str)))
theorem cr_sortedTS : CallR X (.builtin "sorted") (rSortedTS X.K) := by
  intro pins s σ H xs us Q I r h
  obtain ⟨a, ws, rfl, hq, hl, q⟩ := h
  obtain rfl := Vals.ref1 r
  obtain ⟨its, rv, pt, hz⟩ := I.tuple hq
  obtain ⟨hlen, hget⟩ := vals_strs rv
  obtain ⟨o, ho, hcl, n, hd⟩ := id pt
  refine Calls.call_function_entry kind_sorted plain_sorted entry_sorted (args_sorted1 _) ?_
  refine wpAny_bind (wpAny_pure ?_)
  have big : its.length ≤ sizeLine := by rw [hlen]; exact Nat.le_of_lt (sizeLine_of (by omega))
  refine wpAny_bind (wpAny_collect_seq a (.inr rfl) ho hcl hd (fun h' keep => ?_) (by rw [List.size_toArray]; exact big))
  have I1 : L2.Inv X pins σ H { s with heap := h' } := I.kept (t' := s.toks) keep
  refine wpAny_bind (wpAny_newList ?_ big)
  have I2 := I1.lnew (t' := s.toks) rv (by rw [List.length_map, ← hlen]; exact big)
  have hn1 : H h'.objs.size = none := I1.hok.fresh (Nat.le_refl _)
  refine wpAny_bind (wpAny_holding ?_)
  refine thn (mt_sortS (X := inCx X) pins _ σ _ (.ref h'.objs.size) [] (.ref h'.objs.size) [] (fun v H' => ∃ ys : List Str, ys.Perm ws ∧ sortedS ys = true ∧ H' = upd H h'.objs.size (.lst (ys.map V.str))) (inv_in I2) rfl .nil ⟨_, ws, rfl, rfl, upd_same, by omega, fun ys h1 h2 => ⟨ys, h1, h2, upd_upd⟩⟩) fun v s3 ⟨x, H3, I3, _, ys, py, sy, e3⟩ => ?_
  subst e3
  exact wpAny_pure ⟨_, rfl, .ref h'.objs.size, _, inv_out I3, rfl, q ys _ py sy hn1⟩
theorem cr_sortedTSK {K : PySem.W.Frag} (hK : X.K = K) : CallR X (.builtin "sorted") (rSortedTS K) := by
  subst hK
  exact cr_sortedTS
/-! ### a new dict that is locked from here on -/
def tFrz (td : TE) : TE := fun σ H Q => td σ H fun x H1 => ∃ d u, x = .ref d ∧ H1 d = some u ∧ Mut (some u) ∧ ∀ od, Q x (upd H1 d (.frz od u))
theorem pe_frz {e : Expr} {td : TE} (h : PE X e td) : PE X e (tFrz td) := by
  refine ⟨fun pins s σ H Q I hw => ?_⟩
  refine thn (h.run pins s σ H _ I hw) fun v s1 ⟨x, H1, I1, r, d, u, ex, hd, mu, q⟩ => ?_
  obtain ⟨od, I2⟩ := I1.lock hd mu
  exact ⟨x, _, I2, r, q od⟩
/-! ### a statement, and what holds behind it -/
def tMid (t : TS) : TS := fun D σ H => ∃ Pv : L2.St → Hp → Prop, t { D with nx := Pv } σ H ∧ ∀ σ' H', Pv σ' H' → D.nx σ' H'
theorem ps_mid {X : Cx} {st : Stmt} {t : TS} (h : PS X st t) : PS X st (tMid t) := by
  refine ⟨fun pins s σ H D I hw => ?_⟩
  obtain ⟨Pv, h1, h2⟩ := hw
  refine thn (h.run pins s σ _ _ I h1) fun f s1 q => ?_
  cases f with
  | next => obtain ⟨σ', H', I2, q⟩ := q; exact ⟨σ', H', I2, h2 _ _ q⟩
  | brk => exact q
  | cont => exact q
  | ret v => exact q
/-! ### K told -/
theorem pi_listK {X : Cx} {K : PySem.W.Frag} {tg l : Expr} {tl : TE} (h : X.K = K) (hl : PE X l tl) : PI X tg l (iList K tl) := by
  subst h
  exact pi_list hl
theorem pi_tupK {X : Cx} {K : PySem.W.Frag} {tg l : Expr} {tl : TE} (h : X.K = K) (hl : PE X l tl) : PI X tg l (iTup K tl) := by
  subst h
  exact pi_tup hl
/-! ### loops -/
theorem for_items {d : Addr} {o : Obj} {kvs : List (Key × V)} {g : TG} {tb : TS} {D : Ends} {σ : L2.St} {H : Hp} (Pv : Nat → L2.St → Hp → Prop) (h0 : Pv 0 σ H) (hl : ∀ i σ H, i ≤ kvs.length → Pv i σ H → H d = some (.frz o (.dK kvs)))
    (hs : ∀ i k v T σ H, kvs[i]? = some (k, v) → Pv i σ H → H T = none → g (.ref T) σ (upd H T (.tup [kV k, v])) fun σ2 H2 => tb { D with nx := Pv (i + 1), ct := Pv (i + 1), bk := D.nx } σ2 H2) (hd : ∀ σ H, Pv kvs.length σ H → D.nx σ H) :
    ∃ W : Nat → Nat → L2.St → Hp → Prop, (∃ m, W 0 m σ H) ∧ ∀ i m σ H, W i m σ H →
      ((Iti d o kvs).stop i H ∧ D.nx σ H) ∨ ((Iti d o kvs).go i H ∧ ∃ N : L2.St → Hp → Prop, (∀ σ' H', N σ' H' → ∃ m', m' < m ∧ W (i + 1) m' σ' H') ∧ ∀ x H', (Iti d o kvs).yld i H x H' → g x σ H' fun σ2 H2 => tb { D with nx := N, ct := N, bk := D.nx } σ2 H2) := by
  refine ⟨fun i m σ H => m = kvs.length - i ∧ i ≤ kvs.length ∧ Pv i σ H, ⟨kvs.length, by simp, Nat.zero_le _, h0⟩, ?_⟩
  rintro i m σ H ⟨rfl, hi, p⟩
  have q := hl i σ H hi p
  by_cases hlt : i < kvs.length
  · refine .inr ⟨⟨q, hlt⟩, Pv (i + 1), fun σ' H' n => ⟨kvs.length - (i + 1), by omega, rfl, hlt, n⟩, ?_⟩
    rintro x H' ⟨T, k, v, h1, rfl, h3, rfl⟩
    exact hs i k v T σ H h1 p h3
  · have e : i = kvs.length := by omega
    subst e
    exact .inl ⟨⟨q, Nat.le_refl _⟩, hd σ H p⟩
theorem for_enum {K : PySem.W.Frag} {a : Addr} {xs : List V} {g : TG} {tb : TS} {D : Ends} {σ : L2.St} {H : Hp} (Pv : Nat → L2.St → Hp → Prop) (h0 : Pv 0 σ H) (hl : ∀ i σ H, i ≤ xs.length → Pv i σ H → SqL K H a xs)
    (hs : ∀ i x T σ H, xs[i]? = some x → Pv i σ H → H T = none → g (.ref T) σ (upd H T (.tup [.int (i : Nat), x])) fun σ2 H2 => tb { D with nx := Pv (i + 1), ct := Pv (i + 1), bk := D.nx } σ2 H2) (hd : ∀ σ H, Pv xs.length σ H → D.nx σ H) :
    ∃ W : Nat → Nat → L2.St → Hp → Prop, (∃ m, W 0 m σ H) ∧ ∀ i m σ H, W i m σ H →
      ((Ite K a).stop i H ∧ D.nx σ H) ∨ ((Ite K a).go i H ∧ ∃ N : L2.St → Hp → Prop, (∀ σ' H', N σ' H' → ∃ m', m' < m ∧ W (i + 1) m' σ' H') ∧ ∀ x H', (Ite K a).yld i H x H' → g x σ H' fun σ2 H2 => tb { D with nx := N, ct := N, bk := D.nx } σ2 H2) := by
  refine ⟨fun i m σ H => m = xs.length - i ∧ i ≤ xs.length ∧ Pv i σ H, ⟨xs.length, by simp, Nat.zero_le _, h0⟩, ?_⟩
  rintro i m σ H ⟨rfl, hi, p⟩
  have q := hl i σ H hi p
  by_cases hlt : i < xs.length
  · obtain ⟨x, hx⟩ : ∃ x, xs[i]? = some x := ⟨xs[i], List.getElem?_eq_getElem hlt⟩
    refine .inr ⟨⟨xs, x, q, hx⟩, Pv (i + 1), fun σ' H' n => ⟨xs.length - (i + 1), by omega, rfl, hlt, n⟩, ?_⟩
    rintro y H' ⟨T, z, rfl, h3, rfl, h4⟩
    exact hs i z T σ H (h4 xs q) p h3
  · have e : i = xs.length := by omega
    subst e
    exact .inl ⟨⟨xs, q, Nat.le_refl _⟩, hd σ H p⟩
end
end My
namespace My
open PySem PySem.Spec PyProof.Rows L2
section
variable {X : Cx}
/-! ### sorted of a set of ints that a comprehension has made -/
def rSortedZI (P : Program) (w : World) : List V → Hp → VK → Prop := fun xs H Q => ∃ (a : Addr) (S : Int → Bool) (n : Nat), xs = [.ref a] ∧ H a = some (SetZ zInt P w a S n) ∧ n < 64 ∧
  ∀ (ys : List Int) (p : Addr), ys.Pairwise (· < ·) → (∀ k, k ∈ ys ↔ S k = true) → H p = none → Q (.ref p) (upd H p (.lst (ys.map V.int)))
theorem cr_sortedZI {P : Program} {w : World} (hP : X.prog = P) (hw : X.w = w) (hc : X.calm = true) : CallR X (.builtin "sorted") (rSortedZI P w) := by
  subst hP hw
  intro pins s σ H xs us Q I r h
  obtain ⟨a, S, n, rfl, ha, h64, q⟩ := h
  obtain rfl := Vals.ref1 r
  have G : SetG (intKind X.prog X.w) s.heap a S n := (I.hok a _ ha).1
  refine sorted_set (setR_of G) (I.ok.hd hc) h64 fun s' p out c ys keep hg hos hp hat hi hs hm hl => ?_
  have big : (ys.map V.int).length ≤ sizeLine := by rw [List.length_map, hl]; exact Nat.le_of_lt (sizeLine_of (by omega))
  have hn : H p = none := I.hok.fresh hp
  have I1 : L2.Inv X pins σ (upd H p (.lst (ys.map V.int))) s' := by
    have J := I.laid (a := p) (o := .lst (ys.map V.int)) (h' := s'.heap) (t' := s'.toks) keep hp ⟨big, out.toList, c, vals_of_ints hi, hat⟩
    obtain ⟨hp', gn', dr', tk', os'⟩ := s'
    obtain rfl : gn' = s.gens := hg
    obtain rfl : os' = s.os := hos
    exact ⟨J.ok, J.os, J.bare, J.base, J.loc, J.cell, J.free, J.freeC, J.pin, J.hok, J.len⟩
  exact ⟨.ref p, _, I1, rfl, q ys p hs hm hn⟩
end
end My
namespace My
open PySem L2
section
variable {H1 : Hp}
/-- .. where what is told of the elements lies in lists: all stands but the list that is made -/
theorem lc_relB {J : It} {n : Nat} {G : Hp → Prop} {Y : Nat → Hp → V → Hp → Prop} (w : Walk J n G Y) {g : TG} {tt : TT} {te : TE} {vs : List Nat} {σ : St} {D : Addr} {Qd : Hp → Prop} (hn : n ≤ 1000000) (hD : H1 D = none)
    (Rl : Nat → Option V → Hp → Prop) (mono : ∀ i z H H', But D H H' → Rl i z H → Rl i z H') (hG : ∀ H, Same H1 H → G H)
    (hs : ∀ i x H H', i < n → Same H1 H → (∃ acc, H D = some (.lst acc)) → Y i H x H' → ∀ (R : V → Hp → Prop) (R0 : Hp → Prop), (∀ y H4, Rl i (some y) H4 → Same H H4 → R y H4) → (∀ H3, Rl i none H3 → Same H H3 → R0 H3) →
      g x (wipe σ vs) H' fun σ2 H2 => wipe σ2 vs = wipe σ vs ∧ tt σ2 H2 fun b H3 => if b = true then te σ2 H3 R else R0 H3)
    (hd : ∀ H (zs : List (Option V)), Same H1 H → zs.length = n → (∀ i z, zs[i]? = some z → Rl i z H) → H D = some (.lst (zs.filterMap id)) → Qd H) :
    ∃ W : Nat → Nat → Hp → Prop, (∃ m, W 0 m (upd H1 D (.lst []))) ∧ ∀ i m H, W i m H →
      (J.stop i H ∧ Qd H) ∨ (J.go i H ∧ ∃ Nx : Hp → Prop, (∀ H', Nx H' → ∃ m', m' < m ∧ W (i + 1) m' H') ∧ ∀ x H', J.yld i H x H' → g x (wipe σ vs) H' fun σ2 H2 => wipe σ2 vs = wipe σ vs ∧ tt σ2 H2 fun b H3 =>
        if b = true then te σ2 H3 fun y H4 => ∃ acc, H4 D = some (.lst acc) ∧ acc.length < sizeLine ∧ Nx (upd H4 D (.lst (acc ++ [y]))) else Nx H3) := by
  have fl : ∀ zs : List (Option V), (zs.filterMap id).length ≤ zs.length := fun zs => List.length_filterMap_le _ _
  have get_app : ∀ (zs : List (Option V)) (z : Option V) (j : Nat) (y : Option V), (zs ++ [z])[j]? = some y → zs[j]? = some y ∨ (j = zs.length ∧ y = z) := fun zs z j y h => by
    by_cases hj : j < zs.length
    · rw [List.getElem?_append_left hj] at h
      exact .inl h
    · rw [List.getElem?_append_right (by omega)] at h
      have hj2 : j - zs.length = 0 := by
        cases e : j - zs.length with
        | zero => rfl
        | succ k => rw [e] at h; simp at h
      rw [hj2] at h
      exact .inr ⟨by omega, (Option.some.inj h).symm⟩
  refine lc_it w (fun i H => ∃ zs : List (Option V), zs.length = i ∧ Same H1 H ∧ (∀ j z, zs[j]? = some z → Rl j z H) ∧ H D = some (.lst (zs.filterMap id)))
    ⟨[], rfl, same_new hD, fun j z h => by simp at h, upd_same⟩ (fun i H _ ⟨_, _, s, _⟩ => hG H s) ?_ (fun H ⟨zs, l, s, r, e⟩ => hd H zs s l r e)
  rintro i x H H' hi ⟨zs, l, s, r, e⟩ hy
  refine hs i x H H' hi s ⟨_, e⟩ hy _ _ (fun y H4 hr s4 => ?_) (fun H3 hr s3 => ?_)
  · refine ⟨zs.filterMap id, s4 _ _ e, sizeLine_of (by have := fl zs; omega), zs ++ [some y], by rw [List.length_append, l]; rfl, same_mut (s.trans s4) hD, fun j z h => ?_, ?_⟩
    · have im : But D H (upd H4 D (.lst (zs.filterMap id ++ [y]))) := fun c o h n => by rw [upd_ne n]; exact s4 _ _ h
      have im4 : But D H4 (upd H4 D (.lst (zs.filterMap id ++ [y]))) := fun c o h n => by rw [upd_ne n]; exact h
      rcases get_app zs _ j z h with h | ⟨rfl, rfl⟩
      · exact mono j z _ _ im (r j z h)
      · rw [l]
        exact mono i _ _ _ im4 hr
    · rw [upd_same, List.filterMap_append]
      rfl
  · refine ⟨zs ++ [none], by rw [List.length_append, l]; rfl, s.trans s3, fun j z h => ?_, ?_⟩
    · rcases get_app zs _ j z h with h | ⟨rfl, rfl⟩
      · exact mono j z _ _ (fun c o h _ => s3 _ _ h) (r j z h)
      · rw [l]
        exact hr
    · rw [s3 _ _ e, List.filterMap_append]
      simp
end
end My
/-! a property of an own class, read below the rules: nothing that stood is changed; sorted by such a property -/
namespace My
open PySem L2 LamX PyProof.Rows
theorem objM_keeps {h h' : Heap} {x dx C : Addr} {m : Str → Option Value} (O : ObjM h x dx C m) (k : ∀ b o, h.get? b = some o → h'.get? b = some o) : ObjM h' x dx C m := ⟨k _ _ O.obj, O.ns.at fun o q => k _ _ q, O.ne⟩
theorem keeps_trans {s s' s'' : Shared} (a : Keeps s s') (b : Keeps s' s'') : Keeps s s'' := by
  obtain ⟨h, t, rfl, k⟩ := a
  obtain ⟨h2, t2, rfl, k2⟩ := b
  exact ⟨h2, t2, rfl, fun b o e => k2 b o (k b o e)⟩
section
variable {P : Program} {w : World} {K : PySem.W.Frag} {C p g a dx : Addr} {f fld x qual : Str} {st : Stmt} {fd : FuncData} {mA : Str → Option Value} {u : Value} {p1 p2 p3 : Pos} {A : Around}
theorem prop_low {b : Bool} {s : Shared} {E : Value → Shared → Prop} {Q : Value → Shared → Prop} (KX : K.In s.heap) (lim : s.heap.NoLimit) (O : ObjM s.heap a dx C mA) (hu : mA fld = some u) (hh : PySem.W.handedIn u = true)
    (c : Cls K C) (hp : PropOf K C f p g) (F : Fun K x qual st g fd) (hk : (defScope st).kind = .function) (hco : (defScope st).isCoroutine = false) (hge : (defScope st).isGenerator = false)
    (hb : Binds K fd ["self"] []) (n : NoAttr K C fld) (hbody : defBody st = [.Return (some (.Attribute (.Name "self" p1) fld p2)) p3]) (hself : (defScope st).names.lookup ("self" : Str) = some NameKind.local) (nocell : ∀ y ∈ (defScope st).names, y.2 ≠ .cell)
    (hd : A.depth + 3 < recursionLimit) (h : ∀ s', Keeps s s' → Q u s') : wpAny (model P w) A (getAttr (.ref a) f b) Q E s := by
  obtain ⟨od, J, _⟩ := O.look
  obtain ⟨rest, hrec⟩ := hp.rec_
  have hc : (PySem.W.clsIn K C).isSome = true := by
    obtain ⟨cd, hc, _⟩ := PySem.W.any_some c.hd
    rw [hc]
    rfl
  refine PySem.W.get_bind KX J (PySem.W.plainGet_of (c.get f)).1 (PySem.W.findObj_data hc hp.at_ hp.get hp.tak) (PySem.W.plainGet_of (c.get f)).2 (wpAny_call (PySem.W.prop_get (s := { s with toks := s.toks + 1 }) KX hrec ?_))
  obtain ⟨oc, od2, kV, doc, pm, an, cdv, ct, osl, rfl, lk, hcd⟩ := F.ex
  refine codeAny_call_function (by show A.depth < _; omega) (KX _ _ lk) rfl hco hge rfl (PySem.W.codeRec_of KX hcd) ?_
  refine hb { s with toks := s.toks + 1 } [.ref a] KX rfl _ _ _ _ ?_
  refine wpAny_newFunctionEnv nocell (fun y hy => ?_) (fun h₁ hns hsb => ⟨?_, codeAny_func ?_⟩) hk
  · obtain rfl := List.mem_singleton.mp hy
    exact hself
  · exact lim.keeps fun b o e => hsb.extBut b o (Nat.ne_of_lt (Heap.lt_size e)) (Heap.get?_push_of_some _ e)
  · have kp1 : ∀ b o, s.heap.get? b = some o → h₁.get? b = some o := fun b o e => hsb.extBut b o (Nat.ne_of_lt (Heap.lt_size e)) (Heap.get?_push_of_some _ e)
    show wpAny _ _ (execs (defBody st) _) _ _ _
    rw [hbody]
    refine wpAny_execs_cons (wpAny_Return_some (attr_of rfl (wpAny_Name (wpAny_loadName_local hk hself hns (by rfl) ?_) (by decide))))
    refine get_map (K := K) (KX.keeps kp1) (objM_keeps O kp1) (c.get fld) c.hd n hu hh ?_
    show wpAny _ _ (handedOut u) _ _ _
    rw [PySem.W.handedOut_of hh]
    exact wpAny_pure (h _ ⟨_, _, rfl, kp1⟩)
end
/-- what a key's expression makes of the item v: the text k; nothing that stood is changed; the text is there, and room for a call -/
def KeyEP (K : PySem.W.Frag) (prog : Program) (w : World) (scope : Scope) (x : Str) (body : Expr) (R : Heap → Value → Str → Prop) : Prop :=
  ∀ (cenv : Env) (A' : Around) (E' : Value → Shared → Prop) (v : Value) (k : Str) (s₂ : Shared) (m₂ : Str → Option Value), cenv.scope = scope → s₂.heap.Ns cenv.locals m₂ → m₂ x = some v → R s₂.heap v k → K.In s₂.heap → s₂.heap.NoLimit → A'.depth + 3 < recursionLimit →
    wpAny (model prog w) A' (eval body cenv) (fun y s₃ => (∃ t, y = .str k t) ∧ Keeps s₂ s₃) E' s₂
def InsK (C : Addr) (fld : Str) (h : Heap) (v : Value) (k : Str) : Prop := ∃ (a dx : Addr) (mA : Str → Option Value) (t : Tok), v = .ref a ∧ ObjM h a dx C mA ∧ mA fld = some (.str k t)
theorem insK_keep {C : Addr} {fld : Str} {h h' : Heap} {v : Value} {k : Str} (e : ∀ b o, h.get? b = some o → h'.get? b = some o) (r : InsK C fld h v k) : InsK C fld h' v k := by
  obtain ⟨a, dx, m, t, rfl, O, hm⟩ := r
  exact ⟨a, dx, m, t, rfl, objM_keeps O e, hm⟩
/-- x.f, a property: return self.fld -/
theorem key_prop {P : Program} {w : World} {K : PySem.W.Frag} {C p g : Addr} {f fld x y qual : Str} {st : Stmt} {fd : FuncData} {p1 p2 p3 q1 q2 : Pos} {scope : Scope} (hk : scope.kind = .function) (hl : scope.names.lookup x = some .local) (hdb : (x == ("__debug__" : Str)) = false)
    (c : Cls K C) (hp : PropOf K C f p g) (F : Fun K y qual st g fd) (hk2 : (defScope st).kind = .function) (hco : (defScope st).isCoroutine = false) (hge : (defScope st).isGenerator = false)
    (hb : Binds K fd ["self"] []) (n : NoAttr K C fld) (hbody : defBody st = [.Return (some (.Attribute (.Name "self" p1) fld p2)) p3]) (hself : (defScope st).names.lookup ("self" : Str) = some NameKind.local) (nocell : ∀ y ∈ (defScope st).names, y.2 ≠ .cell) :
    KeyEP K P w scope x (.Attribute (.Name x q1) f q2) (InsK C fld) := by
  intro cenv A' E' v k s₂ m₂ hs hn hm r KX lim hd
  obtain ⟨a, dx, m, t, rfl, O, hu⟩ := r
  refine attr_of rfl (wpAny_Name (wpAny_loadName_local (by rw [hs]; exact hk) (show cenv.scope.names.lookup x = some .local by rw [hs]; exact hl) hn hm ?_) hdb)
  exact prop_low KX lim O hu rfl c hp F hk2 hco hge hb n hbody hself nocell hd fun s' kp => ⟨⟨t, rfl⟩, kp⟩
section
variable {X : Cx}
theorem pe_sortLamP {T : List (Addr × Str)} {te : TE} {c P : Addr} {k : Nat} {e : Expr} {params : Arguments} {body : Expr} {scope : Scope} {x : Str} {p lpos kpos pos : Pos} {R : Heap → Value → Str → Prop} {RK : Hp → V → Str → Prop}
    (hkey : KeyEP X.K X.prog X.w scope x body R) (hR : ∀ pins s σ H b u v, Inv X pins σ H s → RK H b u → RelV b v → R s.heap v u) (hRk : ∀ (h h' : Heap) v u, (∀ b o, h.get? b = some o → h'.get? b = some o) → R h v u → R h' v u) (hRe : ∀ H H' b u, ExtN H H' → RK H b u → RK H' b u)
    (hg : Gl X "sorted") (hm : X.mg "sorted" = none) (ha : PE X e te) (TB : TabB X.base X.mg c P) (hcode : X.env.code = .ref c) (hmT : (P, X.env.qual ++ "<lambda>") ∈ T) (hu : ∀ p ∈ T, p.1 = P → p.2 = X.env.qual ++ "<lambda>") (hr : Room k X.A)
    (hdef : defaultsOf params X.env = ([], [])) (hkind : scope.kind = .function) (hco : scope.isCoroutine = false) (hgen : scope.isGenerator = false) (hnames : ∀ y ∈ scope.names, y.2 ≠ .free ∧ y.2 ≠ .cell) (hx : scope.names.lookup x = some .local)
    (hbind : ∀ (q : Str) (cl : List (Str × Addr)) (pm cv ctv v : Value), bindArgs (PySem.W.kla_fn "<lambda>" q params body scope cl pm cv ctv) ⟨[v], []⟩ = pure [(x, v)])
    (hst : starEach [e] X.env = (false, eval e X.env) :: starEach [] X.env := by rfl) (he : backTo pos (starEach [e] X.env) = (false, eval e X.env) :: backTo pos (starEach [] X.env) := by rfl) (hpl : (backTo pos (starEach [e] X.env)).any (·.1) = false := by rfl) :
    PE X (.Call (.Name "sorted" p) [e] [⟨some "key", .Lambda params body scope lpos, kpos⟩] pos) (tSortLam X.K T RK te) := by
  refine ⟨fun pins s σ H Q I h => ?_⟩
  refine wpAny_Call_Name_kw (ld_blt (u := .builtin "sorted") I hg hm (by decide +kernel) ?_ (by decide) (by decide))
  refine PyProof.Rows.callWith_kw (thn ((pa_cons ha pa_nil hst).run pos pins s σ H (fun vs H1 => match vs with | [v] => Tabs T H1 ∧ ∃ (a : Addr) (bs : List (V × Str)), v = .ref a ∧ SqL X.K H1 a (bs.map (·.1)) ∧ (∀ b ∈ bs, RK H1 b.1 b.2) ∧ ∀ (p : Addr) (H2 : Hp), ExtN H1 H2 → Tabs T H2 → H2 p = none → Q (.ref p) (upd H2 p (.lst ((sortBy bs).map (·.1)))) | _ => False) I h) fun us s1 ⟨vs, H1, I1, r1, q1⟩ => ?_) he hpl rfl rfl
  obtain ⟨v, rfl⟩ : ∃ v, vs = [v] := by
    match vs, q1 with
    | [v], _ => exact ⟨v, rfl⟩
  obtain ⟨hT, a, bs, rfl, hL, hK, q⟩ := q1
  obtain rfl := Vals.ref1 r1
  show wpAny _ _ (evalAll [do let v ← eval (.Lambda params body scope lpos) X.env; standAt pos; pure v]) _ _ s1
  refine wpAny_evalAll_cons (wpAny_bind (lam_make2 I1 TB hcode hmT hu hT hdef (fun y hy z => absurd z (hnames y hy).1) fun f c' pm ctv H2 s2 I2 eN T2 hf hfn hfr hco' => wpAny_bind (wpAny_standAt (wpAny_pure (wpAny_evalAll_nil ?_)))))
  show wpAny (model X.prog X.w) X.A (call (.builtin "sorted") [.ref a] [("key", .ref f)]) _ _ s2
  have hL2 := extN_sql eN hL
  obtain ⟨its, rv, hl, hz⟩ := I2.list hL2
  obtain ⟨⟨oc, cvs, ct, hoc, hdc, hvc⟩, _, _⟩ := I2.hok c' _ hco'
  have hbs : ∀ (l : List (V × Str)) (us : List Value), Vals (l.map (·.1)) us → (∀ b ∈ l, b ∈ bs) → PySem.W.EachIs (fun (v : Value) (b : V × Str) => RelV b.1 v ∧ R s2.heap v b.2) us l := by
    intro l
    induction l with
    | nil =>
      intro us r _
      cases r
      exact .nil
    | cons b l ih =>
      intro us r m
      cases r with
      | cons r1 r2 => exact .cons ⟨r1, hR pins s2 σ H2 b.1 b.2 _ I2 (hRe _ _ _ _ eN (hK b (m b (.head _)))) r1⟩ (ih _ r2 fun b' h' => m b' (.tail _ h'))
  have e := hbs bs its rv fun _ h => h
  refine PySem.W.sorted_key_data (R := fun (v : Value) (b : V × Str) => RelV b.1 v ∧ R s2.heap v b.2) (b := false) keyD hl.isList e ?_ ?_ ?_ ?_ (PyProof.Rows.ksk_s1 _ _) (fun _ => PyProof.Rows.ksk_l1 _ _) (fun x => PyProof.Rows.ksk_t1 f x) (fun v b hb hm' g tk kp => ?_) fun out cc h' tk kp hn hD hlen hout => ?_
  · intro d hd d' hd'
    obtain ⟨b, _, rfl⟩ := List.mem_map.mp hd
    obtain ⟨b', _, rfl⟩ := List.mem_map.mp hd'
    rfl
  · refine .inr fun d hd => ?_
    obtain ⟨b, _, rfl⟩ := List.mem_map.mp hd
    exact ⟨nofun, fun _ => nofun⟩
  · rw [List.length_map] at hz
    exact hz
  · intro b _
    have := hr.units
    show X.A.units + 2 + (PyData.str b.2).depth < _
    have z : (PyData.str b.2).depth ≤ 1 := by show _ ≤ 1; simp [PyData.depth]
    omega
  · have of1 := kp _ _ hf
    refine wpAny_call ?_
    refine PySem.W.kla_callFunE (by have := hr.dp; show X.A.depth < _; omega) of1 rfl hco hgen rfl ⟨c', oc, cvs, ct, rfl, kp _ _ hoc, hdc, hvc⟩ ?_
    rw [hbind]
    refine wpAny_pure (wpAny_newFunctionEnv (fun y hy => (hnames y hy).2) (fun y hy => ?_) (fun h₁ hns hsb => ⟨(I2.nolimit.keeps kp).fresh _ hsb, ?_⟩) hkind)
    · obtain rfl := List.mem_singleton.mp hy
      exact hx
    · have kp1 : ∀ b o, g.get? b = some o → h₁.get? b = some o := fun b o e => hsb.extBut b o (Nat.ne_of_lt (Heap.lt_size e)) (Heap.get?_push_of_some _ e)
      refine PySem.W.kla_codeExpr (wpAny_mono (hkey _ _ (fun _ _ => False) v b.2 _ _ rfl hns (by simp) (hRk _ _ _ _ kp1 (hRk _ _ _ _ kp hb.2)) ((I2.kIn.keeps kp).keeps kp1) ((I2.nolimit.keeps kp).fresh _ hsb) (by have := hr.dp; show X.A.depth + 1 + 3 < _; omega)) (fun y s3 hq => ?_) fun _ _ z => z.elim)
      obtain ⟨⟨t, rfl⟩, h3, tk3, rfl, kp3⟩ := hq
      exact ⟨h3, tk3, rfl, fun b o e => kp3 b o (kp1 b o e), .str _ _⟩
  · have hv : ∀ (l : List (V × Str)) (us : List Value), PySem.W.EachIs (fun (v : Value) (b : V × Str) => RelV b.1 v ∧ R s2.heap v b.2) us l → Vals (l.map (·.1)) us := by
      intro l us e
      induction e with
      | nil => exact .nil
      | cons r _ ih => exact .cons r.1 ih
    refine ⟨.ref _, upd H2 (s2.heap.objs.size + 1) (.lst ((sortBy bs).map (·.1))), I2.laid (t' := tk) kp (Nat.le_succ _) ⟨?_, out, cc, hv _ _ hout, hD⟩, rfl, q _ H2 eN T2 (I2.hok.fresh (Nat.le_succ _))⟩
    rw [List.length_map, (sortBy_perm bs).length_eq]
    rw [List.length_map] at hz
    exact hz
end
/-- an own instance with this text -/
def RKi (C : Addr) (fld : Str) (H : Hp) (x : V) (k : Str) : Prop := ∃ (a dx : Addr) (fs : List (Str × V)), x = .ref a ∧ H a = some (.ins C dx fs) ∧ fs.lookup fld = some (.str k)
section
variable {X : Cx}
/-- sorted(xs, key=lambda x: x.f), f a property that returns a text of the instance -/
theorem pe_sortProp {te : TE} {c P C p g : Addr} {k : Nat} {e : Expr} {params : Arguments} {scope : Scope} {x f fld y qual : Str} {st : Stmt} {fd : FuncData} {pp q1 q2 lpos kpos pos p1 p2 p3 : Pos}
    (hg : Gl X "sorted") (hm : X.mg "sorted" = none) (ha : PE X e te) (TB : TabB X.base X.mg c P) (hcode : X.env.code = .ref c) (hr : Room k X.A)
    (cl : Cls X.K C) (hp : PropOf X.K C f p g) (F : Fun X.K y qual st g fd) (hb : Binds X.K fd ["self"] []) (n : NoAttr X.K C fld) (hbody : defBody st = [.Return (some (.Attribute (.Name "self" p1) fld p2)) p3] := by rfl)
    (hk2 : (defScope st).kind = .function := by rfl) (hco2 : (defScope st).isCoroutine = false := by rfl) (hge2 : (defScope st).isGenerator = false := by rfl) (hself : (defScope st).names.lookup ("self" : Str) = some NameKind.local := by rfl) (nocell : ∀ y ∈ (defScope st).names, y.2 ≠ .cell := by decide +kernel)
    (hdef : defaultsOf params X.env = ([], []) := by rfl) (hkind : scope.kind = .function := by rfl) (hco : scope.isCoroutine = false := by rfl) (hgen : scope.isGenerator = false := by rfl) (hnames : ∀ y ∈ scope.names, y.2 ≠ .free ∧ y.2 ≠ .cell := by decide +kernel) (hx : scope.names.lookup x = some .local := by rfl)
    (hbind : ∀ (q : Str) (cl : List (Str × Addr)) (pm cv ctv v : Value), bindArgs (PySem.W.kla_fn "<lambda>" q params (.Attribute (.Name x q1) f q2) scope cl pm cv ctv) ⟨[v], []⟩ = pure [(x, v)] := by intros; rfl)
    (hd : (x == ("__debug__" : Str)) = false := by decide) (hst : starEach [e] X.env = (false, eval e X.env) :: starEach [] X.env := by rfl) (he : backTo pos (starEach [e] X.env) = (false, eval e X.env) :: backTo pos (starEach [] X.env) := by rfl) (hpl : (backTo pos (starEach [e] X.env)).any (·.1) = false := by rfl) :
    PE X (.Call (.Name "sorted" pp) [e] [⟨some "key", .Lambda params (.Attribute (.Name x q1) f q2) scope lpos, kpos⟩] pos) (tSortLam X.K [(P, X.env.qual ++ "<lambda>")] (RKi C fld) te) := by
  refine pe_sortLamP (x := x) (R := InsK C fld) (RK := RKi C fld) (key_prop hkind hx hd cl hp F hk2 hco2 hge2 hb n hbody hself nocell) (fun pins s σ H b u v I r rv => ?_) (fun h h' v u e r => insK_keep e r) (fun H H' b u e r => ?_) hg hm ha TB hcode (.head _) (fun q hq _ => by rw [List.mem_singleton.mp hq]) hr hdef hkind hco hgen hnames hx hbind hst he hpl
  · obtain ⟨a, dx, fs, rfl, ea, l⟩ := r
    obtain rfl : v = .ref a := rv
    obtain ⟨mA, O, r, _, _, _⟩ := ins_get I.hok ea
    obtain ⟨t, ht, rt⟩ := RelO.some_of (v := .str u) (o := mA fld) (by rw [← l]; exact r fld)
    obtain ⟨tk, rfl⟩ := rt
    exact ⟨a, dx, mA, tk, rfl, O, ht⟩
  · obtain ⟨a, dx, fs, rfl, ea, l⟩ := r
    exact ⟨a, dx, fs, rfl, e _ _ ea (fun _ z => nomatch z), l⟩
end
end My
namespace My
open PySem L2
theorem fstr_empty (a : Str) : Str.empty ++ a = a := PySem.Str.empty_append a
end My
/-! errors: X() of an own class over ValueError; a def that calls what it got and tells which error came; sorted by a property among several tables -/
namespace My
open PySem L2 LamX PyProof.Rows
theorem ps_nox {X : Cx} {st : Stmt} {t : TS} (h : PS X.nox st t) : PS X st t := ⟨fun pins s σ H D I hw =>
  wpAny_mono (h.run pins s σ H D (I.wish _) hw) (fun _ _ q => q.unwish) fun _ _ z => False.elim z⟩
/-- what is known of an own error class without a body -/
structure ErrC (K : PySem.W.Frag) (C : Addr) : Prop where
  exc : PySem.W.excIn K C [.type "ValueError", .type "Exception", .type "BaseException", .type "object"] "ValueError.__new__" = true
  kp : PySem.W.keepIn K (.ref C) = true
  sub : PySem.W.subIn K (.ref C) (.type "BaseException") = some true
  ty : PySem.W.typeIn K (.ref C) = some (.type "type")
theorem exm_by {K : PySem.W.Frag} {a b : Addr} {r : Bool} (h1 : PySem.W.subIn K (.ref b) (.type "BaseException") = some true) (h2 : PySem.W.isClsIn K b = true) (h3 : PySem.W.typeIn K (.ref b) = some (.type "type")) (h4 : PySem.W.subIn K (.ref a) (.ref b) = some r) : PySem.W.exmOne K (.ref a) (.ref b) = some r := by
  unfold PySem.W.isClsIn at h2
  unfold PySem.W.exmOne PySem.W.kitCls
  rw [h1]
  simp [h2, h3, h4]
section
variable {X : Cx} {C : Addr}
/-- X() -/
theorem pmk_own0 {x : Str} {p pos : Pos} (c : ErrC X.K C) (gC : X.mg x = some (.ref C)) (hg : Gl X x) (hdb : (x == ("__debug__" : Str)) = false := by decide) : PMk X (.Call (.Name x p) [] [] pos) (fun _ H Q => Q (.ref C) none H) := by
  intro pins s σ H Q I h
  refine wpAny_Call_Name_kw (ld_glob I hg gC ?_ hdb)
  refine PySem.W.callWith_K0 I.kIn c.kp ?_
  show wpAny _ _ (call (.ref C) []) _ _ _
  obtain ⟨bm, N, nm, qn, bs, hdct, sn, sub, ab, col, dd, k0, k1, k2, k3, k5, mN, hC, hN, hni, T⟩ := exc_obj I.kIn c.exc
  refine wpAny_call_exc_subT PySem.F.excBase_ValueError T hC hN hni (fun h' e hm => ?_) (Nat.zero_le _)
  exact mk_of I hm (raises_own c.sub c.ty) h (I.hok.gone hm.new)
/-- raise X(), in a def's own body -/
theorem ps_err {E : XK} {x : Str} {p pos p2 : Pos} {E₁ : Value → Shared → Prop} (c : ErrC X.K C) (gC : X.mg x = some (.ref C)) (hg : Gl X x) (hc : X.calm = true) (hs : X.stack = X.env :: X.outer) (hf : X.env.frame = some X.env.locals) (hex : X.ex = [])
    (hx : X.xe = fun e s' => wpAny (model X.prog X.w) X.A (leaving X.env e) (fun _ s'' => CX X.prog X.w X.outer X.H_0 X.s_0 E e s'') E₁ s') (hdb : (x == ("__debug__" : Str)) = false := by decide) :
    PS X (.Raise (some (.Call (.Name x p) [] [] pos)) none p2) (fun _ _ H => E (.ref C) none H) := ps_raise hc (takes_of hs hf hex hx) (pmk_own0 c gC hg hdb)
/-- a def's own wish takes what a callee may let out -/
theorem passX {E E' : XK} {E₁ : Value → Shared → Prop} (h : ∀ cls d H, E' cls d H → E cls d H) (hs : X.stack = X.env :: X.outer) (hf : X.env.frame = some X.env.locals) (hex : X.ex = [])
    (hx : X.xe = fun e s' => wpAny (model X.prog X.w) X.A (leaving X.env e) (fun _ s'' => CX X.prog X.w X.outer X.H_0 X.s_0 E e s'') E₁ s') : Passes (CX X.prog X.w) X E' := passes_call (takes_of hs hf hex hx) fun cls d _ H z => h cls d H z
end
/-! ### told: try: a() / except x: return r / .. / return None -/
def wChain (K : PySem.W.Frag) (Q : VK) : List (Addr × Str) → XK
  | [] => fun _ _ _ => False
  | (C, r) :: l => fun cls d H => ∃ b, PySem.W.exmOne K cls (.ref C) = some b ∧ (b = true → Q (.str r) H) ∧ (b = false → wChain K Q l cls d H)
def TToldM (K : PySem.W.Frag) (l : List (Addr × Str)) : (XK → Hp → VK → Prop) → Hp → VK → Prop := fun tl H Q => tl (wChain K Q l) H fun _ H' => Q .non H'
/-- the handlers: except x: return r -/
inductive HdsT (mg : Str → Option Value) (sg : Scope) : List ExceptHandler → List (Addr × Str) → Prop
  | nil : HdsT mg sg [] []
  | cons {e r : Str} {C : Addr} {j : Nat} {p4 p5 p6 p7 : Pos} {hs : List ExceptHandler} {l : List (Addr × Str)} (hge : sg.names.lookup e = some .globalImplicit) (hme : mg e = some (.ref C)) (hde : (e == ("__debug__" : Str)) = false) (t : HdsT mg sg hs l) :
      HdsT mg sg (.ExceptHandler (some (.Name e p4)) none [.Return (some (.Constant (.str r) j p5)) p6] p7 :: hs) ((C, r) :: l)
def tsOf (r : Str) : Addr → Value → Option Addr → TS := fun _ _ _ => tRet (tC (.str r))
theorem wMany_chain {K : PySem.W.Frag} {D : Ends} : ∀ (l : List (Addr × Str)) {cls : Value} {d : Option Addr} {σ : L2.St} {H : Hp}, wChain K D.rt l cls d H →
    wMany K (fun _ _ _ _ => False) D (l.map fun (y : Addr × Str) => (Value.ref y.1, tsOf y.2)) cls d σ H
  | [], _, _, _, _, h => h
  | (C, r) :: l, _, _, _, _, ⟨b, h1, h2, h3⟩ => ⟨b, h1, fun e a _ => h2 e, fun e => wMany_chain l (h3 e)⟩
theorem hds_ok {Y : Cx} {mg : Str → Option Value} {sg : Scope} (hsc : Y.env.scope = sg) : ∀ {hs : List ExceptHandler} {l : List (Addr × Str)}, (hmg : Y.mg = mg) → HdsT mg sg hs l → HdsOk Y hs (l.map fun (y : Addr × Str) => (Value.ref y.1, tsOf y.2)) := by
  intro hs l hmg h
  induction h with
  | nil => exact .nil
  | cons hge hme hde t ih =>
    refine .cons ⟨by show Y.env.scope.names.lookup _ = _; rw [hsc]; exact hge, hde, .inl (by rw [hmg]; exact hme)⟩ (fun a oe cls d pn _ _ => ?_) ih
    exact pss_one (ps_ret pe_str)
section
variable {X : Cx}
theorem toldM_gives {Ng : List Str} {x a q : Str} {sg : Scope} {g : Addr} {cdg : Value} {h₀ : ExceptHandler} {hds : List ExceptHandler} {l : List (Addr × Str)} {p1 p2 p3 p8 p9 pn0 : Pos} {jn : Nat} (hT : HdsT X.mg sg (h₀ :: hds) l) (h0 : ∀ f : Addr, (L2.start Ng [V.ref f])[0]? = some (some (V.ref f))) :
    GivesTo X Ng x sg g cdg [.Try [.Expr (.Call (.Name a p1) [] [] p2) p3] (h₀ :: hds) [] [] p8, .Return (some (.Constant .none jn pn0)) p9] a q (TToldM X.K l) := by
  intro f c' s H Q tl act hc h
  refine ⟨_, pss_cons (ps_try_many (X := (cxOf C8.CX0 X.prog X.w X.K X.mg X.base Ng x sg g cdg X.A X.stack s H C8.E0).nox) (Wout := fun _ _ _ _ => False)
      (tb := fun W D σ H => ∃ Ech : XK, (∀ cls d σ' H', Ech cls d H' → W cls d σ' H') ∧ σ[0]? = some (some (.ref f)) ∧ H c' = some (CodeO c' q) ∧ tl Ech H fun _ H' => D.nx σ H')
      rfl rfl takes_none5 (fun W pn xe tk _ => ?_) (hds_ok rfl rfl hT)) (pss_one (ps_ret pe_non)), ?_⟩
  · refine ⟨fun pins s' σ H' D I h' => ?_⟩
    obtain ⟨Ech, hW, h1, h2, h3⟩ := h'
    have hp := act W pn xe Ech p1 p2 tk hW
    have hq := pss_one (ps_expr (pos := p3) hp)
    exact hq.run pins s' σ H' D I ⟨h1, h2, h3⟩
  · exact ⟨wChain X.K Q l, fun cls d σ' H' z => wMany_chain l z, h0 f, hc, h⟩
/-- sorted(xs, key=lambda x: x.f), f a property that returns a text of the instance -/
theorem pe_sortPropT {T : List (Addr × Str)} {te : TE} {c P C p g : Addr} {k : Nat} {e : Expr} {params : Arguments} {scope : Scope} {x f fld y qual : Str} {st : Stmt} {fd : FuncData} {pp q1 q2 lpos kpos pos p1 p2 p3 : Pos}
    (hmT : (P, X.env.qual ++ "<lambda>") ∈ T) (hu : ∀ p ∈ T, p.1 = P → p.2 = X.env.qual ++ "<lambda>") (hg : Gl X "sorted") (hm : X.mg "sorted" = none) (ha : PE X e te) (TB : TabB X.base X.mg c P) (hcode : X.env.code = .ref c) (hr : Room k X.A)
    (cl : Cls X.K C) (hp : PropOf X.K C f p g) (F : Fun X.K y qual st g fd) (hb : Binds X.K fd ["self"] []) (n : NoAttr X.K C fld) (hbody : defBody st = [.Return (some (.Attribute (.Name "self" p1) fld p2)) p3] := by rfl)
    (hk2 : (defScope st).kind = .function := by rfl) (hco2 : (defScope st).isCoroutine = false := by rfl) (hge2 : (defScope st).isGenerator = false := by rfl) (hself : (defScope st).names.lookup ("self" : Str) = some NameKind.local := by rfl) (nocell : ∀ y ∈ (defScope st).names, y.2 ≠ .cell := by decide +kernel)
    (hdef : defaultsOf params X.env = ([], []) := by rfl) (hkind : scope.kind = .function := by rfl) (hco : scope.isCoroutine = false := by rfl) (hgen : scope.isGenerator = false := by rfl) (hnames : ∀ y ∈ scope.names, y.2 ≠ .free ∧ y.2 ≠ .cell := by decide +kernel) (hx : scope.names.lookup x = some .local := by rfl)
    (hbind : ∀ (q : Str) (cl : List (Str × Addr)) (pm cv ctv v : Value), bindArgs (PySem.W.kla_fn "<lambda>" q params (.Attribute (.Name x q1) f q2) scope cl pm cv ctv) ⟨[v], []⟩ = pure [(x, v)] := by intros; rfl)
    (hd : (x == ("__debug__" : Str)) = false := by decide) (hst : starEach [e] X.env = (false, eval e X.env) :: starEach [] X.env := by rfl) (he : backTo pos (starEach [e] X.env) = (false, eval e X.env) :: backTo pos (starEach [] X.env) := by rfl) (hpl : (backTo pos (starEach [e] X.env)).any (·.1) = false := by rfl) :
    PE X (.Call (.Name "sorted" pp) [e] [⟨some "key", .Lambda params (.Attribute (.Name x q1) f q2) scope lpos, kpos⟩] pos) (tSortLam X.K T (RKi C fld) te) := by
  refine pe_sortLamP (x := x) (R := InsK C fld) (RK := RKi C fld) (key_prop hkind hx hd cl hp F hk2 hco2 hge2 hb n hbody hself nocell) (fun pins s σ H b u v I r rv => ?_) (fun h h' v u e r => insK_keep e r) (fun H H' b u e r => ?_) hg hm ha TB hcode hmT hu hr hdef hkind hco hgen hnames hx hbind hst he hpl
  · obtain ⟨a, dx, fs, rfl, ea, l⟩ := r
    obtain rfl : v = .ref a := rv
    obtain ⟨mA, O, r, _, _, _⟩ := ins_get I.hok ea
    obtain ⟨t, ht, rt⟩ := RelO.some_of (v := .str u) (o := mA fld) (by rw [← l]; exact r fld)
    obtain ⟨tk, rfl⟩ := rt
    exact ⟨a, dx, mA, tk, rfl, O, ht⟩
  · obtain ⟨a, dx, fs, rfl, ea, l⟩ := r
    exact ⟨a, dx, fs, rfl, e _ _ ea (fun _ z => nomatch z), l⟩
/-- o.f = v, as a target -/
def gFld (K : PySem.W.Frag) (ta : TE) (f : Str) : TG := fun v σ H Q => ta σ H fun x H2 => ∃ a C dx fs, x = .ref a ∧ H2 a = some (.ins C dx fs) ∧ Cls K C ∧ NoAttr K C f ∧ fs.length < 1000 ∧ Q σ (upd H2 a (.ins C dx (putF f v fs)))
theorem pg_fld {o : Expr} {f : Str} {pos : Pos} {ta : TE} (ho : PE X o ta) : PG X (.Attribute o f pos) (gFld X.K ta f) := by
  refine ⟨fun pins s σ H v u Q I r h => ?_⟩
  rw [assign_Attribute]
  refine wpAny_bind (wpAny_holding (thn (ho.run pins s σ H _ I h) fun ov s1 ⟨x, H1, I1, r1, a, C, dx, fs, ex, ea, c, n, l, q⟩ => ?_))
  subst ex
  obtain rfl : ov = Value.ref a := r1
  refine wpAny_bind (wpAny_standAt (wpAny_bind (wpAny_holding (setattr_ok I1 ea c n l r fun s2 I2 => wpAny_release ⟨σ, _, I2, q⟩))))
end
end My
/-! == and != that may run an own __eq__, with both answers -/
namespace My
open PySem PySem.SeqAt L2 LamX PyProof.Rows
open AutoSeq1 (wpAny_loadPart')
open MeetsSeq MeetsSeq2 MeetsSeq3 SeqRoads2
section
variable {prog : Program} {w : World} {A : Around} {R : Result → Shared → Prop}
abbrev FinB (prog : Program) (w : World) (A : Around) (R : Result → Shared → Prop) : Fin → Shared → Prop := fun fin s' => match fin with
  | .done f => R (.ok f) s'
  | .again c' => c'.quiet = true ∧ codeAny (model prog w) A c' R s'
/-- the two lists are there at each turn, the i-th items' answer is e i -/
def ItB (prog : Program) (w : World) (A : Around) (E : Value → Shared → Prop) (l b : Addr) (N : Nat) (e : Nat → Bool) (I : Nat → Shared → Prop) : Prop :=
  ∀ i s, I i s → ∃ (xs ys : Array Value) (n m : Nat), s.heap.get? l = some { cls := .type "list", data := .seq xs n } ∧ s.heap.get? b = some { cls := .type "list", data := .seq ys m } ∧ xs.size = N ∧ ys.size = N ∧
    ∀ (h1 : i < xs.size) (h2 : i < ys.size), wpAny (model prog w) A.in1 (eqBool xs[i] ys[i]) (fun r s' => r = e i ∧ I (i + 1) s') E s
theorem loop_eq (l b : Addr) (N : Nat) (e : Nat → Bool) (I : Nat → Shared → Prop) (hl : ItB prog w A (fun e s' => R (.error e) s') l b N e I)
    (f1 : ∀ s, I N s → (∀ j < N, e j = true) → R (.ok (.ret (.bool true))) s) (f0 : ∀ i s, i < N → e i = false → I (i + 1) s → R (.ok (.ret (.bool false))) s) (k : Nat) :
    ∀ i : Nat, N - i = k → i ≤ N → (∀ j < i, e j = true) → ∀ s, I i s → wpAny (model prog w) A.in1 (Builtin.«list.__eq__.loop» ⟨[.ref l, .ref b, rawInt i, rawInt 2], []⟩) (FinB prog w A R) (fun e s' => R (.error e) s') s := by
  induction k with
  | zero =>
    intro i hk hi hp s h
    obtain ⟨xs, ys, n, m, a1, a2, z1, z2, _⟩ := hl _ _ h
    obtain rfl : i = N := by omega
    have q := f1 s h hp
    obtain ⟨hh, g, d, tk, os⟩ := s
    wp_walk using wpAny_loadPart' a1, wpAny_loadPart' a2
    rw [show xs[((i : Nat) : Int).toNat]? = none from by simp; omega, show ys[((i : Nat) : Int).toNat]? = none from by simp; omega]
    wp_walk using wpAny_loadPart' a1, wpAny_loadPart' a2
    show R (.ok (.ret (.bool (xs.size == ys.size)))) _
    rw [z1, z2]
    simpa using q
  | succ k ih =>
    intro i hk hi hp s h
    obtain ⟨xs, ys, n, m, a1, a2, z1, z2, turn⟩ := hl _ _ h
    have i1 : i < xs.size := by omega
    have i2 : i < ys.size := by omega
    have ht := turn i1 i2
    obtain ⟨hh, g, d, tk, os⟩ := s
    wp_walk using wpAny_loadPart' a1, wpAny_loadPart' a2
    rw [show xs[((i : Nat) : Int).toNat]? = some xs[i] from by simp [i1], show ys[((i : Nat) : Int).toNat]? = some ys[i] from by simp [i2]]
    refine wpAny_bind (wpAny_mono ht (fun r s2 h2 => ?_) fun _ _ x => x)
    obtain ⟨hr, h2⟩ := h2
    cases he : e i with
    | true =>
      rw [he] at hr
      subst hr
      have hrec := ih (i + 1) (by omega) (by omega) (fun j hj => by
        by_cases z : j = i
        · rw [z]; exact he
        · exact hp j (by omega)) s2 h2
      obtain ⟨hh2, g2, d2, tk2, os2⟩ := s2
      wp_walk
      rw [show ((i : Int) + 1) = ((i + 1 : Nat) : Int) from by omega]
      exact ⟨plainId_quiet plain_eq_loop _, codeAny_builtin entry_eq_loop (by
        rw [Around.under_plainId plain_eq_loop _]
        exact hrec)⟩
    | false =>
      rw [he] at hr
      subst hr
      have q := f0 i s2 (by omega) he h2
      obtain ⟨xs', ys', n', m', b1, b2, y1, y2, _⟩ := hl _ _ h2
      obtain ⟨hh2, g2, d2, tk2, os2⟩ := s2
      wp_walk using wpAny_loadPart' b1, wpAny_loadPart' b2
      rw [show xs'[((i : Nat) : Int).toNat]? = some (xs'[i]'(by omega)) from by simp, show ys'[((i : Nat) : Int).toNat]? = some (ys'[i]'(by omega)) from by simp]
      wp_walk
      exact q
theorem list_eq (l b : Addr) (N : Nat) (e : Nat → Bool) (I : Nat → Shared → Prop) (hl : ItB prog w A (fun e s' => R (.error e) s') l b N e I)
    (f1 : ∀ s, I N s → (∀ j < N, e j = true) → R (.ok (.ret (.bool true))) s) (f0 : ∀ i s, i < N → e i = false → I (i + 1) s → R (.ok (.ret (.bool false))) s) {s : Shared} (h : I 0 s) :
    wpAny (model prog w) A.in1 (Builtin.«list.__eq__» ⟨[.ref l, .ref b], []⟩) (FinB prog w A R) (fun e s' => R (.error e) s') s := by
  obtain ⟨xs, ys, n, m, a1, a2, z1, z2, _⟩ := hl _ _ h
  have hrec := loop_eq (A := A) (R := R) l b N e I hl f1 f0 _ 0 rfl (Nat.zero_le _) (fun j hj => absurd hj (Nat.not_lt_zero j)) s h
  obtain ⟨hh, g, d, tk, os⟩ := s
  have f3 := AutoSeq1.sub_list_list
  have hne : ¬ (xs.size != ys.size) = true := by simp [z1, z2]
  wp_walk using wpAny_loadPart' a1, wpAny_loadPart' a2
  exact ⟨plainId_quiet plain_eq_loop _, codeAny_builtin entry_eq_loop (by
    rw [Around.under_plainId plain_eq_loop _]
    exact hrec)⟩
/-- lists of unlike lengths -/
theorem list_eq_len {l b : Addr} {xs ys : Array Value} {n m : Nat} {s : Shared} (a1 : s.heap.get? l = some { cls := .type "list", data := .seq xs n }) (a2 : s.heap.get? b = some { cls := .type "list", data := .seq ys m }) (hz : xs.size ≠ ys.size) (q : R (.ok (.ret (.bool false))) s) :
    wpAny (model prog w) A.in1 (Builtin.«list.__eq__» ⟨[.ref l, .ref b], []⟩) (FinB prog w A R) (fun e s' => R (.error e) s') s := by
  obtain ⟨hh, g, d, tk, os⟩ := s
  have f3 := AutoSeq1.sub_list_list
  have hne : (xs.size != ys.size) = true := by simp [hz]
  wp_walk using wpAny_loadPart' a1, wpAny_loadPart' a2
  exact q
theorem loop_ne (l b : Addr) (N : Nat) (e : Nat → Bool) (I : Nat → Shared → Prop) (hl : ItB prog w A (fun e s' => R (.error e) s') l b N e I)
    (f1 : ∀ s, I N s → (∀ j < N, e j = true) → R (.ok (.ret (.bool false))) s) (f0 : ∀ i s, i < N → e i = false → I (i + 1) s → R (.ok (.ret (.bool true))) s) (k : Nat) :
    ∀ i : Nat, N - i = k → i ≤ N → (∀ j < i, e j = true) → ∀ s, I i s → wpAny (model prog w) A.in1 (Builtin.«list.__eq__.loop» ⟨[.ref l, .ref b, rawInt i, rawInt 3], []⟩) (FinB prog w A R) (fun e s' => R (.error e) s') s := by
  induction k with
  | zero =>
    intro i hk hi hp s h
    obtain ⟨xs, ys, n, m, a1, a2, z1, z2, _⟩ := hl _ _ h
    obtain rfl : i = N := by omega
    have q := f1 s h hp
    obtain ⟨hh, g, d, tk, os⟩ := s
    wp_walk using wpAny_loadPart' a1, wpAny_loadPart' a2
    rw [show xs[((i : Nat) : Int).toNat]? = none from by simp; omega, show ys[((i : Nat) : Int).toNat]? = none from by simp; omega]
    wp_walk using wpAny_loadPart' a1, wpAny_loadPart' a2
    show R (.ok (.ret (.bool (xs.size != ys.size)))) _
    rw [z1, z2]
    simpa using q
  | succ k ih =>
    intro i hk hi hp s h
    obtain ⟨xs, ys, n, m, a1, a2, z1, z2, turn⟩ := hl _ _ h
    have i1 : i < xs.size := by omega
    have i2 : i < ys.size := by omega
    have ht := turn i1 i2
    obtain ⟨hh, g, d, tk, os⟩ := s
    wp_walk using wpAny_loadPart' a1, wpAny_loadPart' a2
    rw [show xs[((i : Nat) : Int).toNat]? = some xs[i] from by simp [i1], show ys[((i : Nat) : Int).toNat]? = some ys[i] from by simp [i2]]
    refine wpAny_bind (wpAny_mono ht (fun r s2 h2 => ?_) fun _ _ x => x)
    obtain ⟨hr, h2⟩ := h2
    cases he : e i with
    | true =>
      rw [he] at hr
      subst hr
      have hrec := ih (i + 1) (by omega) (by omega) (fun j hj => by
        by_cases z : j = i
        · rw [z]; exact he
        · exact hp j (by omega)) s2 h2
      obtain ⟨hh2, g2, d2, tk2, os2⟩ := s2
      wp_walk
      rw [show ((i : Int) + 1) = ((i + 1 : Nat) : Int) from by omega]
      exact ⟨plainId_quiet plain_eq_loop _, codeAny_builtin entry_eq_loop (by
        rw [Around.under_plainId plain_eq_loop _]
        exact hrec)⟩
    | false =>
      rw [he] at hr
      subst hr
      have q := f0 i s2 (by omega) he h2
      obtain ⟨xs', ys', n', m', b1, b2, y1, y2, _⟩ := hl _ _ h2
      obtain ⟨hh2, g2, d2, tk2, os2⟩ := s2
      wp_walk using wpAny_loadPart' b1, wpAny_loadPart' b2
      rw [show xs'[((i : Nat) : Int).toNat]? = some (xs'[i]'(by omega)) from by simp, show ys'[((i : Nat) : Int).toNat]? = some (ys'[i]'(by omega)) from by simp]
      wp_walk
      exact q
theorem list_ne (l b : Addr) (N : Nat) (e : Nat → Bool) (I : Nat → Shared → Prop) (hl : ItB prog w A (fun e s' => R (.error e) s') l b N e I)
    (f1 : ∀ s, I N s → (∀ j < N, e j = true) → R (.ok (.ret (.bool false))) s) (f0 : ∀ i s, i < N → e i = false → I (i + 1) s → R (.ok (.ret (.bool true))) s) {s : Shared} (h : I 0 s) :
    wpAny (model prog w) A.in1 (Builtin.«list.__ne__» ⟨[.ref l, .ref b], []⟩) (FinB prog w A R) (fun e s' => R (.error e) s') s := by
  obtain ⟨xs, ys, n, m, a1, a2, z1, z2, _⟩ := hl _ _ h
  have hrec := loop_ne (A := A) (R := R) l b N e I hl f1 f0 _ 0 rfl (Nat.zero_le _) (fun j hj => absurd hj (Nat.not_lt_zero j)) s h
  obtain ⟨hh, g, d, tk, os⟩ := s
  have f3 := AutoSeq1.sub_list_list
  have hne : ¬ (xs.size != ys.size) = true := by simp [z1, z2]
  wp_walk using wpAny_loadPart' a1, wpAny_loadPart' a2
  exact ⟨plainId_quiet plain_eq_loop _, codeAny_builtin entry_eq_loop (by
    rw [Around.under_plainId plain_eq_loop _]
    exact hrec)⟩
/-- lists of unlike lengths -/
theorem list_ne_len {l b : Addr} {xs ys : Array Value} {n m : Nat} {s : Shared} (a1 : s.heap.get? l = some { cls := .type "list", data := .seq xs n }) (a2 : s.heap.get? b = some { cls := .type "list", data := .seq ys m }) (hz : xs.size ≠ ys.size) (q : R (.ok (.ret (.bool true))) s) :
    wpAny (model prog w) A.in1 (Builtin.«list.__ne__» ⟨[.ref l, .ref b], []⟩) (FinB prog w A R) (fun e s' => R (.error e) s') s := by
  obtain ⟨hh, g, d, tk, os⟩ := s
  have f3 := AutoSeq1.sub_list_list
  have hne : (xs.size != ys.size) = true := by simp [hz]
  wp_walk using wpAny_loadPart' a1, wpAny_loadPart' a2
  exact q
end
end My
/-! == and != that may run an own __eq__: tuples, own classes, operators -/
namespace My
open PySem PySem.SeqAt L2 LamX PyProof.Rows
open AutoSeq1 (wpAny_loadPart')
open MeetsSeq MeetsSeq2 MeetsSeq3 SeqRoads2
section
variable {prog : Program} {w : World} {A : Around} {R : Result → Shared → Prop} {E : Value → Shared → Prop} {s : Shared}
theorem tup_eq (l b : Addr) (xs ys : Array Value) (n m : Nat) (dd dd2 : Option Addr) (sl sl2 : Array (Option Value)) (hsz : xs.size = ys.size) (e : Nat → Bool) (I : Nat → Shared → Prop)
    (turn : ∀ i (h1 : i < xs.size) (h2 : i < ys.size) s, I i s → wpAny (model prog w) A.in1 (eqBool xs[i] ys[i]) (fun r s' => r = e i ∧ I (i + 1) s') (fun e s' => R (.error e) s') s)
    (f1 : ∀ s, I xs.size s → (∀ j < xs.size, e j = true) → R (.ok (.ret (.bool true))) s) (f0 : ∀ i s, i < xs.size → e i = false → I (i + 1) s → R (.ok (.ret (.bool false))) s) {s : Shared}
    (a1 : s.heap.get? l = some { cls := .type "tuple", dict := dd, data := .seq xs n, slots := sl }) (a2 : s.heap.get? b = some { cls := .type "tuple", dict := dd2, data := .seq ys m, slots := sl2 }) (h : I 0 s) :
    wpAny (model prog w) A.in1 (Builtin.«tuple.__eq__» ⟨[.ref l, .ref b], []⟩) (FinB prog w A R) (fun e s' => R (.error e) s') s := by
  have f2 := AutoSeq1.sub_tuple_tuple
  have hZ : (xs.toList.zip ys.toList).length = xs.size := by simp [hsz]
  have h0 := h
  obtain ⟨hh, g, d, tk, os⟩ := s
  wp_walk using wpAny_loadPart' a1, wpAny_loadPart' a2, wpAny_forIn_list _ (fun rest b s' => (b.1 = none ∧ ∃ i, rest = (xs.toList.zip ys.toList).drop i ∧ i ≤ xs.size ∧ I i s' ∧ ∀ j < i, e j = true) ∨ (b.1 = some (.done (.ret (.bool false))) ∧ rest = [] ∧ R (.ok (.ret (.bool false))) s'))
  case turn =>
    rintro ⟨y, x⟩ rest b s' (⟨hb, i, hz, hi, hI, hp⟩ | ⟨_, hz, _⟩)
    · have hlt : i < (xs.toList.zip ys.toList).length := by
        rcases Nat.lt_or_ge i (xs.toList.zip ys.toList).length with z | z
        · exact z
        · rw [List.drop_of_length_le z] at hz; cases hz
      have h1 : i < xs.size := hZ ▸ hlt
      have h2 : i < ys.size := hsz ▸ h1
      rw [List.drop_eq_getElem_cons hlt] at hz
      injection hz with hyx hrest
      obtain rfl : y = xs[i] := by simpa using congrArg Prod.fst hyx
      obtain rfl : x = ys[i] := by simpa using congrArg Prod.snd hyx
      refine wpAny_bind (wpAny_mono (turn i h1 h2 s' hI) (fun r s2 q2 => ?_) fun _ _ x => x)
      obtain ⟨hr, q2⟩ := q2
      cases he : e i with
      | true =>
        rw [he] at hr
        subst hr
        wp_walk
        exact .inl ⟨rfl, i + 1, hrest, h1, q2, fun j hj => by
          by_cases z : j = i
          · rw [z]; exact he
          · exact hp j (by omega)⟩
      | false =>
        rw [he] at hr
        subst hr
        have q := f0 i s2 h1 he q2
        wp_walk
        exact q
    · cases hz
  case fin =>
    rintro ⟨b1, b2⟩ s' (⟨hb, i, hz, hi, hI, hp⟩ | ⟨hb, _, q⟩)
    · simp only at hb
      subst hb
      have hge : xs.size ≤ i := by
        rcases Nat.lt_or_ge i (xs.toList.zip ys.toList).length with z | z
        · rw [List.drop_eq_getElem_cons z] at hz; cases hz
        · exact hZ ▸ z
      obtain rfl : i = xs.size := by omega
      have q := f1 s' hI hp
      wp_walk
      simpa [Builtin.Tuple.tupleCompareSizes, hsz] using q
    · simp only at hb
      subst hb
      wp_walk
      exact q
  case h =>
    exact .inl ⟨rfl, 0, rfl, Nat.zero_le _, h0, fun j hj => absurd hj (Nat.not_lt_zero j)⟩
theorem tup_ne (l b : Addr) (xs ys : Array Value) (n m : Nat) (dd dd2 : Option Addr) (sl sl2 : Array (Option Value)) (hsz : xs.size = ys.size) (e : Nat → Bool) (I : Nat → Shared → Prop)
    (turn : ∀ i (h1 : i < xs.size) (h2 : i < ys.size) s, I i s → wpAny (model prog w) A.in1 (eqBool xs[i] ys[i]) (fun r s' => r = e i ∧ I (i + 1) s') (fun e s' => R (.error e) s') s)
    (f1 : ∀ s, I xs.size s → (∀ j < xs.size, e j = true) → R (.ok (.ret (.bool false))) s) (f0 : ∀ i s, i < xs.size → e i = false → I (i + 1) s → R (.ok (.ret (.bool true))) s) {s : Shared}
    (a1 : s.heap.get? l = some { cls := .type "tuple", dict := dd, data := .seq xs n, slots := sl }) (a2 : s.heap.get? b = some { cls := .type "tuple", dict := dd2, data := .seq ys m, slots := sl2 }) (h : I 0 s) :
    wpAny (model prog w) A.in1 (Builtin.«tuple.__ne__» ⟨[.ref l, .ref b], []⟩) (FinB prog w A R) (fun e s' => R (.error e) s') s := by
  have f2 := AutoSeq1.sub_tuple_tuple
  have hZ : (xs.toList.zip ys.toList).length = xs.size := by simp [hsz]
  have h0 := h
  obtain ⟨hh, g, d, tk, os⟩ := s
  wp_walk using wpAny_loadPart' a1, wpAny_loadPart' a2, wpAny_forIn_list _ (fun rest b s' => (b.1 = none ∧ ∃ i, rest = (xs.toList.zip ys.toList).drop i ∧ i ≤ xs.size ∧ I i s' ∧ ∀ j < i, e j = true) ∨ (b.1 = some (.done (.ret (.bool true))) ∧ rest = [] ∧ R (.ok (.ret (.bool true))) s'))
  case turn =>
    rintro ⟨y, x⟩ rest b s' (⟨hb, i, hz, hi, hI, hp⟩ | ⟨_, hz, _⟩)
    · have hlt : i < (xs.toList.zip ys.toList).length := by
        rcases Nat.lt_or_ge i (xs.toList.zip ys.toList).length with z | z
        · exact z
        · rw [List.drop_of_length_le z] at hz; cases hz
      have h1 : i < xs.size := hZ ▸ hlt
      have h2 : i < ys.size := hsz ▸ h1
      rw [List.drop_eq_getElem_cons hlt] at hz
      injection hz with hyx hrest
      obtain rfl : y = xs[i] := by simpa using congrArg Prod.fst hyx
      obtain rfl : x = ys[i] := by simpa using congrArg Prod.snd hyx
      refine wpAny_bind (wpAny_mono (turn i h1 h2 s' hI) (fun r s2 q2 => ?_) fun _ _ x => x)
      obtain ⟨hr, q2⟩ := q2
      cases he : e i with
      | true =>
        rw [he] at hr
        subst hr
        wp_walk
        exact .inl ⟨rfl, i + 1, hrest, h1, q2, fun j hj => by
          by_cases z : j = i
          · rw [z]; exact he
          · exact hp j (by omega)⟩
      | false =>
        rw [he] at hr
        subst hr
        have q := f0 i s2 h1 he q2
        wp_walk
        exact q
    · cases hz
  case fin =>
    rintro ⟨b1, b2⟩ s' (⟨hb, i, hz, hi, hI, hp⟩ | ⟨hb, _, q⟩)
    · simp only at hb
      subst hb
      have hge : xs.size ≤ i := by
        rcases Nat.lt_or_ge i (xs.toList.zip ys.toList).length with z | z
        · rw [List.drop_eq_getElem_cons z] at hz; cases hz
        · exact hZ ▸ z
      obtain rfl : i = xs.size := by omega
      have q := f1 s' hI hp
      wp_walk
      simpa [Builtin.Tuple.tupleCompareSizes, hsz] using q
    · simp only at hb
      subst hb
      wp_walk
      exact q
  case h =>
    exact .inl ⟨rfl, 0, rfl, Nat.zero_le _, h0, fun j hj => absurd hj (Nat.not_lt_zero j)⟩
end
end My
/-! == and != that may run an own __eq__: by the abstract heap -/
namespace My
open PySem PySem.Spec L2 LamX PyProof.Rows
section
variable {prog : Program} {w : World} {A : Around} {E : Value → Shared → Prop} {s : Shared}
theorem rc_list_eq {l b : Addr} {N : Nat} {e : Nat → Bool} {Q : Value → Shared → Prop} (hu : A.units < cLine) (I : Nat → Shared → Prop) (hl : ItB prog w A E l b N e I) (f1 : ∀ s, I N s → (∀ j < N, e j = true) → Q (.bool true) s)
    (f0 : ∀ i s, i < N → e i = false → I (i + 1) s → Q (.bool false) s) (h : I 0 s) : wpAny (model prog w) A (richCompare .Eq (.ref l) (.ref b)) Q E s := by
  obtain ⟨xs, ys, n, m, a1, a2, _⟩ := hl _ _ h
  refine wpAny_richCompare_same_room (op := .Eq) ⟨_, a1, rfl⟩ ⟨_, a2, rfl⟩ PySem.F.slot_list_eq (GQ.call_here PySem.F.slot_list_eq ⟨_, a1, rfl⟩ PySem.F.entry_list_eq (PySem.F.args_list_eq_2 _ _) ?_) hu
  exact list_eq (R := wants (fun v s' => v ≠ .notImplemented ∧ Q v s') E) l b N e I hl (fun s' q1 q2 => ⟨nofun, f1 s' q1 q2⟩) (fun i s' q1 q2 q3 => ⟨nofun, f0 i s' q1 q2 q3⟩) h
theorem rc_list_ne {l b : Addr} {N : Nat} {e : Nat → Bool} {Q : Value → Shared → Prop} (hu : A.units < cLine) (I : Nat → Shared → Prop) (hl : ItB prog w A E l b N e I) (f1 : ∀ s, I N s → (∀ j < N, e j = true) → Q (.bool false) s)
    (f0 : ∀ i s, i < N → e i = false → I (i + 1) s → Q (.bool true) s) (h : I 0 s) : wpAny (model prog w) A (richCompare .NotEq (.ref l) (.ref b)) Q E s := by
  obtain ⟨xs, ys, n, m, a1, a2, _⟩ := hl _ _ h
  refine wpAny_richCompare_same_room (op := .NotEq) ⟨_, a1, rfl⟩ ⟨_, a2, rfl⟩ PySem.F.slot_list_ne (GQ.call_here PySem.F.slot_list_ne ⟨_, a1, rfl⟩ PySem.F.entry_list_ne (PySem.F.args_list_ne_2 _ _) ?_) hu
  exact list_ne (R := wants (fun v s' => v ≠ .notImplemented ∧ Q v s') E) l b N e I hl (fun s' q1 q2 => ⟨nofun, f1 s' q1 q2⟩) (fun i s' q1 q2 q3 => ⟨nofun, f0 i s' q1 q2 q3⟩) h
theorem rc_list_eq_len {l b : Addr} {xs ys : Array Value} {n m : Nat} {Q : Value → Shared → Prop} (hu : A.units < cLine) (a1 : s.heap.get? l = some { cls := .type "list", data := .seq xs n }) (a2 : s.heap.get? b = some { cls := .type "list", data := .seq ys m }) (hz : xs.size ≠ ys.size) (q : Q (.bool false) s) :
    wpAny (model prog w) A (richCompare .Eq (.ref l) (.ref b)) Q E s := by
  refine wpAny_richCompare_same_room (op := .Eq) ⟨_, a1, rfl⟩ ⟨_, a2, rfl⟩ PySem.F.slot_list_eq (GQ.call_here PySem.F.slot_list_eq ⟨_, a1, rfl⟩ PySem.F.entry_list_eq (PySem.F.args_list_eq_2 _ _) ?_) hu
  exact list_eq_len (R := wants (fun v s' => v ≠ .notImplemented ∧ Q v s') E) a1 a2 hz ⟨nofun, q⟩
theorem rc_list_ne_len {l b : Addr} {xs ys : Array Value} {n m : Nat} {Q : Value → Shared → Prop} (hu : A.units < cLine) (a1 : s.heap.get? l = some { cls := .type "list", data := .seq xs n }) (a2 : s.heap.get? b = some { cls := .type "list", data := .seq ys m }) (hz : xs.size ≠ ys.size) (q : Q (.bool true) s) :
    wpAny (model prog w) A (richCompare .NotEq (.ref l) (.ref b)) Q E s := by
  refine wpAny_richCompare_same_room (op := .NotEq) ⟨_, a1, rfl⟩ ⟨_, a2, rfl⟩ PySem.F.slot_list_ne (GQ.call_here PySem.F.slot_list_ne ⟨_, a1, rfl⟩ PySem.F.entry_list_ne (PySem.F.args_list_ne_2 _ _) ?_) hu
  exact list_ne_len (R := wants (fun v s' => v ≠ .notImplemented ∧ Q v s') E) a1 a2 hz ⟨nofun, q⟩
theorem rc_tup_eq {l b : Addr} {xs ys : Array Value} {e : Nat → Bool} {Q : Value → Shared → Prop} (hsz : xs.size = ys.size) (hu : A.units < cLine) (I : Nat → Shared → Prop) (hl : s.heap.IsTuple l xs) (hb : s.heap.IsTuple b ys)
    (turn : ∀ i (h1 : i < xs.size) (h2 : i < ys.size) s, I i s → wpAny (model prog w) A.in1 (eqBool xs[i] ys[i]) (fun r s' => r = e i ∧ I (i + 1) s') E s) (f1 : ∀ s, I xs.size s → (∀ j < xs.size, e j = true) → Q (.bool true) s)
    (f0 : ∀ i s, i < xs.size → e i = false → I (i + 1) s → Q (.bool false) s) (h : I 0 s) : wpAny (model prog w) A (richCompare .Eq (.ref l) (.ref b)) Q E s := by
  obtain ⟨⟨cls, dd, data, sl⟩, ho, hc, n, hd⟩ := id hl
  obtain ⟨⟨cls2, dd2, data2, sl2⟩, ho2, hc2, n2, hd2⟩ := id hb
  simp only at hc hd hc2 hd2
  subst hc hd hc2 hd2
  refine wpAny_richCompare_same_room (op := .Eq) ⟨_, ho, rfl⟩ ⟨_, ho2, rfl⟩ PySem.F.slot_tuple_eq (GQ.call_here PySem.F.slot_tuple_eq ⟨_, ho, rfl⟩ PySem.F.entry_tuple_eq (PySem.F.args_tuple_eq_2 _ _) ?_) hu
  exact tup_eq (R := wants (fun v s' => v ≠ .notImplemented ∧ Q v s') E) l b xs ys n n2 dd dd2 sl sl2 hsz e I turn (fun s' q1 q2 => ⟨nofun, f1 s' q1 q2⟩) (fun i s' q1 q2 q3 => ⟨nofun, f0 i s' q1 q2 q3⟩) ho ho2 h
theorem rc_tup_ne {l b : Addr} {xs ys : Array Value} {e : Nat → Bool} {Q : Value → Shared → Prop} (hsz : xs.size = ys.size) (hu : A.units < cLine) (I : Nat → Shared → Prop) (hl : s.heap.IsTuple l xs) (hb : s.heap.IsTuple b ys)
    (turn : ∀ i (h1 : i < xs.size) (h2 : i < ys.size) s, I i s → wpAny (model prog w) A.in1 (eqBool xs[i] ys[i]) (fun r s' => r = e i ∧ I (i + 1) s') E s) (f1 : ∀ s, I xs.size s → (∀ j < xs.size, e j = true) → Q (.bool false) s)
    (f0 : ∀ i s, i < xs.size → e i = false → I (i + 1) s → Q (.bool true) s) (h : I 0 s) : wpAny (model prog w) A (richCompare .NotEq (.ref l) (.ref b)) Q E s := by
  obtain ⟨⟨cls, dd, data, sl⟩, ho, hc, n, hd⟩ := id hl
  obtain ⟨⟨cls2, dd2, data2, sl2⟩, ho2, hc2, n2, hd2⟩ := id hb
  simp only at hc hd hc2 hd2
  subst hc hd hc2 hd2
  refine wpAny_richCompare_same_room (op := .NotEq) ⟨_, ho, rfl⟩ ⟨_, ho2, rfl⟩ PySem.F.slot_tuple_ne (GQ.call_here PySem.F.slot_tuple_ne ⟨_, ho, rfl⟩ PySem.F.entry_tuple_ne (PySem.F.args_tuple_ne_2 _ _) ?_) hu
  exact tup_ne (R := wants (fun v s' => v ≠ .notImplemented ∧ Q v s') E) l b xs ys n n2 dd dd2 sl sl2 hsz e I turn (fun s' q1 q2 => ⟨nofun, f1 s' q1 q2⟩) (fun i s' q1 q2 q3 => ⟨nofun, f0 i s' q1 q2 q3⟩) ho ho2 h
end
/-! ### own classes: != by object.__ne__ and the own __eq__ -/
section
open PySem.W
variable {prog : Program} {w : World} {A : Around} {E : Value → Shared → Prop} {s : Shared} {K : Frag} {x C L f : Addr} {h₀ : Heap} {m : Str → Option Value} {ox : Obj} {od : Option Obj} {b : Value}
theorem ifBound_ne {M : Model} {Q : Option Value → Shared → Prop} (X : K.In s.heap) (I : InstAt s.heap x ox C od) (hs : findIn K (.ref C) "__ne__" = some (some (.builtin "object.__ne__")))
    (h : wpAny M A (call (.builtin "object.__ne__") [.ref x, b]) (fun v => Q (some v)) E s) : wpAny M A (callSpecialIfBound? (.ref x) "__ne__" [b]) Q E s := by
  simp only [callSpecialIfBound?, bindSpecialIfBound?]
  refine wpAny_holding (wpAny_bind (wpAny_bind (wpAny_bind (I.type.here ((looks_findIn X hs).here ?_)))))
  simp only [PySem.F.cmp_object.ne.bind]
  refine wpAny_bind (wpAny_askSetting (wpAny_ite ?_))
  have fin : wpAny M A (call (.builtin "object.__ne__") ([.ref x] ++ [b]) >>= fun v => pure (some v)) Q E s := wpAny_bind (wpAny_mono h (fun v s' h' => wpAny_pure h') fun _ _ h' => h')
  split
  · exact wpAny_bind (wpAny_pure (wpAny_pure fin))
  · exact wpAny_tryCatch (wpAny_bind (wpAny_pure (wpAny_pure fin)))
theorem ne_K {y : Addr} {oy : Obj} {od' : Option Obj} {Q : Value → Shared → Prop} (hu : A.units + 1 < cLine) (X : K.In s.heap) (I : InstAt s.heap x ox C od) (J : InstAt s.heap y oy C od') (hs : findIn K (.ref C) "__ne__" = some (some (.builtin "object.__ne__")))
    (ho : subIn K (.ref C) (.type "object") = some true) (he : findIn K (.ref C) "__eq__" = some (some (.ref f))) (hf : isFn K (.ref f) = true)
    (h : wpAny (model prog w) A.in1 (call (.ref f) [.ref x, .ref y]) (fun v s' => ∃ r, v = .bool r ∧ Q (.bool (!r)) s') E s) : wpAny (model prog w) A (richCompare .NotEq (.ref x) (.ref y)) Q E s := by
  have one : wpAny (model prog w) A (tryCompare (.ref x) (cmpInfo .NotEq).2.1 (.ref y)) (fun r s' => ∃ v, r = some v ∧ Q v s') E s := by
    unfold tryCompare
    refine wpAny_bind (ifBound_ne X I hs (wpAny_call (codeAny_call_builtin PySem.F.cmp_object.ne.plain PySem.F.cmpEntry_ne (check_slot PySem.F.cmpKind_ne PySem.F.cmpSplit_ne (I.type.andThen (looks_subIn X ho)) (PySem.F.cmpArgs_ne _ _) ?_))))
    have hb : wpAny (model prog w) A.in1 (callSpecialIfBound? (.ref x) "__eq__" [.ref y]) (fun o s' => ∃ r, o = some (.bool r) ∧ Q (.bool (!r)) s') E s := ifBound_K X I he hf (wpAny_mono h (fun v s' ⟨r, e, q⟩ => ⟨r, by rw [e], q⟩) fun _ _ e => e)
    obtain ⟨hh, g, d, tk, os⟩ := s
    unfold Builtin.«object.__ne__»
    repeat (first | with_reducible refine wpAny_cRoomFor hu ?_ | with_reducible refine wpAny_mono hb (fun o s' ho => ?_) (fun _ _ e => ?_) | wp_step)
    · obtain ⟨r, rfl, q⟩ := ho
      refine wpAny_bind (wpAny_truthy_bool ?_)
      exact wpAny_pure (wpAny_pure ⟨_, rfl, q⟩)
    · assumption
  unfold richCompare
  simp only [oneThing_ref]
  refine wpAny_holding (wpAny_bind (wpAny_cRoomFor (Nat.lt_of_succ_lt hu) ?_))
  refine wpAny_bind (I.type.here (wpAny_bind (J.type.here ?_)))
  rw [if_neg (by simp)]
  refine wpAny_bind (wpAny_pure ?_)
  simp only [Bool.false_eq_true, if_false]
  refine wpAny_bind (wpAny_mono one (fun r s' z => ?_) fun _ _ e => e)
  obtain ⟨v, rfl, hq⟩ := z
  exact wpAny_pure hq
end
/-! ### the answer about two values; the heap may grow -/
abbrev EqvB := V → V → Bool → Hp → Prop
def MonB (D : EqvB) : Prop := ∀ x y b H H', Ext H H' → D x y b H → D x y b H'
def EqB (X : Cx) (n : Nat) (D : EqvB) : Prop :=
  ∀ (A : Around) (pins : List (Addr × Obj)) (s : Shared) (σ : L2.St) (H : Hp) (x y : V) (u v : Value) (b : Bool), L2.Sub X n A → Inv X pins σ H s → RelV x u → RelV y v → D x y b H →
    wpAny (model X.prog X.w) A (eqBool u v) (fun r s' => r = b ∧ ∃ H', Inv X pins σ H' s' ∧ Ext H H') X.xe s
def RcB (X : Cx) (n : Nat) (ne : Bool) (D : EqvB) : Prop :=
  ∀ (A : Around) (pins : List (Addr × Obj)) (s : Shared) (σ : L2.St) (H : Hp) (x y : V) (u v : Value) (b : Bool), L2.Sub X n A → Inv X pins σ H s → RelV x u → RelV y v → D x y b H →
    wpAny (model X.prog X.w) A (richCompare (if ne = true then .NotEq else .Eq) u v) (fun r s' => r = .bool (if ne = true then !b else b) ∧ ∃ H', Inv X pins σ H' s' ∧ Ext H H') X.xe s
section
variable {X : Cx} {n : Nat} {D : EqvB}
def DFlatB : EqvB := fun x y b _ => flatV x = true ∧ flatV y = true ∧ eqV x y = b
theorem monB_flat : MonB DFlatB := fun _ _ _ _ _ _ d => d
theorem eqB_flat : EqB X 0 DFlatB := by
  intro A pins s σ H x y u v b sb I rx ry d
  obtain ⟨fx, fy, e⟩ := d
  have q := eqAt_V (A := A) (s := s) rx ry fx fy
  rw [e] at q
  exact q X.prog X.w X.xe _ ⟨rfl, H, I, Ext.rfl'⟩
/-- item by item: the answers e -/
def PrsB (D : EqvB) (xs ys : List V) (e : Nat → Bool) (H : Hp) : Prop := xs.length = ys.length ∧ ∀ (i : Nat) x y, xs[i]? = some x → ys[i]? = some y → D x y (e i) H
theorem turnB (hD : MonB D) (h : EqB X n D) {A : Around} (sb : L2.Sub X (n + 1) A) {pins : List (Addr × Obj)} {σ : L2.St} {H : Hp} {xs ys : List V} {e : Nat → Bool} {us vs : List Value} (p : PrsB D xs ys e H) (r : Vals xs us) (r2 : Vals ys vs)
    (i : Nat) (h1 : i < us.toArray.size) (h2 : i < vs.toArray.size) (s' : Shared) (l : LoopI X pins σ H s') :
    wpAny (model X.prog X.w) A.in1 (eqBool us.toArray[i] vs.toArray[i]) (fun r s2 => r = e i ∧ LoopI X pins σ H s2) X.xe s' := by
  obtain ⟨H1, I1, e1⟩ := l
  have g1 : us[i]? = some us.toArray[i] := by
    have z : i < us.length := by simpa using h1
    rw [List.getElem?_eq_getElem z] <;> simp
  have g2 : vs[i]? = some vs.toArray[i] := by
    have z : i < vs.length := by simpa using h2
    rw [List.getElem?_eq_getElem z] <;> simp
  have k1 : i < xs.length := by rw [r.length]; simpa using h1
  have k2 : i < ys.length := by rw [r2.length]; simpa using h2
  obtain ⟨u, hu, ru⟩ := r.get (List.getElem?_eq_getElem k1)
  obtain ⟨v, hv, rv⟩ := r2.get (List.getElem?_eq_getElem k2)
  rw [g1] at hu
  rw [g2] at hv
  rw [Option.some.inj hu, Option.some.inj hv]
  refine wpAny_mono (h A.in1 pins s' σ H1 _ _ u v _ sb.in1 I1 ru rv (hD _ _ _ _ _ e1 (p.2 i _ _ (List.getElem?_eq_getElem k1) (List.getElem?_eq_getElem k2)))) (fun r s2 q => ?_) fun _ _ x => x
  obtain ⟨hr, H2, I2, e2⟩ := q
  exact ⟨hr, H2, I2, e1.trans e2⟩
def allB (n : Nat) (e : Nat → Bool) : Bool := (List.range n).all e
theorem allB_t {n : Nat} {e : Nat → Bool} (h : ∀ j < n, e j = true) : allB n e = true := List.all_eq_true.mpr fun j hj => h j (List.mem_range.mp hj)
theorem allB_f {n i : Nat} {e : Nat → Bool} (h : i < n) (he : e i = false) : allB n e = false := Bool.eq_false_iff.mpr fun z => by
  rw [List.all_eq_true.mp z i (List.mem_range.mpr h)] at he
  cases he
/-- two lists -/
def DListB (D : EqvB) : EqvB := fun x y b H => ∃ p q xs ys, x = .ref p ∧ y = .ref q ∧ H p = some (.lst xs) ∧ H q = some (.lst ys) ∧ ((xs.length ≠ ys.length ∧ b = false) ∨ ∃ e, PrsB D xs ys e H ∧ b = allB xs.length e)
/-- two tuples of one length -/
def DTupB (K : PySem.W.Frag) (D : EqvB) : EqvB := fun x y b H => ∃ p q xs ys e, x = .ref p ∧ y = .ref q ∧ SqT K H p xs ∧ SqT K H q ys ∧ PrsB D xs ys e H ∧ b = allB xs.length e
theorem rcB_list (hD : MonB D) (h : EqB X n D) : ∀ ne, RcB X (n + 1) ne (DListB D) := by
  intro ne A pins s σ H x y u v b sb I rx ry d
  obtain ⟨p, q, xs, ys, rfl, rfl, hp, hq, d⟩ := d
  cases rx
  cases ry
  rcases d with ⟨hne, rfl⟩ | ⟨e, pr, rfl⟩
  · obtain ⟨z, us, k, r, a1⟩ := I.hok p _ hp
    obtain ⟨z2, vs, k2, r2, a2⟩ := I.hok q _ hq
    have hsz : us.toArray.size ≠ vs.toArray.size := by rw [List.size_toArray, List.size_toArray, ← r.length, ← r2.length]; exact hne
    cases ne with
    | true => exact rc_list_ne_len sb.room.units0 a1 a2 hsz ⟨rfl, H, I, Ext.rfl'⟩
    | false => exact rc_list_eq_len sb.room.units0 a1 a2 hsz ⟨rfl, H, I, Ext.rfl'⟩
  · have it : ItB X.prog X.w A X.xe p q xs.length e (fun _ s' => LoopI X pins σ H s') := fun i s' l => by
      obtain ⟨H1, I1, e1⟩ := id l
      obtain ⟨z, us, k, r, a1⟩ := I1.hok p _ (e1 _ _ hp)
      obtain ⟨z2, vs, k2, r2, a2⟩ := I1.hok q _ (e1 _ _ hq)
      exact ⟨us.toArray, vs.toArray, k, k2, a1, a2, by rw [List.size_toArray, ← r.length], by rw [List.size_toArray, ← r2.length, ← pr.1], fun h1 h2 => turnB hD h sb pr r r2 i h1 h2 s' l⟩
    cases ne with
    | true => exact rc_list_ne sb.room.units0 _ it (fun s' l ha => ⟨by rw [allB_t ha]; rfl, l⟩) (fun i s' hi he l => ⟨by rw [allB_f hi he]; rfl, l⟩) ⟨H, I, Ext.rfl'⟩
    | false => exact rc_list_eq sb.room.units0 _ it (fun s' l ha => ⟨by rw [allB_t ha]; rfl, l⟩) (fun i s' hi he l => ⟨by rw [allB_f hi he]; rfl, l⟩) ⟨H, I, Ext.rfl'⟩
theorem rcB_tup (hD : MonB D) (h : EqB X n D) : ∀ ne, RcB X (n + 1) ne (DTupB X.K D) := by
  intro ne A pins s σ H x y u v b sb I rx ry d
  obtain ⟨p, q, xs, ys, e, rfl, rfl, hp, hq, pr, rfl⟩ := d
  cases rx
  cases ry
  obtain ⟨us, r, a1, z⟩ := I.tuple hp
  obtain ⟨vs, r2, a2, z2⟩ := I.tuple hq
  have hl : us.toArray.size = xs.length := by rw [List.size_toArray, ← r.length]
  have hsz : us.toArray.size = vs.toArray.size := by rw [hl, List.size_toArray, ← r2.length]; exact pr.1
  have tn : ∀ i (h1 : i < us.toArray.size) (h2 : i < vs.toArray.size) s, LoopI X pins σ H s → wpAny (model X.prog X.w) A.in1 (eqBool us.toArray[i] vs.toArray[i]) (fun r s' => r = e i ∧ LoopI X pins σ H s') X.xe s := fun i h1 h2 s' l => turnB hD h sb pr r r2 i h1 h2 s' l
  cases ne with
  | true => exact rc_tup_ne hsz sb.room.units0 (fun _ s' => LoopI X pins σ H s') a1 a2 tn (fun s' l ha => ⟨by rw [allB_t fun j hj => ha j (by rw [hl]; exact hj)]; rfl, l⟩) (fun i s' hi he l => ⟨by rw [allB_f (by rw [← hl]; exact hi) he]; rfl, l⟩) ⟨H, I, Ext.rfl'⟩
  | false => exact rc_tup_eq hsz sb.room.units0 (fun _ s' => LoopI X pins σ H s') a1 a2 tn (fun s' l ha => ⟨by rw [allB_t fun j hj => ha j (by rw [hl]; exact hj)]; rfl, l⟩) (fun i s' hi he l => ⟨by rw [allB_f (by rw [← hl]; exact hi) he]; rfl, l⟩) ⟨H, I, Ext.rfl'⟩
/-- two instances of the class at C: R tells the answer -/
def DInsB (C : Addr) (R : Addr → V → Bool → Hp → Prop) : EqvB := fun x y b H => ∃ p q dx dy fs gs, x = .ref p ∧ y = .ref q ∧ H p = some (.ins C dx fs) ∧ H q = some (.ins C dy gs) ∧ R p y b H
/-- an instance and None -/
def DNonB (C : Addr) (R : Addr → V → Bool → Hp → Prop) : EqvB := fun x y b H => ∃ p dx fs, x = .ref p ∧ y = .non ∧ H p = some (.ins C dx fs) ∧ R p y b H
def spEqB (R : Addr → V → Bool → Hp → Prop) : Sp := fun vs H Q _ => ∃ p y b, vs = [.ref p, y] ∧ R p y b H ∧ ∀ H', Ext H H' → Q (.bl b) H'
/-- what is known of a class with its own == and no != -/
structure EqC (K : PySem.W.Frag) (C f : Addr) : Prop where
  eq : PySem.W.findIn K (.ref C) "__eq__" = some (some (.ref f))
  ne : PySem.W.findIn K (.ref C) "__ne__" = some (some (.builtin "object.__ne__"))
  fn : PySem.W.isFn K (.ref f) = true
  ob : PySem.W.subIn K (.ref C) (.type "object") = some true
theorem run_eqB {C f : Addr} {fd : FuncData} {ps : List Str} {R : Addr → V → Bool → Hp → Prop} (F : FnOk X.prog X.w X.K X.mg X.base C8.CX0 n f fd ps (spEqB R)) (hb : Binds X.K fd ps []) {A' : Around} (hro : Room n A') (hf : A'.frames = X.A.frames) {pins : List (Addr × Obj)} {s : Shared} {σ : L2.St} {H : Hp} {p : Addr} {y : V} {v : Value} {b : Bool}
    (I : Inv X pins σ H s) (ry : RelV y v) (hr : R p y b H) : wpAny (model X.prog X.w) A' (call (.ref f) [.ref p, v]) (fun v s' => v = .bool b ∧ ∃ H', Inv X pins σ H' s' ∧ Ext H H') X.xe s := by
  have hsp : spEqB R [.ref p, y] H (fun v H' => v = .bl b ∧ Ext H H') C8.E0 := ⟨p, y, b, rfl, hr, fun H' e => ⟨rfl, e⟩⟩
  have e0 : Env0 X.prog X.w X.K X.mg X.base A' X.stack s H := by
    have e := I.env0
    exact ⟨by rw [hf]; exact e.frames, e.mod, e.bs, e.bsz, e.funs, e.frf, e.hok, e.bare⟩
  have hl := F.len _ _ _ _ hsp
  have r2 : Vals [V.ref p, y] [Value.ref p, v] := .cons rfl (.cons ry .nil)
  refine wpAny_call (codeAny_mono (F.run A' X.stack s H ⟨[.ref p, v], []⟩ [.ref p, v] [.ref p, y] _ C8.E0 hro e0 (by
    have := hb s [.ref p, v] I.kIn (by simpa using hl)
    simpa using this) r2 hsp) fun r s' hq => ?_)
  cases r with
  | error e => exact (show False from hq).elim
  | ok fl =>
    cases fl with
    | ret w =>
      obtain ⟨z, H', I', rz, ez, ex⟩ := I.after hq
      subst ez
      cases rz
      exact ⟨rfl, H', I', ex⟩
    | next => exact False.elim hq
    | brk => exact False.elim hq
    | cont => exact False.elim hq
theorem rcB_ins {C f : Addr} {fd : FuncData} {ps : List Str} {R : Addr → V → Bool → Hp → Prop} (c : EqC X.K C f) (F : FnOk X.prog X.w X.K X.mg X.base C8.CX0 n f fd ps (spEqB R)) (hb : Binds X.K fd ps []) : ∀ ne, RcB X (n + 1) ne (DInsB C R) := by
  intro ne A pins s σ H x y u v b sb I rx ry d
  obtain ⟨p, q, dx, dy, fs, gs, rfl, rfl, hp, hq, hr⟩ := d
  cases rx
  cases ry
  obtain ⟨mA, J, _⟩ := ins_get I.hok hp
  obtain ⟨mB, J', _⟩ := ins_get I.hok hq
  obtain ⟨od, J, _⟩ := J.look
  obtain ⟨od', J', _⟩ := J'.look
  obtain ⟨m, hF⟩ := I.fr
  cases ne with
  | false =>
    refine PySem.W.cmp_K (op := .Eq) (tb := .ref C) sb.room.units0 hF I.ok.mod.kin J J'.type (by simp [PySem.W.notFirst]) c.eq c.fn (wpAny_mono (run_eqB (C := C) (y := .ref q) F hb (sb.mono (Nat.le_succ n)).room sb.fr I rfl hr) (fun v s' hv => ?_) fun _ _ e => e)
    obtain ⟨rfl, q⟩ := hv
    exact ⟨rfl, q⟩
  | true =>
    refine ne_K sb.in1.room.units0 I.kIn J J' c.ne c.ob c.eq c.fn (wpAny_mono (run_eqB (C := C) (y := .ref q) F hb sb.in1.room sb.in1.fr I rfl hr) (fun v s' hv => ?_) fun _ _ e => e)
    obtain ⟨rfl, q⟩ := hv
    exact ⟨b, rfl, rfl, q⟩
/-- x == None -/
theorem rcB_non {C f : Addr} {fd : FuncData} {ps : List Str} {R : Addr → V → Bool → Hp → Prop} (c : EqC X.K C f) (hn : PySem.W.subIn X.K (.type "NoneType") (.ref C) = some false) (F : FnOk X.prog X.w X.K X.mg X.base C8.CX0 n f fd ps (spEqB R)) (hb : Binds X.K fd ps []) : RcB X (n + 1) false (DNonB C R) := by
  intro A pins s σ H x y u v b sb I rx ry d
  obtain ⟨p, dx, fs, rfl, rfl, hp, hr⟩ := d
  cases rx
  cases ry
  obtain ⟨mA, J, _⟩ := ins_get I.hok hp
  obtain ⟨od, J, _⟩ := J.look
  obtain ⟨m, hF⟩ := I.fr
  refine PySem.W.cmp_K (op := .Eq) (tb := .type "NoneType") sb.room.units0 hF I.ok.mod.kin J (PySem.W.Looks.of_pure rfl) (by unfold PySem.W.notFirst; rw [hn]; simp) c.eq c.fn (wpAny_mono (run_eqB (C := C) (y := .non) F hb (sb.mono (Nat.le_succ n)).room sb.fr I rfl hr) (fun v s' hv => ?_) fun _ _ e => e)
  obtain ⟨rfl, q⟩ := hv
  exact ⟨rfl, q⟩
theorem RcB.or {ne : Bool} {D' : EqvB} (h : RcB X n ne D) (h' : RcB X n ne D') : RcB X n ne (fun x y b H => D x y b H ∨ D' x y b H) := fun A pins s σ H x y u v b sb I rx ry d => by
  rcases d with d | d
  · exact h A pins s σ H x y u v b sb I rx ry d
  · exact h' A pins s σ H x y u v b sb I rx ry d
/-- the same object on both sides -/
def DSame : EqvB := fun x y b _ => (∃ p, x = .ref p ∧ y = .ref p) ∧ b = true
theorem monB_same : MonB DSame := fun _ _ _ _ _ _ d => d
theorem eqB_same : EqB X 0 DSame := by
  intro A pins s σ H x y u v b sb I rx ry d
  obtain ⟨⟨p, rfl, rfl⟩, rfl⟩ := d
  cases rx
  cases ry
  exact SeqAt.EqAt.same (A := A) (s := s) (.ref p) X.prog X.w X.xe _ ⟨rfl, H, I, Ext.rfl'⟩
theorem EqB.mono {m : Nat} (h : EqB X n D) (hn : n ≤ m) : EqB X m D := fun A pins s σ H x y u v b sb => h A pins s σ H x y u v b (sb.mono hn)
/-- from comparisons of references to == within a list or tuple -/
theorem RcB.eqB (h : RcB X n false D) (hr : ∀ x y b H, D x y b H → ∃ p q, x = .ref p ∧ y = .ref q) (hs : ∀ (pins : List (Addr × Obj)) (s : Shared) (σ : L2.St) (H : Hp) (p : Addr) (b : Bool), Inv X pins σ H s → D (.ref p) (.ref p) b H → b = true) : EqB X n D := by
  intro A pins s σ H x y u v b sb I rx ry d
  obtain ⟨p, q, rfl, rfl⟩ := hr _ _ _ _ d
  cases rx
  cases ry
  by_cases hpq : p = q
  · subst hpq
    rw [hs pins s σ H p b I d]
    exact SeqAt.EqAt.same (A := A) (s := s) (.ref p) X.prog X.w X.xe _ ⟨rfl, H, I, Ext.rfl'⟩
  · refine GQ.eqBool_refG hpq (wpAny_mono (h A pins s σ H (.ref p) (.ref q) _ _ b sb I rfl rfl d) (fun r s' z => ?_) fun _ _ x => x)
    obtain ⟨hr', z⟩ := z
    exact ⟨b, hr', rfl, z⟩
/-- one tuple, read twice -/
theorem sqT_uniq {pins : List (Addr × Obj)} {s : Shared} {σ : L2.St} {H : Hp} {a : Addr} {xs ys : List V} (I : Inv X pins σ H s) (h1 : SqT X.K H a xs) (h2 : SqT X.K H a ys) : ∃ us : List Value, Vals xs us ∧ Vals ys us := by
  obtain ⟨us, r1, t1, _⟩ := I.tuple h1
  obtain ⟨us', r2, t2, _⟩ := I.tuple h2
  obtain ⟨o, e1, _, n, d1⟩ := t1
  obtain ⟨o', e2, _, n', d2⟩ := t2
  obtain rfl := Option.some.inj (e1.symm.trans e2)
  rw [d1] at d2
  have z : us.toArray = us'.toArray := by injection d2
  have z2 : us = us' := by simpa using congrArg Array.toList z
  subst z2
  exact ⟨us, r1, r2⟩
theorem valsI_uniq : ∀ {xs ys : List Int} {us : List Value}, Vals (xs.map V.int) us → Vals (ys.map V.int) us → xs = ys
  | [], [], _, _, _ => rfl
  | [], _ :: _, _, r1, r2 => by cases r1; cases r2
  | _ :: _, [], _, r1, r2 => by cases r2; cases r1
  | x :: xs, y :: ys, _, r1, r2 => by
    cases r1 with
    | cons a b =>
      cases r2 with
      | cons c d =>
        obtain ⟨t, rfl⟩ := (show ∃ t, _ = Value.int x t from a)
        obtain ⟨t', e⟩ := (show ∃ t', _ = Value.int y t' from c)
        injection e with e1
        rw [e1, valsI_uniq b d]
theorem valsS_uniq : ∀ {xs ys : List Str} {us : List Value}, Vals (xs.map V.str) us → Vals (ys.map V.str) us → xs = ys
  | [], [], _, _, _ => rfl
  | [], _ :: _, _, r1, r2 => by cases r1; cases r2
  | _ :: _, [], _, r1, r2 => by cases r2; cases r1
  | x :: xs, y :: ys, _, r1, r2 => by
    cases r1 with
    | cons a b =>
      cases r2 with
      | cons c d =>
        obtain ⟨t, rfl⟩ := (show ∃ t, _ = Value.str x t from a)
        obtain ⟨t', e⟩ := (show ∃ t', _ = Value.str y t' from c)
        injection e with e1
        rw [e1, valsS_uniq b d]
/-- x == y, x != y -/
def rEqB (ne : Bool) (D : EqvB) : R2 := fun x y H Q => ∃ b, D x y b H ∧ ∀ H', Ext H H' → Q (.bl (if ne = true then !b else b)) H'
theorem op_eqB (h : RcB X n false D) (hr : Room n X.A) : OpR X (compareOp .Eq) (rEqB false D) := by
  intro pins s σ H x y v u Q I rx ry hq
  obtain ⟨b, d, q⟩ := hq
  show wpAny (model X.prog X.w) X.A (richCompare .Eq v u) (EP X pins σ Q) X.xe s
  refine wpAny_mono (h X.A pins s σ H x y v u b ⟨hr, rfl⟩ I rx ry d) (fun r s' z => ?_) fun _ _ x => x
  obtain ⟨hr', H', I', e⟩ := z
  subst hr'
  exact ⟨.bl b, H', I', rfl, q H' e⟩
theorem op_neB (h : RcB X n true D) (hr : Room n X.A) : OpR X (compareOp .NotEq) (rEqB true D) := by
  intro pins s σ H x y v u Q I rx ry hq
  obtain ⟨b, d, q⟩ := hq
  show wpAny (model X.prog X.w) X.A (richCompare .NotEq v u) (EP X pins σ Q) X.xe s
  refine wpAny_mono (h X.A pins s σ H x y v u b ⟨hr, rfl⟩ I rx ry d) (fun r s' z => ?_) fun _ _ x => x
  obtain ⟨hr', H', I', e⟩ := z
  subst hr'
  exact ⟨.bl (!b), H', I', rfl, q H' e⟩
end
end My
/-! a def that calls what it got: whether an error came -/
namespace My
open PySem L2 LamX PyProof.Rows
/-- try: a() / except x: return True / return False -/
def TToldB (K : PySem.W.Frag) (C : Addr) : (XK → Hp → VK → Prop) → Hp → VK → Prop := fun tl H Q => tl (fun cls _ H' => ∃ b, PySem.W.exmOne K cls (.ref C) = some b ∧ (b = true → Q (.bl true) H') ∧ (b = false → False)) H fun _ H' => Q (.bl false) H'
def tsB (r : Bool) : Addr → Value → Option Addr → TS := fun _ _ _ => tRet (tC (.bl r))
section
variable {X : Cx}
theorem toldB_gives {Ng : List Str} {x a q e : Str} {sg : Scope} {g C : Addr} {cdg : Value} {p1 p2 p3 p4 p5 p6 p7 p8 p9 pn0 : Pos} {j jn : Nat} (hge : sg.names.lookup e = some .globalImplicit) (hme : X.mg e = some (.ref C)) (hde : (e == ("__debug__" : Str)) = false) (h0 : ∀ f : Addr, (L2.start Ng [V.ref f])[0]? = some (some (V.ref f))) :
    GivesTo X Ng x sg g cdg [.Try [.Expr (.Call (.Name a p1) [] [] p2) p3] [.ExceptHandler (some (.Name e p4)) none [.Return (some (.Constant (.bool true) j p5)) p6] p7] [] [] p8, .Return (some (.Constant (.bool false) jn pn0)) p9] a q (TToldB X.K C) := by
  intro f c' s H Q tl act hc h
  refine ⟨_, pss_cons (ps_try_many (X := (cxOf C8.CX0 X.prog X.w X.K X.mg X.base Ng x sg g cdg X.A X.stack s H C8.E0).nox) (Wout := fun _ _ _ _ => False) (l := [(Value.ref C, tsB true)])
      (tb := fun W D σ H => ∃ Ech : XK, (∀ cls d σ' H', Ech cls d H' → W cls d σ' H') ∧ σ[0]? = some (some (.ref f)) ∧ H c' = some (CodeO c' q) ∧ tl Ech H fun _ H' => D.nx σ H')
      rfl rfl takes_none5 (fun W pn xe tk _ => ?_) (.cons ⟨hge, hde, .inl hme⟩ (fun a oe cls d pn _ _ => pss_one (ps_ret pe_bl)) .nil)) (pss_one (ps_ret pe_bl)), ?_⟩
  · refine ⟨fun pins s' σ H' D I h' => ?_⟩
    obtain ⟨Ech, hW, h1, h2, h3⟩ := h'
    have hp := act W pn xe Ech p1 p2 tk hW
    have hq := pss_one (ps_expr (pos := p3) hp)
    exact hq.run pins s' σ H' D I ⟨h1, h2, h3⟩
  · exact ⟨fun cls _ H' => ∃ b, PySem.W.exmOne X.K cls (.ref C) = some b ∧ (b = true → Q (.bl true) H') ∧ (b = false → False), fun cls d σ' H' ⟨b, e1, e2, e3⟩ => ⟨b, e1, fun hb a _ => e2 hb, fun hb => e3 hb⟩, h0 f, hc, h⟩
end
theorem toldB_to {K : PySem.W.Frag} {C : Addr} {tl : (XK → Hp → VK → Prop)} {H : Hp} {Q0 : VK} (Pv : V → Hp → Prop) (a : ∀ Q : VK, (∀ v H', Pv v H' → Q v H') → TToldB K C tl H Q) (b : ∀ v H', Pv v H' → Q0 v H') : TToldB K C tl H Q0 := a Q0 b
/-- what holds behind an expression, named -/
def tMidE (te : TE) : TE := fun σ H Q => ∃ Pv : V → Hp → Prop, te σ H Pv ∧ ∀ v H', Pv v H' → Q v H'
theorem pe_mid {X : Cx} {e : Expr} {te : TE} (h : PE X e te) : PE X e (tMidE te) := ⟨fun pins s σ H Q I ⟨Pv, h1, h2⟩ => wpAny_mono (h.run pins s σ H Pv I h1) (fun u s' ⟨v, H', I', r, q⟩ => ⟨v, H', I', r, h2 v H' q⟩) fun _ _ z => z⟩
end My
/-! x != None by an own __eq__; min of a list of pairs of a number and a text -/
namespace My
open PySem PySem.Spec L2 LamX PyProof.Rows
section
open PySem.W
variable {prog : Program} {w : World} {A : Around} {E : Value → Shared → Prop} {s : Shared} {K : Frag} {x C f : Addr} {ox : Obj} {od : Option Obj} {b tb : Value}
theorem ne_KV {Q : Value → Shared → Prop} (hu : A.units + 1 < cLine) (X : K.In s.heap) (I : InstAt s.heap x ox C od) (hb : Looks (model prog w) s.heap (typeOf b) tb) (hn : notFirst K C tb = true) (hs : findIn K (.ref C) "__ne__" = some (some (.builtin "object.__ne__")))
    (ho : subIn K (.ref C) (.type "object") = some true) (he : findIn K (.ref C) "__eq__" = some (some (.ref f))) (hf : isFn K (.ref f) = true)
    (h : wpAny (model prog w) A.in1 (call (.ref f) [.ref x, b]) (fun v s' => ∃ r, v = .bool r ∧ Q (.bool (!r)) s') E s) : wpAny (model prog w) A (richCompare .NotEq (.ref x) b) Q E s := by
  have one : wpAny (model prog w) A (tryCompare (.ref x) (cmpInfo .NotEq).2.1 b) (fun r s' => ∃ v, r = some v ∧ Q v s') E s := by
    unfold tryCompare
    refine wpAny_bind (ifBound_ne X I hs (wpAny_call (codeAny_call_builtin PySem.F.cmp_object.ne.plain PySem.F.cmpEntry_ne (check_slot PySem.F.cmpKind_ne PySem.F.cmpSplit_ne (I.type.andThen (looks_subIn X ho)) (PySem.F.cmpArgs_ne _ _) ?_))))
    have hb : wpAny (model prog w) A.in1 (callSpecialIfBound? (.ref x) "__eq__" [b]) (fun o s' => ∃ r, o = some (.bool r) ∧ Q (.bool (!r)) s') E s := ifBound_K X I he hf (wpAny_mono h (fun v s' ⟨r, e, q⟩ => ⟨r, by rw [e], q⟩) fun _ _ e => e)
    obtain ⟨hh, g, d, tk, os⟩ := s
    unfold Builtin.«object.__ne__»
    repeat (first | with_reducible refine wpAny_cRoomFor hu ?_ | with_reducible refine wpAny_mono hb (fun o s' ho => ?_) (fun _ _ e => ?_) | wp_step)
    · obtain ⟨r, rfl, q⟩ := ho
      refine wpAny_bind (wpAny_truthy_bool ?_)
      exact wpAny_pure (wpAny_pure ⟨_, rfl, q⟩)
    · assumption
  unfold richCompare
  simp only [oneThing_ref]
  refine wpAny_holding (wpAny_bind (wpAny_cRoomFor (Nat.lt_of_succ_lt hu) ?_))
  refine wpAny_bind (I.type.here (wpAny_bind (hb.here ?_)))
  have fin : wpAny (model prog w) A (tryCompare (.ref x) (cmpInfo .NotEq).2.1 b) (fun r s' => ∃ v, r = some v ∧ Q v s') E s := one
  split
  · rename_i q
    have e : subIn K tb (.ref C) = some false := by
      rcases Bool.or_eq_true_iff.mp hn with e | e
      · rw [beq_iff_eq.mp e] at q; simp at q
      · exact beq_iff_eq.mp e
    refine wpAny_bind ((looks_subIn X e).here ?_)
    simp only [Bool.false_eq_true, if_false]
    refine wpAny_bind (wpAny_mono one (fun r s' z => ?_) fun _ _ e => e)
    obtain ⟨v, rfl, hq⟩ := z
    exact wpAny_pure hq
  · refine wpAny_bind (wpAny_pure ?_)
    simp only [Bool.false_eq_true, if_false]
    refine wpAny_bind (wpAny_mono one (fun r s' z => ?_) fun _ _ e => e)
    obtain ⟨v, rfl, hq⟩ := z
    exact wpAny_pure hq
end
section
variable {X : Cx} {n : Nat}
/-- x != None -/
theorem rcB_nonNe {C f : Addr} {fd : FuncData} {ps : List Str} {R : Addr → V → Bool → Hp → Prop} (c : EqC X.K C f) (hn : PySem.W.subIn X.K (.type "NoneType") (.ref C) = some false) (F : FnOk X.prog X.w X.K X.mg X.base C8.CX0 n f fd ps (spEqB R)) (hb : Binds X.K fd ps []) : RcB X (n + 1) true (DNonB C R) := by
  intro A pins s σ H x y u v b sb I rx ry d
  obtain ⟨p, dx, fs, rfl, rfl, hp, hr⟩ := d
  cases rx
  cases ry
  obtain ⟨mA, J, _⟩ := ins_get I.hok hp
  obtain ⟨od, J, _⟩ := J.look
  refine ne_KV (tb := .type "NoneType") sb.in1.room.units0 I.kIn J (PySem.W.Looks.of_pure rfl) (by unfold PySem.W.notFirst; rw [hn]; simp) c.ne c.ob c.eq c.fn (wpAny_mono (run_eqB (C := C) (y := .non) F hb sb.in1.room sb.in1.fr I rfl hr) (fun v s' hv => ?_) fun _ _ e => e)
  obtain ⟨rfl, q⟩ := hv
  exact ⟨b, rfl, rfl, q⟩
/-! ### min of pairs -/
def prD (p : Int × Str) : PyData := .tuple [.int p.1, .str p.2]
/-- the object holds this pair -/
def PairAt (K : PySem.W.Frag) (H : Hp) (v : V) (p : Int × Str) : Prop := ∃ a, v = .ref a ∧ SqT K H a [.int p.1, .str p.2]
theorem pair_dp {K : PySem.W.Frag} {H : Hp} {v : V} {p : Int × Str} (h : PairAt K H v p) : Dp K H v (prD p) := by
  obtain ⟨a, rfl, h⟩ := h
  exact .tup h (.cons (.int _) (.cons (.str _) .nil))
theorem pairs_dp {K : PySem.W.Frag} {H : Hp} : ∀ {xs : List V} {ps : List (Int × Str)}, xs.length = ps.length → (∀ (i : Nat) x p, xs[i]? = some x → ps[i]? = some p → PairAt K H x p) → DpAll K H xs (ps.map prD)
  | [], [], _, _ => .nil
  | [], _ :: _, h, _ => by cases h
  | _ :: _, [], h, _ => by cases h
  | x :: xs, p :: ps, h, hp => .cons (pair_dp (hp 0 x p rfl rfl)) (pairs_dp (Nat.succ.inj h) fun i y q h1 h2 => hp (i + 1) y q h1 h2)
theorem pairs_alike (ps : List (Int × Str)) : PySem.W.AlikeAll (ps.map prD) := by
  refine ⟨fun x hx y hy => ?_, fun x hx => ?_⟩
  · obtain ⟨p, _, rfl⟩ := List.mem_map.mp hx
    obtain ⟨q, _, rfl⟩ := List.mem_map.mp hy
    rfl
  · obtain ⟨p, _, rfl⟩ := List.mem_map.mp hx
    exact nofun
def ltP (p q : Int × Str) : Bool := PySem.W.dataLt (prD p) (prD q)
def minP (p : Int × Str) (ps : List (Int × Str)) : Int × Str := ps.foldl (fun a y => if ltP y a = true then y else a) p
theorem minD_P : ∀ (ps : List (Int × Str)) (p : Int × Str), PySem.W.minD (prD p) (ps.map prD) = prD (minP p ps)
  | [], _ => rfl
  | q :: ps, p => by
    show PySem.W.minD (if PySem.W.dataLt (prD q) (prD p) then prD q else prD p) (ps.map prD) = prD (minP (if ltP q p = true then q else p) ps)
    have e : (if PySem.W.dataLt (prD q) (prD p) then prD q else prD p) = prD (if ltP q p = true then q else p) := by
      unfold ltP
      split <;> rfl
    rw [e]
    exact minD_P ps _
def rMinP (K : PySem.W.Frag) : List V → Hp → VK → Prop := fun vs H Q => ∃ (a : Addr) (xs : List V) (p : Int × Str) (ps : List (Int × Str)), vs = [V.ref a] ∧ SqL K H a xs ∧ xs.length = ps.length + 1 ∧ (∀ (i : Nat) x q, xs[i]? = some x → (p :: ps)[i]? = some q → PairAt K H x q) ∧
  ∀ v, v ∈ xs → PairAt K H v (minP p ps) → Q v H
theorem reads_int {h : Heap} {i j : Int} {t : Tok} {bs : List Addr} (r : Reads h (.int i t) (.int j) bs) : i = j := by
  cases r
  rfl
theorem reads_str {h : Heap} {i j : Str} {t : Tok} {bs : List Addr} (r : Reads h (.str i t) (.str j) bs) : i = j := by
  cases r
  rfl
theorem pairs_depth : ∀ ps : List (Int × Str), PyData.depthAll (ps.map prD) ≤ 2
  | [] => Nat.zero_le _
  | p :: ps => by
    show max (prD p).depth (PyData.depthAll (ps.map prD)) ≤ 2
    have := pairs_depth ps
    have h2 : (prD p).depth ≤ 2 := by show (max 0 (max 0 0)) + 1 ≤ 2; decide
    omega
theorem cr_minP (hc : X.calm = true) (hu : X.A.units + 64 < cLine) : CallR X (.builtin "min") (rMinP X.K) := by
  intro pins s σ H vs us Q I r h
  obtain ⟨a, xs, p, ps, rfl, hs, hl, hp, q⟩ := h
  obtain ⟨its, rv, hL, _⟩ := I.list hs
  rw [Vals.ref1 r]
  have dp := pairs_dp (ps := p :: ps) hl hp
  obtain ⟨as, ra⟩ := Dp.readsAll I ((p :: ps).map prD) xs its dp rv
  refine PySem.W.min_list_data (x := prD p) (xs := ps.map prD) (I.ok.hd hc) hL.isList (by simpa using ra) (pairs_alike (p :: ps)) (by have := pairs_depth (p :: ps); show _ + 1 + PyData.depthAll ((p :: ps).map prD) < _; omega) fun i v h' tk bs hv hR hk => ?_
  have hv' : its[i]? = some v := by simpa using hv
  have hi : i < its.length := (List.getElem?_eq_some_iff.mp hv').1
  have hx : i < xs.length := by rw [rv.length]; exact hi
  obtain ⟨v2, g1, rx⟩ := rv.get (List.getElem?_eq_getElem hx)
  rw [hv'] at g1
  obtain rfl := Option.some.inj g1
  have hq : i < (p :: ps).length := by rw [List.length_cons, ← hl]; exact hx
  obtain ⟨b, eb, hb⟩ := hp i _ _ (List.getElem?_eq_getElem hx) (List.getElem?_eq_getElem hq)
  refine ⟨xs[i], H, I.kept hk, rx, q _ (List.getElem_mem hx) ?_⟩
  refine ⟨b, eb, ?_⟩
  rw [eb] at rx
  obtain rfl : v = Value.ref b := rx
  rw [minD_P] at hR
  have e : minP p ps = (p :: ps)[i] := by
    obtain ⟨us', r1, t1, _⟩ := I.tuple hb
    obtain ⟨o, e1, _, n, d1⟩ := t1
    have e1' := hk _ _ e1
    unfold prD at hR
    cases hR with
    | tuple k1 k2 k3 k4 =>
      rename_i o2 vs2 n2
      obtain rfl := Option.some.inj (e1'.symm.trans k1)
      rw [d1] at k3
      injection k3 with k5 k6
      subst k5
      cases r1 with
      | cons a1 b1 =>
        cases b1 with
        | cons a2 b2 =>
          cases b2
          obtain ⟨t1, rfl⟩ := (show ∃ t, _ = Value.int _ t from a1)
          obtain ⟨t2, rfl⟩ := (show ∃ t, _ = Value.str _ t from a2)
          have k7 : ReadsAll h' [Value.int ((p :: ps)[i]).1 t1, Value.str ((p :: ps)[i]).2 t2] [.int (minP p ps).1, .str (minP p ps).2] bs := by simpa using k4
          cases k7 with
          | cons c1 c2 =>
            cases c2 with
            | cons c3 c4 =>
              have z1 : ((p :: ps)[i]).1 = (minP p ps).1 := reads_int c1
              have z2 : ((p :: ps)[i]).2 = (minP p ps).2 := reads_str c3
              exact (Prod.ext z1 z2).symm
  rw [e]
  exact hb
end
end My
/-! a def that calls what it got: what comes of it, or which error came -/
namespace My
open PySem L2 LamX PyProof.Rows
/-- try: return a() / except x: return r / .. -/
def TToldR (K : PySem.W.Frag) (l : List (Addr × Str)) : (XK → Hp → VK → Prop) → Hp → VK → Prop := fun tl H Q => tl (wChain K Q l) H Q
section
variable {X : Cx}
theorem toldR_gives {Ng : List Str} {x a q : Str} {sg : Scope} {g : Addr} {cdg : Value} {h₀ : ExceptHandler} {hds : List ExceptHandler} {l : List (Addr × Str)} {p1 p2 p3 p8 : Pos} (hT : HdsT X.mg sg (h₀ :: hds) l) (h0 : ∀ f : Addr, (L2.start Ng [V.ref f])[0]? = some (some (V.ref f))) :
    GivesTo X Ng x sg g cdg [.Try [.Return (some (.Call (.Name a p1) [] [] p2)) p3] (h₀ :: hds) [] [] p8] a q (TToldR X.K l) := by
  intro f c' s H Q tl act hc h
  refine ⟨_, pss_one (ps_try_many (X := (cxOf C8.CX0 X.prog X.w X.K X.mg X.base Ng x sg g cdg X.A X.stack s H C8.E0).nox) (Wout := fun _ _ _ _ => False)
      (tb := fun W D σ H => ∃ Ech : XK, (∀ cls d σ' H', Ech cls d H' → W cls d σ' H') ∧ σ[0]? = some (some (.ref f)) ∧ H c' = some (CodeO c' q) ∧ tl Ech H fun v H' => D.rt v H')
      rfl rfl takes_none5 (fun W pn xe tk _ => ?_) (hds_ok rfl rfl hT)), ?_⟩
  · refine ⟨fun pins s' σ H' D I h' => ?_⟩
    obtain ⟨Ech, hW, h1, h2, h3⟩ := h'
    have hp := act W pn xe Ech p1 p2 tk hW
    have hq := pss_one (ps_ret (pos := p3) hp)
    exact hq.run pins s' σ H' D I ⟨h1, h2, h3⟩
  · exact ⟨wChain X.K Q l, fun cls d σ' H' z => wMany_chain l z, h0 f, hc, h⟩
end
theorem toldR_to {K : PySem.W.Frag} {l : List (Addr × Str)} {tl : (XK → Hp → VK → Prop)} {H : Hp} {Q0 : VK} (Pv : V → Hp → Prop) (a : ∀ Q : VK, (∀ v H', Pv v H' → Q v H') → TToldR K l tl H Q) (b : ∀ v H', Pv v H' → Q0 v H') : TToldR K l tl H Q0 := a Q0 b
end My
/-! x in c, x not in c, of data without dicts -/
namespace My
open PySem L2 LamX PyProof.Rows
section
variable {X : Cx}
def rInD (K : PySem.W.Frag) (neg : Bool) : R2 := fun x y H Q => ∃ (d : PyData) (xs : List PyData), Dp K H x d ∧ (Dp K H y (.list xs) ∨ Dp K H y (.tuple xs)) ∧ PyData.plainAll xs = true ∧ d.plain = true ∧ d.depth ≤ 32 ∧ Q (.bl (if neg then !xs.any fun z => PyData.eqv z d else xs.any fun z => PyData.eqv z d)) H
theorem op_inD (hu : X.A.units + 64 < cLine) : OpR X (compareOp .In) (rInD X.K false) := by
  intro pins s σ H x y v u Q I rx ry h
  obtain ⟨d, xs, hd, hc, hp, hp2, hl, q⟩ := h
  obtain ⟨as, r1⟩ := Dp.reads I d x v hd rx
  have hm : X.A.units + 1 + min (PyData.depthAll xs) d.depth < cLine := by
    have := Nat.min_le_right (PyData.depthAll xs) d.depth
    omega
  rcases hc with hc | hc
  · obtain ⟨bs, r2⟩ := Dp.reads I _ y u hc ry
    exact SeqAt.in_list_data r2 r1 hp hp2 hm ⟨.bl _, H, I, rfl, q⟩
  · obtain ⟨bs, r2⟩ := Dp.reads I _ y u hc ry
    exact SeqAt.in_tuple_data r2 r1 hp hp2 hm ⟨.bl _, H, I, rfl, q⟩
theorem op_notInD (hu : X.A.units + 64 < cLine) : OpR X (compareOp .NotIn) (rInD X.K true) := by
  intro pins s σ H x y v u Q I rx ry h
  obtain ⟨d, xs, hd, hc, hp, hp2, hl, q⟩ := h
  obtain ⟨as, r1⟩ := Dp.reads I d x v hd rx
  have hm : X.A.units + 1 + min (PyData.depthAll xs) d.depth < cLine := by
    have := Nat.min_le_right (PyData.depthAll xs) d.depth
    omega
  rcases hc with hc | hc
  · obtain ⟨bs, r2⟩ := Dp.reads I _ y u hc ry
    exact SeqAt.notIn_list_data r2 r1 hp hp2 hm ⟨.bl _, H, I, rfl, q⟩
  · obtain ⟨bs, r2⟩ := Dp.reads I _ y u hc ry
    exact SeqAt.notIn_tuple_data r2 r1 hp hp2 hm ⟨.bl _, H, I, rfl, q⟩
theorem op_inDK {K : PySem.W.Frag} (h : X.K = K) (hu : X.A.units + 64 < cLine) : OpR X (compareOp .In) (rInD K false) := by
  subst h
  exact op_inD hu
theorem op_notInDK {K : PySem.W.Frag} (h : X.K = K) (hu : X.A.units + 64 < cLine) : OpR X (compareOp .NotIn) (rInD K true) := by
  subst h
  exact op_notInD hu
end
theorem rInD_to {K : PySem.W.Frag} {neg : Bool} {x y : V} {d : PyData} {xs : List PyData} {b : Bool} {H : Hp} {Q : VK} (h1 : Dp K H x d) (h2 : Dp K H y (.list xs) ∨ Dp K H y (.tuple xs)) (p1 : PyData.plainAll xs = true) (p2 : d.plain = true) (hl : d.depth ≤ 32) (e : (if neg then !xs.any fun z => PyData.eqv z d else xs.any fun z => PyData.eqv z d) = b) (q : Q (.bl b) H) : rInD K neg x y H Q :=
  ⟨d, xs, h1, h2, p1, p2, hl, by rw [e]; exact q⟩
end My
/-! try with several clauses, any of them with a name -/
namespace My
open PySem L2 LamX PyProof.Rows
/-- an exception of the body that stands before the clauses -/
def Fell (X : Cx) (pins : List (Addr × Obj)) (σ : L2.St) (H : Hp) (a : Addr) (cls : Value) (d : Option Addr) (s : Shared) : Prop := ∃ (B : Heap) (sI : Shared),
  L2.Inv X pins σ H sI ∧ (∀ (b : Addr) (o : Obj), sI.heap.get? b = some o → b ∉ frs X.stack → B.get? b = some o) ∧ sI.heap.UpToSlots s.heap ∧ HandSPX.FlyingZ B (X.env :: X.outer) a (Zc cls d) s.heap ∧ H a = none ∧ s.os = sI.os ∧ AllBare s.gens
section
variable {X : Cx} {pins : List (Addr × Obj)} {σ : L2.St} {H : Hp} {a : Addr} {cls : Value} {d : Option Addr} {s : Shared}
theorem Fell.inv (F : Fell X pins σ H a cls d s) : L2.Inv X pins σ H s := by
  obtain ⟨B, sI, J, nb, up, fl, _, os, ag⟩ := F
  exact J.landed nb fl.1 up os ag
theorem Fell.at (hs : X.stack = X.env :: X.outer) (hf : X.env.frame = some X.env.locals) (F : Fell X pins σ H a cls d s) :
    ∃ (oe : Obj) (vs : Array Value), s.heap.get? a = some oe ∧ Zc cls d oe ∧ oe.data = .fields vs ∧ L2.Inv (X.suite a ((a, oe) :: (X.pn ++ pins))) [] σ H s := by
  have J := F.inv
  obtain ⟨B, sI, _, _, _, fl, na, _, _⟩ := F
  obtain ⟨oe, vs, e1, e2, e3⟩ := fl.there
  have off : a ∉ frs (X.env :: X.outer) := fun hm => by
    obtain ⟨_, o', q1, q2⟩ := fl.2.2.1.mem hm
    have q3 := Option.some.inj (e1.symm.trans q1)
    subst q3
    exact q2 _ e3
  refine ⟨oe, vs, e1, e2, e3, J.suite e1 e3 na (fun z => off ?_) (fun hm => off ?_)⟩
  · exact List.mem_filterMap.mpr ⟨X.env, .head _, by rw [hf, z]⟩
  · obtain ⟨v, hv, q⟩ := List.mem_filterMap.mp hm
    exact List.mem_filterMap.mpr ⟨v, .tail _ hv, q⟩
/-- a clause: its class, its name's slot, its suite's reading -/
abbrev Cl := Value × Option Nat × (Addr → Value → Option Addr → TS)
def unName (i : Nat) (D : Ends) : Ends := { nx := fun σ H => D.nx (σ.set i none) H, rt := D.rt, bk := fun σ H => D.bk (σ.set i none) H, ct := fun σ H => D.ct (σ.set i none) H }
def runCl (o : Option Nat) (ts : Addr → Value → Option Addr → TS) (a : Addr) (cls : Value) (d : Option Addr) : TS := fun D σ H => match o with
  | none => ts a cls d D σ H
  | some i => i < σ.length → ts a cls d (unName i D) (σ.set i (some (.ref a))) H
def wAll (K : PySem.W.Frag) (Wout : WX) (D : Ends) : List Cl → WX
  | [] => Wout
  | (c, o, ts) :: r => fun cls d σ H => ∃ b, PySem.W.exmOne K cls c = some b ∧ (b = true → ∀ a, H a = none → runCl o ts a cls d D σ H) ∧ (b = false → wAll K Wout D r cls d σ H)
def SuiteOk (X : Cx) (suite : List Stmt) (ts : Addr → Value → Option Addr → TS) : Prop := ∀ (a : Addr) (oe : Obj) (cls : Value) (d : Option Addr) (pn : List (Addr × Obj)), Zc cls d oe → (∃ vs, oe.data = .fields vs) → PSs (X.suite a ((a, oe) :: pn)) suite (ts a cls d)
inductive ClsOk (X : Cx) : List ExceptHandler → List Cl → Prop
  | nil : ClsOk X [] []
  | plain {x : Str} {c : Value} {ts : Addr → Value → Option Addr → TS} {b₀ : Stmt} {suite : List Stmt} {np p' : Pos} {hds : List ExceptHandler} {l : List Cl} (hc : Names X x c) (hsu : SuiteOk X (b₀ :: suite) ts) (r : ClsOk X hds l) :
      ClsOk X (.ExceptHandler (some (.Name x np)) none (b₀ :: suite) p' :: hds) ((c, none, ts) :: l)
  | named {x n : Str} {i : Nat} {c : Value} {ts : Addr → Value → Option Addr → TS} {b₀ : Stmt} {suite : List Stmt} {np p' : Pos} {hds : List ExceptHandler} {l : List Cl} (hN : X.N.Nodup) (hi : X.N[i]? = some n) (hl : X.env.kindOf n = some .local) (hc : Names X x c) (hsu : SuiteOk X (b₀ :: suite) ts) (r : ClsOk X hds l) :
      ClsOk X (.ExceptHandler (some (.Name x np)) (some n) (b₀ :: suite) p' :: hds) ((c, some i, ts) :: l)
/-- the class that a clause names is held against the exception -/
theorem Fell.test {x : Str} {c : Value} {np : Pos} {b : Bool} (hs : X.stack = X.env :: X.outer) (hf : X.env.frame = some X.env.locals) (hc : Names X x c) (F : Fell X pins σ H a cls d s) (hb : PySem.W.exmOne X.K cls c = some b) {Q : Bool → Shared → Prop} {E : Value → Shared → Prop} (q : Q b s) :
    wpAny (model X.prog X.w) (X.A.mark (some (.ref a))) (eval (.Name x np) X.env) (fun v s' => wpAny (model X.prog X.w) (X.A.mark (some (.ref a))) (excMatches (.ref a) v) Q E s') E s := by
  obtain ⟨oe, vs, e1, e2, e3, S⟩ := F.at hs hf
  have LT : PySem.W.Looks (model X.prog X.w) s.heap (typeOf (.ref a)) cls := fun A Q E s' k q => wpAny_typeOf_ref (k _ _ e1) (by rw [e2.1]; exact q)
  have LM := PySem.W.exm_one (M := model X.prog X.w) F.inv.kIn LT hb
  obtain ⟨hg, hd, hm | ⟨hm, hv, hn⟩⟩ := hc
  · exact ld_glob (X := X.suite a ((a, oe) :: (X.pn ++ pins))) S hg hm (LM.here q) hd
  · exact ld_blt (X := X.suite a ((a, oe) :: (X.pn ++ pins))) S hg hm hv (LM.here q) hn hd
/-- the exception takes off again for its suite -/
theorem Fell.on {M : Model} {A : Around} {E : Value → Shared → Prop} {Q : Unit → Shared → Prop} (F : Fell X pins σ H a cls d s) (q : ∀ s', Fell X pins σ H a cls d s' → Q () s') : wpAny M A (setFlight (.ref a) none) Q E s := by
  obtain ⟨B, sI, J, nb, up, fl, na, os, ag⟩ := F
  exact HandSPX.lands_againZ fl fun h' fl' up' => q _ ⟨B, sI, J, nb, up.trans up', fl', na, os, ag⟩
/-- no clause was meant -/
theorem Fell.out {Wout : WX} {Q : Flow → Shared → Prop} (hs : X.stack = X.env :: X.outer) (hf : X.env.frame = some X.env.locals) (tk : Takes X Wout) (F : Fell X pins σ H a cls d s) (hw : Wout cls d σ H) : wpAny (model X.prog X.w) X.A (handleBy (.ref a) X.env []) Q X.xe s := by
  obtain ⟨B, sI, J, nb, up, fl, na, os, ag⟩ := F
  obtain ⟨_, _, _, o, fs, tr, _, _, g1, _, g2, g3, _⟩ := id fl
  have last : wpAny (model X.prog X.w) X.A (setFlight (.ref a) X.env.frame) (fun _ z => wpAny (model X.prog X.w) X.A (throw (.ref a) : Sem Flow) Q X.xe z) X.xe s := by
    rw [hf]
    exact HandSPX.setFlight_upZ fl fun h' hd' up' => wpAny_throw (tk _ _ ⟨a, B, sI, pins, σ, H, cls, d, rfl, J, nb, up.trans up', .inr (.inr (hs ▸ hd')), na, os, ag, hw⟩)
  refine wpAny_handleBy_nil ?_
  unfold PySem.passOn
  refine wpAny_bind (wpAny_field g1 g2 g3 ?_)
  rw [if_neg (show ¬ (Value.ref tr == Value.none) = true from by simp)]
  first
    | exact wpAny_bind (wpAny_pure (wpAny_bind last))
    | exact wpAny_bind last
theorem Fell.caught {Wout : WX} {D : Ends} (ok : X.Ok) (hs : X.stack = X.env :: X.outer) (hf : X.env.frame = some X.env.locals) (tk : Takes X Wout) {hds : List ExceptHandler} {l : List Cl} (hk : ClsOk X hds l) :
    ∀ {s : Shared}, Fell X pins σ H a cls d s → wAll X.K Wout D l cls d σ H → wpAny (model X.prog X.w) X.A (handleBy (.ref a) X.env hds) (SP X pins D) X.xe s := by
  induction hk with
  | nil => exact fun F hw => F.out hs hf tk hw
  | plain hc hsu r ih =>
    intro s F hw
    obtain ⟨b, h1, h2, h3⟩ := hw
    refine wpAny_handleBy_cons (codeAny_handlers_test (F.test hs hf hc h1 ?_)) (by intro q; cases q)
    cases b with
    | false => exact ih F (h3 rfl)
    | true =>
      refine codeAny_handlers_suite (F.on fun s' F' => ?_)
      obtain ⟨oe, vs, e1, e2, e3, S⟩ := F'.at hs hf
      have na : H a = none := by
        obtain ⟨_, _, _, _, _, _, n, _, _⟩ := F'
        exact n
      refine wpAny_mono ((hsu a oe cls d (X.pn ++ pins) e2 ⟨_, e3⟩).run [] _ _ H _ S (h2 rfl a na)) (fun f s6 hsp => ?_) fun _ _ z => z.elim
      cases f with
      | ret u =>
        obtain ⟨v, σ6, H6, S6, rr, q6⟩ := hsp
        exact ⟨v, σ6, H6, S6.unsuite ok, rr, q6⟩
      | next => exact let ⟨σ6, H6, S6, q6⟩ := hsp; ⟨σ6, H6, S6.unsuite ok, q6⟩
      | brk => exact let ⟨σ6, H6, S6, q6⟩ := hsp; ⟨σ6, H6, S6.unsuite ok, q6⟩
      | cont => exact let ⟨σ6, H6, S6, q6⟩ := hsp; ⟨σ6, H6, S6.unsuite ok, q6⟩
  | named hN hi hl hc hsu r ih =>
    intro s F hw
    obtain ⟨b, h1, h2, h3⟩ := hw
    refine wpAny_handleBy_cons (codeAny_handlers_test (F.test hs hf hc h1 ?_)) (by intro q; cases q)
    cases b with
    | false => exact ih F (h3 rfl)
    | true =>
      refine codeAny_handlers_suite_as (F.on fun s' F' => ?_)
      obtain ⟨oe, vs, e1, e2, e3, S⟩ := F'.at hs hf
      have na : H a = none := by
        obtain ⟨_, _, _, _, _, _, n, _, _⟩ := F'
        exact n
      refine store_ok (X := X.suite a ((a, oe) :: (X.pn ++ pins))) (v := .ref a) S hN hi (.inl hl) rfl (fun s5 S5 => ?_) (.inr hl)
      refine wpAny_mono ((hsu a oe cls d (X.pn ++ pins) e2 ⟨_, e3⟩).run [] s5 _ H _ S5 (h2 rfl a na (by rw [F'.inv.len]; exact (List.getElem?_eq_some_iff.mp hi).1))) (fun f s6 hsp => ?_) fun _ _ z => z.elim
      cases f with
      | ret u =>
        obtain ⟨v, σ6, H6, S6, rr, q6⟩ := hsp
        exact gone_ok (S6.unsuite ok) hN hi hl fun s7 J7 => ⟨v, _, H6, J7, rr, q6⟩
      | next =>
        obtain ⟨σ6, H6, S6, q6⟩ := hsp
        exact gone_ok (S6.unsuite ok) hN hi hl fun s7 J7 => ⟨_, H6, J7, q6⟩
      | brk =>
        obtain ⟨σ6, H6, S6, q6⟩ := hsp
        exact gone_ok (S6.unsuite ok) hN hi hl fun s7 J7 => ⟨_, H6, J7, q6⟩
      | cont =>
        obtain ⟨σ6, H6, S6, q6⟩ := hsp
        exact gone_ok (S6.unsuite ok) hN hi hl fun s7 J7 => ⟨_, H6, J7, q6⟩
end
section
variable {X : Cx} {body : List Stmt} {h₀ : ExceptHandler} {hds : List ExceptHandler} {l : List Cl} {pos : Pos} {tb : WX → TS} {Wout : WX}
theorem ps_try_all (hs : X.stack = X.env :: X.outer) (hf : X.env.frame = some X.env.locals) (tk : Takes X Wout)
    (hb : ∀ (W : WX) (pn : List (Addr × Obj)) (xe : Value → Shared → Prop), Takes (X.tr pn xe) W → PassesOwn (model X.prog X.w) X.A X.env xe → PSs (X.tr pn xe) body (tb W)) (hh : ClsOk X (h₀ :: hds) l) :
    PS X (.Try body (h₀ :: hds) [] [] pos) (fun D σ H => tb (wAll X.K Wout D l) D σ H) := by
  refine ⟨fun pins s σ H D I h => ?_⟩
  have ok := I.ok
  have hfr : X.A.frames = some (X.env :: X.outer) := by rw [ok.frames, hs]
  have down : ∀ u s', XE (X.tr (X.pn ++ pins) (fun e z => wpAny (model X.prog X.w) X.A (noteFrame e X.env) (fun _ z2 => wpAny (model X.prog X.w) X.A (setFlight e none) (fun _ z3 => wpAny (model X.prog X.w) X.A (handleBy e X.env (h₀ :: hds)) (SP X pins D) X.xe z3) X.xe z2) X.xe z)) (wAll X.K Wout D l) u s' →
      wpAny (model X.prog X.w) X.A (noteFrame u X.env) (fun _ z2 => wpAny (model X.prog X.w) X.A (setFlight u none) (fun _ z3 => wpAny (model X.prog X.w) X.A (handleBy u X.env (h₀ :: hds)) (SP X pins D) X.xe z3) X.xe z2) X.xe s' := fun u s' xx => by
    obtain ⟨a, B, sI, pins', σ', H', cls, d, rfl, J', nb, up, sky, na, os, ag, w⟩ := xx
    have sky' : L2.Sky B (X.env :: X.outer) a (Zc cls d) X.env.locals s'.heap := hs ▸ sky
    exact Sky.land Zc.steady hfr hf sky' fun h3 fl up3 => Fell.caught ok hs hf tk hh ⟨B, sI, J'.ofTry ok, nb, up.trans up3, fl, na, os, ag⟩ w
  refine wpAny_Try_except (wpAny_mono ((hb _ (X.pn ++ pins) _ down PassesOwn.looking).run [] s σ H D (I.toTry _) h) (fun f s1 hsp => ?_) fun e s1 he => he)
  cases f with
  | ret u =>
    obtain ⟨v, σ', H', J, rr, q⟩ := hsp
    exact ⟨v, σ', H', J.ofTry ok, rr, q⟩
  | next => exact let ⟨σ', H', J, q⟩ := hsp; wpAny_execs_nil ⟨σ', H', J.ofTry ok, q⟩
  | brk => exact let ⟨σ', H', J, q⟩ := hsp; ⟨σ', H', J.ofTry ok, q⟩
  | cont => exact let ⟨σ', H', J, q⟩ := hsp; ⟨σ', H', J.ofTry ok, q⟩
end
/-! ### a def that calls what it got: which error came, with what it tells -/
abbrev CK := Value → Option Addr → Hp → VK → Prop
def ckW (r : Str) : CK := fun _ _ H Q => Q (.str r) H
def FldOf (C : Addr) (f : Str) (cls : Value) (d : Option Addr) (H : Hp) (v : V) : Prop := cls = .ref C ∧ ∃ (dd : Addr) (fs : List (Str × V)), d = some dd ∧ H dd = some (.xd fs) ∧ fs.lookup f = some v
def ckF (C : Addr) (r f : Str) : CK := fun cls d H Q => ∃ v, FldOf C f cls d H v ∧ ∀ t, H t = none → Q (.ref t) (upd H t (.tup [.str r, v]))
def ckFF (C : Addr) (f g : Str) : CK := fun cls d H Q => ∃ v u, FldOf C f cls d H v ∧ FldOf C g cls d H u ∧ ∀ t, H t = none → Q (.ref t) (upd H t (.tup [v, u]))
def ckG (C : Addr) (f : Str) : CK := fun cls d H Q => ∃ v, FldOf C f cls d H v ∧ Q v H
def ckWI (r : Str) (n : Int) : CK := fun _ _ H Q => ∀ t, H t = none → Q (.ref t) (upd H t (.tup [.str r, .int n]))
def wChainA (K : PySem.W.Frag) (Q : VK) : List (Addr × CK) → XK
  | [] => fun _ _ _ => False
  | (C, k) :: l => fun cls d H => ∃ b, PySem.W.exmOne K cls (.ref C) = some b ∧ (b = true → k cls d H Q) ∧ (b = false → wChainA K Q l cls d H)
def TToldA (K : PySem.W.Frag) (l : List (Addr × CK)) : (XK → Hp → VK → Prop) → Hp → VK → Prop := fun tl H Q => tl (wChainA K Q l) H fun _ H' => Q .non H'
inductive HdsA (K : PySem.W.Frag) (mg : Str → Option Value) (sg : Scope) (n : Str) : List ExceptHandler → List (Addr × CK) → Prop
  | nil : HdsA K mg sg n [] []
  | word {e r : Str} {C : Addr} {j : Nat} {p4 p5 p6 p7 : Pos} {hs : List ExceptHandler} {l : List (Addr × CK)} (hge : sg.names.lookup e = some .globalImplicit) (hme : mg e = some (.ref C)) (hde : (e == ("__debug__" : Str)) = false) (t : HdsA K mg sg n hs l) :
      HdsA K mg sg n (.ExceptHandler (some (.Name e p4)) none [.Return (some (.Constant (.str r) j p5)) p6] p7 :: hs) ((C, ckW r) :: l)
  | fld {e r f : Str} {C : Addr} {j k : Nat} {p4 p5 p6 p7 q1 q2 q3 : Pos} {hs : List ExceptHandler} {l : List (Addr × CK)} (hge : sg.names.lookup e = some .globalImplicit) (hme : mg e = some (.ref C)) (hde : (e == ("__debug__" : Str)) = false) (T : XfC K C) (hno : PySem.W.findIn K (.ref C) f = some none) (t : HdsA K mg sg n hs l) :
      HdsA K mg sg n (.ExceptHandler (some (.Name e p4)) (some n) [.Return (some (.Tuple [.Constant (.str r) j p5, .Attribute (.Name n q1) f q2] k q3)) p6] p7 :: hs) ((C, ckF C r f) :: l)
  | flds {e f g : Str} {C : Addr} {k : Nat} {p4 p6 p7 q1 q2 q3 q4 q5 : Pos} {hs : List ExceptHandler} {l : List (Addr × CK)} (hge : sg.names.lookup e = some .globalImplicit) (hme : mg e = some (.ref C)) (hde : (e == ("__debug__" : Str)) = false) (T : XfC K C) (hno : PySem.W.findIn K (.ref C) f = some none) (hno2 : PySem.W.findIn K (.ref C) g = some none) (t : HdsA K mg sg n hs l) :
      HdsA K mg sg n (.ExceptHandler (some (.Name e p4)) (some n) [.Return (some (.Tuple [.Attribute (.Name n q1) f q2, .Attribute (.Name n q4) g q5] k q3)) p6] p7 :: hs) ((C, ckFF C f g) :: l)
  | attr {e f : Str} {C : Addr} {p4 p6 p7 q1 q2 : Pos} {hs : List ExceptHandler} {l : List (Addr × CK)} (hge : sg.names.lookup e = some .globalImplicit) (hme : mg e = some (.ref C)) (hde : (e == ("__debug__" : Str)) = false) (T : XfC K C) (hno : PySem.W.findIn K (.ref C) f = some none) (t : HdsA K mg sg n hs l) :
      HdsA K mg sg n (.ExceptHandler (some (.Name e p4)) (some n) [.Return (some (.Attribute (.Name n q1) f q2)) p6] p7 :: hs) ((C, ckG C f) :: l)
  | num {e r : Str} {C : Addr} {m : Int} {j j2 k : Nat} {p4 p5 p6 p7 q2 q3 : Pos} {hs : List ExceptHandler} {l : List (Addr × CK)} (hge : sg.names.lookup e = some .globalImplicit) (hme : mg e = some (.ref C)) (hde : (e == ("__debug__" : Str)) = false) (t : HdsA K mg sg n hs l) :
      HdsA K mg sg n (.ExceptHandler (some (.Name e p4)) none [.Return (some (.Tuple [.Constant (.str r) j p5, .Constant (.int m) j2 q2] k q3)) p6] p7 :: hs) ((C, ckWI r m) :: l)
theorem at_set {σ : L2.St} {i : Nat} {v : V} (h : i < σ.length) : (σ.set i (some v))[i]? = some (some v) := List.getElem?_set_self h
theorem hdsA_ok {Y : Cx} {mg : Str → Option Value} {sg : Scope} {n : Str} {i : Nat} (hsc : Y.env.scope = sg) (hmg : Y.mg = mg) (hN : Y.N.Nodup) (hi : Y.N[i]? = some n) (hl : sg.names.lookup n = some .local) (hd1 : (n == ("__debug__" : Str)) = false) (hd2 : (n == ("__classdict__" : Str)) = false) :
    ∀ {hs : List ExceptHandler} {l : List (Addr × CK)}, HdsA Y.K mg sg n hs l → ∃ L : List Cl, ClsOk Y hs L ∧ ∀ (D : Ends) (cls : Value) (d : Option Addr) (σ : L2.St) (H : Hp), wChainA Y.K D.rt l cls d H → wAll Y.K (fun _ _ _ _ => False) D L cls d σ H := by
  intro hs l h
  have lk : Y.env.kindOf n = some .local := by
    show Y.env.scope.names.lookup n = _
    rw [hsc]
    exact hl
  have nm : ∀ {e : Str} {C : Addr}, sg.names.lookup e = some .globalImplicit → mg e = some (.ref C) → (e == ("__debug__" : Str)) = false → Names Y e (.ref C) := fun {e C} hge hme hde => ⟨by show Y.env.scope.names.lookup _ = _; rw [hsc]; exact hge, hde, .inl (by rw [hmg]; exact hme)⟩
  induction h with
  | nil => exact ⟨[], .nil, fun D cls d σ H z => z.elim⟩
  | word hge hme hde t ih =>
    obtain ⟨L, h1, h2⟩ := ih
    refine ⟨(_, none, fun _ _ _ => tRet (tC (.str _))) :: L, .plain (nm hge hme hde) (fun a oe cls d pn _ _ => pss_one (ps_ret pe_str)) h1, fun D cls d σ H ⟨b, e1, e2, e3⟩ => ⟨b, e1, fun e a _ => e2 e, fun e => h2 D cls d σ H (e3 e)⟩⟩
  | num hge hme hde t ih =>
    obtain ⟨L, h1, h2⟩ := ih
    refine ⟨(_, none, fun _ _ _ => tRet _) :: L, .plain (nm hge hme hde) (fun a oe cls d pn _ _ => pss_one (ps_ret (pe_tup (pa_cons pe_str (pa_cons pe_int pa_nil))))) h1, fun D cls d σ H ⟨b, e1, e2, e3⟩ => ⟨b, e1, fun e a _ => ?_, fun e => h2 D cls d σ H (e3 e)⟩⟩
    exact ⟨by show 2 ≤ sizeLine; decide, fun t ht => e2 e t ht⟩
  | attr hge hme hde T hno t ih =>
    obtain ⟨L, h1, h2⟩ := ih
    refine ⟨(_, some i, fun a cls d => tRet _) :: L, .named hN hi lk (nm hge hme hde) (fun a oe cls d pn hz hf => pss_one (ps_ret (pe_xf (a := a) (cls := cls) (d := d) T hno hz hf (pe_var hi (.inl lk) hd1 hd2)))) h1, fun D cls d σ H ⟨b, e1, e2, e3⟩ => ⟨b, e1, fun e a _ hlen => ?_, fun e => h2 D cls d σ H (e3 e)⟩⟩
    obtain ⟨v, ⟨hc, dd, fs, hd, hx, hv⟩, q⟩ := e2 e
    exact ⟨_, at_set hlen, rfl, hc, dd, fs, v, hd, hx, hv, q⟩
  | fld hge hme hde T hno t ih =>
    obtain ⟨L, h1, h2⟩ := ih
    refine ⟨(_, some i, fun a cls d => tRet _) :: L, .named hN hi lk (nm hge hme hde) (fun a oe cls d pn hz hf => pss_one (ps_ret (pe_tup (pa_cons pe_str (pa_cons (pe_xf (a := a) (cls := cls) (d := d) T hno hz hf (pe_var hi (.inl lk) hd1 hd2)) pa_nil))))) h1, fun D cls d σ H ⟨b, e1, e2, e3⟩ => ⟨b, e1, fun e a _ hlen => ?_, fun e => h2 D cls d σ H (e3 e)⟩⟩
    obtain ⟨v, ⟨hc, dd, fs, hd, hx, hv⟩, q⟩ := e2 e
    exact ⟨_, at_set hlen, rfl, hc, dd, fs, v, hd, hx, hv, by show 2 ≤ sizeLine; decide, fun t ht => q t ht⟩
  | flds hge hme hde T hno hno2 t ih =>
    obtain ⟨L, h1, h2⟩ := ih
    refine ⟨(_, some i, fun a cls d => tRet _) :: L, .named hN hi lk (nm hge hme hde) (fun a oe cls d pn hz hf => pss_one (ps_ret (pe_tup (pa_cons (pe_xf (a := a) (cls := cls) (d := d) T hno hz hf (pe_var hi (.inl lk) hd1 hd2)) (pa_cons (pe_xf (a := a) (cls := cls) (d := d) T hno2 hz hf (pe_var hi (.inl lk) hd1 hd2)) pa_nil))))) h1, fun D cls d σ H ⟨b, e1, e2, e3⟩ => ⟨b, e1, fun e a _ hlen => ?_, fun e => h2 D cls d σ H (e3 e)⟩⟩
    obtain ⟨v, u, ⟨hc, dd, fs, hd, hx, hv⟩, ⟨_, dd', fs', hd', hx', hu⟩, q⟩ := e2 e
    exact ⟨_, at_set hlen, rfl, hc, dd, fs, v, hd, hx, hv, _, at_set hlen, rfl, hc, dd', fs', u, hd', hx', hu, by show 2 ≤ sizeLine; decide, fun t ht => q t ht⟩
section
variable {X : Cx}
theorem toldA_gives {Ng : List Str} {x a q n : Str} {i : Nat} {sg : Scope} {g : Addr} {cdg : Value} {h₀ : ExceptHandler} {hds : List ExceptHandler} {l : List (Addr × CK)} {p1 p2 p3 p8 p9 pn0 : Pos} {jn : Nat} (hN : Ng.Nodup) (hi : Ng[i]? = some n) (hl : sg.names.lookup n = some .local) (hT : HdsA X.K X.mg sg n (h₀ :: hds) l) (h0 : ∀ f : Addr, (L2.start Ng [V.ref f])[0]? = some (some (V.ref f))) (hd1 : (n == ("__debug__" : Str)) = false := by decide) (hd2 : (n == ("__classdict__" : Str)) = false := by decide) :
    GivesTo X Ng x sg g cdg [.Try [.Expr (.Call (.Name a p1) [] [] p2) p3] (h₀ :: hds) [] [] p8, .Return (some (.Constant .none jn pn0)) p9] a q (TToldA X.K l) := by
  intro f c' s H Q tl act hc h
  obtain ⟨L, hL, hw⟩ := hdsA_ok (Y := (cxOf C8.CX0 X.prog X.w X.K X.mg X.base Ng x sg g cdg X.A X.stack s H C8.E0).nox) rfl rfl hN hi hl hd1 hd2 hT
  refine ⟨_, pss_cons (ps_try_all (Wout := fun _ _ _ _ => False)
      (tb := fun W D σ H => ∃ Ech : XK, (∀ cls d σ' H', Ech cls d H' → W cls d σ' H') ∧ σ[0]? = some (some (.ref f)) ∧ H c' = some (CodeO c' q) ∧ tl Ech H fun _ H' => D.nx σ H')
      rfl rfl takes_none5 (fun W pn xe tk _ => ?_) hL) (pss_one (ps_ret pe_non)), ?_⟩
  · refine ⟨fun pins s' σ H' D I h' => ?_⟩
    obtain ⟨Ech, hW, h1, h2, h3⟩ := h'
    exact (pss_one (ps_expr (pos := p3) (act W pn xe Ech p1 p2 tk hW))).run pins s' σ H' D I ⟨h1, h2, h3⟩
  · exact ⟨wChainA X.K Q l, fun cls d σ' H' z => hw _ cls d σ' H' z, h0 f, hc, h⟩
end
theorem toldA_to {K : PySem.W.Frag} {l : List (Addr × CK)} {tl : (XK → Hp → VK → Prop)} {H : Hp} {Q0 : VK} (Pv : V → Hp → Prop) (a : ∀ Q : VK, (∀ v H', Pv v H' → Q v H') → TToldA K l tl H Q) (b : ∀ v H', Pv v H' → Q0 v H') : TToldA K l tl H Q0 := a Q0 b
/-! ### B.__init__(self, ..), B an own class over ValueError without an __init__ -/
/-- what the written part says of such a base -/
structure BaseC (K : PySem.W.Frag) (S : Addr) : Prop where
  ga : PySem.W.specialIn K (.ref S) "__getattribute__" = some (some (.builtin "type.__getattribute__"))
  rd : PySem.W.readsIn K S (.type "type") = true
  vV : PySem.W.findCls K (.ref S) (.type "type") "__init__" = some (.val (.builtin "ValueError.__init__"))
section
variable {X : Cx} {e : Expr} {es : List Expr} {ta : TA} {S : Addr} {x : Str} {p1 p2 pos : Pos}
theorem pe_binit {pl : Sem Bool} (B : BaseC X.K S) (hg : Gl X x) (hm : X.mg x = some (.ref S)) (ha : PA X (e :: es) ta)
    (hc : eval (.Call (.Attribute (.Name x p1) "__init__" p2) (e :: es) [] pos) X.env = (do
      let v ← eval (.Name x p1) X.env
      standAt p2.atName
      let (f, first) ← holding [v] (getMethod v "__init__" pl)
      callWith pos f first (backTo pos (starEach (e :: es) X.env)) (backToKw pos (keywordEach [] X.env))) := by rfl)
    (hdb : (x == ("__debug__" : Str)) = false := by decide) (he : starEach (e :: es) X.env = (false, eval e X.env) :: starEach es X.env := by rfl) (hpl : (backTo pos (starEach es X.env)).any (·.1) = false := by rfl) :
    PE X (.Call (.Attribute (.Name x p1) "__init__" p2) (e :: es) [] pos) (tVeI X.K ta) := by
  refine ⟨fun pins s σ H Q I h => PySem.W.methodCall_KW (ld_glob I hg hm ?_ hdb) hc⟩
  refine PySem.W.method_cls I.kIn B.ga (PySem.W.cls_value I.kIn B.rd B.vV (by decide +kernel) ?_)
  show wpAny _ _ (callWith pos (Value.builtin "ValueError.__init__") [] (backTo pos (starEach (e :: es) X.env)) []) _ _ _
  refine PyProof.Rows.callWith_method1 (thn (ha.run pos pins _ σ H _ (I.tok _) h) fun us s1 ⟨vs, H1, I1, r1, q1⟩ => ?_) he hpl
  obtain ⟨a, C, ws, rfl, hl, T, ea, q⟩ := q1
  cases r1 with
  | @cons _ u0 _ ur ra rr =>
    obtain rfl : u0 = Value.ref a := ra
    exact oinit_ok T I1 ea (by rw [← Paired.length rr, sizeLine_eq]; omega) fun s' J => ⟨.non, H1, J, rfl, q⟩
end
/-- what is left of an error that told one thing -/
theorem xd_same {H1 : Hp} {a C dx : Addr} {f : Str} {v : V} (na : H1 a = none) (nd : H1 dx = none) (n : dx ≠ a) :
    ∃ H' : Hp, H' = upd (del (upd (upd (upd H1 a (exo a C none)) dx (exd dx [(f, v)])) a (exo a C (some dx))) a) dx (.xd [(f, v)]) ∧ Same H1 H' ∧ H' dx = some (.xd [(f, v)]) := by
  refine ⟨_, rfl, fun b o h => ?_, upd_same⟩
  rw [upd_ne (ne_of_none h nd), del_ne (ne_of_none h na), upd_ne (ne_of_none h na), upd_ne (ne_of_none h nd), upd_ne (ne_of_none h na)]
  exact h
end My
/-! xs.extend(t), t a tuple -/
namespace My
open PySem L2 LamX PyProof.Rows
section
open PySem.AutoSeq1 MeetsSeq MeetsSeq2 MeetsSeq3
set_option maxRecDepth 8000 in
theorem ext_tup (l b : Addr) (xs ys : Array Value) (n m : Nat) (dd : Option Addr) (sl : Array (Option Value)) (few : ¬(!xs.isEmpty && Builtin.List.listTooLong (xs.size + ys.size)) = true) (h1 : xs.size ≤ sizeLine) (h2 : (xs ++ ys).size ≤ sizeLine + 1) :
    Meets (Builtin.«list.extend» ⟨[.ref l, .ref b], []⟩) (fun _ R s => s.heap.get? l = some { cls := .type "list", dict := none, data := .seq xs n, slots := #[] } ∧ s.heap.get? b = some { cls := .type "tuple", dict := dd, data := .seq ys m, slots := sl } ∧ R (.ok (.ret Value.none)) { s with heap := s.heap.update l (Obj.mapSeq fun x => x ++ ys), toks := s.toks }) := by
  refine .of_wp fun prog w A R s ⟨e1, e2, q⟩ => ?_
  obtain ⟨hp, g, d, tk, os⟩ := s
  have k1 := idx_int
  have k2 := AutoSeq1.sub_tuple_tuple
  have k3 := AutoSeq1.sub_list_list
  have k4 := AutoSeq1.sub_tuple_list
  have k5 := AutoSeq1.sub_list_tuple
  wp_walk using (wpAny_updateSeq e1 rfl (hz := h1) (_hz' := h2)), wpAny_loadPart' e1, wpAny_loadPart' e2
  exact ⟨_, rfl, q⟩
end
section
variable {X : Cx}
def rExtendT (K : PySem.W.Frag) : V → List V → Hp → VK → Prop := fun x vs H Q => ∃ l b xs zs, x = .ref l ∧ vs = [.ref b] ∧ H l = some (.lst xs) ∧ SqT K H b zs ∧ xs.length + zs.length ≤ sizeLine ∧ Q .non (upd H l (.lst (xs ++ zs)))
theorem mt_extendT : MtR X "list.extend" (rExtendT X.K) := by
  intro pins s σ H x vs v us Q I rx rv h
  obtain ⟨l, b, xs, zs, rfl, rfl, hH, hB, hz, q⟩ := h
  cases rx
  obtain ⟨u, rfl, ru⟩ := rv.one
  cases ru
  obtain ⟨z1, its, n, r, hl, e⟩ := I.lstM hH
  obtain ⟨jts, r2, tp, z2⟩ := I.tuple hB
  have l1 := r.length
  have l2 := r2.length
  have few : ¬ (!its.toArray.isEmpty && Builtin.List.listTooLong (its.toArray.size + jts.toArray.size)) = true := by
    rw [notLongL (by rw [List.size_toArray, List.size_toArray]; omega), Bool.and_false]
    exact Bool.false_ne_true
  obtain ⟨o, t1, t2, n2, t3⟩ := id tp
  obtain ⟨oc, od, ot, os⟩ := o
  dsimp only at t2 t3
  subst t2 t3
  refine call_meets F.slot_list_extend ⟨_, e, rfl⟩ F.entry_list_extend (F.args_list_extend_2 _ _) (ext_tup l b its.toArray jts.toArray n n2 od os few (by rw [List.size_toArray]; omega) (by rw [Array.size_append, List.size_toArray, List.size_toArray]; omega)) ⟨e, t1, ?_⟩
  exact ⟨.non, _, I.lset (its' := its ++ jts) hH e (by simp) (r.append r2) (by rw [List.length_append]; omega), rfl, q⟩
end
end My
/-! raise X(e, ..) of an own class with an own __init__; a try around one call, several clauses -/
namespace My
open PySem L2 LamX PyProof.Rows
section
variable {X : Cx} {C : Addr} {e : Expr} {es : List Expr} {ta : TA}
/-- raise X(e, ..), in a def's own body -/
theorem ps_errO {E : XK} {E₁ : Value → Shared → Prop} {CY : CXT} {x : Str} {fI : Addr} {k : Nat} {fd : FuncData} {ps : List Str} {sp : Sp} {ds : List Value} {dvs : List V} {p pos p2 : Pos} (T : OexC X.K C) (iC : PySem.W.findIn X.K (.ref C) "__init__" = some (some (.ref fI))) (tI : PySem.W.typeIn X.K (.ref fI) = some (.type "function"))
    (F1 : FnOk X.prog X.w X.K X.mg X.base CY k fI fd ps sp) (hr : Room (k + 1) X.A) (hb : Binds X.K fd ps ds) (hd : Vals dvs ds) (hx0 : Passes CY X (fun _ _ _ => False)) (hm : X.mg x = some (.ref C)) (hg : Gl X x) (ha : PA X (e :: es) ta)
    (hc : X.calm = true) (hs : X.stack = X.env :: X.outer) (hf : X.env.frame = some X.env.locals) (hex : X.ex = [])
    (hx : X.xe = fun e s' => wpAny (model X.prog X.w) X.A (leaving X.env e) (fun _ s'' => CX X.prog X.w X.outer X.H_0 X.s_0 E e s'') E₁ s')
    (hdb : (x == ("__debug__" : Str)) = false := by decide) (he : starEach (e :: es) X.env = (false, eval e X.env) :: starEach es X.env := by rfl) (hpl : (backTo pos (starEach es X.env)).any (·.1) = false := by rfl) :
    PS X (.Raise (some (.Call (.Name x p) (e :: es) [] pos)) none p2) (fun _ σ H => tMkO C sp dvs ta σ H E) := ps_raise hc (takes_of hs hf hex hx) (pmk_oex T iC tI F1 hr hb hd hx0 hg hm ha hdb he hpl)
/-- try: e / except ..: several clauses -/
theorem ps_tryA {n : Str} {i : Nat} {sg : Scope} {h₀ : ExceptHandler} {hds : List ExceptHandler} {l : List (Addr × CK)} {p3 p8 : Pos} {te : XK → TE} (hs : X.stack = X.env :: X.outer) (hf : X.env.frame = some X.env.locals) (hsc : X.env.scope = sg) (hN : X.N.Nodup) (hi : X.N[i]? = some n) (hl : sg.names.lookup n = some .local) (hT : HdsA X.K X.mg sg n (h₀ :: hds) l)
    (call : ∀ (W : WX) (pn : List (Addr × Obj)) (xe : Value → Shared → Prop) (Ech : XK), Takes (X.tr pn xe) W → (∀ cls d σ H, Ech cls d H → W cls d σ H) → PE (X.tr pn xe) e (te Ech))
    (hd1 : (n == ("__debug__" : Str)) = false := by decide) (hd2 : (n == ("__classdict__" : Str)) = false := by decide) (hsw : swapsWith e none p3.line X.env = pure false := by rfl) :
    PS X (.Try [.Expr e p3] (h₀ :: hds) [] [] p8) (fun D σ H => te (wChainA X.K D.rt l) σ H fun _ H' => D.nx σ H') := by
  obtain ⟨L, hL, hw⟩ := hdsA_ok (Y := X) hsc rfl hN hi hl hd1 hd2 hT
  refine ⟨fun pins s σ H D I h => ?_⟩
  refine (ps_try_all (Wout := fun _ _ _ _ => False)
      (tb := fun W D σ H => ∃ Ech : XK, (∀ cls d σ' H', Ech cls d H' → W cls d σ' H') ∧ te Ech σ H fun _ H' => D.nx σ H')
      hs hf takes_none5 (fun W pn xe tk _ => ?_) hL).run pins s σ H D I ⟨wChainA X.K D.rt l, fun cls d σ' H' z => hw D cls d σ' H' z, h⟩
  refine ⟨fun pins s' σ H' D I h' => ?_⟩
  obtain ⟨Ech, hW, h3⟩ := h'
  exact (pss_one (ps_expr (pos := p3) (call W pn xe Ech tk hW) hsw)).run pins s' σ H' D I h3
end
end My
/-! an error out of a comprehension, in a def's own body -/
namespace My
open PySem L2 LamX PyProof.Rows
section
variable {M : Model} {A : Around} {E₀ : Value → Shared → Prop} {s : Shared} {B : Heap} {env : Env} {outer : List Env} {e L : Addr} {Z : Obj → Prop} {fl : Value}
/-- an exception is noted, whatever frame its record names -/
theorem noted_any {Q : Unit → Shared → Prop} (hZ : HandSPX.Steady Z) (hfr : A.frames = some (env :: outer)) (hf : env.frame = some L) (k : B.StaysIn s.heap) (n : B.get? e = none) (l : s.heap.FunFrames B (env :: outer)) (t : HandSPX.TracedZ s.heap B e Z fl)
    (q : ∀ h', HandSPX.HeldZ B (env :: outer) e Z L h' → s.heap.UpToSlots h' → Q () { s with heap := h' }) : wpAny M A (noteFrame (.ref e) env) Q E₀ s := by
  by_cases hl : (fl == rawInt L) = true
  · have z : fl = rawInt L := eq_of_beq hl
    subst z
    exact HandSPX.againZ hf t (q s.heap ⟨k, n, l, t⟩ (Heap.UpToSlots.refl _))
  · obtain ⟨oe, vs, T, oT, ts, g1, g2, g3, g4, g5, g6, g7, g8, g9⟩ := t
    have away : ∀ b, b ≠ T → (s.heap.update T (Obj.mapFields (·.setIfInBounds 3 Value.none))).get? b = s.heap.get? b := fun b hb => Heap.get?_update_other _ _ (Ne.symm hb)
    have nrec : ∀ b o, s.heap.get? b = some o → (∀ x, o.data ≠ .fields x) → b ≠ T := by
      rintro b o hb hd rfl
      rw [g7] at hb
      cases hb
      exact hd ts g8
    unfold noteFrame
    rw [hf]
    refine wpAny_bind (wpAny_field g1 g3 g4 ?_)
    rw [if_pos (by simp : (Value.ref T != Value.none) = true)]
    refine wpAny_bind (wpAny_field g7 g8 g9 ?_)
    rw [if_neg hl]
    refine wpAny_bind (wpAny_setField g7 g8 (Array.getElem?_eq_some_iff.mp g9).1 ?_)
    refine HandSPX.wpAny_entryZ hZ hfr (l.of_keeps fun b o hb hd => ⟨o, (away b (nrec b o hb hd)).trans hb, rfl⟩) hf ((away e (Ne.symm g6)).trans g1) (fun b o hb => (away b (by rintro rfl; rw [g5] at hb; cases hb)).trans (k b o hb)) n g3 (Array.getElem?_eq_some_iff.mp g4).1 g2 fun h' hN => ?_
    exact q h' ⟨hN.1, n, hN.2.1, hN.2.2.1⟩ fun b o hb hd => hN.2.2.2 b o ((away b (nrec b o hb hd)).trans hb) hd
end
/-- frames stand as long as they are left as they are -/
theorem frames_at {h h' base : Heap} : ∀ {l : List Env}, h.FunFrames base l → (∀ b ∈ frs l, h'.get? b = h.get? b) → h'.FunFrames base l
  | [], _, _ => trivial
  | env :: l, ⟨hk, ⟨L, o, hf, hn, ho, hd⟩, hr⟩, e => ⟨hk, ⟨L, o, hf, hn, (e L (List.mem_filterMap.mpr ⟨env, .head _, hf⟩)).trans ho, hd⟩, frames_at hr fun b hb => e b (by
      obtain ⟨v, hv, q⟩ := List.mem_filterMap.mp hb
      exact List.mem_filterMap.mpr ⟨v, .tail _ hv, q⟩)⟩
section
variable {X : Cx} {pins : List (Addr × Obj)} {σ : L2.St} {H : Hp} {sI s' : Shared} {B : Heap} {E : XK} {a : Addr} {cls : Value} {d : Option Addr} {fl : Value} {E₁ : Value → Shared → Prop}
/-- .. and leaves the def -/
theorem leave_any (hs : X.stack = X.env :: X.outer) (hf : X.env.frame = some X.env.locals) (hex : X.ex = []) (I : L2.Inv X pins σ H sI) (nb : ∀ b o, sI.heap.get? b = some o → b ∉ frs X.stack → B.get? b = some o) (up : sI.heap.UpToSlots s'.heap)
    (k : B.StaysIn s'.heap) (n : B.get? a = none) (l : s'.heap.FunFrames B X.stack) (t : HandSPX.TracedZ s'.heap B a (Zc cls d) fl) (na : H a = none) (os : s'.os = sI.os) (ag : AllBare s'.gens) (w : E cls d H) :
    wpAny (model X.prog X.w) X.A (leaving X.env (.ref a)) (fun _ s'' => L2.CX X.prog X.w X.outer X.H_0 X.s_0 E (.ref a) s'') E₁ s' := by
  have hfr : X.A.frames = some (X.env :: X.outer) := by rw [I.ok.frames, hs]
  rw [hs] at l
  unfold leaving
  refine wpAny_bind (noted_any Zc.steady hfr hf k n l t fun h1 hh u1 => ?_)
  refine HandSPX.landsZ hh fun h2 f2 u2 => ?_
  have off : ∀ b o, X.s_0.heap.get? b = some o → b ∉ X.fs → b ∉ frs X.stack := fun b o e hb hm => by
    rcases List.mem_cons.mp (I.stkSub b hm) with z | z
    · have h1 := Heap.lt_size e
      have h3 := I.ok.above
      rw [z] at h1
      exact absurd (Nat.lt_of_lt_of_le h1 h3) (Nat.lt_irrefl _)
    · exact hb z
  have hex' : ∀ b, b ∉ X.ex := fun b hb => by rw [hex] at hb; cases hb
  obtain ⟨k2, n2, l2, t2⟩ := f2
  refine ⟨a, B, H, cls, d, rfl, ⟨k2, n2, l2.2.2, t2⟩, I.inGround nb, ⟨fun b o e z hb => nb b o (I.base.keep b o e z hb (hex' b)) (off b o e hb), fun b o e hb => ?_, fun b o e z => I.base.free b o e z (hex' b), fun b o e hb => ?_, I.base.tups, I.base.frzs, I.base.tbls⟩, na, os.trans I.os, ag, w⟩
  · obtain ⟨_, o₀, e₀, hd⟩ := I.ok.funs.mem hb
    rw [e] at e₀
    cases e₀
    obtain ⟨l1, e1⟩ := I.base.slot b o e (I.ok.frf b hb) hb (hex' b)
    obtain ⟨l2, e2⟩ := up b _ e1 hd
    obtain ⟨l3, e3⟩ := u1 b _ e2 hd
    obtain ⟨l4, e4⟩ := u2 b _ e3 hd
    exact ⟨l4, e4⟩
  · obtain ⟨o', e1⟩ := I.base.there b o e (hex' b)
    exact ⟨o', nb b o' e1 (off b o e hb)⟩
/-- what comes out of a block -/
def OutB (X : Cx) (s3 : Shared) (H3 : Hp) (scope : Scope) (ce : Env) (fp : List Addr) (E : XK) : Value → Shared → Prop := fun u s' =>
  ∃ (pl : List (Addr × Obj)) (σ' : L2.St) (H1 : Hp) (s1 : Shared), L2.Inv (X.blk s3 H3 scope ce fp) pl σ' H1 s1 ∧ L2.CX X.prog X.w X.stack H1 s1 E u s'
theorem block_out {s3 : Shared} {H3 : Hp} {scope : Scope} {ce : Env} {fp : List Addr} {C D : Addr} {Qf : Value → Shared → Prop} {u : Value} (hs : X.stack = X.env :: X.outer) (hf : X.env.frame = some X.env.locals) (hex : X.ex = [])
    (hx : X.xe = fun e s' => wpAny (model X.prog X.w) X.A (leaving X.env e) (fun _ s'' => L2.CX X.prog X.w X.outer X.H_0 X.s_0 E e s'') E₁ s')
    (I3 : L2.Inv X pins σ H3 s3) (hC : ce.locals = C) (hCs : s3.heap.objs.size ≤ C) (hcf : ce.frame = X.env.frame) (hfp : ∀ b ∈ fp, FpOk X pins H3 b) (o : OutB X s3 H3 scope ce fp E u s') :
    notedBy (model X.prog X.w) X.A ce (fun e s2 => compPost (model X.prog X.w) X.A X.xe none Qf (.ref D) C (.error e) s2) u s' := by
  obtain ⟨pl, σ', H1, s1, Ib, c⟩ := o
  obtain ⟨a, B, sI, pi, σi, H', cls, d, rfl, Ii, nb, up, sky, na, os, ag, w⟩ := XE.of_call (X := X.blk s3 H3 scope ce fp) (W := fun cls d _ H => E cls d H) Ib (fun _ _ _ h => h) c
  have hfr : X.A.frames = some (X.env :: X.outer) := by rw [I3.ok.frames, hs]
  have en : noteFrame (.ref a) ce = noteFrame (.ref a) X.env := by
    unfold noteFrame PySem.frameOf
    rw [hcf]
  have IX : L2.Inv X pins σ H' sI := I3.call' (ch := fp) Ii.os Ii.base Ii.hok Ii.bare fun b hb => ⟨(hfp b hb).2.2.2.1, (hfp b hb).2.1, (hfp b hb).2.2.2.2.1, (hfp b hb).2.2.2.2.2⟩
  have fC : FpOk X pins H' C := I3.fpOk hCs (by have z : H' ce.locals = none := Ii.free; rw [hC] at z; exact z)
  have cF : C ∉ frs X.stack := fun hm => by
    rcases List.mem_cons.mp (I3.stkSub C hm) with z | z
    · exact fC.2.1 z
    · exact fC.2.2.1 z
  show wpAny _ _ (noteFrame (.ref a) ce) _ _ _
  rw [en]
  have rest : ∀ h1, HandSPX.HeldZ B (X.env :: X.outer) a (Zc cls d) X.env.locals h1 → s'.heap.UpToSlots h1 → compPost (model X.prog X.w) X.A X.xe none Qf (.ref D) C (.error (.ref a)) { s' with heap := h1 } := fun h1 hh u1 => by
    obtain ⟨k1, n1, l1, t1⟩ := hh
    obtain ⟨m, hm, _⟩ := Ii.loc
    have hm : sI.heap.Ns ce.locals m := hm
    rw [hC] at hm
    obtain ⟨oC, es, ep, gC, rC⟩ := hm
    have gB : B.get? C = some oC := nb C oC gC cF
    refine ⟨m, ⟨oC, es, ep, k1 C oC gB, rC⟩, fun h2 sb ce' _ => ?_⟩
    obtain ⟨B2, b1, b2⟩ := restrict B fun b => decide (b ≠ C)
    obtain ⟨G, q1, q2⟩ := restrict sI.heap fun b => decide (b ≠ C)
    have B2of : ∀ b o, B2.get? b = some o → b ≠ C ∧ B.get? b = some o := fun b o e => by
      by_cases z : b = C
      · rw [b2 b (by simp [z])] at e
        cases e
      · exact ⟨z, by rw [← b1 b (by simp [z])]; exact e⟩
    have Gof : ∀ b o, G.get? b = some o → b ≠ C ∧ sI.heap.get? b = some o := fun b o e => by
      by_cases z : b = C
      · rw [q2 b (by simp [z])] at e
        cases e
      · exact ⟨z, by rw [← q1 b (by simp [z])]; exact e⟩
    have same2 : ∀ b, b ≠ C → h2.get? b = h1.get? b := fun b hb => sb.2 b hb
    have k2 : B2.StaysIn h2 := fun b o e => by
      obtain ⟨z, e'⟩ := B2of b o e
      rw [same2 b z]
      exact k1 b o e'
    have none2 : ∀ b, B.get? b = none → B2.get? b = none := fun b e => by
      cases z : B2.get? b with
      | none => rfl
      | some o =>
        have := (B2of b o z).2
        rw [e] at this
        cases this
    have neC : ∀ b, B.get? b = none → b ≠ C := fun b e z => by rw [z, gB] at e; cases e
    have l2 : h2.FunFrames B2 (X.env :: X.outer) := by
      have lB : ∀ b ∈ frs (X.env :: X.outer), B.get? b = none := fun b hb => (l1.mem hb).1
      have l0 : h1.FunFrames B2 (X.env :: X.outer) := funFrames_none l1 fun b hb => none2 b (lB b hb)
      exact frames_at l0 fun b hb => same2 b fun z => neC b (lB b hb) z
    have t2 : HandSPX.TracedZ h2 B2 a (Zc cls d) (rawInt X.env.locals) := by
      obtain ⟨oe, vs, T, oT, ts, g1, g2, g3, g4, g5, g6, g7, g8, g9⟩ := t1
      exact ⟨oe, vs, T, oT, ts, (same2 a (neC a n1)).trans g1, g2, g3, g4, none2 T g5, g6, (same2 T (neC T g5)).trans g7, g8, g9⟩
    obtain ⟨oe, vs, T, oT, ts, g1, g2, g3, g4, g5, g6, g7, g8, g9⟩ := id t2
    unfold PySem.passOn
    refine wpAny_bind (wpAny_field g1 g3 g4 ?_)
    rw [if_neg (show ¬ (Value.ref T == Value.none) = true by simp)]
    first
      | refine wpAny_bind (wpAny_pure ?_)
      | skip
    refine wpAny_bind (HandSPX.setFlight_anyZ k2 l2 t2 fun h3 k3 l3 t3 u3 => ?_)
    refine wpAny_throw ?_
    rw [hx]
    have J : L2.Inv X pins σ H' { sI with heap := G } := IX.turned (t' := sI.toks) (it := C) (fun b o hb e => by rw [q1 b (by simp [hb])]; exact e) fC.1 fC.2.1 fC.2.2.2.1 fC.2.2.2.2.1 fC.2.2.2.2.2
    refine leave_any hs hf hex (sI := { sI with heap := G }) (B := B2) J (fun b o e hb => ?_) (fun b o e hd => ?_) k3 (none2 a n1) (hs ▸ l3) t3 na os ag w
    · obtain ⟨z, e'⟩ := Gof b o e
      rw [b1 b (by simp [z])]
      exact nb b o e' hb
    · obtain ⟨z, e'⟩ := Gof b o e
      obtain ⟨x1, e1⟩ := up b o e' hd
      obtain ⟨x2, e2⟩ := u1 b _ e1 hd
      obtain ⟨x3, e3⟩ := u3 b _ ((same2 b z).trans e2) hd
      exact ⟨x3, e3⟩
  rcases sky with ⟨f1, f2, f3, oe, vs, f4, f5, f6, f7⟩ | ⟨f1, f2, f3, f4⟩ | ⟨f1, f2, f3, f4⟩
  · have f3 : s'.heap.FunFrames B X.stack := f3
    rw [hs] at f3
    exact HandSPX.look_newZ Zc.steady hfr f3 hf f4 f1 f2 f6 f7 f5 rest
  · have f3 : s'.heap.FunFrames B X.stack := f3
    rw [hs] at f3
    exact noted_any Zc.steady hfr hf f1 f2 f3 f4 rest
  · have f3 : s'.heap.FunFrames B X.stack := f3
    rw [hs] at f3
    exact noted_any Zc.steady hfr hf f1 f2 f3 f4 rest
end
end My
/-! [elt for target in iter if ..] whose elt may let an error out, in a def's own body -/
namespace My
open PySem L2 LamX PyProof.Rows
section
variable {X : Cx} {E : XK} {E₁ : Value → Shared → Prop}
/-- where the block of a comprehension stands -/
abbrev envB (X : Cx) (scope : Scope) (s3 : Shared) : Env := compEnvC scope (cellsFrom (s3.heap.objs.size + 1) scope.names (cloFrom X.env.cells scope.names [])) s3.heap.objs.size X.env
/-- one turn, the errors of the element among its ends -/
theorem turn_out {s3 : Shared} {H3 : Hp} {scope : Scope} {fp : List Addr} {ce : Env} {D : Addr} {R : Result → Shared → Prop} {elt tg : Expr} {ifs : List Expr} {g : TG} {tt : TT} {te : TE} {σ : L2.St} {vs : List Nat} {Nx : Hp → Prop} {Goal : Shared → Prop} {H5 : Hp} {s5 : Shared}
    (pg : PG (X.blk s3 H3 scope ce fp) tg g) (pt : PTs (X.blk s3 H3 scope ce fp) ifs tt) (pe : PE ((X.blk s3 H3 scope ce fp).wish (OutB X s3 H3 scope ce fp E)) elt te)
    (out : ∀ u s', OutB X s3 H3 scope ce fp E u s' → notedBy (model X.prog X.w) X.A ce (fun e s2 => R (.error e) s2) u s')
    {x : V} {u : Value} (I7 : L2.Inv (X.blk s3 H3 scope ce fp) ([] ++ pinsAt fp s5.heap) (wipe σ vs) H5 s5) (r : RelV x u)
    (step : g x (wipe σ vs) H5 fun σ2 H2 => wipe σ2 vs = wipe σ vs ∧ tt σ2 H2 fun b H3 => if b = true then te σ2 H3 fun y H4 => ∃ acc, H4 D = some (.lst acc) ∧ acc.length < sizeLine ∧ Nx (upd H4 D (.lst (acc ++ [y]))) else Nx H3)
    (fin : ∀ (σ8 : L2.St) (s' : Shared) (H' : Hp), wipe σ8 vs = wipe σ vs → L2.Inv (X.blk s3 H3 scope ce fp) ([] ++ pinsAt fp s5.heap) σ8 H' s' → Nx H' → Goal s') :
    wpAny (model X.prog X.w) X.A (assign tg ce u) (fun _ s₂ =>
      wpAny (model X.prog X.w) X.A (forIn ifs true fun c r => if r = true then do let ok ← isTrue c ce (eval c ce); pure (ForInStep.yield ok) else pure (ForInStep.yield r)) (fun ok s₃ =>
        if ok = true then wpAny (model X.prog X.w) X.A (eval elt ce) (fun x s₄ =>
          wpAny (model X.prog X.w) X.A (call (.builtin "list.append") [.ref D, x]) (fun _ s₅ => Goal s₅) (notedBy (model X.prog X.w) X.A ce fun e s' => R (.error e) s') s₄) (notedBy (model X.prog X.w) X.A ce fun e s' => R (.error e) s') s₃
        else Goal s₃) (notedBy (model X.prog X.w) X.A ce fun e s' => R (.error e) s') s₂) (notedBy (model X.prog X.w) X.A ce fun e s' => R (.error e) s') s5 := by
  refine thnF (pg.run _ s5 _ H5 x u _ I7 r step) fun _ s8 ⟨σ8, H8, I8, w8, q8⟩ => ?_
  refine thnF (pt.run _ s8 σ8 H8 _ I8 q8) fun b s9 ⟨H9, I9, q9⟩ => ?_
  cases b with
  | true =>
    have q9 : te σ8 H9 fun y H4 => ∃ acc, H4 D = some (.lst acc) ∧ acc.length < sizeLine ∧ Nx (upd H4 D (.lst (acc ++ [y]))) := q9
    show wpAny _ _ (eval elt ce) _ _ _
    refine wpAny_mono (pe.run _ s9 σ8 H9 _ (I9.wish _) q9) (fun z s10 hz => ?_) fun e s' o => out e s' o
    obtain ⟨yv, H10, I10, r10, acc, a1, a2, a3⟩ := hz
    exact app_ok (X := X.blk s3 H3 scope ce fp) I10.unwish a1 a2 r10 fun s11 I11 => fin σ8 s11 _ w8 I11 a3
  | false => exact fin σ8 s9 H9 w8 I9 q9
theorem pe_lcX {elt tg iter : Expr} {ifs : List Expr} {scope : Scope} {own : List (Str × Nat)} {pos : Pos} {wi : TI} {g : TG} {tt : TT} {te : TE} (hc : X.calm = true) (hN : X.N.Nodup) (hi : PI X tg iter wi) (ok : BlkOk X.N X.env.scope scope own)
    (hg : ∀ (s : Shared) (H : Hp) (C : Addr) (cl : List (Str × Addr)) (fp : List Addr), PG (X.blk s H scope (compEnvC scope cl C X.env) fp) tg g) (ht : ∀ (s : Shared) (H : Hp) (C : Addr) (cl : List (Str × Addr)) (fp : List Addr), PTs (X.blk s H scope (compEnvC scope cl C X.env) fp) ifs tt)
    (he : ∀ (s : Shared) (H : Hp) (C : Addr) (cl : List (Str × Addr)) (fp : List Addr), PE ((X.blk s H scope (compEnvC scope cl C X.env) fp).wish (OutB X s H scope (compEnvC scope cl C X.env) fp E)) elt te)
    (hS : X.stack = X.env :: X.outer) (hf : X.env.frame = some X.env.locals) (hex : X.ex = [])
    (hx : X.xe = fun e s' => wpAny (model X.prog X.w) X.A (leaving X.env e) (fun _ s'' => L2.CX X.prog X.w X.outer X.H_0 X.s_0 E e s'') E₁ s')
    (hs : ∀ x, foldedSetIterable iter X.env x = pure x := by intro _; rfl) :
    PE X (.ListComp elt [⟨tg, iter, ifs, 0⟩] scope pos) (tLc wi g tt te (own.map (·.2))) := by
  refine ⟨fun pins s σ H Q I h => ?_⟩
  rw [eval_ListComp]
  have hcl : ∀ y ∈ scope.names, y.2 = .free → ∃ c, X.env.cells.lookup y.1 = some c := fun y hy e => I.ok.has _ (ok.free y hy e)
  refine wpAny_comprehension_free (use := none) rfl hs (closure_ok hcl) ok.kind (fun y hy e => by rw [ok.uniq y hy, e]) (thn (hi.run pins s σ H _ I h) fun xv s1 hx1 => thn hx1 fun itv s2 h2 => ?_)
  obtain ⟨it, fp, tn, J, H2, e, I2, T, st2, f2, q⟩ := h2
  subst e
  refine wpAny_newObj_type (newEnv_comp ?_) (by show 0 ≤ sizeLine; decide)
  have nD : H2 s2.heap.objs.size = none := I2.hok.fresh (Nat.le_refl _)
  obtain ⟨W, ⟨m0, w0⟩, turn⟩ := q _ nD
  generalize eD : s2.heap.objs.size = D at *
  obtain ⟨s3, e3⟩ : ∃ s3 : Shared, s3 = { s2 with heap := s2.heap.push { cls := .type "list", data := .seq ([] : List Value).toArray } } := ⟨_, rfl⟩
  have h3 : s3.heap = s2.heap.push { cls := .type "list", data := .seq ([] : List Value).toArray } := by rw [e3]
  have I3 : L2.Inv X pins σ (upd H2 D (.lst [])) s3 := by
    rw [e3]
    refine I2.laid (t' := s2.toks) (fun b o e => Heap.get?_push_of_some _ e) (Nat.le_of_eq eD) ⟨Nat.zero_le _, [], 0, .nil, ?_⟩
    rw [← eD]
    exact Heap.get?_push_size _ rfl
  have old : ∀ b ∈ fp, b < s2.heap.objs.size := fun b hb => by
    obtain ⟨o, e, _⟩ := T.obj _ _ st2 b hb
    exact Heap.lt_size e
  have f3 : ∀ b ∈ fp, FpOk X pins (upd H2 D (.lst [])) b ∧ b < s3.heap.objs.size := fun b hb => by
    have lt := old b hb
    have ne : b ≠ D := by rw [← eD]; exact Nat.ne_of_lt lt
    exact ⟨⟨by rw [upd_ne ne]; exact (f2 b hb).1, (f2 b hb).2⟩, by rw [h3, Heap.size_push]; exact Nat.lt_succ_of_lt lt⟩
  have st3 : tn 0 s3.heap := T.keep _ _ _ st2 fun b _ o e => by rw [h3]; exact Heap.get?_push_of_some _ e
  have I4 := block_start I3 ok hN f3
  generalize upd H2 D (.lst []) = H3 at I3 f3 I4 w0
  have pg := hg s3 H3 s3.heap.objs.size (cellsFrom (s3.heap.objs.size + 1) scope.names (cloFrom X.env.cells scope.names [])) fp
  have pt := ht s3 H3 s3.heap.objs.size (cellsFrom (s3.heap.objs.size + 1) scope.names (cloFrom X.env.cells scope.names [])) fp
  have pe := he s3 H3 s3.heap.objs.size (cellsFrom (s3.heap.objs.size + 1) scope.names (cloFrom X.env.cells scope.names [])) fp
  rw [← e3]
  show codeAny _ _ (.compStart (.ListComp elt [⟨tg, iter, ifs, 0⟩] scope pos) 0 (.ref it) (.ref D) (envB X scope s3)) (compPost (model X.prog X.w) X.A X.xe none _ (.ref D) s3.heap.objs.size) { s3 with heap := pushCells (s3.heap.push { cls := .type "dict", data := .dict #[] }) scope.names }
  have hL : (envB X scope s3).locals = s3.heap.objs.size := rfl
  have hF : (envB X scope s3).frame = X.env.frame := rfl
  change L2.Inv (X.blk s3 H3 scope (envB X scope s3) fp) _ _ _ _ at I4
  change PG (X.blk s3 H3 scope (envB X scope s3) fp) _ _ at pg
  change PTs (X.blk s3 H3 scope (envB X scope s3) fp) _ _ at pt
  change PE ((X.blk s3 H3 scope (envB X scope s3) fp).wish (OutB X s3 H3 scope (envB X scope s3) fp E)) _ _ at pe
  generalize envB X scope s3 = ce at *
  have out : ∀ u s', OutB X s3 H3 scope ce fp E u s' → notedBy (model X.prog X.w) X.A ce (fun e s2 => compPost (model X.prog X.w) X.A X.xe none (EP X pins σ Q) (.ref D) s3.heap.objs.size (.error e) s2) u s' := fun u s' o => block_out hS hf hex hx I3 hL (Nat.le_refl _) hF (fun b hb => (f3 b hb).1) o
  have st4 : tn 0 (pushCells (s3.heap.push { cls := .type "dict", data := .dict #[] }) scope.names) := T.keep _ _ _ st3 fun b _ o e => pushCells_keeps _ _ _ _ (Heap.get?_push_of_some _ e)
  have no4 : ∀ b ∈ fp, H3 b = none := fun b hb => (f3 b hb).1.1
  have frb : ∀ {σ' : L2.St} {H' : Hp} {s' : Shared}, L2.Inv (X.blk s3 H3 scope ce fp) [] σ' H' s' → (∀ b ∈ fp, H' b = none) → ∀ b ∈ fp, FpOk (X.blk s3 H3 scope ce fp) [] H' b := fun {σ' H' s'} I' hn b hb =>
    ⟨hn b hb, (I'.ok.exf b hb).1, I'.ok.exfs b hb, .inl hb, fun x c e => (I'.ok.exf b hb).2 x c e, fun p hp => by cases hp⟩
  obtain ⟨s4, e4⟩ : ∃ s4 : Shared, s4 = { s3 with heap := pushCells (s3.heap.push { cls := .type "dict", data := .dict #[] }) scope.names } := ⟨_, rfl⟩
  rw [← e4] at I4 ⊢
  have st4 : tn 0 s4.heap := by rw [e4]; exact st4
  have loop : codeAny (model X.prog X.w) X.A (.compLoop (.ListComp elt [⟨tg, iter, ifs, 0⟩] scope pos) 0 (.ref it) (.ref D) ce) (compPost (model X.prog X.w) X.A X.xe none (EP X pins σ Q) (.ref D) s3.heap.objs.size) s4 := by
    refine compLoop_any (fun n z => ∃ i H', L2.Inv (X.blk s3 H3 scope ce fp) [] (wipe σ (own.map (·.2))) H' z ∧ tn i z.heap ∧ (∀ b ∈ fp, H' b = none) ∧ W i n H') (fun n s5 hI => ?_) m0 ⟨0, H3, I4, st4, no4, w0⟩
    obtain ⟨i, H5, I5, st5, n5, w5⟩ := hI
    rcases turn i n H5 w5 with ⟨stop, qd⟩ | ⟨go, Nx, down, step⟩
    · refine thnF (T.done (X.blk s3 H3 scope ce fp) rfl rfl rfl hc i [] s5 _ H5 (fun _ _ => False) I5 (frb I5 n5) st5 stop) fun r s6 hr => ?_
      obtain ⟨er, I6⟩ := hr
      subst er
      have IX : L2.Inv X pins σ H5 s6 := I3.call' (ch := fp) I6.os I6.base I6.hok I6.bare fun b hb => let k := (f3 b hb).1; ⟨k.2.2.2.1, k.2.1, k.2.2.2.2.1, k.2.2.2.2.2⟩
      have nC : H5 s3.heap.objs.size = none := by
        have z : H5 ce.locals = none := I6.free
        rw [hL] at z
        exact z
      obtain ⟨m, hm, _⟩ := I6.loc
      have hm : s6.heap.Ns ce.locals m := hm
      rw [hL] at hm
      have k := I3.fpOk (Nat.le_refl _) nC
      exact ⟨m, hm, fun h' sb => ⟨.ref D, H5, IX.turned (t' := s6.toks) (fun b o hb e => (sb.2 b hb).trans e) k.1 k.2.1 k.2.2.2.1 k.2.2.2.2.1 k.2.2.2.2.2, rfl, qd⟩⟩
    · refine thnF (T.item (X.blk s3 H3 scope ce fp) rfl rfl rfl hc i [] s5 _ H5 (fun _ _ => False) I5 (frb I5 n5) st5 go) fun r s6 hr => ?_
      obtain ⟨u, er, h6⟩ := hr
      subst er
      refine thnF h6 fun _ s7 h7 => ?_
      obtain ⟨x, H7, I7, r7, y7, st7, n7⟩ := h7
      refine turn_out (R := compPost (model X.prog X.w) X.A X.xe none (EP X pins σ Q) (.ref D) s3.heap.objs.size) pg pt pe out (I7.pinned (frb I7 n7) (T.obj _ _ st7)) r7 (step x H7 y7) fun σ8 z H8 w8 I8 nx => ?_
      obtain ⟨m', lt, w'⟩ := down H8 nx
      have stay : ∀ b ∈ fp, ∀ o, s7.heap.get? b = some o → z.heap.get? b = some o ∧ H8 b = none := fun b hb o e =>
        let k := I8.pin (b, o) (List.mem_append_right _ (List.mem_append_right _ (mem_pinsAt hb e)))
        ⟨k.1, k.2.1⟩
      have ln : (wipe σ (own.map (·.2))).length = σ8.length := by rw [← w8, wipe_length]
      refine ⟨m', lt, i + 1, H8, (I8.unpinned (pins := [])).weak ln (fun j v e => ?_), T.keep _ _ _ st7 fun b hb o e => (stay b hb o e).1, fun b hb => ?_, w'⟩
      · rw [← w8] at e
        exact (wipe_some e).1
      · obtain ⟨o, e, _⟩ := T.obj _ _ st7 b hb
        exact (stay b hb o e).2
  exact codeAny_compStart_list loop (T.self X.A 0 _ _ _ st4 loop)
/-- what a callee lets out leaves the block -/
theorem passB {s : Shared} {H : Hp} {scope : Scope} {ce : Env} {fp : List Addr} : Passes (L2.CX X.prog X.w) ((X.blk s H scope ce fp).wish (OutB X s H scope ce fp E)) E := fun pl σ H1 s1 e s' I c => ⟨pl, σ, H1, s1, I.unwish, c⟩
end
end My
/-! text.index(sign) of a letter of the alphabet -/
namespace My
open PySem L2
/-- where a sign first stands in a text, if it stands there -/
def firstAt (x y : Str) : Nat := (Builtin.Str.occurrences x y 0 x.length 1).headD 0
theorem first_of {x y : Str} (h : Builtin.Str.occurrences x y 0 x.length 1 ≠ []) : ∃ r, Builtin.Str.occurrences x y 0 x.length 1 = firstAt x y :: r := by
  unfold firstAt
  cases e : Builtin.Str.occurrences x y 0 x.length 1 with
  | nil => exact absurd e h
  | cons a r => exact ⟨r, rfl⟩
end My
namespace My
open PySem PySem.Spec PyProof.Rows L2
/-! tracked tuples; enumerate of a tuple as a for; == of unlike things -/
theorem for_enumT {K : PySem.W.Frag} {a : Addr} {xs : List V} {g : TG} {tb : TS} {D : Ends} {σ : L2.St} {H : Hp} (Pv : Nat → L2.St → Hp → Prop) (h0 : Pv 0 σ H) (hl : ∀ i σ H, i ≤ xs.length → Pv i σ H → SqT K H a xs)
    (hs : ∀ i x T σ H, xs[i]? = some x → Pv i σ H → H T = none → g (.ref T) σ (upd H T (.tup [.int (i : Nat), x])) fun σ2 H2 => tb { D with nx := Pv (i + 1), ct := Pv (i + 1), bk := D.nx } σ2 H2) (hd : ∀ σ H, Pv xs.length σ H → D.nx σ H) :
    ∃ W : Nat → Nat → L2.St → Hp → Prop, (∃ m, W 0 m σ H) ∧ ∀ i m σ H, W i m σ H →
      ((IteT K a).stop i H ∧ D.nx σ H) ∨ ((IteT K a).go i H ∧ ∃ N : L2.St → Hp → Prop, (∀ σ' H', N σ' H' → ∃ m', m' < m ∧ W (i + 1) m' σ' H') ∧ ∀ x H', (IteT K a).yld i H x H' → g x σ H' fun σ2 H2 => tb { D with nx := N, ct := N, bk := D.nx } σ2 H2) := by
  refine ⟨fun i m σ H => m = xs.length - i ∧ i ≤ xs.length ∧ Pv i σ H, ⟨xs.length, by simp, Nat.zero_le _, h0⟩, ?_⟩
  rintro i m σ H ⟨rfl, hi, p⟩
  have q := hl i σ H hi p
  by_cases hlt : i < xs.length
  · obtain ⟨x, hx⟩ : ∃ x, xs[i]? = some x := ⟨xs[i], List.getElem?_eq_getElem hlt⟩
    refine .inr ⟨⟨xs, x, q, hx⟩, Pv (i + 1), fun σ' H' n => ⟨xs.length - (i + 1), by omega, rfl, hlt, n⟩, ?_⟩
    rintro y H' ⟨T, z, rfl, h3, rfl, h4⟩
    exact hs i z T σ H (h4 xs q) p h3
  · have e : i = xs.length := by omega
    subst e
    exact .inl ⟨⟨xs, q, rfl⟩, hd σ H p⟩
theorem EqB.or {X : Cx} {n : Nat} {D D' : EqvB} (h : EqB X n D) (h' : EqB X n D') : EqB X n (fun x y b H => D x y b H ∨ D' x y b H) := fun A pins s σ H x y u v b sb I rx ry d => by
  rcases d with d | d
  · exact h A pins s σ H x y u v b sb I rx ry d
  · exact h' A pins s σ H x y u v b sb I rx ry d
theorem MonB.or {D D' : EqvB} (h : MonB D) (h' : MonB D') : MonB (fun x y b H => D x y b H ∨ D' x y b H) := fun x y b H H' e d => d.imp (h x y b H H' e) (h' x y b H H' e)
theorem _root_.L2.Room.units65 {k : Nat} {A : Around} (r : Room k A) : A.units + 65 < cLine := by have := r.un; omega
/-- a + b of tracked tuples is one -/
theorem catA_toT {K : PySem.W.Frag} {a b : Addr} {xs ys : List V} {H : Hp} {Q : VK} (h1 : H a = some (.tup xs)) (h2 : H b = some (.tup ys)) (hz : xs.length + ys.length ≤ sizeLine) (k : ∀ (p : Addr) (H' : Hp), Same H H' → H' p = some (.tup (xs ++ ys)) → Q (.ref p) H') : rCatA K (.ref a) (.ref b) H Q :=
  ⟨a, b, xs, ys, rfl, rfl, SqT.of h1, SqT.of h2, hz, fun e => k b H (Same.refl _) (by rw [e]; exact h2), fun _ e => k a H (Same.refl _) (by rw [e, List.append_nil]; exact h1), fun _ _ p hp => k p _ (same_new hp) upd_same⟩
end My
namespace My
open PySem PySem.Spec PyProof.Rows L2
/-! a loop over the items of a locked dict whose keys are tuples -/
section
variable {X : Cx} {pins : List (Addr × Obj)} {σ : L2.St} {H : Hp} {s : Shared} {d : Addr} {o : Obj}
/-- the entries of a locked dict with tuple keys, keys and values told -/
theorem frzT_told {kvs : List (List Key × V)} (I : L2.Inv X pins σ H s) (h : H d = some (.frz o (.dT kvs))) :
    (d == sysModules) = false ∧ s.heap.get? d = some o ∧ o.ExactDict ∧ ∃ (es : Array DictEntry) (ep : Nat), o.data = .dict es ep ∧ es.size = kvs.length ∧
      ∀ (i : Nat) (hi : i < es.size) (k : List Key) (v : V), kvs[i]? = some (k, v) → ∃ q : Addr, es[i].key = .ref q ∧ H q = some (.tup (k.map kV)) ∧ RelV v es[i].val := by
  obtain ⟨hg, _, hsys, xs, pr, o2, es, ep, hg2, hex, hdat, hes, _⟩ := I.hok d _ h
  obtain rfl : o = o2 := Option.some.inj (hg.symm.trans hg2)
  have hlx : kvs.length = xs.length := Paired.length pr
  have hle : es.size = xs.length := by
    have := congrArg List.length hes
    rw [Array.length_toList, List.length_map] at this
    exact this
  refine ⟨hsys, hg, hex, es, ep, hdat, hle.trans hlx.symm, fun i hi k v hk => ?_⟩
  obtain ⟨x, hx, e1, e2, e3⟩ := paired_get pr hk
  have he : es.toList[i]? = some (entryOfKey (tupleKind (mixKind X.prog X.w)) x) := by
    rw [hes, List.getElem?_map, hx]
    rfl
  rw [Array.getElem?_toList, Array.getElem?_eq_getElem hi] at he
  rw [Option.some.inj he]
  exact ⟨x.2.1, rfl, e2, e3⟩
end
/-- the pairs of a key's own tuple and a value, each a new tuple -/
def ItT (d : Addr) (o : Obj) (kvs : List (List Key × V)) : It :=
  ⟨fun i H => H d = some (.frz o (.dT kvs)) ∧ i < kvs.length,
   fun i H x H' => ∃ (T q : Addr) (k : List Key) (v : V), kvs[i]? = some (k, v) ∧ H q = some (.tup (k.map kV)) ∧ x = .ref T ∧ H T = none ∧ H' = upd H T (.tup [.ref q, v]),
   fun i H => H d = some (.frz o (.dT kvs)) ∧ kvs.length ≤ i⟩
theorem turn_ItT {P : Program} {w : World} {K : PySem.W.Frag} {d : Addr} {o : Obj} {es : Array DictEntry} {ep : Nat} {kvs : List (List Key × V)} {elts : List Expr} {kk : Nat} {tpos : Pos} (it : Addr) (hod : o.data = .dict es ep) (hn : es.size = kvs.length) :
    Turn P w K (.Tuple elts kk tpos) (ItT d o kvs) [it] it (fun i h => ∃ ok ov, IsItemIter h it d i es.size ep ok ov) where
  mem := List.mem_singleton.mpr rfl
  obj := fun i h st b hb => by
    obtain ⟨_, _, e⟩ := st
    rw [List.mem_singleton.mp hb]
    exact ⟨_, e, fun _ z => nomatch z⟩
  keep := fun i h h' st k => by
    obtain ⟨u1, u2, e⟩ := st
    exact ⟨u1, u2, k it (List.mem_singleton.mpr rfl) _ e⟩
  item := by
    intro X hP hw hK hc i pins s σ H E I hf st hg
    subst hP hw hK
    obtain ⟨hgo, hlt⟩ := hg
    obtain ⟨_, hg0, hex, es2, ep2, hdat, _, told⟩ := frzT_told I hgo
    have z := hod.symm.trans hdat
    injection z with z1 z2
    subst z1 z2
    have hi : i < es.size := by omega
    have hkv : kvs[i]? = some kvs[i] := List.getElem?_eq_getElem hlt
    obtain ⟨q, ek, hq, rv⟩ := told i hi kvs[i].1 kvs[i].2 hkv
    obtain ⟨u1, u2, e⟩ := st
    have hiz : it < s.heap.objs.size := Heap.lt_size e
    refine DT.nextI e ⟨o, hg0, hex, hod⟩ hi fun h1 e1 t1 z1 kp1 => ?_
    refine ⟨_, rfl, wpAny_letOwnedTupleGo_items (s := { s with heap := h1 }) e1 fun h2 e2 sb => ?_⟩
    have t2 : h2.get? s.heap.objs.size = some { cls := .type "tuple", data := .seq #[es[i].key, es[i].val] } := (sb.2 _ (Nat.ne_of_gt hiz)).trans t1
    have new : ObjOk X.prog X.w (upd H s.heap.objs.size (.tup [.ref q, kvs[i].2])) h2 s.heap.objs.size (.tup [.ref q, kvs[i].2]) :=
      ⟨by show 2 ≤ sizeLine; decide, [es[i].key, es[i].val], .cons ek (.cons rv .nil), ⟨_, t2, rfl, _, rfl⟩⟩
    have I2 : L2.Inv X pins σ (upd H s.heap.objs.size (.tup [.ref q, kvs[i].2])) { s with heap := h2 } :=
      I.turnedNew (t' := s.toks) (ch := [it]) (fun b ob hb eb => by
        have hne : b ≠ it := fun x => hb (List.mem_singleton.mpr x)
        exact (sb.2 b hne).trans (kp1 b ob hne eb)) hf (Nat.le_refl _) new
    refine ⟨.ref s.heap.objs.size, _, I2, rfl, ⟨_, q, kvs[i].1, kvs[i].2, hkv, hq, rfl, I.hok.fresh (Nat.le_refl _), rfl⟩, ⟨_, _, e2⟩, fun b hb => ?_⟩
    rw [List.mem_singleton.mp hb, upd_ne (Nat.ne_of_lt hiz)]
    exact (hf it (List.mem_singleton.mpr rfl)).1
  done := by
    intro X hP hw hK hc i pins s σ H E I hf st hg
    subst hP hw hK
    obtain ⟨hgo, hge⟩ := hg
    obtain ⟨f0, f1, _, f3, f4, f5⟩ := hf it (List.mem_singleton.mpr rfl)
    obtain ⟨_, hg0, hex, es2, ep2, hdat, _, _⟩ := frzT_told I hgo
    have z := hod.symm.trans hdat
    injection z with z1 z2
    subst z1 z2
    obtain ⟨u1, u2, e⟩ := st
    exact DT.endI (I.ok.hd hc) e ⟨o, hg0, hex, hod⟩ (by omega) fun h1 eb => ⟨rfl, I.turned (t' := s.toks) (fun b ob hb x => eb b ob hb x) f0 f1 f3 f4 f5⟩
  self := fun A i s Q E st h => by
    obtain ⟨_, _, e⟩ := st
    exact PySem.W.kcp_self e h
def iItemsT (td : TE) : TI := fun σ H R => td σ H fun x H1 => ∃ d o kvs, x = .ref d ∧ H1 d = some (.frz o (.dT kvs)) ∧ R (ItT d o kvs) H1
theorem pi_itemsT {X : Cx} {e : Expr} {td : TE} {apos cpos : Pos} {elts : List Expr} {kk : Nat} {tpos : Pos} (he : PE X e td) (hbase : attributeBase e "items" X.env (eval e X.env) = eval e X.env := by rfl) (hline : (apos.endLine == cpos.line) = true := by rfl) :
    PI X (.Tuple elts kk tpos) (.Call (.Attribute e "items" apos) [] [] cpos) (iItemsT td) := by
  refine ⟨fun pins s σ H R I h => ?_⟩
  refine wpAny_Call_method (T := "dict") (id := "dict.items") hbase rfl hline F.plainAttrs_dict F.slot_dict_items F.type_dict_items (thn (he.run pins s σ H _ I h) fun u s1 ⟨x, H1, I1, rx, d, o, kvs, ex, hd, q⟩ => ?_)
  subst ex
  obtain rfl : u = Value.ref d := rx
  obtain ⟨hsys, hg0, hex, es, ep, hdat, hn, _⟩ := frzT_told I1 hd
  have hraw : DT.Raw s1.heap d es ep := ⟨o, hg0, hex, hdat⟩
  refine ⟨hraw.typeIs, ?_, ?_⟩
  · intro b hb
    obtain rfl : d = b := Value.ref.inj hb
    exact ⟨o, hg0, hex.2.1⟩
  · have I2 : L2.Inv X pins σ H1 { s1 with heap := s1.heap.push { cls := .type "dict_items", data := .fields #[.ref d] } } := I1.kept (t' := s1.toks) fun b ob q => Heap.get?_push_of_some _ q
    have fin : wpAny (model X.prog X.w) X.A (pyIter (.ref s1.heap.objs.size)) (PIE X pins σ (.Tuple elts kk tpos) R) X.xe { s1 with heap := s1.heap.push { cls := .type "dict_items", data := .fields #[.ref d] } } := by
      refine DT.iterI ⟨_, Heap.get?_push_size _ rfl, rfl, rfl⟩ (hraw.push _) (pi_one (tk := s1.toks) I2 _ (turn_ItT _ hdat hn) ⟨.none, .none, ?_⟩ q)
      exact Heap.get?_push_size _ rfl
    show wpAny _ _ (callWith cpos (.builtin "dict.items") [.ref d] [] []) _ X.xe s1
    exact method_meetsIn F.slot_dict_items F.entry_dict_items rfl (PySem.evalArgs_none ⟨rfl, hraw.typeIs, F.args_dict_items_1 _, _, DT.meetsItems (es := es) (ep := ep) hsys, hraw, fin⟩)
theorem for_itemsT {d : Addr} {o : Obj} {kvs : List (List Key × V)} {g : TG} {tb : TS} {D : Ends} {σ : L2.St} {H : Hp} (Pv : Nat → L2.St → Hp → Prop) (h0 : Pv 0 σ H) (hl : ∀ i σ H, i ≤ kvs.length → Pv i σ H → H d = some (.frz o (.dT kvs)))
    (hs : ∀ i k v q T σ H, kvs[i]? = some (k, v) → H q = some (.tup (k.map kV)) → Pv i σ H → H T = none → g (.ref T) σ (upd H T (.tup [.ref q, v])) fun σ2 H2 => tb { D with nx := Pv (i + 1), ct := Pv (i + 1), bk := D.nx } σ2 H2) (hd : ∀ σ H, Pv kvs.length σ H → D.nx σ H) :
    ∃ W : Nat → Nat → L2.St → Hp → Prop, (∃ m, W 0 m σ H) ∧ ∀ i m σ H, W i m σ H →
      ((ItT d o kvs).stop i H ∧ D.nx σ H) ∨ ((ItT d o kvs).go i H ∧ ∃ N : L2.St → Hp → Prop, (∀ σ' H', N σ' H' → ∃ m', m' < m ∧ W (i + 1) m' σ' H') ∧ ∀ x H', (ItT d o kvs).yld i H x H' → g x σ H' fun σ2 H2 => tb { D with nx := N, ct := N, bk := D.nx } σ2 H2) := by
  refine ⟨fun i m σ H => m + i = kvs.length ∧ Pv i σ H, ⟨kvs.length, rfl, h0⟩, fun i m σ H ⟨hm, p⟩ => ?_⟩
  have q := hl i σ H (by omega) p
  cases m with
  | zero =>
    obtain rfl : i = kvs.length := by omega
    exact .inl ⟨⟨q, Nat.le_refl _⟩, hd σ H p⟩
  | succ m =>
    refine .inr ⟨⟨q, by omega⟩, Pv (i + 1), fun σ' H' n => ⟨m, by omega, by omega, n⟩, fun x H' hy => ?_⟩
    obtain ⟨T, t, k, v, h1, h2, rfl, h3, rfl⟩ := hy
    exact hs i k v t T σ H h1 h2 p h3
/-! {k: v} where k is a tuple -/
def tDispT1 (tk tv : TE) : TE := fun σ H Q => ∀ p, H p = none → tk σ (upd H p (.dT [])) fun x H1 => tv σ H1 fun y H2 => ∃ (b : Addr) (k : List Key), x = .ref b ∧ H2 p = some (.dT []) ∧ H2 b = some (.tup (k.map kV)) ∧ Q (.ref p) (upd H2 p (.dT [(k, y)]))
theorem pe_dispT1 {X : Cx} {pos : Pos} {k v : Expr} {tk tv : TE} (hu : X.A.units + 1 < cLine) (hk : PE X k tk) (hv : PE X v tv) : PE X (.Dict [some k] [v] pos) (tDispT1 tk tv) := by
  refine ⟨fun pins s σ H Q I q => ?_⟩
  have hn := I.hok.fresh (Nat.le_refl s.heap.objs.size)
  have I1 := I.laid (a := s.heap.objs.size) (o := .dT []) (h' := s.heap.push { cls := .type "dict", data := .dict #[] }) (t' := s.toks) (fun _ _ q => Heap.get?_push_of_some _ q) (Nat.le_refl _) (dt_empty s.heap I.big)
  refine wpAny_Dict_any rfl rfl (fun z => nomatch z) (by show 1 ≤ 15; decide) (thn ((pps_cons hk hv pps_nil).run pins _ σ _ (fun ps H2 => match ps with | [(x, y)] => ∃ (b : Addr) (k : List Key), x = .ref b ∧ H2 s.heap.objs.size = some (.dT []) ∧ H2 b = some (.tup (k.map kV)) ∧ Q (.ref s.heap.objs.size) (upd H2 s.heap.objs.size (.dT [(k, y)])) | _ => False) I1 (q _ hn)) fun ws s2 hx => ?_)
  obtain ⟨ps, H2, I2, rel, hx⟩ := hx
  split at hx
  · rename_i x y
    obtain ⟨b, kk, rfl, e, eb, q2⟩ := hx
    cases rel with
    | @cons a1 b1 as bs r1 r2 =>
    cases r2
    obtain ⟨u, r⟩ := b1
    obtain ⟨ru, ry⟩ := r1
    cases (show u = Value.ref b from ru)
    obtain ⟨z, hd, xs, kt, dd⟩ := dt_of I2.hok e
    cases kt
    refine wpAny_storeAllH (knd := tupleKind (mixKind X.prog X.w)) (show X.A.units < cLine by omega) [(.ref b, r)] [(kk, b, r)] [] s2 _ ⟨rfl, rfl, key_of I2.hok eb, trivial⟩ dd (by rw [sizeLine_eq]; show 0 + 1 ≤ 16777216; decide) fun h' tk' dd' hs => ⟨.ref s.heap.objs.size, _, ?_, rfl, q2⟩
    obtain ⟨o, es, ep, ho, h2, h3, h4, _, h5⟩ := dd'
    refine d_write I2 (by rw [e]; exact True.intro) hs ⟨o, ho⟩ ⟨(by rw [sizeLine_eq]; show 1 ≤ 16777216; decide), hd, [(kk, b, r)], .cons ⟨rfl, ?_, ry⟩ .nil, o, es, ep, ho, h2, h3, h4, h5⟩
    rw [upd_ne (ne_of eb e (fun z => nomatch z))]
    exact eb
  · exact hx.elim
end My
namespace My
open PySem PySem.Spec PyProof.Rows L2 LamX
/-! sorted(t, key=lambda x: x.f) of a tuple -/
open PySem.W in
theorem sorted_key_dataT {prog : Program} {w : World} {A : Around} {E : Value → Shared → Prop} {s : Shared} {β : Type} {R : Value → β → Prop} {vs : List Value} {bs : List β} {l : Addr} {f : Value} {kw : List (Str × Value)} {b : Bool} {Q : Value → Shared → Prop} (k : β → PyData) (hl : IsTup s.heap l vs.toArray) (e : EachIs R vs bs) (hal : AllAlike (bs.map k)) (hk : Sortable (bs.map k)) (hL : bs.length ≤ sizeLine)
    (hu : ∀ x, x ∈ bs → A.units + 2 + (k x).depth < cLine) (ha1 : argsOk "sorted" ⟨[.ref l], kw⟩) (ha2 : ∀ x, argsOk "list.sort" ⟨[.ref x], kw⟩) (ht : ∀ x, Builtin.«list.sort» ⟨[.ref x], kw⟩ = ksk_tree x f b)
    (turn : ∀ (v : Value) (x : β), R v x → x ∈ bs → ∀ (h : Heap) (tk : Nat), (∀ b o, s.heap.get? b = some o → h.get? b = some o) →
      wpAny (model prog w) A.in1.in1 (call f [v]) (KeyPure (k x) { s with heap := h, toks := tk }) (fun _ _ => False) { s with heap := h, toks := tk })
    (h : ∀ out c h' tk (h1 : Heap), (∀ b o, s.heap.get? b = some o → h1.get? b = some o) → (∀ b o, h1.get? b = some o → h'.get? b = some o) → h'.get? h1.objs.size = some (seqObj "list" (List.toArray out) c) → out.length = bs.length → EachIs R out (bs.mergeSort (dataLe b k)) →
      Q (.ref h1.objs.size) { s with heap := h', toks := tk }) :
    wpAny (model prog w) A (call (.builtin "sorted") [.ref l] kw) Q E s := by
  obtain ⟨o, ho, hcl, n, hd⟩ := id hl
  have big : vs.length ≤ sizeLine := by rw [e.length]; exact hL
  refine call_function_entry_kw kind_sorted plain_sorted entry_sorted ha1 ?_
  refine wpAny_bind (wpAny_pure ?_)
  refine wpAny_bind (wpAny_collect_seq l (.inr rfl) ho hcl hd (fun h1 keep => ?_) (by rw [List.size_toArray]; exact big))
  refine wpAny_bind (wpAny_newList ?_ big)
  refine wpAny_bind (wpAny_holding ?_)
  have fr : s.heap.get? h1.objs.size = none := by
    cases z : s.heap.get? h1.objs.size with
    | none => rfl
    | some u => exact absurd (Heap.lt_size (keep _ _ z)) (Nat.lt_irrefl _)
  have ho1 : (h1.push { cls := .type "list", data := .seq vs.toArray }).get? h1.objs.size = some (seqObj "list" vs.toArray 0) := Heap.get?_push_size _ rfl
  have up : ∀ {g : Heap}, KeepsBut h1.objs.size (h1.push { cls := .type "list", data := .seq vs.toArray }) g → ∀ b o, s.heap.get? b = some o → g.get? b = some o := fun {g} kp b o q =>
    kp b o (fun z => by rw [z, fr] at q; cases q) (Heap.get?_push_of_some _ (keep b o q))
  refine list_sort_key_data (A := A.in1) (s := { s with heap := h1.push { cls := .type "list", data := .seq vs.toArray } }) k ho1 e hal hk hL (fun x hx => hu x hx) (ha2 _) (ht _) (fun v x hR hx g tk kp => turn v x hR hx g tk (up kp)) fun out c h' tk kp hD hlen hE => ?_
  exact wpAny_pure ⟨_, rfl, h out c h' tk h1 keep (fun b o q => kp b o (Nat.ne_of_lt (Heap.lt_size q)) (Heap.get?_push_of_some _ q)) hD hlen hE⟩
def tSortLamT (K : PySem.W.Frag) (T : List (Addr × Str)) (RK : Hp → V → Str → Prop) (te : TE) : TE := fun σ H Q => te σ H fun v H1 => Tabs T H1 ∧ ∃ (a : Addr) (bs : List (V × Str)), v = .ref a ∧ SqT K H1 a (bs.map (·.1)) ∧ (∀ b ∈ bs, RK H1 b.1 b.2) ∧
  ∀ (p : Addr) (H2 : Hp), ExtN H1 H2 → Tabs T H2 → H2 p = none → Q (.ref p) (upd H2 p (.lst ((sortBy bs).map (·.1))))
section
variable {X : Cx}
theorem pe_sortLamTP {T : List (Addr × Str)} {te : TE} {c P : Addr} {k : Nat} {e : Expr} {params : Arguments} {body : Expr} {scope : Scope} {x : Str} {p lpos kpos pos : Pos} {R : Heap → Value → Str → Prop} {RK : Hp → V → Str → Prop}
    (hkey : KeyEP X.K X.prog X.w scope x body R) (hR : ∀ pins s σ H b u v, Inv X pins σ H s → RK H b u → RelV b v → R s.heap v u) (hRk : ∀ (h h' : Heap) v u, (∀ b o, h.get? b = some o → h'.get? b = some o) → R h v u → R h' v u) (hRe : ∀ H H' b u, ExtN H H' → RK H b u → RK H' b u)
    (hg : Gl X "sorted") (hm : X.mg "sorted" = none) (ha : PE X e te) (TB : TabB X.base X.mg c P) (hcode : X.env.code = .ref c) (hmT : (P, X.env.qual ++ "<lambda>") ∈ T) (hu : ∀ p ∈ T, p.1 = P → p.2 = X.env.qual ++ "<lambda>") (hr : Room k X.A)
    (hdef : defaultsOf params X.env = ([], [])) (hkind : scope.kind = .function) (hco : scope.isCoroutine = false) (hgen : scope.isGenerator = false) (hnames : ∀ y ∈ scope.names, y.2 ≠ .free ∧ y.2 ≠ .cell) (hx : scope.names.lookup x = some .local)
    (hbind : ∀ (q : Str) (cl : List (Str × Addr)) (pm cv ctv v : Value), bindArgs (PySem.W.kla_fn "<lambda>" q params body scope cl pm cv ctv) ⟨[v], []⟩ = pure [(x, v)])
    (hst : starEach [e] X.env = (false, eval e X.env) :: starEach [] X.env := by rfl) (he : backTo pos (starEach [e] X.env) = (false, eval e X.env) :: backTo pos (starEach [] X.env) := by rfl) (hpl : (backTo pos (starEach [e] X.env)).any (·.1) = false := by rfl) :
    PE X (.Call (.Name "sorted" p) [e] [⟨some "key", .Lambda params body scope lpos, kpos⟩] pos) (tSortLamT X.K T RK te) := by
  refine ⟨fun pins s σ H Q I h => ?_⟩
  refine wpAny_Call_Name_kw (ld_blt (u := .builtin "sorted") I hg hm (by decide +kernel) ?_ (by decide) (by decide))
  refine PyProof.Rows.callWith_kw (thn ((pa_cons ha pa_nil hst).run pos pins s σ H (fun vs H1 => match vs with | [v] => Tabs T H1 ∧ ∃ (a : Addr) (bs : List (V × Str)), v = .ref a ∧ SqT X.K H1 a (bs.map (·.1)) ∧ (∀ b ∈ bs, RK H1 b.1 b.2) ∧ ∀ (p : Addr) (H2 : Hp), ExtN H1 H2 → Tabs T H2 → H2 p = none → Q (.ref p) (upd H2 p (.lst ((sortBy bs).map (·.1)))) | _ => False) I h) fun us s1 ⟨vs, H1, I1, r1, q1⟩ => ?_) he hpl rfl rfl
  obtain ⟨v, rfl⟩ : ∃ v, vs = [v] := by
    match vs, q1 with
    | [v], _ => exact ⟨v, rfl⟩
  obtain ⟨hT, a, bs, rfl, hL, hK, q⟩ := q1
  obtain rfl := Vals.ref1 r1
  show wpAny _ _ (evalAll [do let v ← eval (.Lambda params body scope lpos) X.env; standAt pos; pure v]) _ _ s1
  refine wpAny_evalAll_cons (wpAny_bind (lam_make2 I1 TB hcode hmT hu hT hdef (fun y hy z => absurd z (hnames y hy).1) fun f c' pm ctv H2 s2 I2 eN T2 hf hfn hfr hco' => wpAny_bind (wpAny_standAt (wpAny_pure (wpAny_evalAll_nil ?_)))))
  show wpAny (model X.prog X.w) X.A (call (.builtin "sorted") [.ref a] [("key", .ref f)]) _ _ s2
  have hL2 := (extN_imm eN).seqT hL
  obtain ⟨its, rv, hl, hz⟩ := I2.tuple hL2
  obtain ⟨⟨oc, cvs, ct, hoc, hdc, hvc⟩, _, _⟩ := I2.hok c' _ hco'
  have hbs : ∀ (l : List (V × Str)) (us : List Value), Vals (l.map (·.1)) us → (∀ b ∈ l, b ∈ bs) → PySem.W.EachIs (fun (v : Value) (b : V × Str) => RelV b.1 v ∧ R s2.heap v b.2) us l := by
    intro l
    induction l with
    | nil =>
      intro us r _
      cases r
      exact .nil
    | cons b l ih =>
      intro us r m
      cases r with
      | cons r1 r2 => exact .cons ⟨r1, hR pins s2 σ H2 b.1 b.2 _ I2 (hRe _ _ _ _ eN (hK b (m b (.head _)))) r1⟩ (ih _ r2 fun b' h' => m b' (.tail _ h'))
  have e := hbs bs its rv fun _ h => h
  refine sorted_key_dataT (R := fun (v : Value) (b : V × Str) => RelV b.1 v ∧ R s2.heap v b.2) (b := false) keyD hl e ?_ ?_ ?_ ?_ (PyProof.Rows.ksk_s1 _ _) (fun _ => PyProof.Rows.ksk_l1 _ _) (fun x => PyProof.Rows.ksk_t1 f x) (fun v b hb hm' g tk kp => ?_) fun out cc h' tk h1 kp1 kp hD hlen hout => ?_
  · intro d hd d' hd'
    obtain ⟨b, _, rfl⟩ := List.mem_map.mp hd
    obtain ⟨b', _, rfl⟩ := List.mem_map.mp hd'
    rfl
  · refine .inr fun d hd => ?_
    obtain ⟨b, _, rfl⟩ := List.mem_map.mp hd
    exact ⟨nofun, fun _ => nofun⟩
  · rw [List.length_map] at hz
    exact hz
  · intro b _
    have := hr.units
    show X.A.units + 2 + (PyData.str b.2).depth < _
    have z : (PyData.str b.2).depth ≤ 1 := by show _ ≤ 1; simp [PyData.depth]
    omega
  · have of1 := kp _ _ hf
    refine wpAny_call ?_
    refine PySem.W.kla_callFunE (by have := hr.dp; show X.A.depth < _; omega) of1 rfl hco hgen rfl ⟨c', oc, cvs, ct, rfl, kp _ _ hoc, hdc, hvc⟩ ?_
    rw [hbind]
    refine wpAny_pure (wpAny_newFunctionEnv (fun y hy => (hnames y hy).2) (fun y hy => ?_) (fun h₁ hns hsb => ⟨(I2.nolimit.keeps kp).fresh _ hsb, ?_⟩) hkind)
    · obtain rfl := List.mem_singleton.mp hy
      exact hx
    · have kp1 : ∀ b o, g.get? b = some o → h₁.get? b = some o := fun b o e => hsb.extBut b o (Nat.ne_of_lt (Heap.lt_size e)) (Heap.get?_push_of_some _ e)
      refine PySem.W.kla_codeExpr (wpAny_mono (hkey _ _ (fun _ _ => False) v b.2 _ _ rfl hns (by simp) (hRk _ _ _ _ kp1 (hRk _ _ _ _ kp hb.2)) ((I2.kIn.keeps kp).keeps kp1) ((I2.nolimit.keeps kp).fresh _ hsb) (by have := hr.dp; show X.A.depth + 1 + 3 < _; omega)) (fun y s3 hq => ?_) fun _ _ z => z.elim)
      obtain ⟨⟨t, rfl⟩, h3, tk3, rfl, kp3⟩ := hq
      exact ⟨h3, tk3, rfl, fun b o e => kp3 b o (kp1 b o e), .str _ _⟩
  · have hv : ∀ (l : List (V × Str)) (us : List Value), PySem.W.EachIs (fun (v : Value) (b : V × Str) => RelV b.1 v ∧ R s2.heap v b.2) us l → Vals (l.map (·.1)) us := by
      intro l us e
      induction e with
      | nil => exact .nil
      | cons r _ ih => exact .cons r.1 ih
    have I3 := I2.kept (t' := tk) kp1
    refine ⟨.ref _, upd H2 h1.objs.size (.lst ((sortBy bs).map (·.1))), I3.laid (t' := tk) kp (Nat.le_refl _) ⟨?_, out, cc, hv _ _ hout, hD⟩, rfl, q _ H2 eN T2 (I3.hok.fresh (Nat.le_refl _))⟩
    rw [List.length_map, (sortBy_perm bs).length_eq]
    rw [List.length_map] at hz
    exact hz
/-- sorted(xs, key=lambda x: x.f), f a property that returns a text of the instance -/
theorem pe_sortPropTP {te : TE} {c P C p g : Addr} {k : Nat} {e : Expr} {params : Arguments} {scope : Scope} {x f fld y qual : Str} {st : Stmt} {fd : FuncData} {pp q1 q2 lpos kpos pos p1 p2 p3 : Pos}
    (hg : Gl X "sorted") (hm : X.mg "sorted" = none) (ha : PE X e te) (TB : TabB X.base X.mg c P) (hcode : X.env.code = .ref c) (hr : Room k X.A)
    (cl : Cls X.K C) (hp : PropOf X.K C f p g) (F : Fun X.K y qual st g fd) (hb : Binds X.K fd ["self"] []) (n : NoAttr X.K C fld) (hbody : defBody st = [.Return (some (.Attribute (.Name "self" p1) fld p2)) p3] := by rfl)
    (hk2 : (defScope st).kind = .function := by rfl) (hco2 : (defScope st).isCoroutine = false := by rfl) (hge2 : (defScope st).isGenerator = false := by rfl) (hself : (defScope st).names.lookup ("self" : Str) = some NameKind.local := by rfl) (nocell : ∀ y ∈ (defScope st).names, y.2 ≠ .cell := by decide +kernel)
    (hdef : defaultsOf params X.env = ([], []) := by rfl) (hkind : scope.kind = .function := by rfl) (hco : scope.isCoroutine = false := by rfl) (hgen : scope.isGenerator = false := by rfl) (hnames : ∀ y ∈ scope.names, y.2 ≠ .free ∧ y.2 ≠ .cell := by decide +kernel) (hx : scope.names.lookup x = some .local := by rfl)
    (hbind : ∀ (q : Str) (cl : List (Str × Addr)) (pm cv ctv v : Value), bindArgs (PySem.W.kla_fn "<lambda>" q params (.Attribute (.Name x q1) f q2) scope cl pm cv ctv) ⟨[v], []⟩ = pure [(x, v)] := by intros; rfl)
    (hd : (x == ("__debug__" : Str)) = false := by decide) (hst : starEach [e] X.env = (false, eval e X.env) :: starEach [] X.env := by rfl) (he : backTo pos (starEach [e] X.env) = (false, eval e X.env) :: backTo pos (starEach [] X.env) := by rfl) (hpl : (backTo pos (starEach [e] X.env)).any (·.1) = false := by rfl) :
    PE X (.Call (.Name "sorted" pp) [e] [⟨some "key", .Lambda params (.Attribute (.Name x q1) f q2) scope lpos, kpos⟩] pos) (tSortLamT X.K [(P, X.env.qual ++ "<lambda>")] (RKi C fld) te) := by
  refine pe_sortLamTP (x := x) (R := InsK C fld) (RK := RKi C fld) (key_prop hkind hx hd cl hp F hk2 hco2 hge2 hb n hbody hself nocell) (fun pins s σ H b u v I r rv => ?_) (fun h h' v u e r => insK_keep e r) (fun H H' b u e r => ?_) hg hm ha TB hcode (.head _) (fun q hq _ => by rw [List.mem_singleton.mp hq]) hr hdef hkind hco hgen hnames hx hbind hst he hpl
  · obtain ⟨a, dx, fs, rfl, ea, l⟩ := r
    obtain rfl : v = .ref a := rv
    obtain ⟨mA, O, r, _, _, _⟩ := ins_get I.hok ea
    obtain ⟨t, ht, rt⟩ := RelO.some_of (v := .str u) (o := mA fld) (by rw [← l]; exact r fld)
    obtain ⟨tk, rfl⟩ := rt
    exact ⟨a, dx, mA, tk, rfl, O, ht⟩
  · obtain ⟨a, dx, fs, rfl, ea, l⟩ := r
    exact ⟨a, dx, fs, rfl, e _ _ ea (fun _ z => nomatch z), l⟩
end
end My
namespace My
open PySem PySem.Spec PyProof.Rows L2
section
variable {X : Cx}
/-- t.count(x), t a tuple of texts -/
theorem mt_tup_countS : MtR X "tuple.count" (fun x xs H Q => ∃ (p : Addr) (ys : List Str) (z : Str), x = .ref p ∧ xs = [.str z] ∧ SqT X.K H p (ys.map V.str) ∧ Q (.int (ys.count z : Nat)) H) := by
  intro pins s σ H x xs v us Q I rx rs h
  obtain ⟨p, ys, z, rfl, rfl, hq, q⟩ := h
  cases rx
  obtain ⟨u, rfl, t, rfl⟩ := vals1 rs
  obtain ⟨its, r, pl, hz⟩ := I.tuple hq
  obtain ⟨⟨cls, dd, dt, sl⟩, ho, hc, n, hd⟩ := pl
  simp only at hc hd
  subst hc
  subst hd
  have e : ∀ (ws : List Str) (us : List Value), Vals (ws.map V.str) us → us.countP (eqU (.str z)) = ws.count z := by
    intro ws
    induction ws with
    | nil =>
      intro us r
      cases r
      rfl
    | cons w ws ih =>
      intro us r
      cases r with
      | cons r1 r2 =>
        rw [List.countP_cons, ih _ r2, List.count_cons, eqU_of r1 rfl]
        rfl
  refine call_meets PySem.F.slot_tuple_count ⟨_, ho, rfl⟩ PySem.F.entry_tuple_count (PySem.F.args_tuple_count_2 _ _) (SeqAt.tuple_countAt p its.toArray n dd sl (.str z t) (eqU (.str z)))
    ⟨ho, fun w hw => mem_eqAt (x := .str z) ⟨t, rfl⟩ rfl r (flat_strs ys) w (by simpa using hw), ⟨.int (ys.count z : Nat), H, I.tok _, ⟨s.toks, by rw [show its.toArray.toList = its from rfl, e ys its r]⟩, q⟩⟩
end
end My
namespace My
open PySem PySem.Spec PyProof.Rows L2
section
variable {X : Cx}
/-! sorted of a list of data that can be compared place by place: the items told by their data -/
def sortD (bs : List (V × PyData)) : List (V × PyData) := bs.mergeSort (PySem.W.dataLe false fun b => b.2)
theorem sortD_perm (bs : List (V × PyData)) : (sortD bs).Perm bs := List.mergeSort_perm _ _
def rSortedD (K : PySem.W.Frag) : List V → Hp → VK → Prop := fun xs H Q => ∃ (a : Addr) (bs : List (V × PyData)), xs = [.ref a] ∧ SqL K H a (bs.map (·.1)) ∧ (∀ b ∈ bs, Dp K H b.1 b.2 ∧ b.2.depth ≤ 32) ∧ PySem.W.AllAlike (bs.map (·.2)) ∧ PySem.W.Sortable (bs.map (·.2)) ∧
  ∀ p, H p = none → Q (.ref p) (upd H p (.lst ((sortD bs).map (·.1))))
theorem cr_sortedD (hu : X.A.units + 64 < cLine) : CallR X (.builtin "sorted") (rSortedD X.K) := by
  intro pins s σ H xs us Q I r h
  obtain ⟨a, bs, rfl, hq, hb, hal, hk, q⟩ := h
  obtain rfl := Vals.ref1 r
  obtain ⟨its, rv, hl, hz⟩ := I.list hq
  have hbs : ∀ (l : List (V × PyData)) (us : List Value), Vals (l.map (·.1)) us → (∀ b ∈ l, b ∈ bs) → PySem.W.EachIs (fun (v : Value) (b : V × PyData) => RelV b.1 v) us l ∧ PySem.W.EachIs (fun (v : Value) (b : V × PyData) => ∃ as, Reads s.heap v b.2 as) us l := by
    intro l
    induction l with
    | nil =>
      intro us r _
      cases r
      exact ⟨.nil, .nil⟩
    | cons b l ih =>
      intro us r m
      cases r with
      | cons r1 r2 =>
        obtain ⟨i1, i2⟩ := ih _ r2 fun b' h' => m b' (.tail _ h')
        exact ⟨.cons r1 i1, .cons (L2.Dp.reads I b.2 b.1 _ (hb b (m b (.head _))).1 r1) i2⟩
  obtain ⟨e1, e2⟩ := hbs bs its rv fun _ h => h
  refine PySem.W.sorted_data (R := fun (v : Value) (b : V × PyData) => RelV b.1 v) (enc := fun b => b.2) hl.isList e1 e2 hal hk (by rw [List.length_map] at hz; exact hz) (fun b hb' => by have := (hb b hb').2; omega) fun out hlen hE => ?_
  have hv : ∀ (l : List (V × PyData)) (us : List Value), PySem.W.EachIs (fun (v : Value) (b : V × PyData) => RelV b.1 v) us l → Vals (l.map (·.1)) us := by
    intro l us e
    induction e with
    | nil => exact .nil
    | cons r _ ih => exact .cons r ih
  obtain ⟨c, hat⟩ := sortedAll_at s.heap its out.toArray
  have big : ((sortD bs).map (·.1)).length ≤ sizeLine := by
    rw [List.length_map, (sortD_perm bs).length_eq]
    rw [List.length_map] at hz
    exact hz
  exact ⟨.ref _, upd H (s.heap.objs.size + 1) (.lst ((sortD bs).map (·.1))), I.laid (t' := s.toks) (fun _ _ e => sortedAll_old e) (Nat.le_succ _) ⟨big, out, c, hv _ _ hE, hat⟩, rfl, q _ (I.hok.fresh (Nat.le_succ _))⟩
end
end My
namespace My
open PySem PySem.Spec PyProof.Rows L2 LamX
/-! sorted by a lambda among several tables: of a tuple by a property, of a list of tuples by the first -/
section
variable {X : Cx}
/-- sorted(xs, key=lambda x: x.f), f a property that returns a text of the instance -/
theorem pe_sortPropTT {T : List (Addr × Str)} {te : TE} {c P C p g : Addr} {k : Nat} {e : Expr} {params : Arguments} {scope : Scope} {x f fld y qual : Str} {st : Stmt} {fd : FuncData} {pp q1 q2 lpos kpos pos p1 p2 p3 : Pos}
    (hmT : (P, X.env.qual ++ "<lambda>") ∈ T) (hu : ∀ p ∈ T, p.1 = P → p.2 = X.env.qual ++ "<lambda>") (hg : Gl X "sorted") (hm : X.mg "sorted" = none) (ha : PE X e te) (TB : TabB X.base X.mg c P) (hcode : X.env.code = .ref c) (hr : Room k X.A)
    (cl : Cls X.K C) (hp : PropOf X.K C f p g) (F : Fun X.K y qual st g fd) (hb : Binds X.K fd ["self"] []) (n : NoAttr X.K C fld) (hbody : defBody st = [.Return (some (.Attribute (.Name "self" p1) fld p2)) p3] := by rfl)
    (hk2 : (defScope st).kind = .function := by rfl) (hco2 : (defScope st).isCoroutine = false := by rfl) (hge2 : (defScope st).isGenerator = false := by rfl) (hself : (defScope st).names.lookup ("self" : Str) = some NameKind.local := by rfl) (nocell : ∀ y ∈ (defScope st).names, y.2 ≠ .cell := by decide +kernel)
    (hdef : defaultsOf params X.env = ([], []) := by rfl) (hkind : scope.kind = .function := by rfl) (hco : scope.isCoroutine = false := by rfl) (hgen : scope.isGenerator = false := by rfl) (hnames : ∀ y ∈ scope.names, y.2 ≠ .free ∧ y.2 ≠ .cell := by decide +kernel) (hx : scope.names.lookup x = some .local := by rfl)
    (hbind : ∀ (q : Str) (cl : List (Str × Addr)) (pm cv ctv v : Value), bindArgs (PySem.W.kla_fn "<lambda>" q params (.Attribute (.Name x q1) f q2) scope cl pm cv ctv) ⟨[v], []⟩ = pure [(x, v)] := by intros; rfl)
    (hd : (x == ("__debug__" : Str)) = false := by decide) (hst : starEach [e] X.env = (false, eval e X.env) :: starEach [] X.env := by rfl) (he : backTo pos (starEach [e] X.env) = (false, eval e X.env) :: backTo pos (starEach [] X.env) := by rfl) (hpl : (backTo pos (starEach [e] X.env)).any (·.1) = false := by rfl) :
    PE X (.Call (.Name "sorted" pp) [e] [⟨some "key", .Lambda params (.Attribute (.Name x q1) f q2) scope lpos, kpos⟩] pos) (tSortLamT X.K T (RKi C fld) te) := by
  refine pe_sortLamTP (x := x) (R := InsK C fld) (RK := RKi C fld) (key_prop hkind hx hd cl hp F hk2 hco2 hge2 hb n hbody hself nocell) (fun pins s σ H b u v I r rv => ?_) (fun h h' v u e r => insK_keep e r) (fun H H' b u e r => ?_) hg hm ha TB hcode hmT hu hr hdef hkind hco hgen hnames hx hbind hst he hpl
  · obtain ⟨a, dx, fs, rfl, ea, l⟩ := r
    obtain rfl : v = .ref a := rv
    obtain ⟨mA, O, r, _, _, _⟩ := ins_get I.hok ea
    obtain ⟨t, ht, rt⟩ := RelO.some_of (v := .str u) (o := mA fld) (by rw [← l]; exact r fld)
    obtain ⟨tk, rfl⟩ := rt
    exact ⟨a, dx, mA, tk, rfl, O, ht⟩
  · obtain ⟨a, dx, fs, rfl, ea, l⟩ := r
    exact ⟨a, dx, fs, rfl, e _ _ ea (fun _ z => nomatch z), l⟩
/-- sorted(xs, key=lambda x: x[0]), the items tuples whose first is a text -/
theorem pe_sortFirstT {T : List (Addr × Str)} {te : TE} {c P : Addr} {k : Nat} {e : Expr} {params : Arguments} {scope : Scope} {x : Str} {j : Nat} {p p1 p2 p3 lpos kpos pos : Pos}
    (hmT : (P, X.env.qual ++ "<lambda>") ∈ T) (hu : ∀ p ∈ T, p.1 = P → p.2 = X.env.qual ++ "<lambda>") (hg : Gl X "sorted") (hm : X.mg "sorted" = none) (ha : PE X e te) (TB : TabB X.base X.mg c P) (hcode : X.env.code = .ref c) (hr : Room k X.A)
    (hdef : defaultsOf params X.env = ([], []) := by rfl) (hkind : scope.kind = .function := by rfl) (hco : scope.isCoroutine = false := by rfl) (hgen : scope.isGenerator = false := by rfl) (hnames : ∀ y ∈ scope.names, y.2 ≠ .free ∧ y.2 ≠ .cell := by decide +kernel) (hx : scope.names.lookup x = some .local := by rfl)
    (hbind : ∀ (q : Str) (cl : List (Str × Addr)) (pm cv ctv v : Value), bindArgs (PySem.W.kla_fn "<lambda>" q params (.Subscript (.Name x p1) (.Constant (.int 0) j p2) p3) scope cl pm cv ctv) ⟨[v], []⟩ = pure [(x, v)] := by intros; rfl)
    (hd : (x == ("__debug__" : Str)) = false := by decide) (hst : starEach [e] X.env = (false, eval e X.env) :: starEach [] X.env := by rfl) (he : backTo pos (starEach [e] X.env) = (false, eval e X.env) :: backTo pos (starEach [] X.env) := by rfl) (hpl : (backTo pos (starEach [e] X.env)).any (·.1) = false := by rfl) :
    PE X (.Call (.Name "sorted" p) [e] [⟨some "key", .Lambda params (.Subscript (.Name x p1) (.Constant (.int 0) j p2) p3) scope lpos, kpos⟩] pos) (tSortLam X.K T (RKt X.K) te) := by
  refine pe_sortLam (x := x) (R := TupK) (RK := RKt X.K) (key_first hkind hx hd) (fun pins s σ H b u v I r rv => ?_) (fun h h' v u e r => tupK_keep e r) (fun H H' b u e r => ?_) hg hm ha TB hcode hmT hu hr hdef hkind hco hgen hnames hx hbind hst he hpl
  · obtain ⟨t, xs, rfl, hT⟩ := r
    obtain rfl : v = .ref t := rv
    obtain ⟨its, vs, pl, _⟩ := I.tuple hT
    cases vs with
    | cons r1 r2 =>
      obtain ⟨tk, rfl⟩ := r1
      exact ⟨t, tk, _, rfl, pl⟩
  · obtain ⟨t, xs, rfl, hT⟩ := r
    exact ⟨t, xs, rfl, (extN_imm e).seqT hT⟩
end
end My
namespace My
open PySem PySem.Spec PyProof.Rows L2
section
variable {X : Cx} {K : PySem.W.Frag}
/-! t.count(x), t.index(x) of texts within a comprehension: K told -/
theorem mt_tup_countSK (h : X.K = K) : MtR X "tuple.count" (fun x xs H Q => ∃ (p : Addr) (ys : List Str) (z : Str), x = .ref p ∧ xs = [.str z] ∧ SqT K H p (ys.map V.str) ∧ Q (.int (ys.count z : Nat)) H) := by
  subst h
  exact mt_tup_countS
theorem mt_tup_indexK (h : X.K = K) : MtR X "tuple.index" (fun x xs H Q => ∃ p, ∃ ys : List Str, ∃ z j, x = .ref p ∧ xs = [.str z] ∧ SqT K H p (ys.map V.str) ∧ ys[j]? = some z ∧ (∀ m, m < j → ys[m]? ≠ some z) ∧ Q (.int (j : Nat)) H) := by
  subst h
  exact mt_tup_index
variable {o e : Expr} {es : List Expr} {to : TE} {t : TA} {name : Str} {apos cpos : Pos} {T id : String} {r : V → List V → Hp → VK → Prop}
theorem pe_bmK (h : X.K = K) (pa : PlainAttrs T) (slot : Slot T name id) (hty : typeOf (.builtin id) = pure (.type "method_descriptor")) (hm : MtR X id r) (ho : PE X o to) (ha : PA X (e :: es) t)
    (hbase : attributeBase o name X.env (eval o X.env) = eval o X.env := by rfl)
    (hfew : ((backTo cpos (starEach (e :: es) X.env)).all (fun x => !x.1) && (backToKw cpos (keywordEach [] X.env)).all (fun x => x.1.isSome)
      && decide ((e :: es).length + ([] : List Keyword).length + (if ([] : List Keyword).isEmpty then 0 else 1) < 30)) = true := by rfl)
    (hline : (apos.endLine == cpos.line) = true := by rfl) (hs : starEach (e :: es) X.env = (false, eval e X.env) :: starEach es X.env := by rfl) (hplain : (backTo cpos (starEach es X.env)).any (·.1) = false := by rfl) :
    PE X (.Call (.Attribute o name apos) (e :: es) [] cpos) (tBM K T r to t) := by
  subst h
  exact pe_bm pa slot hty hm ho ha hbase hfew hline hs hplain
theorem pe_bm0K (h : X.K = K) (pa : PlainAttrs T) (slot : Slot T name id) (hty : typeOf (.builtin id) = pure (.type "method_descriptor")) (hm : MtR X id r) (ho : PE X o to)
    (hbase : attributeBase o name X.env (eval o X.env) = eval o X.env := by rfl) (hline : (apos.endLine == cpos.line) = true := by rfl) : PE X (.Call (.Attribute o name apos) [] [] cpos) (tBM0 K T r to) := by
  subst h
  exact pe_bm0 pa slot hty hm ho hbase hline
end
end My
namespace My
open PySem PySem.Spec PyProof.Rows L2
/-! a tuple whose object is told (its dict is none): its methods can be called -/
def TupF (H : Hp) (a : Addr) (xs : List V) : Prop := ∃ o : Obj, H a = some (.frz o (.tup xs)) ∧ o.dict = none
theorem TupF.seq {K : PySem.W.Frag} {H : Hp} {a : Addr} {xs : List V} (h : TupF H a xs) : SqT K H a xs := by
  obtain ⟨o, h, _⟩ := h
  exact .inl (.inr ⟨o, h⟩)
theorem TupF.imm {H H' : Hp} {a : Addr} {xs : List V} (h : TupF H a xs) (i : Imm H H') : TupF H' a xs := by
  obtain ⟨o, h, e⟩ := h
  exact ⟨o, i _ _ h rfl, e⟩
theorem TupF.same {H H' : Hp} {a : Addr} {xs : List V} (h : TupF H a xs) (s : Same H H') : TupF H' a xs := h.imm s.imm
section
variable {X : Cx} {K : PySem.W.Frag}
theorem call_tuple_ofF : CallR X (.type "tuple") (fun xs H Q => ∃ p ys, xs = [.ref p] ∧ SqL X.K H p ys ∧ ∀ l o, H l = none → o.dict = none → Q (.ref l) (upd H l (.frz o (.tup ys)))) := by
  intro pins s σ H xs us Q I r h
  obtain ⟨p, ys, rfl, hq, q⟩ := h
  obtain ⟨u, rfl, rx⟩ := vals1 r
  cases rx
  obtain ⟨its, r', pl, hz⟩ := I.list hq
  have hlen := r'.length
  refine call_tuple_list pl.isList (fun h' kp => ?_) (by simp only [List.size_toArray] <;> omega)
  have I1 : Inv X pins σ H { s with heap := h' } := I.kept (t' := s.toks) kp
  have I2 : Inv X pins σ (upd H h'.objs.size (.frz { cls := .type "tuple", data := .seq its.toArray } (.tup ys))) { s with heap := h'.push { cls := .type "tuple", data := .seq its.toArray } } :=
    I1.laid (t' := s.toks) (fun b o e => Heap.get?_push_of_some _ e) (Nat.le_refl _) (show ObjOk X.prog X.w _ _ _ (.frz _ (.tup ys)) from ⟨Heap.get?_push_size _ rfl, hz, its, r', IsTup.new _ _⟩)
  exact ⟨.ref h'.objs.size, _, I2, rfl, q _ _ (I1.hok.fresh (Nat.le_refl _)) rfl⟩
theorem call_tuple_ofFK (h : X.K = K) : CallR X (.type "tuple") (fun xs H Q => ∃ p ys, xs = [.ref p] ∧ SqL K H p ys ∧ ∀ l o, H l = none → o.dict = none → Q (.ref l) (upd H l (.frz o (.tup ys)))) := by
  subst h
  exact call_tuple_ofF
variable {o e : Expr} {es : List Expr} {to : TE} {t : TA} {name : Str} {apos cpos : Pos} {id : String} {r : V → List V → Hp → VK → Prop}
def tBMT (r : V → List V → Hp → VK → Prop) (to : TE) (t : TA) : TE := fun σ H Q => to σ H fun x H1 => (∃ p ys, x = .ref p ∧ TupF H1 p ys) ∧ t σ H1 fun xs H2 => r x xs H2 Q
theorem pe_bmT (slot : Slot "tuple" name id) (hty : typeOf (.builtin id) = pure (.type "method_descriptor")) (hm : MtR X id r) (ho : PE X o to) (ha : PA X (e :: es) t)
    (hbase : attributeBase o name X.env (eval o X.env) = eval o X.env := by rfl)
    (hfew : ((backTo cpos (starEach (e :: es) X.env)).all (fun x => !x.1) && (backToKw cpos (keywordEach [] X.env)).all (fun x => x.1.isSome)
      && decide ((e :: es).length + ([] : List Keyword).length + (if ([] : List Keyword).isEmpty then 0 else 1) < 30)) = true := by rfl)
    (hline : (apos.endLine == cpos.line) = true := by rfl) (hs : starEach (e :: es) X.env = (false, eval e X.env) :: starEach es X.env := by rfl) (hplain : (backTo cpos (starEach es X.env)).any (·.1) = false := by rfl) :
    PE X (.Call (.Attribute o name apos) (e :: es) [] cpos) (tBMT r to t) := by
  refine ⟨fun pins s σ H Q I h => ?_⟩
  refine wpAny_Call_method_late hbase hfew hline rfl (thn (ho.run pins s σ H _ I h) fun v s1 ⟨x, H1, I1, r1, ty, q1⟩ => ?_)
  obtain ⟨p, ys, rfl, oo, hp, hd⟩ := ty
  obtain rfl : v = .ref p := r1
  obtain ⟨hg, hz⟩ := I1.hok _ _ hp
  obtain ⟨_, its, _, hT⟩ := hz
  have h1 : s1.TypeIs (.ref p) "tuple" := hT.typeIs
  have h2 : ∀ a, Value.ref p = .ref a → ∃ ob, s1.heap.get? a = some ob ∧ ob.dict = none := fun a e => by
    cases e
    exact ⟨oo, hg, hd⟩
  refine ⟨"tuple", id, PySem.F.plainAttrs_tuple, slot, hty, h1, h2, ?_⟩
  have hA := ha.run cpos pins s1 σ H1 _ I1 q1
  rw [hs] at hA ⊢
  refine Calls.callWith_builtin (by show (false || (backTo cpos (starEach es X.env)).any (·.1)) = false; rw [hplain] <;> rfl) (Calls.evalArgs_plain ?_)
  exact thn hA fun us s2 ⟨vs, H2, I2, r2, q2⟩ => hm pins s2 σ H2 (.ref p) vs _ us Q I2 rfl r2 q2
end
end My
namespace My
open PySem PySem.Spec PyProof.Rows L2
/-! None and None -/
def DNN : EqvB := fun x y b _ => x = .non ∧ y = .non ∧ b = true
theorem monB_nn : MonB DNN := fun _ _ _ _ _ _ d => d
section
variable {X : Cx} {n : Nat}
theorem rcB_nnNe : RcB X n true DNN := by
  intro A pins s σ H x y u v b sb I rx ry d
  obtain ⟨rfl, rfl, rfl⟩ := d
  cases rx
  cases ry
  exact PySem.EqNone.ne_none_none ⟨rfl, H, I, Ext.rfl'⟩
theorem rcB_nnEq : RcB X n false DNN := by
  intro A pins s σ H x y u v b sb I rx ry d
  obtain ⟨rfl, rfl, rfl⟩ := d
  cases rx
  cases ry
  exact PySem.EqNone.eq_none_none ⟨rfl, H, I, Ext.rfl'⟩
end
end My
/-! min(x, y) of two data -/
namespace My
open PySem PySem.W PySem.Spec PyProof.Rows
section
variable {prog : Program} {w : World} {A : Around} {E : Value → Shared → Prop} {s : Shared}
theorem call_min_twoH {a b : Value} {Q : Value → Shared → Prop}
    (h : wpAny (model prog w) A.in1 (pyIter (.ref s.heap.objs.size)) (fun it s₂ => ∃ I fp wr G n P St H bt, it = .ref I ∧ WalksS prog w A.in1 I fp wr G n P St ∧ St 0 s₂ ∧ (∀ b ∈ fp, b < s₂.heap.objs.size) ∧ 0 < n ∧
      (∀ b o, H.get? b = some o → b ∉ wr) ∧ (∀ b o, H.get? b = some o → s₂.heap.get? b = some o) ∧ CmpIn prog w A.in1 .Lt H P bt ∧ ∀ v s', P (argBest bt (n - 1)) v → Moved wr G s₂ s' → Q v s') E
      { s with heap := s.heap.push { cls := .type "tuple", data := .seq #[a, b] } }) :
    wpAny (model prog w) A (call (.builtin "min") [a, b]) Q E s := by
  have hname : (toString "min" ++ toString ".loop" : String) = "min.loop" := by decide
  refine call_function_tree PySem.F.kind_min PySem.F.plain_min PySem.F.entry_min (PySem.F.args_min2 _ _) ?_
  show wpAny _ A.in1 (Builtin.Builtins.bindParams "min" ["key", "default"] 0 ⟨[], []⟩ >>= _) _ _ s
  refine wpAny_bind (wpAny_of_eq (show Builtin.Builtins.bindParams "min" ["key", "default"] 0 ⟨[], []⟩ = pure [none, none] from rfl) ?_)
  show wpAny _ A.in1 (newTuple [a, b] >>= _) _ _ s
  refine wpAny_bind (wpAny_newObj_type ?_)
  refine wpAny_bind (wpAny_mono h (fun it s₂ h₂ => ?_) fun _ _ e => e)
  obtain ⟨I, fp, wr, G, n, P, St, H, bt, rfl, W, hst, hfp, hn, hw, hkeep, hcmp, hQ⟩ := h₂
  refine wpAny_bind (wpAny_newObj_type ?_)
  have hSf : s₂.heap.objs.size ∉ fp := fun hm => Nat.lt_irrefl _ (hfp _ hm)
  rw [hname]
  refine wpAny_pure ⟨plainId_quiet PySem.F.plain_min_loop _, codeAny_min_loop_firstH W H hw bt hcmp s₂.heap.objs.size hSf (fresh_in hkeep) _ hn (fun b o e => Heap.get?_push_of_some _ (hkeep b o e)) (W.frame 0 s₂ _ s₂.toks hst (Nat.le_refl _) fun b _ o e => Heap.get?_push_of_some _ e) (Heap.get?_push_size _ rfl) fun v s' hP hm => ?_⟩
  exact hQ v s' hP (Moved.drop_new (tk := s₂.toks) hm (Nat.le_refl _))
theorem min_two_data {a b : Value} {x y : PyData} {as bs : List Addr} {Q : Value → Shared → Prop} (hh : A.handled = none) (ra : Reads s.heap a x as) (rb : Reads s.heap b y bs) (al : AlikeAll [x, y]) (hu : A.units + 1 + PyData.depthAll [x, y] < cLine)
    (h : ∀ h' tk, (∀ b o, s.heap.get? b = some o → h'.get? b = some o) → Q (if dataLt y x = true then b else a) { s with heap := h', toks := tk }) :
    wpAny (model prog w) A (call (.builtin "min") [a, b]) Q E s := by
  have up : ∀ c o, s.heap.get? c = some o → (s.heap.push { cls := .type "tuple", data := .seq #[a, b] }).get? c = some o := fun c o e => Heap.get?_push_of_some _ e
  have hT : (s.heap.push { cls := .type "tuple", data := .seq #[a, b] }).IsTuple s.heap.objs.size #[a, b] := ⟨_, Heap.get?_push_size _ rfl, rfl, 0, rfl⟩
  have hr : ReadsAll (s.heap.push { cls := .type "tuple", data := .seq #[a, b] }) [a, b] [x, y] (as ++ (bs ++ [])) := .cons (Reads.keeps up ra) (.cons (Reads.keeps up rb) .nil)
  refine call_min_twoH (iter_tupleW (A := A.in1) hh hT fun s₂ e W st hfp hw hk => ?_)
  refine ⟨_, _, _, _, _, _, _, _, _, rfl, W, st, hfp, (show 0 < 2 by decide), hw, hk, cmpIn_lt (A := A.in1) (s := { s with heap := s.heap.push { cls := .type "tuple", data := .seq #[a, b] } }) hr al (by show A.units + 1 + _ < _; exact hu), fun v s' hP m => ?_⟩
  obtain ⟨h', tk, rfl, hk'⟩ := moved_old e rfl m
  have := h h' tk fun c o e => hk' c o (up c o e)
  have hv : v = if dataLt y x = true then b else a := by
    have hP' : (#[a, b] : Array Value)[argBest (fun i j => dataLt ([x, y].getD i .none) ([x, y].getD j .none)) 1]? = some v := hP
    have e1 : argBest (fun i j => dataLt ([x, y].getD i .none) ([x, y].getD j .none)) 1 = if dataLt y x = true then 1 else 0 := rfl
    rw [e1] at hP'
    by_cases hb : dataLt y x = true
    · rw [if_pos hb] at hP' ⊢
      exact (Option.some.inj hP').symm
    · rw [if_neg hb] at hP' ⊢
      exact (Option.some.inj hP').symm
  rw [hv]
  exact this
end
end My
namespace My
open PySem PySem.Spec PyProof.Rows L2
section
variable {X : Cx} {K : PySem.W.Frag}
def rMin2D (K : PySem.W.Frag) : List V → Hp → VK → Prop := fun vs H Q => ∃ (u v : V) (x y : PyData), vs = [u, v] ∧ Dp K H u x ∧ Dp K H v y ∧ PySem.W.AlikeAll [x, y] ∧ PyData.depthAll [x, y] ≤ 32 ∧ Q (if PySem.W.dataLt y x = true then v else u) H
theorem cr_min2D (hc : X.calm = true) (hu : X.A.units + 64 < cLine) : CallR X (.builtin "min") (rMin2D X.K) := by
  intro pins s σ H vs us Q I r h
  obtain ⟨u, v, x, y, rfl, hx, hy, al, hd, q⟩ := h
  obtain ⟨a, b, rfl, ra, rb⟩ := vals2 r
  obtain ⟨as, r1⟩ := Dp.reads I x u a hx ra
  obtain ⟨bs, r2⟩ := Dp.reads I y v b hy rb
  refine min_two_data (I.ok.hd hc) r1 r2 al (by omega) fun h' tk hk => ?_
  by_cases hb : PySem.W.dataLt y x = true
  · rw [if_pos hb] at q ⊢
    exact ⟨v, H, I.kept hk, rb, q⟩
  · rw [if_neg hb] at q ⊢
    exact ⟨u, H, I.kept hk, ra, q⟩
theorem cr_min2DK (h : X.K = K) (hc : X.calm = true) (hu : X.A.units + 64 < cLine) : CallR X (.builtin "min") (rMin2D K) := by
  subst h
  exact cr_min2D hc hu
end
end My
namespace My
open PySem PySem.Spec PyProof.Rows L2
section
variable {X : Cx}
/-! ### sorted(tuple of ints) -/
def rSortedTI (K : PySem.W.Frag) : List V → Hp → VK → Prop := fun xs H Q => ∃ (a : Addr) (ns : List Int), xs = [.ref a] ∧ SqT K H a (ns.map V.int) ∧ ns.length < 64 ∧
  ∀ (ms : List Int) (p : Addr), ms.Perm ns → ms.Pairwise (· ≤ ·) → H p = none → Q (.ref p) (upd H p (.lst (ms.map V.int)))
theorem cr_sortedTI : CallR X (.builtin "sorted") (rSortedTI X.K) := by
  intro pins s σ H xs us Q I r h
  obtain ⟨a, ns, rfl, hq, hl, q⟩ := h
  obtain rfl := Vals.ref1 r
  obtain ⟨its, rv, pt, hz⟩ := I.tuple hq
  have hlen : its.length = ns.length := by rw [← rv.length, List.length_map]
  obtain ⟨o, ho, hcl, n, hd⟩ := id pt
  refine Calls.call_function_entry kind_sorted plain_sorted entry_sorted (args_sorted1 _) ?_
  refine wpAny_bind (wpAny_pure ?_)
  have big : its.length ≤ sizeLine := by rw [hlen]; exact Nat.le_of_lt (sizeLine_of (by omega))
  refine wpAny_bind (wpAny_collect_seq a (.inr rfl) ho hcl hd (fun h' keep => ?_) (by rw [List.size_toArray]; exact big))
  have I1 : L2.Inv X pins σ H { s with heap := h' } := I.kept (t' := s.toks) keep
  refine wpAny_bind (wpAny_newList ?_ big)
  have I2 := I1.lnew (t' := s.toks) rv (by rw [List.length_map, ← hlen]; exact big)
  have hn1 : H h'.objs.size = none := I1.hok.fresh (Nat.le_refl _)
  refine wpAny_bind (wpAny_holding ?_)
  refine thn (mt_sort (X := inCx X) pins _ σ _ (.ref h'.objs.size) [] (.ref h'.objs.size) [] (fun v H' => ∃ ms : List Int, ms.Perm ns ∧ ms.Pairwise (· ≤ ·) ∧ H' = upd H h'.objs.size (.lst (ms.map V.int))) (inv_in I2) rfl .nil ⟨_, ns, rfl, rfl, upd_same, by omega, fun ms h1 h2 => ⟨ms, h1, h2, upd_upd⟩⟩) fun v s3 ⟨x, H3, I3, _, ms, py, sy, e3⟩ => ?_
  subst e3
  exact wpAny_pure ⟨_, rfl, .ref h'.objs.size, _, inv_out I3, rfl, q ms _ py sy hn1⟩
end
end My
/-! sorted(d) of a dict whose keys are tuples of ints -/
namespace My
open PySem PySem.Spec PyProof.Rows L2
theorem dataLe_tups {β : Type} (x : β → List Int) : PySem.W.dataLe false (fun b => .tuple ((x b).map .int)) = fun p q => decide (x p ≤ x q) := by
  funext p q
  show (!PySem.W.dataLt (.tuple ((x q).map .int)) (.tuple ((x p).map .int))) = _
  rw [PySem.W.dataLt_tuple]
  have := PySem.W.dataLt_ints (x q) (x p)
  unfold PySem.W.rowLt at this
  rw [this]
  by_cases h : x q < x p
  · have : ¬ x p ≤ x q := fun z => absurd h (List.not_lt.mpr z)
    simp [h, this]
  · have : x p ≤ x q := List.not_lt.mp h
    simp [h, this]
section
open PySem.W
variable {prog : Program} {w : World} {A : Around} {E : Value → Shared → Prop} {s : Shared}
theorem sorts_one {vs : List Value} {ds : List PyData} (e : EachIs (fun v d => ∃ as, Reads s.heap v d as) vs ds) (hal : AllAlike ds) (hn : ∀ d ∈ ds, d ≠ .none) (hl : vs.length ≤ 1) (hu : ∀ d, d ∈ ds → A.units + d.depth < cLine) : SortsAt prog w A s (dataKind s.heap ds) vs := by
  have room : ∀ {d d' : PyData}, d ∈ ds → A.units + min d.depth d'.depth < cLine := fun {d d'} hd => Nat.lt_of_le_of_lt (Nat.add_le_add_left (Nat.min_le_left _ _) _) (hu d hd)
  refine ⟨fun v hv => ?_, general', ?_, fun h2 => absurd h2 (by omega)⟩
  · obtain ⟨d, hd, as, r⟩ := e.left v hv
    exact ⟨_, dataKind_some hal hd r⟩
  · intro E x y a b Q ha hb hq
    obtain ⟨d, as, hd, ra, rfl⟩ := dataKind_inv ha
    obtain ⟨d', as', hd', rb, rfl⟩ := dataKind_inv hb
    show wpAny _ _ (oneLt' false x y) _ _ _
    exact oneLt_alike (fun z => nomatch z) ra rb (hal d hd d' hd') (hn d hd) (room hd) hq
theorem list_sort_dataG {β : Type} {R : Value → β → Prop} {enc : β → PyData} {vs : List Value} {bs : List β} {a : Addr} {n : Nat} {Q : Value → Shared → Prop} (ho : s.heap.get? a = some (seqObj "list" vs.toArray n)) (e : EachIs R vs bs) (er : EachIs (fun v b => ∃ as, Reads s.heap v (enc b) as ∧ a ∉ as) vs bs) (hal : AllAlike (bs.map enc)) (hk : Sortable (bs.map enc) ∨ (vs.length ≤ 1 ∧ ∀ d ∈ bs.map enc, d ≠ .none)) (hL : bs.length ≤ sizeLine)
    (hu : ∀ b, b ∈ bs → A.units + 1 + (enc b).depth < cLine) (h : ∀ out, out.length = bs.length → EachIs R out (bs.mergeSort (dataLe false enc)) → Q .none { s with heap := sortedHeap s.heap a vs (List.toArray out) }) :
    wpAny (model prog w) A (call (.builtin "list.sort") [.ref a]) Q E s := by
  have er' : EachIs (fun v b => ∃ as, Reads (sortingHeap s.heap a vs) v (enc b) as) vs bs := each_keepBut (h' := sortingHeap s.heap a vs) (fun _ _ hb q => sortingHeap_old hb q) (fun o q => by rw [ho] at q; rw [← Option.some.inj q]) hal er
  have em := each_map (R := fun v d => ∃ as, Reads (sortingHeap s.heap a vs) v d as) enc er'
  have S : SortsAt prog w A.in1 { s with heap := sortingHeap s.heap a vs } (dataKind (sortingHeap s.heap a vs) (bs.map enc)) vs := by
    rcases hk with hk | ⟨hl, hn⟩
    · exact SortsAt.data (s := { s with heap := sortingHeap s.heap a vs }) em hal hk (bound_map hu)
    · exact sorts_one (s := { s with heap := sortingHeap s.heap a vs }) em hal hn hl (bound_map hu)
  refine wpAny_call_entry slot_list_sort ⟨_, ho, rfl⟩ entry_list_sort (list_sort_vals (κ := dataKind (sortingHeap s.heap a vs) (bs.map enc)) ho S (by rw [e.length]; exact hL) ⟨.none, rfl, ?_⟩) (args_list_sort _)
  exact h _ (by rw [sortVals_length false rfl]; exact e.length) (sortVals_data false e er' hal)
end
theorem alike_intsH : ∀ xs ys : List Int, PySem.W.alikeAll (xs.map PyData.int) (ys.map PyData.int) = true
  | [], _ => by simp [PySem.W.alikeAll]
  | _ :: _, [] => by simp [PySem.W.alikeAll]
  | x :: xs, y :: ys => by
    show PySem.W.alikeAll (PyData.int x :: _) (PyData.int y :: _) = true
    simp only [PySem.W.alikeAll, PySem.W.alike, Bool.true_and]
    exact alike_intsH xs ys
theorem alike_tupsH (xs ys : List Int) : PySem.W.alike (.tuple (xs.map PyData.int)) (.tuple (ys.map PyData.int)) = true := by
  simp only [PySem.W.alike]
  exact alike_intsH xs ys
theorem reads_ints {h : Heap} : ∀ {ns : List Int} {us : List Value}, Vals (ns.map V.int) us → ReadsAll h us (ns.map PyData.int) []
  | [], _, r => by
    cases r
    exact .nil
  | n :: ns, _, r => by
    cases r with
    | cons r1 r2 =>
      obtain ⟨t, rfl⟩ := r1
      exact ReadsAll.cons (as := []) (bs := []) (.int n t) (reads_ints r2)
theorem each_zip {h : Heap} {D : Addr} : ∀ {ks : List (List Key × Addr × Value)} {ns : List (List Int)}, ks.length = ns.length → (∀ (j : Nat) x m, ks[j]? = some x → ns[j]? = some m → Reads h (.ref x.2.1) (.tuple (m.map PyData.int)) []) →
    PySem.W.EachIs (fun (v : Value) (b : Addr × List Int) => v = .ref b.1) (ks.map fun x => Value.ref x.2.1) ((ks.map fun x => x.2.1).zip ns) ∧ PySem.W.EachIs (fun (v : Value) (b : Addr × List Int) => ∃ as, Reads h v (.tuple (b.2.map PyData.int)) as ∧ D ∉ as) (ks.map fun x => Value.ref x.2.1) ((ks.map fun x => x.2.1).zip ns)
  | [], [], _, _ => ⟨.nil, .nil⟩
  | [], _ :: _, h, _ => by cases h
  | _ :: _, [], h, _ => by cases h
  | x :: ks, m :: ns, hl, g => by
    obtain ⟨h1, h2⟩ := each_zip (D := D) (ks := ks) (ns := ns) (Nat.succ.inj hl) fun j y z a b => g (j + 1) y z a b
    exact ⟨.cons rfl h1, .cons ⟨[], g 0 x m rfl rfl, fun z => nomatch z⟩ h2⟩
theorem each_refs {bs : List (Addr × List Int)} : ∀ {us : List Value}, PySem.W.EachIs (fun (v : Value) (b : Addr × List Int) => v = .ref b.1) us bs → Vals (bs.map fun b => V.ref b.1) us := fun {us} e => by
  induction e with
  | nil => exact .nil
  | cons r _ ih => exact .cons r ih
def rSortedDT : List V → Hp → VK → Prop := fun vs H Q => ∃ (d : Addr) (kvs : List (List Key × V)) (ns : List (List Int)), vs = [.ref d] ∧ Rd H d (.dT kvs) ∧ kvs.map (·.1) = ns.map (fun o => o.map Sum.inl) ∧ ((∀ n ∈ ns, n ≠ []) ∨ ns.length ≤ 1) ∧
  ∀ (p : Addr) (as : List Addr) (ms : List (List Int)), ms.Perm ns → ms.Pairwise (· ≤ ·) → as.length = ms.length → (∀ (i : Nat) a m, as[i]? = some a → ms[i]? = some m → H a = some (.tup (m.map V.int))) → H p = none → Q (.ref p) (upd H p (.lst (as.map V.ref)))
section
variable {X : Cx}
theorem cr_sortedDT (hc : X.calm = true) (hu : X.A.units + 64 < cLine) : CallR X (.builtin "sorted") rSortedDT := by
  intro pins s σ H xs us Q I r h
  obtain ⟨d, kvs, ns, rfl, hd, hkn, hne, q⟩ := h
  obtain ⟨u, rfl, rx⟩ := r.one
  cases rx
  obtain ⟨z, hs, ks, pr, o, es, ep, ho, hx, hdt, he, hn⟩ := (show ObjOk X.prog X.w H s.heap d (.dT kvs) from hd.ok I.hok)
  have l1 : es.size = ks.length := size_of_entries he
  have l2 : kvs.length = ks.length := Paired.length pr
  have l3 : ns.length = ks.length := by
    have := congrArg List.length hkn
    rw [List.length_map, List.length_map] at this
    omega
  refine Calls.call_function_entry PyProof.Rows.kind_sorted PyProof.Rows.plain_sorted PyProof.Rows.entry_sorted (PyProof.Rows.args_sorted1 _) ?_
  unfold Builtin.«sorted»
  refine wpAny_bind (m := checkCount "sorted" 1 1 _) (wpAny_pure ?_)
  refine wpAny_bind (PySem.W.kdu_collect (A := X.A.in1) (kdl_raw hs hx hdt) (I.ok.hd hc) ho (by omega) fun h' tk acc' kp it => ?_)
  have ea : acc'.toList = ks.map fun x => Value.ref x.2.1 := by
    have hl : acc'.toList.length = ks.length := by rw [Array.length_toList, it.1]; exact l1
    apply List.ext_getElem?
    intro j
    rw [List.getElem?_map]
    cases hj : acc'.toList[j]? with
    | none =>
      have h1 := List.getElem?_eq_none_iff.mp hj
      rw [List.getElem?_eq_none (by omega)]
      all_goals rfl
    | some v =>
      obtain ⟨en, hen, hv⟩ := it.2 j v (by rw [← Array.getElem?_toList]; exact hj)
      have qe := entry_at he j
      rw [hen] at qe
      cases hb : ks[j]? with
      | none =>
        rw [hb] at qe
        exact nomatch (show some en = none from qe)
      | some b =>
        rw [hb] at qe
        have e2 : en = entryOfKey (tupleKind (mixKind X.prog X.w)) b := Option.some.inj qe
        rw [hv, e2]
        all_goals rfl
  have I1 : Inv X pins σ H { s with heap := h', toks := tk } := I.kept kp
  have hal : acc'.toList.length = ks.length := by rw [ea, List.length_map]
  refine wpAny_bind (wpAny_newList ?_ (by omega))
  have hoL : (h'.push (seqObj "list" acc'.toList.toArray 0)).get? h'.objs.size = some (seqObj "list" acc'.toList.toArray 0) := Heap.get?_push_size _ rfl
  show wpAny _ _ _ _ _ { s with heap := h'.push (seqObj "list" acc'.toList.toArray 0), toks := tk }
  -- the items and their data
  have hit : ∀ (j : Nat) (x : List Key × Addr × Value) (m : List Int), ks[j]? = some x → ns[j]? = some m → H x.2.1 = some (.tup (m.map V.int)) := fun j x m h1 h2 => by
    have hj := (List.getElem?_eq_some_iff.mp h1).1
    have hkv : kvs[j]? = some (kvs[j]'(by omega)) := List.getElem?_eq_getElem _
    obtain ⟨x', hx', e1, e2, _⟩ := paired_get pr hkv
    obtain rfl := Option.some.inj (hx'.symm.trans h1)
    have e3 : (kvs.map (·.1))[j]? = some (kvs[j]'(by omega)).1 := by rw [List.getElem?_map, hkv]; rfl
    rw [hkn, List.getElem?_map, h2] at e3
    have e4 : (kvs[j]'(by omega)).1 = m.map Sum.inl := (Option.some.inj e3).symm
    rw [e2, e4, List.map_map]
    rfl
  have hrd : ∀ (j : Nat) (x : List Key × Addr × Value) (m : List Int), ks[j]? = some x → ns[j]? = some m → Reads (h'.push (seqObj "list" acc'.toList.toArray 0)) (.ref x.2.1) (.tuple (m.map PyData.int)) [] := fun j x m h1 h2 => by
    obtain ⟨_, us', r1, t1, ht1, hc1, n1, d1⟩ := I1.hok _ _ (hit j x m h1 h2)
    exact .tuple (Heap.get?_push_of_some _ ht1) hc1 d1 (by simpa using reads_ints r1)
  obtain ⟨g1, g2⟩ := each_zip (D := h'.objs.size) (by omega) hrd
  rw [← ea] at g1 g2
  have hbl : ((ks.map fun x => x.2.1).zip ns).length = ks.length := by rw [List.length_zip, List.length_map]; omega
  have hbm : ∀ b ∈ (ks.map fun x => x.2.1).zip ns, H b.1 = some (.tup (b.2.map V.int)) := fun b hb => by
    obtain ⟨j, hj⟩ := List.mem_iff_getElem?.mp hb
    obtain ⟨h1, h2⟩ := List.getElem?_zip_eq_some.mp hj
    rw [List.getElem?_map] at h1
    obtain ⟨x, hx1, e1⟩ := Option.map_eq_some_iff.mp h1
    rw [← e1]
    exact hit j x b.2 hx1 h2
  have hb2 : ((ks.map fun x => x.2.1).zip ns).map (·.2) = ns := List.map_snd_zip (by rw [List.length_map]; omega)
  generalize (ks.map fun x => x.2.1).zip ns = bs at *
  refine wpAny_bind (wpAny_holding (list_sort_dataG (A := X.A.in1) (s := { s with heap := h'.push (seqObj "list" acc'.toList.toArray 0), toks := tk }) (R := fun (v : Value) (b : Addr × List Int) => v = .ref b.1) (enc := fun b => .tuple (b.2.map PyData.int)) hoL g1 g2 (PySem.W.AllAlike.of fun b b' => ?_) ?_ (by omega) (fun b hb => ?_) fun out hlen hE => ?_))
  · exact alike_tupsH b.2 b'.2
  · rcases hne with hne | hne
    · refine .inl (.inl fun d hd => ?_)
      obtain ⟨b, hb, rfl⟩ := List.mem_map.mp hd
      have : b.2 ∈ ns := by rw [← hb2]; exact List.mem_map.mpr ⟨b, hb, rfl⟩
      cases e : b.2 with
      | nil => exact absurd e (hne _ this)
      | cons x r => exact ⟨.int x, r.map PyData.int, by rw [List.map_cons]⟩
    · refine .inr ⟨by omega, fun d hd => ?_⟩
      obtain ⟨b, hb, rfl⟩ := List.mem_map.mp hd
      exact nofun
  · have : (PyData.tuple (b.2.map PyData.int)).depth = 1 := by
      show PyData.depthAll (b.2.map PyData.int) + 1 = 1
      rw [dep_ints]
    have hu2 : X.A.in1.units + 1 + 1 < cLine := by show X.A.units + 1 + 1 + 1 < _; omega
    rw [this]
    exact hu2
  · rw [dataLe_tups] at hE
    have hpm := List.mergeSort_perm bs fun p q => decide (p.2 ≤ q.2)
    have hpw : (bs.mergeSort fun p q => decide (p.2 ≤ q.2)).Pairwise fun p q => decide (p.2 ≤ q.2) = true := List.pairwise_mergeSort (fun a b c h1 h2 => by
      simp only [decide_eq_true_eq] at *
      exact List.le_trans h1 h2) (fun a b => by
      simp only [Bool.or_eq_true, decide_eq_true_eq]
      exact List.le_total a.2 b.2) bs
    generalize bs.mergeSort (fun p q => decide (p.2 ≤ q.2)) = cs at *
    have hcl : cs.length = ks.length := by rw [hpm.length_eq, hbl]
    obtain ⟨e', he'⟩ := PyProof.Rows.sortedHeap_at (vs := acc'.toList) (out := out.toArray) hoL
    have hfin : (cs.map fun b => V.ref b.1).length ≤ sizeLine := by rw [List.length_map]; omega
    refine wpAny_pure ⟨_, rfl, .ref h'.objs.size, upd H h'.objs.size (.lst (cs.map fun b => V.ref b.1)), I1.laid (t' := tk) (fun b u e => ?_) (Nat.le_refl _)
      (show ObjOk X.prog X.w _ _ _ (.lst (cs.map fun b => V.ref b.1)) from ⟨hfin, out, e', each_refs hE, he'⟩), rfl, ?_⟩
    · have hb : b < h'.objs.size := Heap.lt_size e
      rw [PyProof.Rows.sortedHeap_old (Nat.ne_of_lt hb) (by rw [size_push']; exact Nat.lt_succ_of_lt hb)]
      exact Heap.get?_push_of_some _ e
    · have := q h'.objs.size (cs.map (·.1)) (cs.map (·.2)) ((hpm.map (·.2)).trans (by rw [hb2])) (List.pairwise_map.mpr (hpw.imp fun h => of_decide_eq_true h)) (by rw [List.length_map, List.length_map]) (fun i a m h1 h2 => ?_) (I1.hok.fresh (Nat.le_refl _))
      · rw [List.map_map] at this
        exact this
      · rw [List.getElem?_map] at h1 h2
        obtain ⟨b, hb, rfl⟩ := Option.map_eq_some_iff.mp h1
        rw [hb] at h2
        obtain rfl := Option.some.inj h2
        exact hbm b (hpm.mem_iff.mp (List.mem_of_getElem? hb))
end
end My
/-! try: return e / except X: return None -/
namespace My
open PySem L2 LamX PyProof.Rows
section
variable {X : Cx} {C : Addr} {e : Expr}
def xOne (K : PySem.W.Frag) (C : Addr) (Q : VK) : XK := fun cls _ H => PySem.W.exmOne K cls (.ref C) = some true ∧ Q .non H
theorem ps_tryR {x : Str} {sg : Scope} {np p3 p5 p6 p7 p8 : Pos} {j : Nat} {te : XK → TE} (hs : X.stack = X.env :: X.outer) (hf : X.env.frame = some X.env.locals) (hsc : X.env.scope = sg) (hg : sg.names.lookup x = some .globalImplicit) (hm : X.mg x = some (.ref C)) (hd : (x == ("__debug__" : Str)) = false)
    (call : ∀ (W : WX) (pn : List (Addr × Obj)) (xe : Value → Shared → Prop) (Ech : XK), Takes (X.tr pn xe) W → (∀ cls d σ H, Ech cls d H → W cls d σ H) → PE (X.tr pn xe) e (te Ech)) :
    PS X (.Try [.Return (some e) p3] [.ExceptHandler (some (.Name x np)) none [.Return (some (.Constant .none j p5)) p6] p7] [] [] p8) (fun D σ H => te (xOne X.K C D.rt) σ H D.rt) := by
  refine ⟨fun pins s σ H D I h => ?_⟩
  refine (ps_try_many (Wout := fun _ _ _ _ => False)
      (tb := fun W D σ H => ∃ Ech : XK, (∀ cls d σ' H', Ech cls d H' → W cls d σ' H') ∧ te Ech σ H D.rt)
      hs hf takes_none5 (fun W pn xe tk _ => ?_) (.cons ⟨by show X.env.scope.names.lookup _ = _; rw [hsc]; exact hg, hd, .inl hm⟩ (fun a oe cls d pn _ _ => pss_one (ps_ret pe_non)) .nil)).run pins s σ H D I ⟨xOne X.K C D.rt, fun cls d σ' H' z => ?_, h⟩
  · refine ⟨fun pins s' σ H' D I h' => ?_⟩
    obtain ⟨Ech, hW, h3⟩ := h'
    exact (pss_one (ps_ret (pos := p3) (call W pn xe Ech tk hW))).run pins s' σ H' D I h3
  · exact ⟨true, z.1, fun _ a _ => z.2, fun y => nomatch y⟩
end
end My
/-! min of a list of texts -/
namespace My
open PySem PySem.Spec PyProof.Rows L2
theorem strs_alike (ps : List Str) : PySem.W.AlikeAll (ps.map PyData.str) := by
  refine ⟨fun x hx y hy => ?_, fun x hx => ?_⟩
  · obtain ⟨p, _, rfl⟩ := List.mem_map.mp hx
    obtain ⟨q, _, rfl⟩ := List.mem_map.mp hy
    rfl
  · obtain ⟨p, _, rfl⟩ := List.mem_map.mp hx
    exact nofun
theorem strs_depth : ∀ ps : List Str, PyData.depthAll (ps.map PyData.str) = 0
  | [] => rfl
  | p :: ps => by
    show max 0 (PyData.depthAll (ps.map PyData.str)) = 0
    rw [strs_depth ps]
    rfl
def ltD (p q : Str) : Bool := PySem.W.dataLt (.str p) (.str q)
def minS (p : Str) (ps : List Str) : Str := ps.foldl (fun a y => if ltD y a = true then y else a) p
theorem minD_S : ∀ (ps : List Str) (p : Str), PySem.W.minD (.str p) (ps.map PyData.str) = .str (minS p ps)
  | [], _ => rfl
  | q :: ps, p => by
    show PySem.W.minD (if PySem.W.dataLt (.str q) (.str p) then .str q else .str p) (ps.map PyData.str) = .str (minS (if ltD q p = true then q else p) ps)
    have e : (if PySem.W.dataLt (.str q) (.str p) then PyData.str q else .str p) = .str (if ltD q p = true then q else p) := by
      unfold ltD
      split <;> rfl
    rw [e]
    exact minD_S ps _
theorem dp_strsH {K : PySem.W.Frag} {H : Hp} : ∀ ps : List Str, DpAll K H (ps.map V.str) (ps.map PyData.str)
  | [] => .nil
  | _ :: ps => .cons (.str _) (dp_strsH ps)
def rMinT (K : PySem.W.Frag) : List V → Hp → VK → Prop := fun vs H Q => ∃ (a : Addr) (p : Str) (ps : List Str), vs = [V.ref a] ∧ SqL K H a ((p :: ps).map V.str) ∧ Q (.str (minS p ps)) H
section
variable {X : Cx}
theorem cr_minT (hc : X.calm = true) (hu : X.A.units + 64 < cLine) : CallR X (.builtin "min") (rMinT X.K) := by
  intro pins s σ H vs us Q I r h
  obtain ⟨a, p, ps, rfl, hs, q⟩ := h
  obtain ⟨its, rv, hL, _⟩ := I.list hs
  rw [Vals.ref1 r]
  obtain ⟨as, ra⟩ := Dp.readsAll I ((p :: ps).map PyData.str) _ its (dp_strsH (p :: ps)) rv
  refine PySem.W.min_list_data (x := .str p) (xs := ps.map PyData.str) (I.ok.hd hc) hL.isList (by simpa using ra) (strs_alike (p :: ps)) (by have := strs_depth (p :: ps); show _ + 1 + PyData.depthAll ((p :: ps).map PyData.str) < _; omega) fun i v h' tk bs hv hR hk => ?_
  have hv' : its[i]? = some v := by simpa using hv
  have hi : i < its.length := (List.getElem?_eq_some_iff.mp hv').1
  have hx : i < ((p :: ps).map V.str).length := by rw [rv.length]; exact hi
  obtain ⟨v2, g1, rx⟩ := rv.get (List.getElem?_eq_getElem hx)
  rw [hv'] at g1
  obtain rfl := Option.some.inj g1
  rw [List.getElem_map] at rx
  obtain ⟨t, rfl⟩ := (show ∃ t, v = Value.str _ t from rx)
  rw [minD_S] at hR
  have e := reads_str hR
  refine ⟨.str (minS p ps), H, I.kept hk, ⟨t, by rw [e]⟩, q⟩
end
end My
/-! t.count(x) by an own == -/
namespace My
open PySem PySem.SeqAt PySem.Spec L2 LamX PyProof.Rows
open AutoSeq1 (wpAny_loadPart')
open MeetsSeq MeetsSeq2 MeetsSeq3 SeqRoads2
def cntB (n : Nat) (e : Nat → Bool) : Nat := (List.range n).countP e
theorem cntB_succ (n : Nat) (e : Nat → Bool) : cntB (n + 1) e = cntB n e + (if e n = true then 1 else 0) := by
  unfold cntB
  rw [List.range_succ, List.countP_append, List.countP_singleton]
section
variable {prog : Program} {w : World} {A : Around} {R : Result → Shared → Prop} {E : Value → Shared → Prop} {s : Shared}
theorem tup_countB (l : Addr) (xs : Array Value) (n : Nat) (dd : Option Addr) (sl : Array (Option Value)) (x : Value) (e : Nat → Bool) (I : Nat → Shared → Prop)
    (turn : ∀ i (h1 : i < xs.size) s, I i s → wpAny (model prog w) A.in1 (eqBool xs[i] x) (fun r s' => r = e i ∧ I (i + 1) s') (fun e s' => R (.error e) s') s)
    (f1 : ∀ s, I xs.size s → R (.ok (.ret (.int (cntB xs.size e : Nat) s.toks))) { s with toks := s.toks + 1 }) {s : Shared}
    (a1 : s.heap.get? l = some { cls := .type "tuple", dict := dd, data := .seq xs n, slots := sl }) (h : I 0 s) :
    wpAny (model prog w) A.in1 (Builtin.«tuple.count» ⟨[.ref l, x], []⟩) (FinB prog w A R) (fun e s' => R (.error e) s') s := by
  have h0 := h
  obtain ⟨hh, g, d, tk, os⟩ := s
  wp_walk using wpAny_loadPart' a1, wpAny_forIn_array _ (fun rest (b : Nat) s' => ∃ i, rest = xs.toList.drop i ∧ i ≤ xs.size ∧ I i s' ∧ b = cntB i e) _
  case turn =>
    rintro y rest b s' ⟨i, hz, hi, hI, rfl⟩
    have hlt : i < xs.toList.length := by
      rcases Nat.lt_or_ge i xs.toList.length with z | z
      · exact z
      · rw [List.drop_of_length_le z] at hz; cases hz
    have h1 : i < xs.size := by simpa using hlt
    rw [List.drop_eq_getElem_cons hlt] at hz
    injection hz with hyx hrest
    obtain rfl : y = xs[i] := by simpa using hyx
    refine wpAny_bind (wpAny_mono (turn i h1 s' hI) (fun r s2 q2 => ?_) fun _ _ x => x)
    obtain ⟨hr, q2⟩ := q2
    cases he : e i with
    | true =>
      rw [he] at hr
      subst hr
      wp_walk
      exact ⟨i + 1, hrest, h1, q2, by rw [cntB_succ, he]; rfl⟩
    | false =>
      rw [he] at hr
      subst hr
      wp_walk
      exact ⟨i + 1, hrest, h1, q2, by rw [cntB_succ, he]; rfl⟩
  case fin =>
    rintro b s' ⟨i, hz, hi, hI, rfl⟩
    have hge : xs.size ≤ i := by
      rcases Nat.lt_or_ge i xs.toList.length with z | z
      · rw [List.drop_eq_getElem_cons z] at hz; cases hz
      · simpa using z
    obtain rfl : i = xs.size := by omega
    have q := f1 s' hI
    obtain ⟨hh2, g2, d2, tk2, os2⟩ := s'
    wp_walk
    exact q
  case h =>
    exact ⟨0, rfl, Nat.zero_le _, h0, rfl⟩
end
section
variable {X : Cx} {n : Nat} {D : EqvB}
/-- t.count(x), told item by item -/
theorem mt_tup_countB (hD : MonB D) (h : EqB X n D) (hr : Room (n + 1) X.A) : MtR X "tuple.count" (fun x xs H Q => ∃ (p : Addr) (y : V) (ys : List V) (e : Nat → Bool), x = .ref p ∧ xs = [y] ∧ SqT X.K H p ys ∧ (∀ (i : Nat) z, ys[i]? = some z → D z y (e i) H) ∧ ∀ H', Ext H H' → Q (.int (cntB ys.length e : Nat)) H') := by
  intro pins s σ H x xs v us Q I rx rs hh
  obtain ⟨p, y, ys, e, rfl, rfl, hq, hd, q⟩ := hh
  cases rx
  obtain ⟨u, rfl, ru⟩ := vals1 rs
  obtain ⟨its, r, pl, hz⟩ := I.tuple hq
  obtain ⟨⟨cls, dd, dt, sl⟩, ho, hc, m, hd2⟩ := pl
  simp only at hc hd2
  subst hc
  subst hd2
  have hl : its.toArray.size = ys.length := by rw [List.size_toArray, ← r.length]
  have sb : L2.Sub X (n + 1) X.A := ⟨hr, rfl⟩
  refine GQ.call_here PySem.F.slot_tuple_count ⟨_, ho, rfl⟩ PySem.F.entry_tuple_count (PySem.F.args_tuple_count_2 _ _) ?_
  refine tup_countB (R := wants (EP X pins σ Q) X.xe) p its.toArray m dd sl u e (fun _ s' => LoopI X pins σ H s') (fun i h1 s' l => ?_) (fun s' l => ?_) ho ⟨H, I, Ext.rfl'⟩
  · obtain ⟨H1, I1, e1⟩ := l
    have k1 : i < ys.length := by rw [← hl]; exact h1
    obtain ⟨w, hw, rw'⟩ := r.get (List.getElem?_eq_getElem k1)
    have g1 : its[i]? = some its.toArray[i] := by
      have z : i < its.length := by simpa using h1
      rw [List.getElem?_eq_getElem z] <;> simp
    rw [g1] at hw
    rw [Option.some.inj hw]
    refine wpAny_mono (h X.A.in1 pins s' σ H1 _ _ w u _ sb.in1 I1 rw' ru (hD _ _ _ _ _ e1 (hd i _ (List.getElem?_eq_getElem k1)))) (fun b s2 q2 => ?_) fun _ _ x => x
    obtain ⟨hb, H2, I2, e2⟩ := q2
    exact ⟨hb, H2, I2, e1.trans e2⟩
  · obtain ⟨H1, I1, e1⟩ := l
    exact ⟨.int (cntB ys.length e : Nat), H1, I1.tok _, ⟨s'.toks, by rw [hl]⟩, q H1 e1⟩
/-- the same, K told -/
theorem mt_tup_countBK {K : PySem.W.Frag} (hK : X.K = K) (hD : MonB D) (h : EqB X n D) (hr : Room (n + 1) X.A) : MtR X "tuple.count" (fun x xs H Q => ∃ (p : Addr) (y : V) (ys : List V) (e : Nat → Bool), x = .ref p ∧ xs = [y] ∧ SqT K H p ys ∧ (∀ (i : Nat) z, ys[i]? = some z → D z y (e i) H) ∧ ∀ H', Ext H H' → Q (.int (cntB ys.length e : Nat)) H') := by
  subst hK
  exact mt_tup_countB hD h hr
end
section
variable {X : Cx}
/-- t + u of tuples whose objects are told -/
def rCatF : R2 := fun x y H Q => ∃ a b xs ys, x = .ref a ∧ y = .ref b ∧ TupF H a xs ∧ TupF H b ys ∧ xs.length + ys.length ≤ sizeLine ∧ ∀ p H', Same H H' → TupF H' p (xs ++ ys) → Q (.ref p) H'
theorem op_catF : OpR X (binaryOp .Add) rCatF := by
  intro pins s σ H x y v u Q I rx ry h
  obtain ⟨a, b, xs, ys, rfl, rfl, ha, hb, hz, q⟩ := h
  by_cases hx : xs = []
  · subst hx
    exact op_catA pins s σ H _ _ v u Q I rx ry ⟨a, b, [], ys, rfl, rfl, ha.seq (K := X.K), hb.seq, hz, fun _ => q b H (Same.refl _) hb, fun z => absurd rfl z, fun z => absurd rfl z⟩
  · cases rx
    cases ry
    obtain ⟨its, r1, p1, _⟩ := I.tuple (ha.seq (K := X.K))
    obtain ⟨its2, r2, p2, _⟩ := I.tuple (hb.seq (K := X.K))
    refine HT.cat_tup p1 p2 (fun z => hx (r1.nil_iff.mp z)) (fun z => ⟨.ref a, H, I, rfl, ?_⟩) (fun z => ?_) (by rw [← r1.length, ← r2.length]; exact hz)
    · have e := r2.nil_iff.mp z
      refine q a H (Same.refl _) ?_
      rw [e, List.append_nil]
      exact ha
    · have hfr : H s.heap.objs.size = none := I.hok.fresh (Nat.le_refl _)
      refine ⟨.ref s.heap.objs.size, _, I.laid (t' := s.toks) (o := .frz { cls := .type "tuple", data := .seq (its ++ its2).toArray } (.tup (xs ++ ys))) (fun b ob q => Heap.get?_push_of_some _ q) (Nat.le_refl _) ?_, rfl, q _ _ (same_new hfr) ⟨_, upd_same, rfl⟩⟩
      exact ⟨Heap.get?_push_size _ rfl, by rw [List.length_append]; exact hz, _, r1.append r2, IsTup.new _ _⟩
end
end My
namespace My
open PySem L2
section
variable {P : Program} {w : World} {K : PySem.W.Frag} {mg : Str → Option Value} {base : Heap}
section
local macro_rules | `(tactic| walk_at "sl") => `(tactic| first | assumption | exact SqL.of upd_same | exact SqL.of (by assumption) | ((with_reducible apply sql_upd); (walk_at "sl"); (first | assumption | exact Ne.symm (by assumption))))
local macro_rules | `(tactic| walk_at "st") => `(tactic| first | assumption | exact SqT.of upd_same | exact SqT.of (by assumption))
local macro_rules | `(tactic| walk_at "sc") => `(tactic| first | rfl | assumption | (show (0 : Int) < _; first | assumption | decide | omega) | exact Or.inl ⟨by omega, by omega⟩ | exact Or.inr ⟨by omega, by omega⟩ | exact ⟨by decide, by decide⟩ | exact ⟨by decide, by decide, by decide⟩)
local macro_rules | `(tactic| walk_at "g1") => `(tactic| first
  | refine ⟨(_ : V), rfl, ?_⟩
  | refine ⟨(_ : Bool), rfl, ?_⟩
  | refine ⟨(_ : Int), (_ : Int), rfl, rfl, ?_⟩
  | refine ⟨(_ : Int), rfl, ?_⟩
  | refine ⟨(_ : Str), rfl, ?_⟩
  | refine ⟨(_ : Addr), (_ : List V), rfl, Or.inl (by walk_at "sl"), ?_⟩
  | refine ⟨(_ : Addr), (_ : List V), rfl, Or.inr (by walk_at "st"), ?_⟩
  | refine ⟨(_ : Addr), (_ : List V), (_ : Int), (_ : V), rfl, rfl, (by walk_at "sl"), (by first | rfl | assumption), ?_⟩
  | refine ⟨(_ : Addr), (_ : List V), (_ : Int), (_ : V), rfl, rfl, (by walk_at "st"), (by first | rfl | assumption), ?_⟩
  | refine ⟨(_ : Addr), (_ : List V), (_ : Int), (_ : Nat), rfl, rfl, upd_same, rfl, ?_⟩
  | refine ⟨(_ : Addr), (_ : List V), (_ : Int), (_ : Nat), rfl, rfl, (by assumption), rfl, ?_⟩
  | refine ⟨(_ : Addr), (_ : Addr), (_ : Addr), (_ : List (Str × V)), (_ : V), rfl, (by assumption), (by assumption), (by assumption), (by first | assumption | rfl), ?_⟩
  | refine Or.inl ⟨(_ : Int), rfl, ?_⟩
  | refine And.intro (by walk_at "sc") ?_
  | refine iteT ?_
  | refine iteF ?_)
def letters : Str := "abcdefghijklmnopqrstuvwxyz"
def isWord (t : Str) : Bool := (decide ((1 : Int) ≤ t.length) && decide ((t.length : Int) ≤ 8)) && t.cps.toList.all fun c => decide (c ∈ letters.cps.toList)
def spIsWord : Sp := fun vs H Q _ => ∃ t : Str, vs = [.str t] ∧ t.length ≤ 1000 ∧ ∀ H', Same H H' → Q (.bl (isWord t)) H'
theorem ok_is_word (T : Top K mg) : FnOk P w K mg base CX0 1 T.a_is_word T.fd_is_word ["text"] spIsWord := by
  refine T.F_is_word.ok sc_is_word (fun vs H Q E h => ?_) (fun cdv A outer s H vs Q E hr h => ?_)
  · obtain ⟨t, rfl, _⟩ := h
    rfl
  · obtain ⟨t, rfl, hl, k⟩ := h
    have hu := hu_of hr
    refine ⟨_, (pss_cons (ps_if (PW.pt (pw_or (pt_not (pt_val (pe_callB call_isi (by rfl) T.m_isinstance (by decide +kernel) (pa_cons (pv 0) (pa_cons (pe_bltn (v := .ty "str") (by rfl) T.m_str (by decide +kernel) rfl) pa_nil))))) (pw_or1 (pt_not (pt_chain op_le op_le pe_int (pe_callB call_len (by rfl) T.m_len (by decide +kernel) (pa_cons (pv 0) pa_nil)) (pe_glob rfl T.g_LONGEST_WORD T.r_LONGEST_WORD)))))) (pss_one (ps_ret pe_bl)) pss_nil)
      (pss_one (ps_ret (pe_callB (cr_all rfl) (by rfl) T.m_all (by decide +kernel) (pa_cons (pe_lc (own := [("letter", 1)]) (g := gName 1) (tt := tYes) rfl sc_is_word.nd (pi_str (pv 0)) (blkOk_by (N := N_is_word) (sc := defScope s_is_word) (by decide +kernel)) (fun _ _ _ _ _ => (pg_name (i := 1) sc_is_word.nd rfl (.inl rfl))) (fun _ _ _ _ _ => pts_nil) (fun _ _ _ _ _ => (pe_cmpR op_in_sign (pv 1) (pe_glob rfl T.g_LETTERS T.r_LETTERS) rfl))) pa_nil))))), ?_⟩
    repeat walk_at "g1"
    refine ⟨.str t, .ty "str", .type "str", .type "str", true, rfl, .ty _, .base (.str t), kit_ty (by decide +kernel), ?_⟩
    repeat walk_at "g1"
    refine ⟨_, _, rfl, ⟨by have := sizeLine_of (show t.length ≤ 1000000 by omega); omega, rfl⟩, ?_⟩
    have e1 : ∀ h : ¬ decide ((1 : Int) ≤ t.length) = true, isWord t = false := fun h => by
      unfold isWord
      rw [Bool.eq_false_iff.mpr h]
      rfl
    have e2 : ∀ h : ¬ decide ((t.length : Int) ≤ 8) = true, isWord t = false := fun h => by
      unfold isWord
      rw [Bool.eq_false_iff.mpr h, Bool.and_false]
      rfl
    repeat walk_at "g1"
    refine ite2 (fun h1 => ?_) (fun h1 => ?_)
    · repeat walk_at "g1"
      refine ite2 (fun h2 => ?_) (fun h2 => ?_)
      · have h2' : ¬ decide ((t.length : Int) ≤ 8) = true := by
          intro z
          rw [z] at h2
          exact absurd h2 (by decide)
        show Q (.bl false) H
        rw [← e2 h2']
        exact k H (Same.refl H)
      · have h2' : decide ((t.length : Int) ≤ 8) = true := by
          cases z : decide ((t.length : Int) ≤ 8) with
          | true => rfl
          | false => rw [z] at h2; exact absurd rfl h2
        refine ⟨.str t, rfl, t, rfl, fun D hD => lc_map walk_str (by show t.length ≤ _; omega) hD (fun i => V.bl (decide (t.cps.toList[i]?.getD 0 ∈ letters.cps.toList))) (fun _ _ => trivial) (fun i x H1 H2 hi s1 hy R r => ?_) (fun H1 s1 hd => ?_) gName_mono⟩
        · obtain ⟨rfl, c, hc, rfl⟩ := hy
          refine ⟨rfl, ?_⟩
          refine ⟨_, rfl, c, letters, rfl, rfl, ?_⟩
          have q := r _ (Same.refl _)
          rw [Array.getElem?_toList, hc] at q
          exact q
        · have el : (List.range t.cps.size).map (fun i => V.bl (decide (t.cps.toList[i]?.getD 0 ∈ letters.cps.toList))) = (t.cps.toList.map fun c => decide (c ∈ letters.cps.toList)).map V.bl := by
            rw [List.map_map]
            refine range_map t.cps.toList _ _ fun i x h => ?_
            rw [h]
            rfl
          refine ⟨D, _, rfl, SqL.of (by rw [hd, el]), ?_⟩
          have ew : isWord t = (t.cps.toList.map fun c => decide (c ∈ letters.cps.toList)).all id := by
            unfold isWord
            rw [h1, h2', List.all_map]
            rfl
          rw [← ew]
          exact k H1 s1
    · repeat walk_at "g1"
      show Q (.bl false) H
      rw [← e1 h1]
      exact k H (Same.refl H)
end
section
local macro_rules | `(tactic| walk_at "sl") => `(tactic| first | assumption | exact SqL.of upd_same | exact SqL.of (by assumption) | ((with_reducible apply sql_upd); (walk_at "sl"); (first | assumption | exact Ne.symm (by assumption))))
local macro_rules | `(tactic| walk_at "st") => `(tactic| first | assumption | exact SqT.of upd_same | exact SqT.of (by assumption))
local macro_rules | `(tactic| walk_at "sc") => `(tactic| first | rfl | assumption | (show (0 : Int) < _; first | assumption | decide | omega) | exact Or.inl ⟨by omega, by omega⟩ | exact Or.inr ⟨by omega, by omega⟩ | exact ⟨by decide, by decide⟩ | exact ⟨by decide, by decide, by decide⟩)
local macro_rules | `(tactic| walk_at "g1") => `(tactic| first
  | refine ⟨(_ : V), rfl, ?_⟩
  | refine ⟨(_ : Bool), rfl, ?_⟩
  | refine ⟨(_ : Int), (_ : Int), rfl, rfl, ?_⟩
  | refine ⟨(_ : Int), rfl, ?_⟩
  | refine ⟨(_ : Str), rfl, ?_⟩
  | refine ⟨(_ : Addr), (_ : List V), rfl, Or.inl (by walk_at "sl"), ?_⟩
  | refine ⟨(_ : Addr), (_ : List V), rfl, Or.inr (by walk_at "st"), ?_⟩
  | refine ⟨(_ : Addr), (_ : List V), (_ : Int), (_ : V), rfl, rfl, (by walk_at "sl"), (by first | rfl | assumption), ?_⟩
  | refine ⟨(_ : Addr), (_ : List V), (_ : Int), (_ : V), rfl, rfl, (by walk_at "st"), (by first | rfl | assumption), ?_⟩
  | refine ⟨(_ : Addr), (_ : List V), (_ : Int), (_ : Nat), rfl, rfl, upd_same, rfl, ?_⟩
  | refine ⟨(_ : Addr), (_ : List V), (_ : Int), (_ : Nat), rfl, rfl, (by assumption), rfl, ?_⟩
  | refine ⟨(_ : Addr), (_ : Addr), (_ : Addr), (_ : List (Str × V)), (_ : V), rfl, (by assumption), (by assumption), (by assumption), (by first | assumption | rfl), ?_⟩
  | refine Or.inl ⟨(_ : Int), rfl, ?_⟩
  | refine And.intro (by walk_at "sc") ?_
  | refine iteT ?_
  | refine iteF ?_)
/-! ### numbers -/
def isNum (n a b : Int) : Bool := decide (a ≤ n) && decide (n ≤ b)
def spIsNumber : Sp := fun vs H Q _ => ∃ n a b : Int, vs = [.int n, .int a, .int b] ∧ Q (.bl (isNum n a b)) H
theorem ok_is_number (T : Top K mg) : FnOk P w K mg base CX0 1 T.a_is_number T.fd_is_number ["number", "least", "greatest"] spIsNumber := by
  refine T.F_is_number.ok sc_is_number (fun vs H Q E h => ?_) (fun cdv A outer s H vs Q E hr h => ?_)
  · obtain ⟨n, a, b, rfl, _⟩ := h
    rfl
  · obtain ⟨n, a, b, rfl, k⟩ := h
    have hu := hu_of hr
    refine ⟨_, (pss_cons (ps_if (PW.pt (pw_or (pt_val (pe_callB call_isi (by rfl) T.m_isinstance (by decide +kernel) (pa_cons (pv 0) (pa_cons (pe_bltn (v := .ty "bool") (by rfl) T.m_bool (by decide +kernel) rfl) pa_nil)))) (pw_or1 (pt_not (pt_val (pe_callB call_isi (by rfl) T.m_isinstance (by decide +kernel) (pa_cons (pv 0) (pa_cons (pe_bltn (v := .ty "int") (by rfl) T.m_int (by decide +kernel) rfl) pa_nil)))))))) (pss_one (ps_ret pe_bl)) pss_nil)
      (pss_one (ps_ret (pe_chain op_le op_le (pv 1) (pv 0) (pv 2))))), ?_⟩
    repeat walk_at "g1"
    refine ⟨.int n, .ty "bool", .type "int", .type "bool", false, rfl, .ty _, .base (.int n), kit_ty (by decide +kernel), ?_⟩
    repeat walk_at "g1"
    refine ⟨.int n, .ty "int", .type "int", .type "int", true, rfl, .ty _, .base (.int n), kit_ty (by decide +kernel), ?_⟩
    repeat walk_at "g1"
    refine ite2 (fun h1 => ?_) (fun h1 => ?_)
    · repeat walk_at "g1"
      have e : isNum n a b = decide (n ≤ b) := by unfold isNum; rw [h1, Bool.true_and]
      rw [e] at k
      exact k
    · have e : isNum n a b = false := by unfold isNum; rw [Bool.eq_false_iff.mpr h1, Bool.false_and]
      rw [e] at k
      exact k
/-! ### the books of a card -/
def asc (bs : List Int) : Bool := (bs.zip (bs.drop 1)).all fun p => decide (p.1 < p.2)
def isBooks (bs : List Int) : Bool := decide (bs.length ≤ 6) && bs.all (fun b => isNum b 1 999) && asc bs
def spAreBooks (K : PySem.W.Frag) : Sp := fun vs H Q _ => ∃ (a : Addr) (bs : List Int), vs = [.ref a] ∧ SqT K H a (bs.map V.int) ∧ bs.length ≤ 1000 ∧ ∀ H', Same H H' → Q (.bl (isBooks bs)) H'
theorem cut1 (xs : List V) : cutV xs (some 1) none = xs.drop 1 := by
  unfold cutV
  rw [show HT.sIx xs.length 0 (some 1) = min 1 xs.length from HT.sIx_nat xs.length 0 1, HT.sIx_none]
  cases xs with
  | nil => rfl
  | cons x r =>
    rw [show min 1 (x :: r).length = 1 by rw [List.length_cons]; omega]
    exact List.take_of_length_le (by rw [List.length_drop]; exact Nat.le_refl _)
theorem gTup2_mono {K : PySem.W.Frag} {i j : Nat} : ∀ (x : V) (σ : St) (H : Hp) (A B : St → Hp → Prop), (∀ σ2 H2, A σ2 H2 → B σ2 H2) → gTup K 2 (gCons (gName i) (gCons (gName j) gNil)) x σ H A → gTup K 2 (gCons (gName i) (gCons (gName j) gNil)) x σ H B :=
  fun _ _ _ _ _ h ⟨a, xs, e, s, l, v, r, e2, v2, r2, e3, e4, q⟩ => ⟨a, xs, e, s, l, v, r, e2, v2, r2, e3, e4, h _ _ q⟩
theorem ok_are_books (T : Top K mg) : FnOk P w K mg base CX0 2 T.a_are_books T.fd_are_books ["books"] (spAreBooks K) := by
  refine T.F_are_books.ok sc_are_books (fun vs H Q E h => ?_) (fun cdv A outer s H vs Q E hr h => ?_)
  · obtain ⟨a, bs, rfl, _⟩ := h
    rfl
  · obtain ⟨a, bs, rfl, hS, hl, k⟩ := h
    have hu := hu_of hr
    refine ⟨_, (pss_cons (ps_if (PW.pt (pw_or (pt_not (pt_val (pe_callB call_isi (by rfl) T.m_isinstance (by decide +kernel) (pa_cons (pv 0) (pa_cons (pe_bltn (v := .ty "tuple") (by rfl) T.m_tuple (by decide +kernel) rfl) pa_nil))))) (pw_or1 (pt_cmpR op_gt (pe_callB call_len_seq (by rfl) T.m_len (by decide +kernel) (pa_cons (pv 0) pa_nil)) (pe_glob rfl T.g_MOST_BOOKS T.r_MOST_BOOKS) (nomark _))))) (pss_one (ps_ret pe_bl)) pss_nil)
      (pss_cons (ps_if (pt_not (pt_val (pe_callB (cr_all rfl) (by rfl) T.m_all (by decide +kernel) (pa_cons (pe_lc (own := [("book", 1)]) (g := gName 1) (tt := tYes) rfl sc_are_books.nd (pi_tup (pv 0)) (blkOk_by (N := N_are_books) (sc := defScope s_are_books) (by decide +kernel)) (fun _ _ _ _ _ => (pg_name (i := 1) sc_are_books.nd rfl (.inl rfl))) (fun _ _ _ _ _ => pts_nil) (fun _ _ _ _ _ => (pe_call (ok_is_number T) (hr.mono (by decide)) (by rfl) T.g_is_number T.F_is_number.kp (b_is_number T) .nil pass0 (pa_cons (pv 1) (pa_cons pe_int (pa_cons (pe_glob rfl T.g_LAST_BOOK T.r_LAST_BOOK) pa_nil)))))) pa_nil)))) (pss_one (ps_ret pe_bl)) pss_nil)
      (pss_one (ps_ret (pe_callB (cr_all rfl) (by rfl) T.m_all (by decide +kernel) (pa_cons (pe_lc (own := [("book", 1), ("later", 2)]) (g := gTup K 2 (gCons (gName 1) (gCons (gName 2) gNil))) (tt := tYes) rfl sc_are_books.nd (RZ.pi_zipA (by rfl) T.m_zip (pa_cons (pv 0) (pa_cons (pe_slice sl_tupA (pv 0) (po_some pe_int) po_none) pa_nil))) (blkOk_by (N := N_are_books) (sc := defScope s_are_books) (by decide +kernel)) (fun _ _ _ _ _ => (pg_tup rfl (pgs_cons (pg_name (i := 1) sc_are_books.nd rfl (.inl rfl)) (pgs_cons (pg_name (i := 2) sc_are_books.nd rfl (.inl rfl)) pgs_nil)))) (fun _ _ _ _ _ => pts_nil) (fun _ _ _ _ _ => (pe_cmpR op_lt (pv 1) (pv 2) (nomark _)))) pa_nil)))))), ?_⟩
    repeat walk_at "g1"
    refine ⟨.ref a, .ty "tuple", .type "tuple", .type "tuple", true, rfl, .ty _, ty_tup hS, kit_ty (by decide +kernel), ?_⟩
    repeat walk_at "g1"
    have hlen : (bs.map V.int).length = bs.length := List.length_map ..
    refine ite2 (fun h1 => ?_) (fun h1 => ?_)
    · repeat walk_at "g1"
      have e : isBooks bs = false := by
        have q := of_decide_eq_true h1
        rw [hlen] at q
        unfold isBooks
        rw [decide_eq_false (by omega), Bool.false_and, Bool.false_and]
      have q := k H (Same.refl H)
      rw [e] at q
      exact q
    · have h6 : decide (bs.length ≤ 6) = true := by
        refine decide_eq_true ?_
        have q := of_decide_eq_false (Bool.eq_false_iff.mpr h1)
        rw [hlen] at q
        omega
      -- all([is_number(book, 1, LAST_BOOK) for book in books])
      refine ⟨.ref a, rfl, a, rfl, ⟨_, hS⟩, fun D hD => lc_map walk_tup (by rw [hlen]; omega) hD (fun i => V.bl (isNum (bs[i]?.getD 0) 1 999)) (fun H1 s1 => s1.seqT hS) (fun i x H1 H2 hi s1 hy R r => ?_) (fun H1 s1 hd => ?_) gName_mono⟩
      · obtain ⟨rfl, hx⟩ := hy
        rw [List.getElem?_map] at hx
        obtain ⟨b, hb, rfl⟩ := Option.map_eq_some_iff.mp hx
        refine ⟨rfl, ?_⟩
        refine ⟨_, rfl, ?_⟩
        have q := r _ (Same.refl _)
        rw [hb] at q
        exact ⟨b, 1, 999, rfl, q⟩
      · have el : (List.range (bs.map V.int).length).map (fun i => V.bl (isNum (bs[i]?.getD 0) 1 999)) = (bs.map fun b => isNum b 1 999).map V.bl := by
          rw [hlen, List.map_map]
          refine range_map bs _ _ fun i x h => ?_
          rw [h]
          rfl
        rw [el] at hd
        refine ⟨D, _, rfl, SqL.of hd, ?_⟩
        repeat walk_at "g1"
        have eall : (bs.map fun b => isNum b 1 999).all id = bs.all fun b => isNum b 1 999 := by rw [List.all_map]; rfl
        rw [eall]
        cases h2 : bs.all fun b => isNum b 1 999 with
        | false =>
          repeat walk_at "g1"
          have e : isBooks bs = false := by
            unfold isBooks
            rw [h2, Bool.and_false, Bool.false_and]
          have q := k H1 s1
          rw [e] at q
          exact q
        | true =>
          repeat walk_at "g1"
          have hS1 := s1.seqT hS
          have asc0 : asc bs = (((List.range (min bs.length (bs.drop 1).length)).map fun i => decide (bs[i]?.getD 0 < (bs.drop 1)[i]?.getD 0)).all id) := by
            unfold asc
            rw [← List.length_zip, range_map (bs.zip (bs.drop 1)) (fun p => decide (p.1 < p.2)) _ fun i p h => ?_, List.all_map]
            · rfl
            · obtain ⟨q1, q2⟩ := List.getElem?_zip_eq_some.mp h
              rw [q1, q2]
              rfl
          have whole : ∀ (c : Addr) (H2 : Hp), Same H1 H2 → SqT K H2 c ((bs.map V.int).drop 1) → ∀ D2, H2 D2 = none → ∀ (Qd : Hp → Prop), (∀ H3, Same H1 H3 → SqL K H3 D2 (((List.range (min bs.length (bs.drop 1).length)).map fun i => decide (bs[i]?.getD 0 < (bs.drop 1)[i]?.getD 0)).map V.bl) → Qd H3) → _ :=
            fun c H2 s2 hC D2 hD2 Qd fin => lc_map (Qd := Qd) (σ := start N_are_books [.ref a]) (g := gTup K 2 (gCons (gName 1) (gCons (gName 2) gNil))) (te := tOp (rI0 fun i j => .bl (decide (i < j))) (tVar 1) (tVar 2)) (vs := [1, 2]) (walk_zipT (K := K) (a := a) (b := c) (xs := bs.map V.int) (ys := (bs.map V.int).drop 1) rfl) (by rw [hlen]; omega) hD2
              (fun i => V.bl (decide (bs[i]?.getD 0 < (bs.drop 1)[i]?.getD 0))) (fun H3 s3 => ⟨s3.seqT (s2.seqT hS1), s3.seqT hC⟩) (fun i x H3 H4 hi s3 hy R r => by
                obtain ⟨Tp, x1, x2, rfl, nT, rfl, e1, e2⟩ := hy
                replace e1 : (bs.map V.int)[i]? = some x1 := e1
                replace e2 : ((bs.map V.int).drop 1)[i]? = some x2 := e2
                rw [List.getElem?_map] at e1
                obtain ⟨b1, hb1, rfl⟩ := Option.map_eq_some_iff.mp e1
                rw [← List.map_drop, List.getElem?_map] at e2
                obtain ⟨b2, hb2, rfl⟩ := Option.map_eq_some_iff.mp e2
                refine ⟨Tp, _, rfl, SqT.of upd_same, rfl, _, _, rfl, _, _, rfl, rfl, rfl, ?_⟩
                refine ⟨_, rfl, _, rfl, b1, b2, rfl, rfl, ?_⟩
                have q := r (upd H3 Tp (.tup [.int b1, .int b2])) (same_new nT)
                rw [hb1, hb2] at q
                exact q) (fun H3 s3 hd3 => fin H3 (s2.trans s3) (SqL.of (by
                  rw [hd3, List.map_map]
                  rw [hlen, List.length_drop, hlen, List.length_drop]
                  rfl))) (gTup2_mono (K := K))
          have last : ∀ (H3 : Hp) (D2 : Addr), Same H1 H3 → SqL K H3 D2 (((List.range (min bs.length (bs.drop 1).length)).map fun i => decide (bs[i]?.getD 0 < (bs.drop 1)[i]?.getD 0)).map V.bl) → rAll K [.ref D2] H3 Q := fun H3 D2 s3 hd3 => by
            refine ⟨D2, _, rfl, hd3, ?_⟩
            rw [← asc0]
            have e : isBooks bs = asc bs := by
              unfold isBooks
              rw [h6, h2, Bool.true_and, Bool.true_and]
            rw [← e]
            exact k H3 (s1.trans s3)
          refine ⟨a, _, rfl, hS1, fun hw => ?_, fun hw c hc => ?_⟩
          · have hC : SqT K H1 a ((bs.map V.int).drop 1) := by
              rw [← cut1]
              have e : cutV (bs.map V.int) (some 1) none = bs.map V.int := by
                unfold cutV
                rw [hw.1, hw.2, Nat.sub_zero, List.drop_zero]
                exact List.take_length
              rw [e]
              exact hS1
            exact ⟨a, a, _, _, rfl, Or.inr ⟨hS1, hC, fun D2 hD2 => whole a H1 (Same.refl _) hC D2 hD2 _ fun H3 s3 q => last H3 D2 s3 q⟩⟩
          · have hC : SqT K (upd H1 c (.tup (cutV (bs.map V.int) (some 1) none))) c ((bs.map V.int).drop 1) := by
              rw [← cut1]
              exact SqT.of upd_same
            exact ⟨a, c, _, _, rfl, Or.inr ⟨(same_new hc).seqT hS1, hC, fun D2 hD2 => whole c _ (same_new hc) hC D2 hD2 _ fun H3 s3 q => last H3 D2 s3 q⟩⟩

/-! ### see, also -/
theorem dec_str {a b : Str} : (decide (V.str a = V.str b)) = decide (a = b) := by
  by_cases h : a = b
  · rw [decide_eq_true h, h]
    exact decide_eq_true rfl
  · rw [decide_eq_false h]
    exact decide_eq_false fun z => h (V.str.inj z)
def isTarget (see heading : Str) : Bool := decide (see = "") || (isWord see && !decide (see = heading))
def spIsTarget : Sp := fun vs H Q _ => ∃ a b : Str, vs = [.str a, .str b] ∧ a.length ≤ 1000 ∧ ∀ H', Same H H' → Q (.bl (isTarget a b)) H'
theorem ok_is_target (T : Top K mg) : FnOk P w K mg base CX0 2 T.a_is_target T.fd_is_target ["see", "heading"] spIsTarget := by
  refine T.F_is_target.ok sc_is_target (fun vs H Q E h => ?_) (fun cdv A outer s H vs Q E hr h => ?_)
  · obtain ⟨a, b, rfl, _⟩ := h
    rfl
  · obtain ⟨a, b, rfl, hl, k⟩ := h
    have hu := hu_of hr
    refine ⟨_, (pss_one (ps_ret (pe_or (pe_cmpR op_eq (pv 0) pe_str (nomark _)) (pe_one (pe_and (pe_call (ok_is_word T) (hr.mono (by decide)) (by rfl) T.g_is_word T.F_is_word.kp (b_is_word T) .nil pass0 (pa_cons (pv 0) pa_nil)) (pe_one (pe_cmpR op_ne (pv 0) (pv 1) (nomark _)))))))), ?_⟩
    repeat walk_at "g1"
    have e0 : (decide (V.str a = V.str "")) = decide (a = "") := by
      by_cases h : a = ""
      · rw [decide_eq_true h, h]
        exact decide_eq_true rfl
      · rw [decide_eq_false h]
        exact decide_eq_false fun z => h (V.str.inj z)
    have e1 : (decide (V.str a = V.str b)) = decide (a = b) := by
      by_cases h : a = b
      · rw [decide_eq_true h, h]
        exact decide_eq_true rfl
      · rw [decide_eq_false h]
        exact decide_eq_false fun z => h (V.str.inj z)
    refine ite2 (fun h1 => ?_) (fun h1 => ?_)
    · rw [show (Str.ofString "") = ("" : Str) from rfl, e0] at h1
      have e : isTarget a b = true := by
        unfold isTarget
        rw [h1, Bool.true_or]
      have q := k H (Same.refl H)
      rw [e] at q
      exact q
    · rw [show (Str.ofString "") = ("" : Str) from rfl, e0] at h1
      have eT : isTarget a b = (isWord a && !decide (a = b)) := by
        unfold isTarget
        rw [Bool.eq_false_iff.mpr h1, Bool.false_or]
      rw [eT] at k
      repeat walk_at "g1"
      intro H1 s1
      cases hw : isWord a with
      | false =>
        repeat walk_at "g1"
        have q := k H1 s1
        rw [hw, Bool.false_and] at q
        exact q
      | true =>
        repeat walk_at "g1"
        have q := k H1 s1
        rw [hw, Bool.true_and, ← e1] at q
        exact q
theorem nodup_le1 {ws : List Str} (h : ws.length ≤ 1) : ws.Nodup := by
  match ws, h with
  | [], _ => exact List.nodup_nil
  | [x], _ => exact List.nodup_cons.mpr ⟨by simp, List.nodup_nil⟩
theorem nodup_eq : ∀ {ws ks : List Str}, ks.Nodup → (∀ k, k ∈ ks ↔ k ∈ ws) → ks.length ≤ ws.length ∧ (ks.length = ws.length ↔ ws.Nodup)
  | [], ks, h, e => by
    have : ks = [] := List.eq_nil_iff_forall_not_mem.mpr fun k z => absurd ((e k).mp z) (List.not_mem_nil)
    subst this
    exact ⟨Nat.le_refl _, fun _ => List.nodup_nil, fun _ => rfl⟩
  | x :: r, ks, h, e => by
    by_cases hx : x ∈ r
    · obtain ⟨a, _⟩ := nodup_eq (ws := r) h fun k => (e k).trans ⟨fun z => (List.mem_cons.mp z).elim (fun y => y ▸ hx) id, List.mem_cons_of_mem _⟩
      refine ⟨Nat.le_succ_of_le a, fun q => ?_, fun q => absurd hx (List.nodup_cons.mp q).1⟩
      rw [List.length_cons] at q
      omega
    · have hm : x ∈ ks := (e x).mpr (List.mem_cons_self ..)
      have hl := List.length_erase_of_mem hm
      have hp := List.length_pos_of_mem hm
      obtain ⟨a, b⟩ := nodup_eq (ws := r) (h.erase x) fun k => by
        rw [h.mem_erase_iff, e k, List.mem_cons]
        exact ⟨fun ⟨n, z⟩ => z.elim (fun y => absurd y n) id, fun z => ⟨fun y => hx (y ▸ z), .inr z⟩⟩
      rw [List.length_cons, List.nodup_cons]
      refine ⟨by omega, fun q => ⟨hx, b.mp (by omega)⟩, fun q => ?_⟩
      have := b.mpr q.2
      omega
def isFurther (ws : List Str) (heading : Str) : Bool := decide (ws.length ≤ 4) && ws.all (fun x => isWord x && !decide (x = heading)) && decide ws.Nodup
def spAreFurther (K : PySem.W.Frag) : Sp := fun vs H Q _ => ∃ (a : Addr) (ws : List Str) (b : Str), vs = [.ref a, .str b] ∧ SqT K H a (ws.map V.str) ∧ ws.length ≤ 4 ∧ (∀ x ∈ ws, x.length ≤ 1000) ∧ ∀ H', Same H H' → Q (.bl (isFurther ws b)) H'
theorem ok_are_further (T : Top K mg) : FnOk P w K mg base CX0 2 T.a_are_further T.fd_are_further ["also", "heading"] (spAreFurther K) := by
  refine T.F_are_further.ok sc_are_further (fun vs H Q E h => ?_) (fun cdv A outer s H vs Q E hr h => ?_)
  · obtain ⟨a, ws, b, rfl, _⟩ := h
    rfl
  · obtain ⟨a, ws, b, rfl, hS, hl, hx, k⟩ := h
    have hu := hu_of hr
    refine ⟨_, (pss_cons (ps_if (PW.pt (pw_or (pt_not (pt_val (pe_callB call_isi (by rfl) T.m_isinstance (by decide +kernel) (pa_cons (pv 0) (pa_cons (pe_bltn (v := .ty "tuple") (by rfl) T.m_tuple (by decide +kernel) rfl) pa_nil))))) (pw_or1 (pt_cmpR op_gt (pe_callB call_len_seq (by rfl) T.m_len (by decide +kernel) (pa_cons (pv 0) pa_nil)) (pe_glob rfl T.g_MOST_ALSO T.r_MOST_ALSO) (nomark _))))) (pss_one (ps_ret pe_bl)) pss_nil)
      (pss_cons (ps_if (pt_not (pt_val (pe_callB (cr_all rfl) (by rfl) T.m_all (by decide +kernel) (pa_cons (pe_lc (own := [("word", 2)]) (g := gName 2) (tt := tYes) rfl sc_are_further.nd (pi_tup (pv 0)) (blkOk_by (N := N_are_further) (sc := defScope s_are_further) (by decide +kernel)) (fun _ _ _ _ _ => (pg_name (i := 2) sc_are_further.nd rfl (.inl rfl))) (fun _ _ _ _ _ => pts_nil) (fun _ _ _ _ _ => (pe_and (pe_call (ok_is_word T) (hr.mono (by decide)) (by rfl) T.g_is_word T.F_is_word.kp (b_is_word T) .nil pass0 (pa_cons (pv 2) pa_nil)) (pe_one (pe_cmpR op_ne (pv 2) (pv 1) (nomark _)))))) pa_nil)))) (pss_one (ps_ret pe_bl)) pss_nil)
      (pss_one (ps_ret (pe_cmpR op_eq (pe_callB call_lenSS (by rfl) T.m_len (by decide +kernel) (pa_cons (pe_callTy (call_setTSK (K := K) (P := P) (w := w) rfl rfl rfl rfl) (by rfl) T.m_set (by decide +kernel) (pa_cons (pv 0) pa_nil)) pa_nil)) (pe_callB call_len_seq (by rfl) T.m_len (by decide +kernel) (pa_cons (pv 0) pa_nil)) (nomark _)))))), ?_⟩
    repeat walk_at "g1"
    refine ⟨.ref a, .ty "tuple", .type "tuple", .type "tuple", true, rfl, .ty _, ty_tup hS, kit_ty (by decide +kernel), ?_⟩
    repeat walk_at "g1"
    have hlen : (ws.map V.str).length = ws.length := List.length_map ..
    refine ite2 (fun h1 => ?_) (fun h1 => ?_)
    · have q := of_decide_eq_true h1
      rw [hlen] at q
      omega
    · refine ⟨_, rfl, a, rfl, ⟨_, hS⟩, fun D hD => lc_map walk_tup (by rw [hlen]; omega) hD (fun i => V.bl (isWord (ws[i]?.getD ("" : Str)) && !decide ((ws[i]?.getD ("" : Str)) = b))) (fun H1 s1 => s1.seqT hS) (fun i x H1 H2 hi s1 hy R r => ?_) (fun H1 s1 hd => ?_) gName_mono⟩
      · obtain ⟨rfl, hv⟩ := hy
        rw [List.getElem?_map] at hv
        obtain ⟨z, hz, rfl⟩ := Option.map_eq_some_iff.mp hv
        rw [hz] at r
        refine ⟨rfl, ?_⟩
        refine ⟨_, rfl, z, rfl, hx z (List.mem_of_getElem? hz), fun H3 s3 => ?_⟩
        refine ⟨_, rfl, ?_⟩
        have q := r H3 s3
        cases hw : isWord z with
        | false =>
          repeat walk_at "g1"
          rw [show (some z).getD ("" : Str) = z from rfl, hw, Bool.false_and] at q
          exact q
        | true =>
          repeat walk_at "g1"
          rw [show (some z).getD ("" : Str) = z from rfl, hw, Bool.true_and, ← dec_str] at q
          exact q
      · have el : (List.range (ws.map V.str).length).map (fun i => V.bl (isWord (ws[i]?.getD ("" : Str)) && !decide ((ws[i]?.getD ("" : Str)) = b))) = (ws.map fun x => isWord x && !decide (x = b)).map V.bl := by
          rw [hlen, List.map_map]
          refine range_map ws _ _ fun i x h => ?_
          rw [h]
          rfl
        rw [el] at hd
        refine ⟨D, _, rfl, SqL.of hd, ?_⟩
        have eall : (ws.map fun x => isWord x && !decide (x = b)).all id = ws.all fun x => isWord x && !decide (x = b) := by rw [List.all_map]; rfl
        rw [eall]
        have h4 : decide (ws.length ≤ 4) = true := decide_eq_true (by omega)
        have eT : isFurther ws b = ((ws.all fun x => isWord x && !decide (x = b)) && decide ws.Nodup) := by
          unfold isFurther
          rw [h4, Bool.true_and]
        cases h2 : ws.all fun x => isWord x && !decide (x = b) with
        | false =>
          repeat walk_at "g1"
          have q := k H1 s1
          rw [eT, h2, Bool.false_and] at q
          exact q
        | true =>
          repeat walk_at "g1"
          refine ⟨a, ws, rfl, s1.seqT hS, by omega, fun p ks hp hnd hks => ?_⟩
          obtain ⟨n1, n2⟩ := nodup_eq hnd hks
          refine ⟨p, _, ks.length, rfl, upd_same, by omega, ?_⟩
          have s2 := s1.trans (same_new (o := SetSO P w p (fun j => decide (j ∈ ws)) ks.length) hp)
          refine ⟨_, rfl, a, _, rfl, .inr (s2.seqT hS), ?_⟩
          have q := k _ s2
          rw [eT, h2, Bool.true_and] at q
          refine ⟨rfl, ?_⟩
          have e : decide (V.int (ks.length : Int) = V.int ((ws.map V.str).length : Int)) = decide ws.Nodup := by
            rw [hlen]
            by_cases z : ws.Nodup
            · rw [decide_eq_true z, decide_eq_true (by rw [n2.mpr z])]
            · rw [decide_eq_false z, decide_eq_false fun y => z (n2.mp (by have := V.int.inj y; omega))]
          rw [e]
          exact q
end
section
local macro_rules | `(tactic| walk_at "sl") => `(tactic| first | assumption | exact SqL.of upd_same | exact SqL.of (by assumption) | ((with_reducible apply sql_upd); (walk_at "sl"); (first | assumption | exact Ne.symm (by assumption))))
local macro_rules | `(tactic| walk_at "st") => `(tactic| first | assumption | exact SqT.of upd_same | exact SqT.of (by assumption))
local macro_rules | `(tactic| walk_at "sc") => `(tactic| first | rfl | assumption | (show (0 : Int) < _; first | assumption | decide | omega) | exact Or.inl ⟨by omega, by omega⟩ | exact Or.inr ⟨by omega, by omega⟩ | exact ⟨by decide, by decide⟩ | exact ⟨by decide, by decide, by decide⟩)
local macro_rules | `(tactic| walk_at "g1") => `(tactic| first
  | refine ⟨(_ : V), rfl, ?_⟩
  | refine ⟨(_ : Bool), rfl, ?_⟩
  | refine ⟨(_ : Int), (_ : Int), rfl, rfl, ?_⟩
  | refine ⟨(_ : Int), rfl, ?_⟩
  | refine ⟨(_ : Str), rfl, ?_⟩
  | refine ⟨(_ : Addr), (_ : List V), rfl, Or.inl (by walk_at "sl"), ?_⟩
  | refine ⟨(_ : Addr), (_ : List V), rfl, Or.inr (by walk_at "st"), ?_⟩
  | refine ⟨(_ : Addr), (_ : List V), (_ : Int), (_ : V), rfl, rfl, (by walk_at "sl"), (by first | rfl | assumption), ?_⟩
  | refine ⟨(_ : Addr), (_ : List V), (_ : Int), (_ : V), rfl, rfl, (by walk_at "st"), (by first | rfl | assumption), ?_⟩
  | refine ⟨(_ : Addr), (_ : List V), (_ : Int), (_ : Nat), rfl, rfl, upd_same, rfl, ?_⟩
  | refine ⟨(_ : Addr), (_ : List V), (_ : Int), (_ : Nat), rfl, rfl, (by assumption), rfl, ?_⟩
  | refine ⟨(_ : Addr), (_ : Addr), (_ : Addr), (_ : List (Str × V)), (_ : V), rfl, (by assumption), (by assumption), (by assumption), (by first | assumption | rfl), ?_⟩
  | refine Or.inl ⟨(_ : Int), rfl, ?_⟩
  | refine And.intro (by walk_at "sc") ?_
  | refine iteT ?_
  | refine iteF ?_)
/-! ### cards -/
structure CD where
  heading : Str
  books : List Int
  see : Str
  also : List Str
/-- a card that is as it must be -/
structure CD.Good (c : CD) : Prop where
  h : isWord c.heading = true
  b : isBooks c.books = true
  t : isTarget c.see c.heading = true
  e : c.see = "" ∨ (c.books = [] ∧ c.also = [])
  a : isFurther c.also c.heading = true
theorem CD.Good.lh {c : CD} (g : c.Good) : c.heading.length ≤ 8 := by
  have q := g.h
  unfold isWord at q
  rw [Bool.and_eq_true, Bool.and_eq_true] at q
  have := of_decide_eq_true q.1.2
  omega
theorem word_len {x : Str} (g : isWord x = true) : x.length ≤ 8 := by
  unfold isWord at g
  rw [Bool.and_eq_true, Bool.and_eq_true] at g
  have := of_decide_eq_true g.1.2
  omega
theorem CD.Good.ls {c : CD} (g : c.Good) : c.see.length ≤ 8 := by
  have q := g.t
  unfold isTarget at q
  rw [Bool.or_eq_true, Bool.and_eq_true] at q
  rcases q with q | q
  · rw [of_decide_eq_true q]
    decide
  · exact word_len q.1
theorem CD.Good.lb {c : CD} (g : c.Good) : c.books.length ≤ 6 := by
  have q := g.b
  unfold isBooks at q
  rw [Bool.and_eq_true, Bool.and_eq_true] at q
  exact of_decide_eq_true q.1.1
theorem CD.Good.la {c : CD} (g : c.Good) : c.also.length ≤ 4 := by
  have q := g.a
  unfold isFurther at q
  rw [Bool.and_eq_true, Bool.and_eq_true] at q
  exact of_decide_eq_true q.1.1
theorem CD.Good.wa {c : CD} (g : c.Good) : ∀ x ∈ c.also, isWord x = true := fun x hx => by
  have q := g.a
  unfold isFurther at q
  rw [Bool.and_eq_true, Bool.and_eq_true] at q
  have q2 := List.all_eq_true.mp q.1.2 x hx
  rw [Bool.and_eq_true] at q2
  exact q2.1
def spWrongPart (K : PySem.W.Frag) : Sp := fun vs H Q _ => ∃ (c : CD) (b a : Addr), vs = [.str c.heading, .ref b, .str c.see, .ref a] ∧ c.Good ∧ SqT K H b (c.books.map V.int) ∧ SqT K H a (c.also.map V.str) ∧ c.also.length ≤ 4 ∧ ∀ H', Same H H' → Q .non H'
theorem ok_wrong_part (T : Top K mg) : FnOk P w K mg base CX0 3 T.a_wrong_part T.fd_wrong_part ["heading", "books", "see", "also"] (spWrongPart K) := by
  refine T.F_wrong_part.ok sc_wrong_part (fun vs H Q E h => ?_) (fun cdv A outer s H vs Q E hr h => ?_)
  · obtain ⟨c, b, a, rfl, _⟩ := h
    rfl
  · obtain ⟨c, b, a, rfl, g, hB, hA, hl, k⟩ := h
    have hu := hu_of hr
    refine ⟨_, (pss_cons (ps_if (pt_not (pt_val (pe_call (ok_is_word T) (hr.mono (by decide)) (by rfl) T.g_is_word T.F_is_word.kp (b_is_word T) .nil pass0 (pa_cons (pv 0) pa_nil)))) (pss_one (ps_ret pe_str)) pss_nil)
      (pss_cons (ps_if (pt_not (pt_val (pe_call (ok_are_books T) (hr.mono (by decide)) (by rfl) T.g_are_books T.F_are_books.kp (b_are_books T) .nil pass0 (pa_cons (pv 1) pa_nil)))) (pss_one (ps_ret pe_str)) pss_nil)
      (pss_cons (ps_if (pt_not (pt_val (pe_call (ok_is_target T) (hr.mono (by decide)) (by rfl) T.g_is_target T.F_is_target.kp (b_is_target T) .nil pass0 (pa_cons (pv 2) (pa_cons (pv 0) pa_nil))))) (pss_one (ps_ret pe_str)) pss_nil)
      (pss_cons (ps_if (PW.pt (pw_and (pt_cmpR op_ne (pv 2) pe_str (nomark _)) (pw_and1 (PW.pt (pw_or (pt_cmpR (op_neD hr.units) (pv 1) (pe_tup pa_nil) (nomark _)) (pw_or1 (pt_cmpR (op_neD hr.units) (pv 3) (pe_tup pa_nil) (nomark _)))))))) (pss_one (ps_ret pe_str)) pss_nil)
      (pss_cons (ps_if (pt_not (pt_val (pe_call (ok_are_further T) (hr.mono (by decide)) (by rfl) T.g_are_further T.F_are_further.kp (b_are_further T) .nil pass0 (pa_cons (pv 3) (pa_cons (pv 0) pa_nil))))) (pss_one (ps_ret pe_str)) pss_nil)
      (pss_one (ps_ret pe_non))))))), ?_⟩
    have l1 := g.lh
    have l2 := g.ls
    have l3 := g.lb
    refine ⟨_, rfl, c.heading, rfl, by omega, fun H1 s1 => ?_⟩
    rw [g.h]
    repeat walk_at "g1"
    refine ⟨b, c.books, rfl, s1.seqT hB, by omega, fun H2 s2 => ?_⟩
    rw [g.b]
    have s12 := s1.trans s2
    repeat walk_at "g1"
    refine ⟨c.see, c.heading, rfl, by omega, fun H3 s3 => ?_⟩
    rw [g.t]
    have s13 := s12.trans s3
    repeat walk_at "g1"
    by_cases hs : c.see = ""
    · have e : (!decide (V.str c.see = V.str (Str.ofString ""))) = false := by
        rw [hs]
        exact congrArg _ (decide_eq_true rfl)
      rw [e]
      refine iteF ?_
      repeat walk_at "g1"
      refine ⟨a, c.also, c.heading, rfl, s13.seqT hA, hl, fun x hx => by have := word_len (g.wa x hx); omega, fun H5 s5 => ?_⟩
      rw [g.a]
      repeat walk_at "g1"
      exact k H5 (s13.trans s5)
    · have e : (!decide (V.str c.see = V.str (Str.ofString ""))) = true := by
        have q : decide (V.str c.see = V.str (Str.ofString "")) = false := decide_eq_false fun z => hs (V.str.inj z)
        rw [q]
        rfl
      rw [e]
      refine iteT ?_
      obtain ⟨eb, ea⟩ := g.e.resolve_left hs
      refine ⟨_, rfl, Nat.zero_le _, fun p hp => ⟨.tuple (c.books.map .int), .tuple [], dp_tInts ((same_new hp).seqT (s13.seqT hB)), dp_nil (SqT.of upd_same), sh_tInts _, rfl, ?_⟩⟩
      rw [eb]
      repeat walk_at "g1"
      refine ⟨Nat.zero_le _, fun p2 hp2 => ⟨.tuple (c.also.map .str), .tuple [], dp_tStrs ((same_new hp2).seqT ((same_new hp).seqT (s13.seqT hA))), dp_nil (SqT.of upd_same), ?_, rfl, ?_⟩⟩
      · rw [ea]
        rfl
      rw [ea]
      repeat walk_at "g1"
      have s15 := (s13.trans (same_new (o := .tup []) hp)).trans (same_new (o := .tup []) hp2)
      repeat walk_at "g1"
      refine ⟨a, c.also, c.heading, rfl, s15.seqT hA, hl, fun x hx => by have := word_len (g.wa x hx); omega, fun H5 s5 => ?_⟩
      rw [g.a]
      repeat walk_at "g1"
      exact k H5 (s15.trans s5)

/-! ### a card as it stands -/
def cardFlds (h b s a : V) : List (Str × V) := putF "_also" a (putF "_see" s (putF "_books" b (putF "_heading" h [])))
theorem cf_eq (h b s a : V) : cardFlds h b s a = ([(("_heading" : Str), h), (("_books" : Str), b), (("_see" : Str), s), (("_also" : Str), a)] : List (Str × V)) := by
  rfl
theorem cf_heading (h b s a : V) : (cardFlds h b s a).lookup ("_heading" : Str) = some h := by rw [cf_eq]; rfl
theorem cf_books (h b s a : V) : (cardFlds h b s a).lookup ("_books" : Str) = some b := by rw [cf_eq]; rfl
theorem cf_see (h b s a : V) : (cardFlds h b s a).lookup ("_see" : Str) = some s := by rw [cf_eq]; rfl
theorem cf_also (h b s a : V) : (cardFlds h b s a).lookup ("_also" : Str) = some a := by rw [cf_eq]; rfl
/-- the card c of the class C stands at p -/
def CardAt (K : PySem.W.Frag) (C : Addr) (H : Hp) (p : Addr) (c : CD) : Prop := ∃ (dx b a : Addr), H p = some (.ins C dx (cardFlds (.str c.heading) (.ref b) (.str c.see) (.ref a))) ∧ SqT K H b (c.books.map V.int) ∧ SqT K H a (c.also.map V.str)
theorem CardAt.imm {C : Addr} {H H' : Hp} {p : Addr} {c : CD} (h : CardAt K C H p c) (s : Imm H H') : CardAt K C H' p c := by
  obtain ⟨dx, b, a, h1, h2, h3⟩ := h
  exact ⟨dx, b, a, s _ _ h1 rfl, s.seqT h2, s.seqT h3⟩
theorem CardAt.same {C : Addr} {H H' : Hp} {p : Addr} {c : CD} (h : CardAt K C H p c) (s : Same H H') : CardAt K C H' p c := h.imm s.imm
def spCardInit (K : PySem.W.Frag) (C : Addr) : Sp := fun vs H Q _ => ∃ (p dx : Addr) (c : CD) (b a : Addr), vs = [.ref p, .str c.heading, .ref b, .str c.see, .ref a] ∧ H p = some (.ins C dx []) ∧ c.Good ∧ SqT K H b (c.books.map V.int) ∧ SqT K H a (c.also.map V.str) ∧ c.also.length ≤ 4 ∧
  ∀ H', But p H H' → CardAt K C H' p c → Q .non H'
theorem But.upd2 {r : Addr} {H H1 : Hp} {o : HO} (a : But r H H1) : But r H (L2.upd H1 r o) := a.upd
theorem ok_Card_init (T : Top K mg) : FnOk P w K mg base CX0 4 T.a_Card_init T.fd_Card_init ["self", "heading", "books", "see", "also"] (spCardInit K T.c_Card) := by
  refine T.F_Card_init.ok sc_Card_init (fun vs H Q E h => ?_) (fun cdv A outer s H vs Q E hr h => ?_)
  · obtain ⟨p, dx, c, b, a, rfl, _⟩ := h
    rfl
  · obtain ⟨p, dx, c, b, a, rfl, hp, g, hB, hA, hl, k⟩ := h
    have hu := hu_of hr
    refine ⟨_, PSs.nox (pss_cons (ps_set (i := 5) sc_Card_init.nd rfl (.inl rfl) (pe_call (ok_wrong_part T) (hr.mono (by decide)) (by rfl) T.g_wrong_part T.F_wrong_part.kp (b_wrong_part T) .nil pass0 (pa_cons (pv 1) (pa_cons (pv 2) (pa_cons (pv 3) (pa_cons (pv 4) pa_nil))))))
      (pss_cons (ps_if (pt_cmpR op_notN (pv 5) pe_non (nomark _)) (pss_one (ps_never)) pss_nil)
      (pss_cons (ps_fld (pv 0) (pv 1) rfl)
      (pss_cons (ps_fld (pv 0) (pv 2) rfl)
      (pss_cons (ps_fld (pv 0) (pv 3) rfl)
      (pss_one (ps_fld (pv 0) (pv 4) rfl))))))), ?_⟩
    repeat walk_at "g1"
    refine ⟨c, b, a, rfl, g, hB, hA, hl, fun H1 s1 => ?_⟩
    repeat walk_at "g1"
    have hp1 := s1 _ _ hp
    refine ⟨p, T.c_Card, dx, [], rfl, hp1, T.cl_Card, T.n_Card__heading, (by show 0 < 1000; decide), ?_⟩
    repeat walk_at "g1"
    refine ⟨p, T.c_Card, dx, _, rfl, upd_same, T.cl_Card, T.n_Card__books, (by show 1 < 1000; decide), ?_⟩
    repeat walk_at "g1"
    refine ⟨p, T.c_Card, dx, _, rfl, upd_same, T.cl_Card, T.n_Card__see, (by show 2 < 1000; decide), ?_⟩
    repeat walk_at "g1"
    refine ⟨p, T.c_Card, dx, _, rfl, upd_same, T.cl_Card, T.n_Card__also, (by show 3 < 1000; decide), ?_⟩
    have nb : ∀ {q : Addr} {xs : List V}, SqT K H1 q xs → q ≠ p ∨ True := fun _ => .inr True.intro
    have st : ∀ {q : Addr} {xs : List V} {o : HO}, SqT K H1 q xs → SqT K (upd H1 p o) q xs := fun {q xs o} h => by
      rcases h with (h | ⟨u, h⟩) | h
      · exact .inl (.inl (by rw [upd_ne (ne_of h hp1 (by intro z; cases z))]; exact h))
      · exact .inl (.inr ⟨u, by rw [upd_ne (ne_of h hp1 (by intro z; cases z))]; exact h⟩)
      · exact .inr h
    have e4 : ∀ o1 o2 o3 o4 : HO, upd (upd (upd (upd H1 p o1) p o2) p o3) p o4 = upd H1 p o4 := fun o1 o2 o3 o4 => by rw [upd_upd, upd_upd, upd_upd]
    show Q .non (upd (upd (upd (upd H1 p _) p _) p _) p _)
    rw [e4]
    refine k _ (fun q o h n => ?_) ⟨dx, b, a, upd_same, st (s1.seqT hB), st (s1.seqT hA)⟩
    rw [upd_ne n]
    exact s1 _ _ h
/-! ### what a card tells -/
def spGet (K : PySem.W.Frag) (C : Addr) (f : Str) : Sp := fun vs H Q _ => ∃ (p dx : Addr) (fs : List (Str × V)) (v : V), vs = [.ref p] ∧ H p = some (.ins C dx fs) ∧ fs.lookup f = some v ∧ Q v H
theorem ok_Card_heading (T : Top K mg) : FnOk P w K mg base CX0 1 T.a_Card_heading T.fd_Card_heading ["self"] (spGet K T.c_Card "_heading") := by
  refine T.F_Card_heading.ok sc_Card_heading (fun vs H Q E h => ?_) (fun cdv A outer s H vs Q E hr h => ?_)
  · obtain ⟨p, dx, fs, v, rfl, _⟩ := h
    rfl
  · obtain ⟨p, dx, fs, v, rfl, hp, hv, k⟩ := h
    exact ⟨_, (pss_one (ps_ret (pe_fld (pv 0) rfl))), _, rfl, p, _, dx, fs, v, rfl, hp, T.cl_Card, T.n_Card__heading, hv, k⟩
end
section
local macro_rules | `(tactic| walk_at "sl") => `(tactic| first | assumption | exact SqL.of upd_same | exact SqL.of (by assumption) | ((with_reducible apply sql_upd); (walk_at "sl"); (first | assumption | exact Ne.symm (by assumption))))
local macro_rules | `(tactic| walk_at "st") => `(tactic| first | assumption | exact SqT.of upd_same | exact SqT.of (by assumption))
local macro_rules | `(tactic| walk_at "sc") => `(tactic| first | rfl | assumption | (show (0 : Int) < _; first | assumption | decide | omega) | exact Or.inl ⟨by omega, by omega⟩ | exact Or.inr ⟨by omega, by omega⟩ | exact ⟨by decide, by decide⟩ | exact ⟨by decide, by decide, by decide⟩)
local macro_rules | `(tactic| walk_at "g1") => `(tactic| first
  | refine ⟨(_ : V), rfl, ?_⟩
  | refine ⟨(_ : Bool), rfl, ?_⟩
  | refine ⟨(_ : Int), (_ : Int), rfl, rfl, ?_⟩
  | refine ⟨(_ : Int), rfl, ?_⟩
  | refine ⟨(_ : Str), rfl, ?_⟩
  | refine ⟨(_ : Addr), (_ : List V), rfl, Or.inl (by walk_at "sl"), ?_⟩
  | refine ⟨(_ : Addr), (_ : List V), rfl, Or.inr (by walk_at "st"), ?_⟩
  | refine ⟨(_ : Addr), (_ : List V), (_ : Int), (_ : V), rfl, rfl, (by walk_at "sl"), (by first | rfl | assumption), ?_⟩
  | refine ⟨(_ : Addr), (_ : List V), (_ : Int), (_ : V), rfl, rfl, (by walk_at "st"), (by first | rfl | assumption), ?_⟩
  | refine ⟨(_ : Addr), (_ : List V), (_ : Int), (_ : Nat), rfl, rfl, upd_same, rfl, ?_⟩
  | refine ⟨(_ : Addr), (_ : List V), (_ : Int), (_ : Nat), rfl, rfl, (by assumption), rfl, ?_⟩
  | refine ⟨(_ : Addr), (_ : Addr), (_ : Addr), (_ : List (Str × V)), (_ : V), rfl, (by assumption), (by assumption), (by assumption), (by first | assumption | rfl), ?_⟩
  | refine Or.inl ⟨(_ : Int), rfl, ?_⟩
  | refine And.intro (by walk_at "sc") ?_
  | refine iteT ?_
  | refine iteF ?_)
/-! ### drawers -/
def drawFlds (t : V) : List (Str × V) := putF "_cards" t []
theorem df_cards (t : V) : (drawFlds t).lookup ("_cards" : Str) = some t := rfl
def Cards (K : PySem.W.Frag) (C : Addr) (H : Hp) (ps : List Addr) (cs : List CD) : Prop := ps.length = cs.length ∧ ∀ (i : Nat) (q : Addr) (c : CD), ps[i]? = some q → cs[i]? = some c → CardAt K C H q c
theorem Cards.imm {C : Addr} {H H' : Hp} {ps : List Addr} {cs : List CD} (h : Cards K C H ps cs) (s : Imm H H') : Cards K C H' ps cs := ⟨h.1, fun i q c h1 h2 => (h.2 i q c h1 h2).imm s⟩
theorem Cards.get {C : Addr} {H : Hp} {ps : List Addr} {cs : List CD} (h : Cards K C H ps cs) {i : Nat} {q : Addr} (hi : ps[i]? = some q) : ∃ c, cs[i]? = some c ∧ CardAt K C H q c := by
  have l := (List.getElem?_eq_some_iff.mp hi).1
  rw [h.1] at l
  exact ⟨cs[i], List.getElem?_eq_getElem l, h.2 i q _ hi (List.getElem?_eq_getElem l)⟩
/-- the drawer of the cards cs stands at p -/
def DrawerAt (K : PySem.W.Frag) (CD' CC : Addr) (H : Hp) (p : Addr) (cs : List CD) : Prop := ∃ (dx t : Addr) (ps : List Addr), H p = some (.ins CD' dx (drawFlds (.ref t))) ∧ SqT K H t (ps.map V.ref) ∧ Cards K CC H ps cs
theorem DrawerAt.imm {D C : Addr} {H H' : Hp} {p : Addr} {cs : List CD} (h : DrawerAt K D C H p cs) (s : Imm H H') : DrawerAt K D C H' p cs := by
  obtain ⟨dx, t, ps, h1, h2, h3⟩ := h
  exact ⟨dx, t, ps, s _ _ h1 rfl, s.seqT h2, h3.imm s⟩
def spDrawerInit (K : PySem.W.Frag) (C : Addr) : Sp := fun vs H Q _ => ∃ (p dx t : Addr) (xs : List V), vs = [.ref p, .ref t] ∧ H p = some (.ins C dx []) ∧ SqT K H t xs ∧ xs.length ≤ 16 ∧
  ∀ H', But p H H' → H' p = some (.ins C dx (drawFlds (.ref t))) → Q .non H'
theorem ok_Drawer_init (T : Top K mg) : FnOk P w K mg base CX0 2 T.a_Drawer_init T.fd_Drawer_init ["self", "cards"] (spDrawerInit K T.c_Drawer) := by
  refine T.F_Drawer_init.ok sc_Drawer_init (fun vs H Q E h => ?_) (fun cdv A outer s H vs Q E hr h => ?_)
  · obtain ⟨p, dx, t, xs, rfl, _⟩ := h
    rfl
  · obtain ⟨p, dx, t, xs, rfl, hp, hT, hl, k⟩ := h
    have hu := hu_of hr
    refine ⟨_, (pss_cons (ps_if (pt_cmpR op_gt (pe_callB call_len_seq (by rfl) T.m_len (by decide +kernel) (pa_cons (pv 1) pa_nil)) (pe_glob rfl T.g_MOST_CARDS T.r_MOST_CARDS) (nomark _)) (pss_one (ps_never)) pss_nil)
      (pss_one (ps_fld (pv 0) (pe_callTy call_tupleT (by rfl) T.m_tuple (by decide +kernel) (pa_cons (pv 1) pa_nil)) rfl))), ?_⟩
    repeat walk_at "g1"
    refine ite2 (fun h1 => ?_) (fun h1 => ?_)
    · have q := of_decide_eq_true h1
      omega
    · repeat walk_at "g1"
      refine ⟨t, xs, rfl, hT, ?_⟩
      repeat walk_at "g1"
      refine ⟨p, T.c_Drawer, dx, [], rfl, hp, T.cl_Drawer, T.n_Drawer__cards, (by show 0 < 1000; decide), ?_⟩
      exact k _ (fun q o h n => by rw [upd_ne n]; exact h) upd_same
theorem ok_Drawer_cards (T : Top K mg) : FnOk P w K mg base CX0 1 T.a_Drawer_cards T.fd_Drawer_cards ["self"] (spGet K T.c_Drawer "_cards") := by
  refine T.F_Drawer_cards.ok sc_Drawer_cards (fun vs H Q E h => ?_) (fun cdv A outer s H vs Q E hr h => ?_)
  · obtain ⟨p, dx, fs, v, rfl, _⟩ := h
    rfl
  · obtain ⟨p, dx, fs, v, rfl, hp, hv, k⟩ := h
    exact ⟨_, (pss_one (ps_ret (pe_fld (pv 0) rfl))), _, rfl, p, _, dx, fs, v, rfl, hp, T.cl_Drawer, T.n_Drawer__cards, hv, k⟩
def heads (cs : List CD) : List Str := cs.map CD.heading
def spHeadings (K : PySem.W.Frag) (D C : Addr) : Sp := fun vs H Q _ => ∃ (p : Addr) (cs : List CD), vs = [.ref p] ∧ DrawerAt K D C H p cs ∧ cs.length ≤ 1000 ∧ ∀ (t : Addr) (H' : Hp), Same H H' → H t = none → H' t = some (.tup ((heads cs).map V.str)) → Q (.ref t) H'
theorem ok_headings_along (T : Top K mg) : FnOk P w K mg base CX0 3 T.a_headings_along T.fd_headings_along ["drawer"] (spHeadings K T.c_Drawer T.c_Card) := by
  refine T.F_headings_along.ok sc_headings_along (fun vs H Q E h => ?_) (fun cdv A outer s H vs Q E hr h => ?_)
  · obtain ⟨p, cs, rfl, _⟩ := h
    rfl
  · obtain ⟨p, cs, rfl, ⟨dx, t, ps, hp, hT, hC⟩, hl, k⟩ := h
    have hu := hu_of hr
    refine ⟨_, (pss_one (ps_ret (pe_callTy call_tuple_of (by rfl) T.m_tuple (by decide +kernel) (pa_cons (pe_lc (own := [("card", 1)]) (g := gName 1) (tt := tYes) rfl sc_headings_along.nd (pi_tup (pe_prop (pv 0) T.cl_Drawer T.P_Drawer_cards (ok_Drawer_cards T) (hr.mono (by decide)) (b_Drawer_cards T) .nil pass0 rfl)) (blkOk_by (N := N_headings_along) (sc := defScope s_headings_along) (by decide +kernel)) (fun _ _ _ _ _ => (pg_name (i := 1) sc_headings_along.nd rfl (.inl rfl))) (fun _ _ _ _ _ => pts_nil) (fun _ _ _ _ _ => (pe_prop (pv 1) T.cl_Card T.P_Card_heading (ok_Card_heading T) (hr.mono (by decide)) (b_Card_heading T) .nil pass0 rfl))) pa_nil)))), ?_⟩
    refine ⟨_, rfl, p, dx, _, rfl, hp, p, dx, _, _, rfl, hp, df_cards _, t, rfl, ⟨_, hT⟩, fun D hD => lc_map walk_tup (by rw [List.length_map, hC.1]; omega) hD (fun i => V.str ((heads cs)[i]?.getD "")) (fun H1 s1 => s1.seqT hT) (fun i x H1 H2 hi s1 hy R r => ?_) (fun H1 s1 hd => ?_) gName_mono⟩
    · obtain ⟨rfl, hx⟩ := hy
      rw [List.getElem?_map] at hx
      obtain ⟨q, hq, rfl⟩ := Option.map_eq_some_iff.mp hx
      obtain ⟨c, hc, ca⟩ := hC.get hq
      obtain ⟨dq, b, a, hq2, _, _⟩ := ca.same s1
      refine ⟨rfl, ?_⟩
      refine ⟨_, rfl, q, dq, _, rfl, hq2, q, dq, _, _, rfl, hq2, cf_heading _ _ _ _, ?_⟩
      have z := r _ (Same.refl _)
      have e : (heads cs)[i]? = some c.heading := by
        unfold heads
        rw [List.getElem?_map, hc]
        rfl
      rw [e] at z
      exact z
    · have el : (List.range (ps.map V.ref).length).map (fun i => V.str ((heads cs)[i]?.getD "")) = (heads cs).map V.str := by
        have e : (ps.map V.ref).length = (heads cs).length := by
          unfold heads
          rw [List.length_map, List.length_map, hC.1]
        rw [e]
        exact range_map (heads cs) _ _ fun i x h => by rw [h]; rfl
      rw [el] at hd
      refine ⟨D, _, rfl, .inl ⟨SqL.of hd, fun u hu' => ?_⟩⟩
      exact k u _ (s1.trans (same_new hu')) (s1.free hu') upd_same

/-- the order of texts -/
def leS (a b : Str) : Bool := !decide (b.cps.toList < a.cps.toList)
def risesBy (ws : List Str) : Bool := (ws.zip (ws.drop 1)).all fun p => leS p.1 p.2
end
section
local macro_rules | `(tactic| walk_at "sl") => `(tactic| first | assumption | exact SqL.of upd_same | exact SqL.of (by assumption) | ((with_reducible apply sql_upd); (walk_at "sl"); (first | assumption | exact Ne.symm (by assumption))))
local macro_rules | `(tactic| walk_at "st") => `(tactic| first | assumption | exact SqT.of upd_same | exact SqT.of (by assumption))
local macro_rules | `(tactic| walk_at "sc") => `(tactic| first | rfl | assumption | (show (0 : Int) < _; first | assumption | decide | omega) | exact Or.inl ⟨by omega, by omega⟩ | exact Or.inr ⟨by omega, by omega⟩ | exact ⟨by decide, by decide⟩ | exact ⟨by decide, by decide, by decide⟩)
local macro_rules | `(tactic| walk_at "g1") => `(tactic| first
  | refine ⟨(_ : V), rfl, ?_⟩
  | refine ⟨(_ : Bool), rfl, ?_⟩
  | refine ⟨(_ : Int), (_ : Int), rfl, rfl, ?_⟩
  | refine ⟨(_ : Int), rfl, ?_⟩
  | refine ⟨(_ : Str), rfl, ?_⟩
  | refine ⟨(_ : Addr), (_ : List V), rfl, Or.inl (by walk_at "sl"), ?_⟩
  | refine ⟨(_ : Addr), (_ : List V), rfl, Or.inr (by walk_at "st"), ?_⟩
  | refine ⟨(_ : Addr), (_ : List V), (_ : Int), (_ : V), rfl, rfl, (by walk_at "sl"), (by first | rfl | assumption), ?_⟩
  | refine ⟨(_ : Addr), (_ : List V), (_ : Int), (_ : V), rfl, rfl, (by walk_at "st"), (by first | rfl | assumption), ?_⟩
  | refine ⟨(_ : Addr), (_ : List V), (_ : Int), (_ : Nat), rfl, rfl, upd_same, rfl, ?_⟩
  | refine ⟨(_ : Addr), (_ : List V), (_ : Int), (_ : Nat), rfl, rfl, (by assumption), rfl, ?_⟩
  | refine ⟨(_ : Addr), (_ : Addr), (_ : Addr), (_ : List (Str × V)), (_ : V), rfl, (by assumption), (by assumption), (by assumption), (by first | assumption | rfl), ?_⟩
  | refine Or.inl ⟨(_ : Int), rfl, ?_⟩
  | refine And.intro (by walk_at "sc") ?_
  | refine iteT ?_
  | refine iteF ?_)
/-- the script: never the row -/
def Scr (K : PySem.W.Frag) (H : Hp) (r sc : Addr) (xs : List V) : Prop := (SqL K H sc xs ∧ sc ≠ r) ∨ ∀ H' : Hp, SqL K H' sc xs
theorem Scr.upd {H : Hp} {r sc : Addr} {xs : List V} {o : HO} (h : Scr K H r sc xs) : Scr K (L2.upd H r o) r sc xs := h.imp (fun z => ⟨sql_upd z.1 z.2, z.2⟩) id
theorem Scr.sql {H : Hp} {r sc : Addr} {xs : List V} (h : Scr K H r sc xs) : SqL K H sc xs := h.elim (fun z => z.1) fun z => z H
theorem Scr.new {H : Hp} {r sc : Addr} {xs : List V} {o : HO} (h : SqL K H sc xs) (hr : H r = none) : Scr K (L2.upd H r o) r sc xs := by
  rcases h with (h | ⟨u, h⟩) | h
  · exact .inl ⟨sql_upd (.inl (.inl h)) (ne_of_none h hr), ne_of_none h hr⟩
  · exact .inl ⟨sql_upd (.inl (.inr ⟨u, h⟩)) (ne_of_none h hr), ne_of_none h hr⟩
  · exact .inr fun H' => .inr h
local macro_rules | `(tactic| walk_at "sl") => `(tactic| first | exact Scr.sql (by assumption) | exact Scr.sql (Scr.upd (by assumption)) | exact Scr.sql (Scr.upd (Scr.upd (by assumption))) | exact Scr.sql (Scr.upd (Scr.upd (Scr.upd (by assumption)))))
/-- the law's row: the script, how many were taken, the seed, what is left of a great cell -/
def RowAt (K : PySem.W.Frag) (H : Hp) (r sc : Addr) (ns : List Int) : Prop := ∃ (n1 : Nat) (n2 n3 : Int), H r = some (.lst [.ref sc, .int n1, .int n2, .int n3]) ∧ Scr K H r sc (ns.map V.int) ∧ 0 ≤ n2 ∧ n2 < 2147483647
theorem RowAt.same {H H' : Hp} {r sc : Addr} {ns : List Int} (h : RowAt K H r sc ns) (s : Same H H') : RowAt K H' r sc ns := by
  obtain ⟨n1, n2, n3, h1, h2, h3⟩ := h
  exact ⟨n1, n2, n3, s _ _ h1, h2.imp (fun z => ⟨s.seq z.1, z.2⟩) id, h3⟩
theorem RowAt.at {H : Hp} {r sc : Addr} {ns : List Int} (h : RowAt K H r sc ns) : ∃ o, H r = some o ∧ immO o = false := by
  obtain ⟨n1, n2, n3, h1, _⟩ := h
  exact ⟨_, h1, rfl⟩
theorem RowAt.new {H : Hp} {r sc D : Addr} {ns : List Int} (h : RowAt K H r sc ns) (hD : H D = none) : D ≠ r ∧ (sc ≠ D ∨ ∀ H' : Hp, SqL K H' sc (ns.map V.int)) := by
  obtain ⟨n1, n2, n3, h1, h2, _⟩ := h
  refine ⟨fun e => (by rw [e, h1] at hD; cases hD), ?_⟩
  rcases h2 with ⟨(h | ⟨u, h⟩) | h, _⟩ | h
  · exact .inl (ne_of_none h hD)
  · exact .inl (ne_of_none h hD)
  · exact .inr fun H' => .inr h
  · exact .inr h
theorem RowAt.mut {H : Hp} {r sc D : Addr} {ns : List Int} {o : HO} (h : RowAt K H r sc ns) (hD : D ≠ r ∧ (sc ≠ D ∨ ∀ H' : Hp, SqL K H' sc (ns.map V.int))) : RowAt K (upd H D o) r sc ns := by
  obtain ⟨n1, n2, n3, h1, h2, h3⟩ := h
  refine ⟨n1, n2, n3, kn h1 hD.1.symm, ?_, h3⟩
  rcases hD.2 with h | h
  · exact h2.imp (fun z => ⟨sql_upd z.1 h, z.2⟩) id
  · exact .inr h
def spTaken (K : PySem.W.Frag) : Sp := fun vs H Q _ => ∃ (r sc : Addr) (ns : List Int) (m : Int), vs = [.ref r, .int m] ∧ 0 < m ∧ m < 1000 ∧ RowAt K H r sc ns ∧ ∀ (i : Nat) (H' : Hp), (i : Int) < m → But r H H' → RowAt K H' r sc ns → Q (.int i) H'
theorem ok_llaw_taken (T : Top K mg) : FnOk P w K mg base CX0 1 T.a_llaw_taken T.fd_llaw_taken ["_law_row", "_law_many"] (spTaken K) := by
  refine T.F_llaw_taken.ok sc_llaw_taken (fun vs H Q E h => ?_) (fun cdv A outer s H vs Q E hr h => ?_)
  · obtain ⟨r, sc, ns, m, rfl, _⟩ := h
    rfl
  · obtain ⟨r, sc, ns, m, rfl, hm0, hm1, ⟨n1, n2, n3, hR, hX, h2, h3⟩, k⟩ := h
    have hu := hu_of hr
    have hdv : ∀ i : Int, CDivW i m := fun i => wide_div (b := 10) hm0 (by omega) (by decide) (by decide)
    have hin : ∀ x : Int, ∃ i : Nat, (i : Int) < m ∧ V.int (x % m) = V.int i := fun x => ⟨(x % m).toNat, by
      have h1 := Int.emod_nonneg x (Int.ne_of_gt hm0)
      have h2 := Int.emod_lt_of_pos x hm0
      omega, by
      have h1 := Int.emod_nonneg x (Int.ne_of_gt hm0)
      rw [Int.toNat_of_nonneg h1]⟩
    have hmd : ∀ x : Int, 0 ≤ x % 2147483647 ∧ x % 2147483647 < 2147483647 := fun x => ⟨Int.emod_nonneg x (by decide), Int.emod_lt_of_pos x (by decide)⟩
    refine ⟨_, (pss_cons (ps_if (pt_cmpR op_gt (pe_ix ix_list (pv 0) pe_int (fun _ _ => rfl)) pe_int (nomark _)) (pss_cons (ps_set (i := 2) sc_llaw_taken.nd rfl (.inl rfl) (pe_op op_mod (pe_callTy call_int1 (by rfl) T.m_int (by decide +kernel) (pa_cons (pe_ix ix_list (pv 0) pe_int (fun _ _ => rfl)) pa_nil)) (pv 1)))
        (pss_cons (ps_asg (pe_op op_fdivW (pe_ix ix_list (pv 0) pe_int (fun _ _ => rfl)) (pv 1)) (pg_sub (pv 0) pe_int set_list))
        (pss_one (ps_ret (pv 2))))) pss_nil)
      (pss_cons (ps_asg (pe_op op_add (pe_ix ix_list (pv 0) pe_int (fun _ _ => rfl)) pe_int) (pg_sub (pv 0) pe_int set_list))
      (pss_cons (ps_if (pt_cmpR op_gt (pe_ix ix_list (pv 0) pe_int (fun _ _ => rfl)) (pe_callB call_len_seq (by rfl) T.m_len (by decide +kernel) (pa_cons (pe_ix ix_list (pv 0) pe_int (fun _ _ => rfl)) pa_nil)) (nomark _)) (pss_cons (ps_asg (pe_op op_mod (pe_callTy call_int1 (by rfl) T.m_int (by decide +kernel) (pa_cons (pe_op op_add (pe_op op_mul (pe_ix ix_list (pv 0) pe_int (fun _ _ => rfl)) pe_int) pe_int) pa_nil)) pe_int) (pg_sub (pv 0) pe_int set_list))
        (pss_one (ps_ret (pe_op op_mod (pe_callTy call_int1 (by rfl) T.m_int (by decide +kernel) (pa_cons (pe_op op_fdiv (pe_ix ix_list (pv 0) pe_int (fun _ _ => rfl)) pe_int) pa_nil)) (pv 1))))) pss_nil)
      (pss_cons (ps_set (i := 3) sc_llaw_taken.nd rfl (.inl rfl) (pe_ix ix_list (pe_ix ix_list (pv 0) pe_int (fun _ _ => rfl)) (pe_op op_sub (pe_ix ix_list (pv 0) pe_int (fun _ _ => rfl)) pe_int) (fun _ _ => rfl)))
      (pss_cons (ps_asg (pe_op op_mod (pe_callTy call_int1 (by rfl) T.m_int (by decide +kernel) (pa_cons (pe_op op_add (pe_op op_add (pe_op op_mul (pe_ix ix_list (pv 0) pe_int (fun _ _ => rfl)) pe_int) (pv 3)) pe_int) pa_nil)) pe_int) (pg_sub (pv 0) pe_int set_list))
      (pss_cons (ps_if (pt_cmpR op_ge (pv 3) (pe_op op_pow pe_int pe_int) (nomark _)) (pss_one (ps_asg (pe_op op_fdivW (pv 3) (pv 1)) (pg_sub (pv 0) pe_int set_list))) pss_nil)
      (pss_one (ps_ret (pe_op op_mod (pe_callTy call_int1 (by rfl) T.m_int (by decide +kernel) (pa_cons (pv 3) pa_nil)) (pv 1)))))))))), ?_⟩
    have hd3 := hdv n3
    repeat walk_at "g1"
    refine ite2 (fun _ => ?_) (fun _ => ?_)
    · repeat walk_at "g1"
      obtain ⟨i, hi, e⟩ := hin n3
      show Q (V.int (n3 % m)) _
      rw [e]
      exact k i _ hi But.refl.upd ⟨n1, n2, _, upd_same, hX.upd, h2, h3⟩
    · repeat walk_at "g1"
      have hx := hmd (n2 * 48271 + 11)
      refine ite2 (fun _ => ?_) (fun hlt => ?_)
      · repeat walk_at "g1"
        obtain ⟨i, hi, e⟩ := hin ((n2 * 48271 + 11) % 2147483647 / 7)
        show Q (V.int ((n2 * 48271 + 11) % 2147483647 / 7 % m)) _
        rw [e]
        exact k i _ hi But.refl.upd.upd ⟨n1 + 1, _, n3, upd_same, hX.upd.upd, hx.1, hx.2⟩
      · have hlt' : ¬ ((((ns.map V.int).length : Nat) : Int) < (n1 : Int) + 1) := fun z => hlt (decide_eq_true z)
        rw [List.length_map] at hlt'
        have hn1 : n1 < ns.length := by omega
        have hat : atI (ns.map V.int) ((n1 : Int) + 1 - 1) = some (.int ns[n1]) := by
          rw [Int.add_sub_cancel]
          exact atI_nat (by rw [List.getElem?_map, List.getElem?_eq_getElem hn1]; rfl)
        have hx := hmd (n2 * 48271 + ns[n1] + 11)
        have hdc := hdv ns[n1]
        obtain ⟨i, hi, e⟩ := hin ns[n1]
        repeat walk_at "g1"
        refine ite2 (fun _ => ?_) (fun _ => ?_)
        · repeat walk_at "g1"
          show Q (V.int (ns[n1] % m)) _
          rw [e]
          exact k i _ hi But.refl.upd.upd.upd ⟨n1 + 1, _, _, upd_same, hX.upd.upd.upd, hx.1, hx.2⟩
        · repeat walk_at "g1"
          show Q (V.int (ns[n1] % m)) _
          rw [e]
          exact k i _ hi But.refl.upd.upd ⟨n1 + 1, _, n3, upd_same, hX.upd.upd, hx.1, hx.2⟩
end
section
local macro_rules | `(tactic| walk_at "sl") => `(tactic| first | assumption | exact SqL.of upd_same | exact SqL.of (by assumption) | ((with_reducible apply sql_upd); (walk_at "sl"); (first | assumption | exact Ne.symm (by assumption))))
local macro_rules | `(tactic| walk_at "st") => `(tactic| first | assumption | exact SqT.of upd_same | exact SqT.of (by assumption))
local macro_rules | `(tactic| walk_at "sc") => `(tactic| first | rfl | assumption | (show (0 : Int) < _; first | assumption | decide | omega) | exact Or.inl ⟨by omega, by omega⟩ | exact Or.inr ⟨by omega, by omega⟩ | exact ⟨by decide, by decide⟩ | exact ⟨by decide, by decide, by decide⟩)
local macro_rules | `(tactic| walk_at "g1") => `(tactic| first
  | refine ⟨(_ : V), rfl, ?_⟩
  | refine ⟨(_ : Bool), rfl, ?_⟩
  | refine ⟨(_ : Int), (_ : Int), rfl, rfl, ?_⟩
  | refine ⟨(_ : Int), rfl, ?_⟩
  | refine ⟨(_ : Str), rfl, ?_⟩
  | refine ⟨(_ : Addr), (_ : List V), rfl, Or.inl (by walk_at "sl"), ?_⟩
  | refine ⟨(_ : Addr), (_ : List V), rfl, Or.inr (by walk_at "st"), ?_⟩
  | refine ⟨(_ : Addr), (_ : List V), (_ : Int), (_ : V), rfl, rfl, (by walk_at "sl"), (by first | rfl | assumption), ?_⟩
  | refine ⟨(_ : Addr), (_ : List V), (_ : Int), (_ : V), rfl, rfl, (by walk_at "st"), (by first | rfl | assumption), ?_⟩
  | refine ⟨(_ : Addr), (_ : List V), (_ : Int), (_ : Nat), rfl, rfl, upd_same, rfl, ?_⟩
  | refine ⟨(_ : Addr), (_ : List V), (_ : Int), (_ : Nat), rfl, rfl, (by assumption), rfl, ?_⟩
  | refine ⟨(_ : Addr), (_ : Addr), (_ : Addr), (_ : List (Str × V)), (_ : V), rfl, (by assumption), (by assumption), (by assumption), (by first | assumption | rfl), ?_⟩
  | refine Or.inl ⟨(_ : Int), rfl, ?_⟩
  | refine And.intro (by walk_at "sc") ?_
  | refine iteT ?_
  | refine iteF ?_)
/-! ### how headings are looked up -/
def ltS (a b : Str) : Bool := decide (a.cps.toList < b.cps.toList)
/-- one after another: the place, how many are looked at -/
def along (g : Bool) (h : Str) : Nat → List Str → Option Nat × Nat
  | i, [] => (none, i)
  | i, x :: r => if x = h then (some i, i + 1) else if (g && ltS h x) = true then (none, i + 1) else along g h (i + 1) r
/-- by halves: the place, the places that are looked at -/
def halves (ws : List Str) (h : Str) : Nat → Int → Int → List Int → Option Nat × List Int
  | 0, _, _, ps => (none, ps)
  | n + 1, lo, hi, ps => if lo ≤ hi then
      (if ws[((lo + hi) / 2).toNat]?.getD "" = h then (some ((lo + hi) / 2).toNat, ps ++ [(lo + hi) / 2])
       else if ltS h (ws[((lo + hi) / 2).toNat]?.getD "") = true then halves ws h n lo ((lo + hi) / 2 - 1) (ps ++ [(lo + hi) / 2])
       else halves ws h n ((lo + hi) / 2 + 1) hi (ps ++ [(lo + hi) / 2]))
     else (none, ps)
def upTo (n : Nat) : List Int := (List.range n).map fun (i : Nat) => (i : Int)
def alongOf (ws : List Str) (g : Bool) (h : Str) : Option Nat × List Int := ((along g h 0 ws).1, upTo (along g h 0 ws).2)
def halvesOf (ws : List Str) (h : Str) : Option Nat × List Int := halves ws h (ws.length + 1) 0 ((ws.length : Int) - 1) []
def seekOf (ws : List Str) (rule h : Str) : Option Nat × List Int := if rule = "half" then halvesOf ws h else alongOf ws (decide (rule = "leaf")) h
def onV : Option Nat → V
  | none => .non
  | some i => .int i
/-- what a look-up tells, at t -/
def Seen (K : PySem.W.Frag) (H : Hp) (t : Addr) (r : Option Nat × List Int) : Prop := ∃ p : Addr, SqT K H t [onV r.1, .ref p] ∧ SqT K H p (r.2.map V.int)
theorem Seen.imm {H H' : Hp} {t : Addr} {r : Option Nat × List Int} (h : Seen K H t r) (s : Imm H H') : Seen K H' t r := by
  obtain ⟨p, h1, h2⟩ := h
  exact ⟨p, s.seqT h1, s.seqT h2⟩
theorem rNe_to {x y : V} {b : Bool} {H : Hp} {Q : VK} (s : scal x y = true) (e : (!decide (x = y)) = b) (q : Q (.bl b) H) : rNe x y H Q := ⟨s, by rw [e]; exact q⟩
theorem rEq_to {x y : V} {b : Bool} {H : Hp} {Q : VK} (s : scal x y = true) (e : decide (x = y) = b) (q : Q (.bl b) H) : rEq x y H Q := ⟨s, by rw [e]; exact q⟩
theorem rEqD_to {x y : V} {d1 d2 : PyData} {b : Bool} {H : Hp} {Q : VK} (h1 : Dp K H x d1) (h2 : Dp K H y d2) (s1 : SeqAt.shaped d1 = true) (s2 : SeqAt.shaped d2 = true) (e : d1.eqv d2 = b) (q : Q (.bl b) H) : rEqD K x y H Q := ⟨d1, d2, h1, h2, s1, s2, by rw [e]; exact q⟩
theorem rNeD_to {x y : V} {d1 d2 : PyData} {b : Bool} {H : Hp} {Q : VK} (h1 : Dp K H x d1) (h2 : Dp K H y d2) (s1 : SeqAt.shaped d1 = true) (s2 : SeqAt.shaped d2 = true) (e : (!d1.eqv d2) = b) (q : Q (.bl b) H) : rNeD K x y H Q := ⟨d1, d2, h1, h2, s1, s2, by rw [e]; exact q⟩
theorem rI0_to {f : Int → Int → V} {i j : Int} {v : V} {H : Hp} {Q : VK} (e : f i j = v) (q : Q v H) : rI0 f (.int i) (.int j) H Q := ⟨i, j, rfl, rfl, by rw [e]; exact q⟩
theorem rgV_up (n : Nat) : rgV 0 (n : Int) = (upTo n).map V.int := by
  unfold rgV upTo
  rw [List.map_map]
  show (List.range ((n : Int) - 0).toNat).map _ = _
  rw [Int.sub_zero, Int.toNat_natCast]
  apply List.map_congr_left
  intro i _
  show V.int (0 + (i : Int)) = V.int i
  rw [Int.zero_add]
theorem along_bound (g : Bool) (h : Str) : ∀ (ws : List Str) (i : Nat), (along g h i ws).2 ≤ i + ws.length
  | [], i => Nat.le_refl _
  | x :: r, i => by
    unfold along
    rw [List.length_cons]
    split
    · show i + 1 ≤ _
      omega
    · split
      · show i + 1 ≤ _
        omega
      · have := along_bound g h r (i + 1)
        omega
def spSeekAlong (K : PySem.W.Frag) : Sp := fun vs H Q _ => ∃ (a : Addr) (ws : List Str) (h : Str) (g : Bool), vs = [.ref a, .str h, .bl g] ∧ SqT K H a (ws.map V.str) ∧ ws.length ≤ 1000 ∧ ∀ (t : Addr) (H' : Hp), Same H H' → Seen K H' t (alongOf ws g h) → Q (.ref t) H'
theorem ok_seek_along (T : Top K mg) : FnOk P w K mg base CX0 1 T.a_seek_along T.fd_seek_along ["row", "heading", "gives_up"] (spSeekAlong K) := by
  refine T.F_seek_along.ok sc_seek_along (fun vs H Q E h => ?_) (fun cdv A outer s H vs Q E hr h => ?_)
  · obtain ⟨a, ws, h, g, rfl, _⟩ := h
    rfl
  · obtain ⟨a, ws, h, g, rfl, hS, hl, k⟩ := h
    have hu := hu_of hr
    refine ⟨_, (pss_cons (ps_for PassesOwn.never rfl (pi_enumT (by rfl) T.m_enumerate (pa_cons (pv 0) pa_nil)) (pg_tup rfl (pgs_cons (pg_name (i := 3) sc_seek_along.nd rfl (.inl rfl)) (pgs_cons (pg_name (i := 4) sc_seek_along.nd rfl (.inl rfl)) pgs_nil)))
        (pss_cons (ps_if (pt_cmpR op_eq (pv 4) (pv 1) (nomark _)) (pss_one (ps_ret (pe_tup (pa_cons (pv 3) (pa_cons (pe_tupRg rfl (by rfl) T.m_tuple (prg_1 (by rfl) T.m_range (pe_op op_add (pv 3) pe_int))) pa_nil))))) pss_nil)
        (pss_one (ps_if (PW.pt (pw_and (pt_val (pv 2)) (pw_and1 (pt_cmpR op_gt_str (pv 4) (pv 1) (nomark _))))) (pss_one (ps_ret (pe_tup (pa_cons pe_non (pa_cons (pe_tupRg rfl (by rfl) T.m_tuple (prg_1 (by rfl) T.m_range (pe_op op_add (pv 3) pe_int))) pa_nil))))) pss_nil))))
      (pss_one (ps_ret (pe_tup (pa_cons pe_non (pa_cons (pe_tupRg rfl (by rfl) T.m_tuple (prg_1 (by rfl) T.m_range (pe_callB call_len_seq (by rfl) T.m_len (by decide +kernel) (pa_cons (pv 0) pa_nil)))) pa_nil)))))), ?_⟩
    have hlen : (ws.map V.str).length = ws.length := List.length_map ..
    -- the tuple that is told
    have tell : ∀ (H1 : Hp) (n : Nat) (o : Option Nat) (p t : Addr), Same H H1 → (o, n) = along g h 0 ws → H1 p = none → upd H1 p (.tup (rgV 0 (n : Int))) t = none → Q (.ref t) (upd (upd H1 p (.tup (rgV 0 (n : Int)))) t (.tup [onV o, .ref p])) := fun H1 n o p t s1 e hp ht => by
      refine k t _ ((s1.trans (same_new hp)).trans (same_new ht)) ⟨p, ?_, ?_⟩
      · show SqT K _ t [onV (along g h 0 ws).1, .ref p]
        rw [← e]
        exact SqT.of upd_same
      · show SqT K _ p ((upTo (along g h 0 ws).2).map V.int)
        rw [← e, ← rgV_up]
        exact SqT.of (kp upd_same ht)
    refine ⟨_, rfl, a, _, rfl, hS, for_it walk_enumT (fun i σ H1 => ∃ y3 y4, σ = [some (.ref a), some (.str h), some (.bl g), y3, y4] ∧ Same H H1 ∧ along g h 0 ws = along g h i (ws.drop i)) ⟨none, none, rfl, Same.refl _, rfl⟩ (fun i σ H1 _ ⟨_, _, _, s1, _⟩ => s1.seqT hS) (fun i x σ H1 H2 hi hP hy => ?_) (fun σ H1 hP => ?_)⟩
    · obtain ⟨y3, y4, rfl, s1, ea⟩ := hP
      obtain ⟨Tp, x1, x2, rfl, nT, rfl, ex1, ex2⟩ := hy
      rw [hlen] at hi
      obtain rfl : x1 = .int (i : Nat) := (Option.some.inj ex1).symm
      replace ex2 : (ws.map V.str)[i]? = some x2 := ex2
      rw [List.getElem?_map] at ex2
      obtain ⟨z, hz, rfl⟩ := Option.map_eq_some_iff.mp ex2
      have hd : ws.drop i = z :: ws.drop (i + 1) := by
        rw [List.drop_eq_getElem_cons hi]
        rw [List.getElem?_eq_getElem hi] at hz
        rw [Option.some.inj hz]
      rw [hd] at ea
      have s2 := s1.trans (same_new (o := .tup [.int (i : Nat), .str z]) nT)
      refine ⟨Tp, _, rfl, SqT.of upd_same, rfl, _, _, rfl, _, _, rfl, rfl, ?_⟩
      generalize upd H1 Tp (.tup [.int (i : Nat), .str z]) = H2 at *
      have ei : ((i : Int) + 1) = ((i + 1 : Nat) : Int) := by omega
      refine ⟨_, rfl, _, rfl, rfl, _, rfl, ite2 (fun he => ?_) (fun he => ?_)⟩
      · have he' : z = h := V.str.inj (of_decide_eq_true he)
        have e2 : (some i, i + 1) = along g h 0 ws := by
          rw [ea]
          unfold along
          rw [if_pos he']
        refine ⟨_, rfl, _, rfl, _, _, rfl, rfl, _, rfl, ⟨by omega, by omega, by omega, by omega, by omega⟩, fun p hp => ⟨by show 2 ≤ sizeLine; decide, fun t ht => ?_⟩⟩
        rw [ei] at ht ⊢
        exact tell _ (i + 1) (some i) p t s2 e2 hp ht
      · have he' : z ≠ h := fun e => he (decide_eq_true (congrArg V.str e))
        have e3 : along g h i (z :: ws.drop (i + 1)) = if (g && ltS h z) = true then (none, i + 1) else along g h (i + 1) (ws.drop (i + 1)) := by
          show (if z = h then _ else _) = _
          rw [if_neg he']
        rw [e3] at ea
        have next : (g && ltS h z) = false → ∃ y3 y4, [some (V.ref a), some (.str h), some (.bl g), some (.int (i : Nat)), some (.str z)] = [some (.ref a), some (.str h), some (.bl g), y3, y4] ∧ Same H H2 ∧ along g h 0 ws = along g h (i + 1) (ws.drop (i + 1)) := fun hb => by
          rw [hb] at ea
          exact ⟨_, _, rfl, s2, ea⟩
        refine ⟨_, rfl, _, rfl, ?_⟩
        cases hg : g with
        | false =>
          subst hg
          refine iteF ?_
          refine iteF ?_
          exact next rfl
        | true =>
          subst hg
          refine iteT ?_
          refine ⟨_, rfl, _, rfl, _, _, rfl, rfl, _, rfl, ite2 (fun hlt => ?_) (fun hlt => ?_)⟩
          · have hb : (true && ltS h z) = true := hlt
            have e2 : (none, i + 1) = along true h 0 ws := by rw [ea, if_pos hb]
            refine ⟨_, rfl, _, _, rfl, rfl, _, rfl, ⟨by omega, by omega, by omega, by omega, by omega⟩, fun p hp => ⟨by show 2 ≤ sizeLine; decide, fun t ht => ?_⟩⟩
            rw [ei] at ht ⊢
            exact tell _ (i + 1) none p t s2 e2 hp ht
          · exact next (Bool.eq_false_iff.mpr hlt)
    · obtain ⟨y3, y4, rfl, s1, ea⟩ := hP
      have e2 : (none, ws.length) = along g h 0 ws := by
        rw [ea, hlen, List.drop_length]
        rfl
      refine ⟨_, rfl, a, _, rfl, .inr (s1.seqT hS), _, rfl, ⟨by omega, by omega, by omega, by omega, by omega⟩, fun p hp => ⟨by show 2 ≤ sizeLine; decide, fun t ht => ?_⟩⟩
      rw [hlen] at ht ⊢
      exact tell _ ws.length none p t s1 e2 hp ht
def spSeekHalves (K : PySem.W.Frag) : Sp := fun vs H Q _ => ∃ (a : Addr) (ws : List Str) (h : Str), vs = [.ref a, .str h] ∧ SqT K H a (ws.map V.str) ∧ ws.length ≤ 1000 ∧ ∀ (t : Addr) (H' : Hp), Same H H' → Seen K H' t (halvesOf ws h) → Q (.ref t) H'
def midMu : St → Hp → Nat := fun σ _ => match σ with
  | [_, _, _, some (.int lo), some (.int hi), _] => (hi + 1 - lo).toNat
  | _ => 0
theorem ok_seek_by_halves (T : Top K mg) : FnOk P w K mg base CX0 1 T.a_seek_by_halves T.fd_seek_by_halves ["row", "heading"] (spSeekHalves K) := by
  refine T.F_seek_by_halves.ok sc_seek_by_halves (fun vs H Q E h => ?_) (fun cdv A outer s H vs Q E hr h => ?_)
  · obtain ⟨a, ws, h, rfl, _⟩ := h
    rfl
  · obtain ⟨a, ws, h, rfl, hS, hl, k⟩ := h
    have hu := hu_of hr
    refine ⟨_, (pss_cons (ps_set (i := 2) sc_seek_by_halves.nd rfl (.inl rfl) (pe_lst pa_nil))
      (pss_cons (ps_set (i := 3) sc_seek_by_halves.nd rfl (.inl rfl) pe_int)
      (pss_cons (ps_set (i := 4) sc_seek_by_halves.nd rfl (.inl rfl) (pe_op op_sub (pe_callB call_len_seq (by rfl) T.m_len (by decide +kernel) (pa_cons (pv 0) pa_nil)) pe_int))
      (pss_cons (ps_while PassesOwn.never (pt_cmpR op_le (pv 3) (pv 4) (nomark _))
        (pss_cons (ps_set (i := 5) sc_seek_by_halves.nd rfl (.inl rfl) (pe_op op_fdiv (pe_op op_add (pv 3) (pv 4)) pe_int))
        (pss_cons (ps_expr (pe_bm PySem.F.plainAttrs_list PySem.F.slot_list_append PySem.F.type_list_append mt_append (pv 2) (pa_cons (pv 5) pa_nil)))
        (pss_cons (ps_if (pt_cmpR op_eq (pe_ix ix_tup (pv 0) (pv 5) (fun _ _ => rfl)) (pv 1) (nomark _)) (pss_one (ps_ret (pe_tup (pa_cons (pv 5) (pa_cons (pe_callTy call_tuple_of (by rfl) T.m_tuple (by decide +kernel) (pa_cons (pv 2) pa_nil)) pa_nil))))) pss_nil)
        (pss_one (ps_if (pt_cmpR op_gt_str (pe_ix ix_tup (pv 0) (pv 5) (fun _ _ => rfl)) (pv 1) (nomark _)) (pss_one (ps_set (i := 4) sc_seek_by_halves.nd rfl (.inl rfl) (pe_op op_sub (pv 5) pe_int))) (pss_one (ps_set (i := 3) sc_seek_by_halves.nd rfl (.inl rfl) (pe_op op_add (pv 5) pe_int)))))))))
      (pss_one (ps_ret (pe_tup (pa_cons pe_non (pa_cons (pe_callTy call_tuple_of (by rfl) T.m_tuple (by decide +kernel) (pa_cons (pv 2) pa_nil)) pa_nil))))))))), ?_⟩
    have hlen : (ws.map V.str).length = ws.length := List.length_map ..
    refine ⟨Nat.zero_le _, fun l hl0 => ?_⟩
    refine ⟨_, rfl, a, _, rfl, .inr ((same_new hl0).seqT hS), ?_⟩
    refine ⟨_, _, rfl, rfl, ?_⟩
    refine while_by (fun σ H1 => ∃ (lo hi : Int) (ps : List Int) (y5 : Option V), σ = [some (.ref a), some (.str h), some (.ref l), some (.int lo), some (.int hi), y5] ∧ Same H H1 ∧ H1 l = some (.lst (ps.map V.int)) ∧ 0 ≤ lo ∧ hi < ws.length ∧ (∃ f, (hi + 1 - lo).toNat < f ∧ halvesOf ws h = halves ws h f lo hi ps) ∧ ps.length + (hi + 1 - lo).toNat ≤ ws.length) midMu
      ⟨0, ((ws.map V.str).length : Int) - 1, [], none, rfl, same_new hl0, upd_same, Int.le_refl _, by omega, ⟨ws.length + 1, by omega, by rw [hlen]; rfl⟩, by show 0 + _ ≤ _; omega⟩ (fun σ H1 hP => ?_) (fun σ H1 Q Q' hq hc => ?_)
    · obtain ⟨lo, hi, ps, y5, rfl, s1, el, h0, h1, ⟨f, hf, eq⟩, hb⟩ := hP
      obtain ⟨f, rfl⟩ : ∃ f', f = f' + 1 := ⟨f - 1, by omega⟩
      refine ⟨_, rfl, _, rfl, _, _, rfl, rfl, _, rfl, ite2 (fun hle => ?_) (fun hle => ?_)⟩
      · have hle' : lo ≤ hi := of_decide_eq_true hle
        have hm0 : 0 ≤ (lo + hi) / 2 := by omega
        have hm1 : lo ≤ (lo + hi) / 2 ∧ (lo + hi) / 2 ≤ hi := by omega
        have hmn : ((lo + hi) / 2).toNat < ws.length := by omega
        have heq : halvesOf ws h = if ws[((lo + hi) / 2).toNat]?.getD "" = h then (some ((lo + hi) / 2).toNat, ps ++ [(lo + hi) / 2])
            else if ltS h (ws[((lo + hi) / 2).toNat]?.getD "") = true then halves ws h f lo ((lo + hi) / 2 - 1) (ps ++ [(lo + hi) / 2])
            else halves ws h f ((lo + hi) / 2 + 1) hi (ps ++ [(lo + hi) / 2]) := by
          rw [eq]
          show (if lo ≤ hi then _ else _) = _
          rw [if_pos hle']
        rw [List.getElem?_eq_getElem hmn] at heq
        have hat : atI (ws.map V.str) ((lo + hi) / 2) = some (.str ws[((lo + hi) / 2).toNat]) := by
          have q := atI_nat (xs := ws.map V.str) (j := ((lo + hi) / 2).toNat) (v := .str ws[((lo + hi) / 2).toNat]) (by rw [List.getElem?_map, List.getElem?_eq_getElem hmn]; rfl)
          rw [Int.toNat_of_nonneg hm0] at q
          exact q
        refine ⟨_, rfl, _, rfl, _, _, rfl, rfl, _, _, rfl, rfl, ⟨by decide, by decide⟩, ?_⟩
        have hS1 := s1.seqT hS
        have hS2 : SqT K (upd H1 l (.lst (ps.map V.int ++ [.int ((lo + hi) / 2)]))) a (ws.map V.str) := (same_mut s1 hl0).seqT hS
        have el2 : (upd H1 l (.lst (ps.map V.int ++ [.int ((lo + hi) / 2)]))) l = some (.lst ((ps ++ [(lo + hi) / 2]).map V.int)) := by
          rw [upd_same, List.map_append]
          rfl
        refine ⟨_, rfl, .inl ⟨rfl, _, SqL.of el⟩, _, rfl, l, _, _, rfl, rfl, el, sizeLine_of (by rw [List.length_map]; omega), ?_⟩
        have s2 : Same H (upd H1 l (.lst (ps.map V.int ++ [.int ((lo + hi) / 2)]))) := same_mut s1 hl0
        generalize upd H1 l (.lst (ps.map V.int ++ [.int ((lo + hi) / 2)])) = H2 at *
        refine ⟨_, rfl, _, rfl, a, _, _, _, rfl, rfl, hS2, hat, _, rfl, rfl, _, rfl, ite2 (fun he => ?_) (fun he => ?_)⟩
        · have he' : ws[((lo + hi) / 2).toNat] = h := V.str.inj (of_decide_eq_true he)
          have e2 : halvesOf ws h = (some ((lo + hi) / 2).toNat, ps ++ [(lo + hi) / 2]) := by
            rw [heq]
            exact if_pos he'
          refine ⟨_, rfl, _, rfl, l, _, rfl, .inl ⟨SqL.of el2, fun p hp => ⟨by show 2 ≤ sizeLine; decide, fun t ht => ?_⟩⟩⟩
          refine k t _ ((s2.trans (same_new hp)).trans (same_new ht)) ⟨p, ?_, ?_⟩
          · rw [e2]
            show SqT K _ t [.int ((((lo + hi) / 2).toNat : Nat) : Int), .ref p]
            rw [Int.toNat_of_nonneg hm0]
            exact SqT.of upd_same
          · rw [e2]
            exact SqT.of (kp upd_same ht)
        · have he' : ¬ ws[((lo + hi) / 2).toNat] = h := fun e => he (decide_eq_true (congrArg V.str e))
          replace heq := heq.trans (if_neg he')
          refine ⟨_, rfl, _, rfl, a, _, _, _, rfl, rfl, hS2, hat, _, rfl, _, _, rfl, rfl, _, rfl, ite2 (fun hlt => ?_) (fun hlt => ?_)⟩
          · have heq := heq.trans (if_pos (show ltS h _ = true from hlt))
            refine ⟨_, rfl, _, _, rfl, rfl, ?_⟩
            refine ⟨⟨lo, (lo + hi) / 2 - 1, ps ++ [(lo + hi) / 2], _, rfl, s2, el2, h0, by omega, ⟨f, by omega, heq⟩, by rw [List.length_append, List.length_singleton]; omega⟩, ?_⟩
            show ((lo + hi) / 2 - 1 + 1 - lo).toNat < (hi + 1 - lo).toNat
            omega
          · have heq := heq.trans (if_neg (show ¬ ltS h _ = true from hlt))
            refine ⟨_, rfl, _, _, rfl, rfl, ?_⟩
            refine ⟨⟨(lo + hi) / 2 + 1, hi, ps ++ [(lo + hi) / 2], _, rfl, s2, el2, by omega, h1, ⟨f, by omega, heq⟩, by rw [List.length_append, List.length_singleton]; omega⟩, ?_⟩
            show (hi + 1 - ((lo + hi) / 2 + 1)).toNat < (hi + 1 - lo).toNat
            omega
      · have hle' : ¬ lo ≤ hi := fun z => hle (decide_eq_true z)
        have e2 : halvesOf ws h = (none, ps) := by
          rw [eq]
          show (if lo ≤ hi then _ else _) = _
          rw [if_neg hle']
        refine ⟨_, rfl, l, _, rfl, .inl ⟨SqL.of el, fun p hp => ⟨by show 2 ≤ sizeLine; decide, fun t ht => ?_⟩⟩⟩
        refine k t _ ((s1.trans (same_new hp)).trans (same_new ht)) ⟨p, ?_, ?_⟩
        · rw [e2]
          exact SqT.of upd_same
        · rw [e2]
          exact SqT.of (kp upd_same ht)
    · obtain ⟨x, hx, y, hy, i, j, rfl, rfl, b, hb, q⟩ := hc
      exact ⟨_, hx, _, hy, i, j, rfl, rfl, b, hb, hq _ _ q⟩
end
section
local macro_rules | `(tactic| walk_at "sl") => `(tactic| first | assumption | exact SqL.of upd_same | exact SqL.of (by assumption) | ((with_reducible apply sql_upd); (walk_at "sl"); (first | assumption | exact Ne.symm (by assumption))))
local macro_rules | `(tactic| walk_at "st") => `(tactic| first | assumption | exact SqT.of upd_same | exact SqT.of (by assumption))
local macro_rules | `(tactic| walk_at "sc") => `(tactic| first | rfl | assumption | (show (0 : Int) < _; first | assumption | decide | omega) | exact Or.inl ⟨by omega, by omega⟩ | exact Or.inr ⟨by omega, by omega⟩ | exact ⟨by decide, by decide⟩ | exact ⟨by decide, by decide, by decide⟩)
local macro_rules | `(tactic| walk_at "g1") => `(tactic| first
  | refine ⟨(_ : V), rfl, ?_⟩
  | refine ⟨(_ : Bool), rfl, ?_⟩
  | refine ⟨(_ : Int), (_ : Int), rfl, rfl, ?_⟩
  | refine ⟨(_ : Int), rfl, ?_⟩
  | refine ⟨(_ : Str), rfl, ?_⟩
  | refine ⟨(_ : Addr), (_ : List V), rfl, Or.inl (by walk_at "sl"), ?_⟩
  | refine ⟨(_ : Addr), (_ : List V), rfl, Or.inr (by walk_at "st"), ?_⟩
  | refine ⟨(_ : Addr), (_ : List V), (_ : Int), (_ : V), rfl, rfl, (by walk_at "sl"), (by first | rfl | assumption), ?_⟩
  | refine ⟨(_ : Addr), (_ : List V), (_ : Int), (_ : V), rfl, rfl, (by walk_at "st"), (by first | rfl | assumption), ?_⟩
  | refine ⟨(_ : Addr), (_ : List V), (_ : Int), (_ : Nat), rfl, rfl, upd_same, rfl, ?_⟩
  | refine ⟨(_ : Addr), (_ : List V), (_ : Int), (_ : Nat), rfl, rfl, (by assumption), rfl, ?_⟩
  | refine ⟨(_ : Addr), (_ : Addr), (_ : Addr), (_ : List (Str × V)), (_ : V), rfl, (by assumption), (by assumption), (by assumption), (by first | assumption | rfl), ?_⟩
  | refine Or.inl ⟨(_ : Int), rfl, ?_⟩
  | refine And.intro (by walk_at "sc") ?_
  | refine iteT ?_
  | refine iteF ?_)
def rules3 : List Str := ["all", "leaf", "half"]
def spSeek (K : PySem.W.Frag) : Sp := fun vs H Q _ => ∃ (a : Addr) (ws : List Str) (rule h : Str), vs = [.ref a, .str rule, .str h] ∧ SqT K H a (ws.map V.str) ∧ ws.length ≤ 1000 ∧ ∀ (t : Addr) (H' : Hp), Same H H' → Seen K H' t (seekOf ws rule h) → Q (.ref t) H'
theorem ok_seek (T : Top K mg) : FnOk P w K mg base CX0 2 T.a_seek T.fd_seek ["row", "rule", "heading"] (spSeek K) := by
  refine T.F_seek.ok sc_seek (fun vs H Q E h => ?_) (fun cdv A outer s H vs Q E hr h => ?_)
  · obtain ⟨a, ws, r, h, rfl, _⟩ := h
    rfl
  · obtain ⟨a, ws, r, h, rfl, hS, hl, k⟩ := h
    have hu := hu_of hr
    refine ⟨_, (pss_cons (ps_if (pt_cmpR op_eq (pv 1) pe_str (nomark _)) (pss_one (ps_ret (pe_call (ok_seek_by_halves T) (hr.mono (by decide)) (by rfl) T.g_seek_by_halves T.F_seek_by_halves.kp (b_seek_by_halves T) .nil pass0 (pa_cons (pv 0) (pa_cons (pv 2) pa_nil))))) pss_nil)
      (pss_one (ps_ret (pe_call (ok_seek_along T) (hr.mono (by decide)) (by rfl) T.g_seek_along T.F_seek_along.kp (b_seek_along T) .nil pass0 (pa_cons (pv 0) (pa_cons (pv 2) (pa_cons (pe_cmpR op_eq (pv 1) pe_str (nomark _)) pa_nil))))))), ?_⟩
    refine ⟨_, rfl, rfl, _, rfl, ite2 (fun he => ?_) (fun he => ?_)⟩
    · have e : seekOf ws r h = halvesOf ws h := if_pos (V.str.inj (of_decide_eq_true he))
      refine ⟨_, rfl, _, rfl, a, ws, h, rfl, hS, hl, fun t H' s' q => ?_⟩
      rw [← e] at q
      exact k t H' s' q
    · have e : seekOf ws r h = alongOf ws (decide (r = "leaf")) h := if_neg fun z => he (decide_eq_true (congrArg V.str z))
      refine ⟨_, rfl, _, rfl, _, rfl, rfl, a, ws, h, decide (r = "leaf"), ?_, hS, hl, fun t H' s' q => ?_⟩
      · have q : decide (V.str r = V.str "leaf") = decide (r = "leaf") := by
          by_cases e2 : r = "leaf"
          · rw [decide_eq_true e2, decide_eq_true (congrArg V.str e2)]
          · rw [decide_eq_false e2, decide_eq_false fun z => e2 (V.str.inj z)]
        show [V.ref a, V.str h, V.bl (decide (V.str r = V.str "leaf"))] = _
        rw [q]
      · rw [← e] at q
        exact k t H' s' q
theorem inV_rules (r : Str) : inV (V.str r) [V.str "all", V.str "leaf", V.str "half"] = decide (r ∈ rules3) := by
  unfold rules3
  show (eqV (.str "all") (.str r) || (eqV (.str "leaf") (.str r) || (eqV (.str "half") (.str r) || false))) = _
  have e : ∀ x : Str, eqV (.str x) (.str r) = decide (r = x) := fun x => by
    show (x == r) = _
    by_cases h : r = x
    · rw [decide_eq_true h, h]
      exact beq_self_eq_true _
    · rw [decide_eq_false h]
      exact beq_eq_false_iff_ne.mpr fun z => h z.symm
  rw [e, e, e, Bool.or_false]
  by_cases h1 : r = "all"
  · subst h1
    rfl
  · by_cases h2 : r = "leaf"
    · subst h2
      rfl
    · by_cases h3 : r = "half"
      · subst h3
        rfl
      · rw [decide_eq_false h1, decide_eq_false h2, decide_eq_false h3]
        exact (decide_eq_false fun z => by simp [h1, h2, h3] at z).symm
/-- a rule, or InvalidRule -/
def spRuleX (cR : Addr) : Sp := fun vs H Q E => ∃ r : Str, vs = [.str r] ∧ (r ∈ rules3 → Q .non H) ∧ (r ∉ rules3 → E (.ref cR) none H)
theorem okx_check_rule (T : Top K mg) : FnOk P w K mg base (L2.CX P w) 1 T.a_check_rule T.fd_check_rule ["rule"] (spRuleX T.c_InvalidRule) := by
  refine T.F_check_rule.okX sc_check_rule (fun vs H Q E h => ?_) (fun cdv A outer s H vs Q E hr h => ?_)
  · obtain ⟨r, rfl, _⟩ := h
    rfl
  · obtain ⟨r, rfl, k1, k2⟩ := h
    have hu := hu_of hr
    refine ⟨_, (pss_one (ps_if (pt_cmpR op_notIn_seq (pv 0) (pe_glob rfl T.g_RULES T.r_RULES) rfl) (pss_one (ps_err ⟨T.xe_InvalidRule, T.xk_InvalidRule, T.xs_InvalidRule, T.xt_InvalidRule⟩ T.g_InvalidRule (by rfl) rfl rfl rfl rfl rfl)) pss_nil)), ?_⟩
    refine ⟨_, rfl, T.a_RULES, _, rfl, .inr (T.t_RULES H), rfl, rfl, ?_⟩
    by_cases hm : r ∈ rules3
    · rw [inV_rules r, decide_eq_true hm]
      exact ⟨_, rfl, iteF (k1 hm)⟩
    · rw [inV_rules r, decide_eq_false hm]
      exact ⟨_, rfl, iteT (k2 hm)⟩
end
section
local macro_rules | `(tactic| walk_at "sl") => `(tactic| first | assumption | exact SqL.of upd_same | exact SqL.of (by assumption) | ((with_reducible apply sql_upd); (walk_at "sl"); (first | assumption | exact Ne.symm (by assumption))))
local macro_rules | `(tactic| walk_at "st") => `(tactic| first | assumption | exact SqT.of upd_same | exact SqT.of (by assumption))
local macro_rules | `(tactic| walk_at "sc") => `(tactic| first | rfl | assumption | (show (0 : Int) < _; first | assumption | decide | omega) | exact Or.inl ⟨by omega, by omega⟩ | exact Or.inr ⟨by omega, by omega⟩ | exact ⟨by decide, by decide⟩ | exact ⟨by decide, by decide, by decide⟩)
local macro_rules | `(tactic| walk_at "g1") => `(tactic| first
  | refine ⟨(_ : V), rfl, ?_⟩
  | refine ⟨(_ : Bool), rfl, ?_⟩
  | refine ⟨(_ : Int), (_ : Int), rfl, rfl, ?_⟩
  | refine ⟨(_ : Int), rfl, ?_⟩
  | refine ⟨(_ : Str), rfl, ?_⟩
  | refine ⟨(_ : Addr), (_ : List V), rfl, Or.inl (by walk_at "sl"), ?_⟩
  | refine ⟨(_ : Addr), (_ : List V), rfl, Or.inr (by walk_at "st"), ?_⟩
  | refine ⟨(_ : Addr), (_ : List V), (_ : Int), (_ : V), rfl, rfl, (by walk_at "sl"), (by first | rfl | assumption), ?_⟩
  | refine ⟨(_ : Addr), (_ : List V), (_ : Int), (_ : V), rfl, rfl, (by walk_at "st"), (by first | rfl | assumption), ?_⟩
  | refine ⟨(_ : Addr), (_ : List V), (_ : Int), (_ : Nat), rfl, rfl, upd_same, rfl, ?_⟩
  | refine ⟨(_ : Addr), (_ : List V), (_ : Int), (_ : Nat), rfl, rfl, (by assumption), rfl, ?_⟩
  | refine ⟨(_ : Addr), (_ : Addr), (_ : Addr), (_ : List (Str × V)), (_ : V), rfl, (by assumption), (by assumption), (by assumption), (by first | assumption | rfl), ?_⟩
  | refine Or.inl ⟨(_ : Int), rfl, ?_⟩
  | refine And.intro (by walk_at "sc") ?_
  | refine iteT ?_
  | refine iteF ?_)
/-! ### headings, or InvalidHeading -/
def spHeadingX (cH : Addr) : Sp := fun vs H Q E => ∃ h : Str, vs = [.str h] ∧ h.length ≤ 1000 ∧ ∀ H', Same H H' → (isWord h = true → Q .non H') ∧ (isWord h = false → E (.ref cH) none H')
theorem okx_check_heading (T : Top K mg) : FnOk P w K mg base (L2.CX P w) 2 T.a_check_heading T.fd_check_heading ["heading"] (spHeadingX T.c_InvalidHeading) := by
  refine T.F_check_heading.okX sc_check_heading (fun vs H Q E h => ?_) (fun cdv A outer s H vs Q E hr h => ?_)
  · obtain ⟨r, rfl, _⟩ := h
    rfl
  · obtain ⟨h, rfl, hn, k⟩ := h
    have hu := hu_of hr
    refine ⟨_, (pss_one (ps_if (pt_not (pt_val (pe_call (ok_is_word T) (hr.mono (by decide)) (by rfl) T.g_is_word T.F_is_word.kp (b_is_word T) .nil pass0 (pa_cons (pv 0) pa_nil)))) (pss_one (ps_err ⟨T.xe_InvalidHeading, T.xk_InvalidHeading, T.xs_InvalidHeading, T.xt_InvalidHeading⟩ T.g_InvalidHeading (by rfl) rfl rfl rfl rfl rfl)) pss_nil)), ?_⟩
    refine ⟨_, rfl, h, rfl, hn, fun H' s' => ⟨_, rfl, ?_⟩⟩
    obtain ⟨k1, k2⟩ := k H' s'
    by_cases hw : isWord h = true
    · rw [hw]
      exact iteF (k1 hw)
    · rw [Bool.eq_false_iff.mpr hw]
      exact iteT (k2 (Bool.eq_false_iff.mpr hw))
end
section
local macro_rules | `(tactic| walk_at "sl") => `(tactic| first | assumption | exact SqL.of upd_same | exact SqL.of (by assumption) | ((with_reducible apply sql_upd); (walk_at "sl"); (first | assumption | exact Ne.symm (by assumption))))
local macro_rules | `(tactic| walk_at "st") => `(tactic| first | assumption | exact SqT.of upd_same | exact SqT.of (by assumption))
local macro_rules | `(tactic| walk_at "sc") => `(tactic| first | rfl | assumption | (show (0 : Int) < _; first | assumption | decide | omega) | exact Or.inl ⟨by omega, by omega⟩ | exact Or.inr ⟨by omega, by omega⟩ | exact ⟨by decide, by decide⟩ | exact ⟨by decide, by decide, by decide⟩)
local macro_rules | `(tactic| walk_at "g1") => `(tactic| first
  | refine ⟨(_ : V), rfl, ?_⟩
  | refine ⟨(_ : Bool), rfl, ?_⟩
  | refine ⟨(_ : Int), (_ : Int), rfl, rfl, ?_⟩
  | refine ⟨(_ : Int), rfl, ?_⟩
  | refine ⟨(_ : Str), rfl, ?_⟩
  | refine ⟨(_ : Addr), (_ : List V), rfl, Or.inl (by walk_at "sl"), ?_⟩
  | refine ⟨(_ : Addr), (_ : List V), rfl, Or.inr (by walk_at "st"), ?_⟩
  | refine ⟨(_ : Addr), (_ : List V), (_ : Int), (_ : V), rfl, rfl, (by walk_at "sl"), (by first | rfl | assumption), ?_⟩
  | refine ⟨(_ : Addr), (_ : List V), (_ : Int), (_ : V), rfl, rfl, (by walk_at "st"), (by first | rfl | assumption), ?_⟩
  | refine ⟨(_ : Addr), (_ : List V), (_ : Int), (_ : Nat), rfl, rfl, upd_same, rfl, ?_⟩
  | refine ⟨(_ : Addr), (_ : List V), (_ : Int), (_ : Nat), rfl, rfl, (by assumption), rfl, ?_⟩
  | refine ⟨(_ : Addr), (_ : Addr), (_ : Addr), (_ : List (Str × V)), (_ : V), rfl, (by assumption), (by assumption), (by assumption), (by first | assumption | rfl), ?_⟩
  | refine Or.inl ⟨(_ : Int), rfl, ?_⟩
  | refine And.intro (by walk_at "sc") ?_
  | refine iteT ?_
  | refine iteF ?_)
/-! ### places; a drawer without some cards -/
def spCheckPlace : Sp := fun vs H Q _ => ∃ n i : Int, vs = [.int n, .int i] ∧ 0 ≤ i ∧ i < n ∧ Q .non H
theorem ok_check_place (T : Top K mg) : FnOk P w K mg base CX0 2 T.a_check_place T.fd_check_place ["many", "place"] spCheckPlace := by
  refine T.F_check_place.ok sc_check_place (fun vs H Q E h => ?_) (fun cdv A outer s H vs Q E hr h => ?_)
  · obtain ⟨n, i, rfl, _⟩ := h
    rfl
  · obtain ⟨n, i, rfl, h0, h1, k⟩ := h
    have hu := hu_of hr
    refine ⟨_, (pss_one (ps_if (pt_not (pt_val (pe_call (ok_is_number T) (hr.mono (by decide)) (by rfl) T.g_is_number T.F_is_number.kp (b_is_number T) .nil pass0 (pa_cons (pv 1) (pa_cons pe_int (pa_cons (pe_op op_sub (pv 0) pe_int) pa_nil)))))) (pss_one (ps_never)) pss_nil)), ?_⟩
    repeat walk_at "g1"
    refine ⟨_, _, _, rfl, ?_⟩
    have e : isNum i 0 (n - 1) = true := by
      unfold isNum
      rw [decide_eq_true h0, decide_eq_true (by omega)]
      rfl
    rw [e]
    repeat walk_at "g1"
    exact k
/-- the cards but those of some places -/
def lessAt {α : Type} (cs : List α) (ns : List Int) : List α := (List.range cs.length).filterMap fun (i : Nat) => if ((i : Int) ∈ ns) then none else cs[i]?
theorem lessAt_map {α β : Type} (f : α → β) (cs : List α) (ns : List Int) : lessAt (cs.map f) ns = (lessAt cs ns).map f := by
  unfold lessAt
  rw [List.length_map, List.map_filterMap]
  congr 1
  funext i
  rw [List.getElem?_map]
  split <;> rfl
theorem lessAt_sub {α : Type} {cs : List α} {ns : List Int} {x : α} (h : x ∈ lessAt cs ns) : x ∈ cs := by
  unfold lessAt at h
  obtain ⟨i, _, e⟩ := List.mem_filterMap.mp h
  split at e
  · cases e
  · exact List.mem_of_getElem? e
theorem lessAt_len {α : Type} (cs : List α) (ns : List Int) : (lessAt cs ns).length ≤ cs.length := by
  unfold lessAt
  have q := List.length_filterMap_le (fun (i : Nat) => if ((i : Int) ∈ ns) then none else cs[i]?) (List.range cs.length)
  rw [List.length_range] at q
  exact q
theorem Cards.zip {C : Addr} {H : Hp} {ps : List Addr} {cs : List CD} (h : Cards K C H ps cs) : ps = (ps.zip cs).map Prod.fst ∧ cs = (ps.zip cs).map Prod.snd ∧ ∀ z ∈ ps.zip cs, CardAt K C H z.1 z.2 := by
  refine ⟨(List.map_fst_zip (Nat.le_of_eq h.1)).symm, (List.map_snd_zip (Nat.le_of_eq h.1.symm)).symm, fun z hz => ?_⟩
  obtain ⟨i, hi⟩ := List.getElem?_of_mem hz
  obtain ⟨h1, h2⟩ := List.getElem?_zip_eq_some.mp hi
  exact h.2 i _ _ h1 h2
theorem Cards.of_zip {C : Addr} {H : Hp} {zs : List (Addr × CD)} (h : ∀ z ∈ zs, CardAt K C H z.1 z.2) : Cards K C H (zs.map Prod.fst) (zs.map Prod.snd) := by
  refine ⟨by rw [List.length_map, List.length_map], fun i q c h1 h2 => ?_⟩
  rw [List.getElem?_map] at h1 h2
  obtain ⟨z, hz, rfl⟩ := Option.map_eq_some_iff.mp h1
  rw [hz] at h2
  cases h2
  exact h z (List.mem_of_getElem? hz)
theorem Cards.less {C : Addr} {H : Hp} {ps : List Addr} {cs : List CD} (h : Cards K C H ps cs) (ns : List Int) : Cards K C H (lessAt ps ns) (lessAt cs ns) := by
  obtain ⟨e1, e2, h3⟩ := h.zip
  rw [e1]
  generalize hz : ps.zip cs = zs at *
  rw [e2, lessAt_map, lessAt_map]
  exact Cards.of_zip fun z hz' => h3 z (lessAt_sub hz')
theorem inV_int {i : Int} : ∀ ns : List Int, inV (.int i) (ns.map V.int) = decide (i ∈ ns)
  | [] => rfl
  | n :: r => by
    show (eqV (.int n) (.int i) || inV (.int i) (r.map V.int)) = _
    rw [inV_int r]
    show ((n == i) || _) = _
    by_cases e : n = i
    · subst e
      simp
    · have e2 : (n == i) = false := beq_eq_false_iff_ne.mpr e
      rw [e2, Bool.false_or]
      by_cases e3 : i ∈ r
      · rw [decide_eq_true e3, decide_eq_true (List.mem_cons_of_mem _ e3)]
      · rw [decide_eq_false e3, decide_eq_false fun z => (List.mem_cons.mp z).elim (fun z => e z.symm) e3]
theorem flat_ints : ∀ ns : List Int, (ns.map V.int).all flatV = true
  | [] => rfl
  | _ :: r => flat_ints r
end
section
local macro_rules | `(tactic| walk_at "sl") => `(tactic| first | assumption | exact SqL.of upd_same | exact SqL.of (by assumption) | ((with_reducible apply sql_upd); (walk_at "sl"); (first | assumption | exact Ne.symm (by assumption))))
local macro_rules | `(tactic| walk_at "st") => `(tactic| first | assumption | exact SqT.of upd_same | exact SqT.of (by assumption))
local macro_rules | `(tactic| walk_at "sc") => `(tactic| first | rfl | assumption | (show (0 : Int) < _; first | assumption | decide | omega) | exact Or.inl ⟨by omega, by omega⟩ | exact Or.inr ⟨by omega, by omega⟩ | exact ⟨by decide, by decide⟩ | exact ⟨by decide, by decide, by decide⟩)
local macro_rules | `(tactic| walk_at "g1") => `(tactic| first
  | refine ⟨(_ : V), rfl, ?_⟩
  | refine ⟨(_ : Bool), rfl, ?_⟩
  | refine ⟨(_ : Int), (_ : Int), rfl, rfl, ?_⟩
  | refine ⟨(_ : Int), rfl, ?_⟩
  | refine ⟨(_ : Str), rfl, ?_⟩
  | refine ⟨(_ : Addr), (_ : List V), rfl, Or.inl (by walk_at "sl"), ?_⟩
  | refine ⟨(_ : Addr), (_ : List V), rfl, Or.inr (by walk_at "st"), ?_⟩
  | refine ⟨(_ : Addr), (_ : List V), (_ : Int), (_ : V), rfl, rfl, (by walk_at "sl"), (by first | rfl | assumption), ?_⟩
  | refine ⟨(_ : Addr), (_ : List V), (_ : Int), (_ : V), rfl, rfl, (by walk_at "st"), (by first | rfl | assumption), ?_⟩
  | refine ⟨(_ : Addr), (_ : List V), (_ : Int), (_ : Nat), rfl, rfl, upd_same, rfl, ?_⟩
  | refine ⟨(_ : Addr), (_ : List V), (_ : Int), (_ : Nat), rfl, rfl, (by assumption), rfl, ?_⟩
  | refine ⟨(_ : Addr), (_ : Addr), (_ : Addr), (_ : List (Str × V)), (_ : V), rfl, (by assumption), (by assumption), (by assumption), (by first | assumption | rfl), ?_⟩
  | refine Or.inl ⟨(_ : Int), rfl, ?_⟩
  | refine And.intro (by walk_at "sc") ?_
  | refine iteT ?_
  | refine iteF ?_)
theorem ok_Drawer_getitem (T : Top K mg) : FnOk P w K mg base CX0 3 T.a_Drawer_getitem T.fd_Drawer_getitem ["self", "place"] (fun vs H Q _ => ∃ (p : Addr) (cs : List CD) (i : Nat) (c : CD), vs = [.ref p, .int i] ∧ DrawerAt K T.c_Drawer T.c_Card H p cs ∧ cs.length ≤ 1000 ∧ cs[i]? = some c ∧ ∀ q, CardAt K T.c_Card H q c → Q (.ref q) H) := by
  refine T.F_Drawer_getitem.ok sc_Drawer_getitem (fun vs H Q E h => ?_) (fun cdv A outer s H vs Q E hr h => ?_)
  · obtain ⟨p, cs, i, c, rfl, _⟩ := h
    rfl
  · obtain ⟨p, cs, i, c, rfl, ⟨dx, t, ps, hp, hT, hC⟩, hl, hi, k⟩ := h
    have hu := hu_of hr
    have hic := (List.getElem?_eq_some_iff.mp hi).1
    have hip : i < ps.length := by rw [hC.1]; exact hic
    refine ⟨_, (pss_cons (ps_expr (pe_call (ok_check_place T) (hr.mono (by decide)) (by rfl) T.g_check_place T.F_check_place.kp (b_check_place T) .nil pass0 (pa_cons (pe_callB call_len_seq (by rfl) T.m_len (by decide +kernel) (pa_cons (pe_fld (pv 0) rfl) pa_nil)) (pa_cons (pv 1) pa_nil))))
      (pss_one (ps_ret (pe_ix ix_tup (pe_fld (pv 0) rfl) (pv 1) (fun _ _ => rfl))))), ?_⟩
    refine ⟨_, rfl, p, _, dx, _, _, rfl, hp, T.cl_Drawer, T.n_Drawer__cards, df_cards _, t, _, rfl, .inr hT, ?_⟩
    refine ⟨_, rfl, _, _, rfl, by omega, by rw [List.length_map]; omega, ?_⟩
    refine ⟨_, rfl, p, _, dx, _, _, rfl, hp, T.cl_Drawer, T.n_Drawer__cards, df_cards _, _, rfl, t, _, _, .ref ps[i], rfl, rfl, hT, atI_nat (by rw [List.getElem?_map, List.getElem?_eq_getElem hip]; rfl), ?_⟩
    exact k ps[i] (hC.2 i _ _ (List.getElem?_eq_getElem hip) hi)
end
section
local macro_rules | `(tactic| walk_at "sl") => `(tactic| first | assumption | exact SqL.of upd_same | exact SqL.of (by assumption) | ((with_reducible apply sql_upd); (walk_at "sl"); (first | assumption | exact Ne.symm (by assumption))))
local macro_rules | `(tactic| walk_at "st") => `(tactic| first | assumption | exact SqT.of upd_same | exact SqT.of (by assumption))
local macro_rules | `(tactic| walk_at "sc") => `(tactic| first | rfl | assumption | (show (0 : Int) < _; first | assumption | decide | omega) | exact Or.inl ⟨by omega, by omega⟩ | exact Or.inr ⟨by omega, by omega⟩ | exact ⟨by decide, by decide⟩ | exact ⟨by decide, by decide, by decide⟩)
local macro_rules | `(tactic| walk_at "g1") => `(tactic| first
  | refine ⟨(_ : V), rfl, ?_⟩
  | refine ⟨(_ : Bool), rfl, ?_⟩
  | refine ⟨(_ : Int), (_ : Int), rfl, rfl, ?_⟩
  | refine ⟨(_ : Int), rfl, ?_⟩
  | refine ⟨(_ : Str), rfl, ?_⟩
  | refine ⟨(_ : Addr), (_ : List V), rfl, Or.inl (by walk_at "sl"), ?_⟩
  | refine ⟨(_ : Addr), (_ : List V), rfl, Or.inr (by walk_at "st"), ?_⟩
  | refine ⟨(_ : Addr), (_ : List V), (_ : Int), (_ : V), rfl, rfl, (by walk_at "sl"), (by first | rfl | assumption), ?_⟩
  | refine ⟨(_ : Addr), (_ : List V), (_ : Int), (_ : V), rfl, rfl, (by walk_at "st"), (by first | rfl | assumption), ?_⟩
  | refine ⟨(_ : Addr), (_ : List V), (_ : Int), (_ : Nat), rfl, rfl, upd_same, rfl, ?_⟩
  | refine ⟨(_ : Addr), (_ : List V), (_ : Int), (_ : Nat), rfl, rfl, (by assumption), rfl, ?_⟩
  | refine ⟨(_ : Addr), (_ : Addr), (_ : Addr), (_ : List (Str × V)), (_ : V), rfl, (by assumption), (by assumption), (by assumption), (by first | assumption | rfl), ?_⟩
  | refine Or.inl ⟨(_ : Int), rfl, ?_⟩
  | refine And.intro (by walk_at "sc") ?_
  | refine iteT ?_
  | refine iteF ?_)
/-! ### the law's own searcher -/
def hereOf (r : Str) (lo hi : Int) : Int := if r = "half" then (lo + hi - 1) / 2 else lo
def J (ws : List Str) (r h : Str) (lo hi : Int) (ps : List Int) : Prop :=
  (r = "half" ∧ ∃ f, (hi - lo).toNat < f ∧ halvesOf ws h = halves ws h f lo (hi - 1) ps) ∨
  (r ≠ "half" ∧ ((hi = ws.length ∧ ps = upTo lo.toNat ∧ along (decide (r = "leaf")) h 0 ws = along (decide (r = "leaf")) h lo.toNat (ws.drop lo.toNat)) ∨ (hi ≤ lo ∧ alongOf ws (decide (r = "leaf")) h = (none, ps))))
theorem upTo_succ (n : Nat) : upTo (n + 1) = upTo n ++ [(n : Int)] := by
  unfold upTo
  rw [List.range_succ, List.map_append]
  rfl
theorem J_start (ws : List Str) (r h : Str) : J ws r h 0 ws.length [] := by
  by_cases e : r = "half"
  · exact .inl ⟨e, ws.length + 1, by omega, rfl⟩
  · exact .inr ⟨e, .inl ⟨rfl, rfl, rfl⟩⟩
theorem J_stop {ws : List Str} {r h : Str} {lo hi : Int} {ps : List Int} (j : J ws r h lo hi ps) (h0 : 0 ≤ lo) (hs : hi ≤ lo) : seekOf ws r h = (none, ps) := by
  rcases j with ⟨e, f, hf, q⟩ | ⟨e, ⟨h1, h2, h3⟩ | ⟨_, h2⟩⟩
  · unfold seekOf
    rw [if_pos e, q]
    cases f with
    | zero => rfl
    | succ f =>
      show (if lo ≤ hi - 1 then _ else _) = _
      rw [if_neg (by omega)]
  · unfold seekOf
    rw [if_neg e]
    unfold alongOf
    have hl : ws.length ≤ lo.toNat := by omega
    rw [h3, List.drop_eq_nil_of_le hl, h2]
    rfl
  · unfold seekOf
    rw [if_neg e, h2]
theorem J_in {ws : List Str} {r h : Str} {lo hi : Int} {ps : List Int} (j : J ws r h lo hi ps) (h0 : 0 ≤ lo) (hs : lo < hi) (hn : hi ≤ ws.length) : 0 ≤ hereOf r lo hi ∧ lo ≤ hereOf r lo hi ∧ hereOf r lo hi < hi := by
  unfold hereOf
  split
  · omega
  · omega
theorem J_half {ws : List Str} {h : Str} {lo hi : Int} {ps : List Int} {f : Nat} {x : Str} (h0 : 0 ≤ lo) (hs : lo < hi) (hx : ws[((lo + hi - 1) / 2).toNat]? = some x) :
    halves ws h (f + 1) lo (hi - 1) ps = if x = h then (some ((lo + hi - 1) / 2).toNat, ps ++ [(lo + hi - 1) / 2]) else if ltS h x = true then halves ws h f lo ((lo + hi - 1) / 2 - 1) (ps ++ [(lo + hi - 1) / 2]) else halves ws h f ((lo + hi - 1) / 2 + 1) (hi - 1) (ps ++ [(lo + hi - 1) / 2]) := by
  have e : lo + (hi - 1) = lo + hi - 1 := by omega
  show (if lo ≤ hi - 1 then (if ws[((lo + (hi - 1)) / 2).toNat]?.getD "" = h then _ else _) else _) = _
  rw [if_pos (by omega), e, hx]
  rfl
theorem J_along {ws : List Str} {g : Bool} {h : Str} {n : Nat} {x : Str} (hx : ws[n]? = some x) : along g h n (ws.drop n) = if x = h then (some n, n + 1) else if (g && ltS h x) = true then (none, n + 1) else along g h (n + 1) (ws.drop (n + 1)) := by
  have hn := (List.getElem?_eq_some_iff.mp hx).1
  have hd : ws.drop n = x :: ws.drop (n + 1) := by
    rw [List.drop_eq_getElem_cons hn]
    rw [List.getElem?_eq_getElem hn] at hx
    rw [Option.some.inj hx]
  rw [hd]
  rfl
theorem J_hit {ws : List Str} {r h : Str} {lo hi : Int} {ps : List Int} (j : J ws r h lo hi ps) (h0 : 0 ≤ lo) (hs : lo < hi) (hx : ws[(hereOf r lo hi).toNat]? = some h) : seekOf ws r h = (some (hereOf r lo hi).toNat, ps ++ [hereOf r lo hi]) := by
  rcases j with ⟨e, f, hf, q⟩ | ⟨e, ⟨h1, h2, h3⟩ | ⟨h4, _⟩⟩
  · have eh : hereOf r lo hi = (lo + hi - 1) / 2 := if_pos e
    rw [eh] at hx ⊢
    obtain ⟨f, rfl⟩ : ∃ f', f = f' + 1 := ⟨f - 1, by omega⟩
    unfold seekOf
    rw [if_pos e, q, J_half h0 hs hx, if_pos rfl]
  · have eh : hereOf r lo hi = lo := if_neg e
    rw [eh] at hx ⊢
    unfold seekOf
    rw [if_neg e]
    unfold alongOf
    rw [h3, J_along hx, if_pos rfl, upTo_succ, Int.toNat_of_nonneg h0, h2]
  · omega
theorem J_up {ws : List Str} {r h x : Str} {lo hi : Int} {ps : List Int} (hr : r ∈ rules3) (j : J ws r h lo hi ps) (h0 : 0 ≤ lo) (hs : lo < hi) (hx : ws[(hereOf r lo hi).toNat]? = some x) (hne : x ≠ h) (hlt : ltS h x = true) (ha : r ≠ "all") :
    J ws r h lo (if r = "half" then hereOf r lo hi else lo) (ps ++ [hereOf r lo hi]) := by
  rcases j with ⟨e, f, hf, q⟩ | ⟨e, ⟨h1, h2, h3⟩ | ⟨h4, _⟩⟩
  · have eh : hereOf r lo hi = (lo + hi - 1) / 2 := if_pos e
    rw [if_pos e]
    rw [eh] at hx ⊢
    obtain ⟨f, rfl⟩ : ∃ f', f = f' + 1 := ⟨f - 1, by omega⟩
    rw [J_half h0 hs hx, if_neg hne, if_pos hlt] at q
    exact .inl ⟨e, f, by omega, q⟩
  · have eh : hereOf r lo hi = lo := if_neg e
    rw [if_neg e]
    rw [eh] at hx ⊢
    have hl : r = "leaf" := by
      unfold rules3 at hr
      rcases List.mem_cons.mp hr with h | hr
      · exact absurd h ha
      · rcases List.mem_cons.mp hr with h | hr
        · exact h
        · exact absurd (List.mem_singleton.mp hr) e
    refine .inr ⟨e, .inr ⟨Int.le_refl _, ?_⟩⟩
    unfold alongOf
    rw [h3, J_along hx, if_neg hne, if_pos (by rw [decide_eq_true hl, hlt]; rfl), upTo_succ, Int.toNat_of_nonneg h0, h2]
  · omega
theorem J_down {ws : List Str} {r h x : Str} {lo hi : Int} {ps : List Int} (hr : r ∈ rules3) (j : J ws r h lo hi ps) (h0 : 0 ≤ lo) (hs : lo < hi) (hx : ws[(hereOf r lo hi).toNat]? = some x) (hne : x ≠ h) (hno : ¬ (ltS h x = true ∧ r ≠ "all")) :
    J ws r h (hereOf r lo hi + 1) hi (ps ++ [hereOf r lo hi]) := by
  rcases j with ⟨e, f, hf, q⟩ | ⟨e, ⟨h1, h2, h3⟩ | ⟨h4, _⟩⟩
  · have eh : hereOf r lo hi = (lo + hi - 1) / 2 := if_pos e
    have ha : r ≠ "all" := by
      rw [e]
      decide
    rw [eh] at hx ⊢
    obtain ⟨f, rfl⟩ : ∃ f', f = f' + 1 := ⟨f - 1, by omega⟩
    rw [J_half h0 hs hx, if_neg hne, if_neg (fun z => hno ⟨z, ha⟩)] at q
    exact .inl ⟨e, f, by omega, q⟩
  · have eh : hereOf r lo hi = lo := if_neg e
    rw [eh] at hx ⊢
    have hb : ¬ (decide (r = "leaf") && ltS h x) = true := fun z => by
      rw [Bool.and_eq_true] at z
      refine hno ⟨z.2, fun ha => ?_⟩
      have := of_decide_eq_true z.1
      rw [ha] at this
      exact absurd this (by decide)
    rw [J_along hx, if_neg hne, if_neg hb] at h3
    have e1 : (lo + 1).toNat = lo.toNat + 1 := by omega
    refine .inr ⟨e, .inl ⟨h1, ?_, ?_⟩⟩
    · rw [e1, upTo_succ, Int.toNat_of_nonneg h0, h2]
    · rw [e1]
      exact h3
  · omega
theorem tC_to {v : V} {σ : St} {H : Hp} {Q : VK} (q : Q v H) : tC v σ H Q := q
theorem ifE {c : Bool} {ta tb : TE} {σ : St} {H : Hp} {Q : VK} (v : V) (H' : Hp) (q : Q v H') (a : c = true → Q v H' → ta σ H Q) (b : ¬ c = true → Q v H' → tb σ H Q) : if c = true then ta σ H Q else tb σ H Q := by
  split
  · exact a (by assumption) q
  · exact b (by assumption) q
theorem str_dec (a b : Str) : decide (V.str a = V.str b) = decide (a = b) := by
  by_cases e : a = b
  · rw [decide_eq_true e, decide_eq_true (congrArg V.str e)]
  · rw [decide_eq_false e, decide_eq_false fun z => e (V.str.inj z)]
end
section
local macro_rules | `(tactic| walk_at "sl") => `(tactic| first | assumption | exact SqL.of upd_same | exact SqL.of (by assumption) | ((with_reducible apply sql_upd); (walk_at "sl"); (first | assumption | exact Ne.symm (by assumption))))
local macro_rules | `(tactic| walk_at "st") => `(tactic| first | assumption | exact SqT.of upd_same | exact SqT.of (by assumption))
local macro_rules | `(tactic| walk_at "sc") => `(tactic| first | rfl | assumption | (show (0 : Int) < _; first | assumption | decide | omega) | exact Or.inl ⟨by omega, by omega⟩ | exact Or.inr ⟨by omega, by omega⟩ | exact ⟨by decide, by decide⟩ | exact ⟨by decide, by decide, by decide⟩)
local macro_rules | `(tactic| walk_at "g1") => `(tactic| first
  | refine ⟨(_ : V), rfl, ?_⟩
  | refine ⟨(_ : Bool), rfl, ?_⟩
  | refine ⟨(_ : Int), (_ : Int), rfl, rfl, ?_⟩
  | refine ⟨(_ : Int), rfl, ?_⟩
  | refine ⟨(_ : Str), rfl, ?_⟩
  | refine ⟨(_ : Addr), (_ : List V), rfl, Or.inl (by walk_at "sl"), ?_⟩
  | refine ⟨(_ : Addr), (_ : List V), rfl, Or.inr (by walk_at "st"), ?_⟩
  | refine ⟨(_ : Addr), (_ : List V), (_ : Int), (_ : V), rfl, rfl, (by walk_at "sl"), (by first | rfl | assumption), ?_⟩
  | refine ⟨(_ : Addr), (_ : List V), (_ : Int), (_ : V), rfl, rfl, (by walk_at "st"), (by first | rfl | assumption), ?_⟩
  | refine ⟨(_ : Addr), (_ : List V), (_ : Int), (_ : Nat), rfl, rfl, upd_same, rfl, ?_⟩
  | refine ⟨(_ : Addr), (_ : List V), (_ : Int), (_ : Nat), rfl, rfl, (by assumption), rfl, ?_⟩
  | refine ⟨(_ : Addr), (_ : Addr), (_ : Addr), (_ : List (Str × V)), (_ : V), rfl, (by assumption), (by assumption), (by assumption), (by first | assumption | rfl), ?_⟩
  | refine Or.inl ⟨(_ : Int), rfl, ?_⟩
  | refine And.intro (by walk_at "sc") ?_
  | refine iteT ?_
  | refine iteF ?_)
/-! ### == of cards -/
def cdEq (c d : CD) : Bool := decide (c.heading = d.heading) && (decide (c.books = d.books) && (decide (c.see = d.see) && decide (c.also = d.also)))
theorem cdEq_of {c d : CD} (h1 : c.heading = d.heading) (h2 : c.books = d.books) (h3 : c.see = d.see) (h4 : c.also = d.also) : cdEq c d = true := by
  unfold cdEq
  rw [decide_eq_true h1, decide_eq_true h2, decide_eq_true h3, decide_eq_true h4]
  rfl
theorem eqCard (T : Top K mg) : EqC K T.c_Card T.a_Card_eq := ⟨T.M_Card_eq.at_, T.qn_Card, T.M_Card_eq.fn, T.qo_Card⟩
/-- what Card.__eq__ answers -/
def RC (K : PySem.W.Frag) (C : Addr) : Addr → V → Bool → Hp → Prop := fun p y b H => ∃ c, CardAt K C H p c ∧ (∀ x ∈ c.also, PyData.strOk x = true) ∧ ((∃ q d, y = .ref q ∧ CardAt K C H q d ∧ (∀ x ∈ d.also, PyData.strOk x = true) ∧ b = cdEq c d) ∨ (y = .non ∧ b = false))
theorem ints_eqv (a b : List Int) : (PyData.tuple (a.map PyData.int)).eqv (.tuple (b.map PyData.int)) = decide (a = b) := eqv_ints a b
theorem strs_eqv (a b : List Str) : (PyData.tuple (a.map PyData.str)).eqv (.tuple (b.map PyData.str)) = decide (a = b) := eqv_strs a b
theorem kit_non {C : Addr} (h1 : PySem.W.isClsIn K C = true) (h2 : PySem.W.typeIn K (.ref C) = some (.type "type")) (h3 : PySem.W.subIn K (.type "NoneType") (.ref C) = some false) : PySem.W.kitOne K (.type "NoneType") (.ref C) = some false := by
  unfold PySem.W.isClsIn at h1
  unfold PySem.W.kitOne PySem.W.kitCls
  rw [if_neg (by simp)]
  simp [h1, h2, h3]
theorem ok_Card_eq (T : Top K mg) : FnOk P w K mg base CX0 1 T.a_Card_eq T.fd_Card_eq ["self", "other"] (spEqB (RC K T.c_Card)) := by
  refine T.F_Card_eq.ok sc_Card_eq (fun vs H Q E h => ?_) (fun cdv A outer s H vs Q E hr h => ?_)
  · obtain ⟨p, y, b, rfl, _⟩ := h
    rfl
  · obtain ⟨p, y, b, rfl, ⟨c, hc, hca, hy⟩, k⟩ := h
    have hu := hu_of hr
    refine ⟨_, (pss_one (ps_ret (pe_and (pe_callB call_isi (by rfl) T.m_isinstance (by decide +kernel) (pa_cons (pv 1) (pa_cons (pe_glob (v := .ref T.c_Card) rfl T.g_Card rfl) pa_nil))) (pe_and (pe_cmpR op_eq (pe_fld (pv 0) rfl) (pe_fld (pv 1) rfl) (nomark _)) (pe_and (pe_cmpR (op_eqD hr.units) (pe_fld (pv 0) rfl) (pe_fld (pv 1) rfl) (nomark _)) (pe_and (pe_cmpR op_eq (pe_fld (pv 0) rfl) (pe_fld (pv 1) rfl) (nomark _)) (pe_one (pe_cmpR (op_eqD hr.units) (pe_fld (pv 0) rfl) (pe_fld (pv 1) rfl) (nomark _))))))))), ?_⟩
    rcases hy with ⟨q, d, rfl, hd, hda, rfl⟩ | ⟨rfl, rfl⟩
    · obtain ⟨dx, bb, aa, hp, hpb, hpa⟩ := hc
      obtain ⟨dy, bb', aa', hq, hqb, hqa⟩ := hd
      have k' : ∀ b, b = cdEq c d → ∀ H', Ext H H' → Q (.bl b) H' := fun b e => e ▸ k
      refine ⟨_, rfl, .ref q, .ref T.c_Card, .ref T.c_Card, .ref T.c_Card, true, rfl, .own _, .base (.ins hq T.cl_Card T.qc_Card T.qg_Card T.qk_Card T.qm_Card), ?_, ?_⟩
      · unfold PySem.W.kitOne
        exact if_pos (beq_self_eq_true _)
      refine ⟨_, rfl, iteT ?_⟩
      refine ⟨_, rfl, p, T.c_Card, dx, _, _, rfl, hp, T.cl_Card, T.n_Card__heading, cf_heading _ _ _ _, ?_⟩
      refine ⟨_, rfl, q, T.c_Card, dy, _, _, rfl, hq, T.cl_Card, T.n_Card__heading, cf_heading _ _ _ _, ?_⟩
      refine rEq_to (b := decide (c.heading = d.heading)) rfl (by rw [str_dec]) ?_
      refine ⟨_, rfl, ?_⟩
      by_cases h1 : c.heading = d.heading
      · rw [decide_eq_true h1]
        refine iteT ?_
        refine ⟨_, rfl, p, T.c_Card, dx, _, _, rfl, hp, T.cl_Card, T.n_Card__books, cf_books _ _ _ _, ?_⟩
        refine ⟨_, rfl, q, T.c_Card, dy, _, _, rfl, hq, T.cl_Card, T.n_Card__books, cf_books _ _ _ _, ?_⟩
        refine rEqD_to (b := decide (c.books = d.books)) (dp_tInts hpb) (dp_tInts hqb) (sh_tInts _) (sh_tInts _) (ints_eqv _ _) ?_
        refine ⟨_, rfl, ?_⟩
        by_cases h2 : c.books = d.books
        · rw [decide_eq_true h2]
          refine iteT ?_
          refine ⟨_, rfl, p, T.c_Card, dx, _, _, rfl, hp, T.cl_Card, T.n_Card__see, cf_see _ _ _ _, ?_⟩
          refine ⟨_, rfl, q, T.c_Card, dy, _, _, rfl, hq, T.cl_Card, T.n_Card__see, cf_see _ _ _ _, ?_⟩
          refine rEq_to (b := decide (c.see = d.see)) rfl (by rw [str_dec]) ?_
          refine ⟨_, rfl, ?_⟩
          by_cases h3 : c.see = d.see
          · rw [decide_eq_true h3]
            refine iteT ?_
            refine ⟨_, rfl, p, T.c_Card, dx, _, _, rfl, hp, T.cl_Card, T.n_Card__also, cf_also _ _ _ _, ?_⟩
            refine ⟨_, rfl, q, T.c_Card, dy, _, _, rfl, hq, T.cl_Card, T.n_Card__also, cf_also _ _ _ _, ?_⟩
            refine rEqD_to (b := decide (c.also = d.also)) (dp_tStrs hpa) (dp_tStrs hqa) (sh_tStrs _ hca) (sh_tStrs _ hda) (strs_eqv _ _) ?_
            refine k' _ ?_ H Ext.rfl'
            unfold cdEq
            rw [decide_eq_true h1, decide_eq_true h2, decide_eq_true h3]
            rfl
          · rw [decide_eq_false h3]
            refine iteF (k' _ ?_ H Ext.rfl')
            unfold cdEq
            rw [decide_eq_true h1, decide_eq_true h2, decide_eq_false h3]
            rfl
        · rw [decide_eq_false h2]
          refine iteF (k' _ ?_ H Ext.rfl')
          unfold cdEq
          rw [decide_eq_true h1, decide_eq_false h2]
          rfl
      · rw [decide_eq_false h1]
        refine iteF (k' _ ?_ H Ext.rfl')
        unfold cdEq
        rw [decide_eq_false h1]
        rfl
    · refine ⟨_, rfl, .non, .ref T.c_Card, .type "NoneType", .ref T.c_Card, false, rfl, .own _, .base .non, kit_non T.qi_Card T.qt_Card T.qu_Card, ?_⟩
      refine ⟨_, rfl, iteF (k H Ext.rfl')⟩
theorem monB_card {C : Addr} : MonB (DInsB C (RC K C)) := fun x y b H H' e d => by
  obtain ⟨p, q, dx, dy, fs, gs, rfl, rfl, hp, hq, c, hc, hca, hy⟩ := d
  have s : Same H H' := e
  refine ⟨p, q, dx, dy, fs, gs, rfl, rfl, e _ _ hp, e _ _ hq, c, hc.same s, hca, ?_⟩
  rcases hy with ⟨q', d, e', hd, hda, hb⟩ | ⟨e', hb⟩
  · exact .inl ⟨q', d, e', hd.same s, hda, hb⟩
  · exact .inr ⟨e', hb⟩
theorem card_refs {C : Addr} : ∀ x y b H, DInsB C (RC K C) x y b H → ∃ p q, x = .ref p ∧ y = .ref q := fun x y b H d => by
  obtain ⟨p, q, _, _, _, _, hx, hy, _⟩ := d
  exact ⟨p, q, hx, hy⟩
theorem card_self {X : Cx} {C : Addr} : ∀ (pins : List (Addr × Obj)) (s : Shared) (σ : L2.St) (H : Hp) (p : Addr) (b : Bool), Inv X pins σ H s → DInsB C (RC X.K C) (.ref p) (.ref p) b H → b = true := fun pins s σ H p b I d => by
  obtain ⟨p1, q1, dx1, dy1, fs1, gs1, e1, e2, k1, k2, c, hc, k3, hy⟩ := d
  obtain rfl := V.ref.inj e1
  rcases hy with ⟨q', d, e', hd, _, rfl⟩ | ⟨e', _⟩
  · obtain rfl := V.ref.inj e'
    obtain ⟨dx, bb, aa, hp, hpb, hpa⟩ := hc
    obtain ⟨dy, bb', aa', hq, hqb, hqa⟩ := hd
    have z := hp.symm.trans hq
    have zf : cardFlds (.str c.heading) (.ref bb) (.str c.see) (.ref aa) = cardFlds (.str d.heading) (.ref bb') (.str d.see) (.ref aa') := by
      injection (Option.some.inj z)
    have l : ∀ k : Str, (cardFlds (.str c.heading) (.ref bb) (.str c.see) (.ref aa)).lookup k = (cardFlds (.str d.heading) (.ref bb') (.str d.see) (.ref aa')).lookup k := fun k => by rw [zf]
    have z1 := l "_heading"
    have z2 := l "_books"
    have z3 := l "_see"
    have z4 := l "_also"
    rw [cf_heading, cf_heading] at z1
    rw [cf_books, cf_books] at z2
    rw [cf_see, cf_see] at z3
    rw [cf_also, cf_also] at z4
    obtain rfl := V.ref.inj (Option.some.inj z2)
    obtain rfl := V.ref.inj (Option.some.inj z4)
    obtain ⟨us, r1, r2⟩ := sqT_uniq I hpb hqb
    obtain ⟨us', r3, r4⟩ := sqT_uniq I hpa hqa
    exact cdEq_of (V.str.inj (Option.some.inj z1)) (valsI_uniq r1 r2) (V.str.inj (Option.some.inj z3)) (valsS_uniq r3 r4)
  · cases e'
end
section
local macro_rules | `(tactic| walk_at "sl") => `(tactic| first | assumption | exact SqL.of upd_same | exact SqL.of (by assumption) | ((with_reducible apply sql_upd); (walk_at "sl"); (first | assumption | exact Ne.symm (by assumption))))
local macro_rules | `(tactic| walk_at "st") => `(tactic| first | assumption | exact SqT.of upd_same | exact SqT.of (by assumption))
local macro_rules | `(tactic| walk_at "sc") => `(tactic| first | rfl | assumption | (show (0 : Int) < _; first | assumption | decide | omega) | exact Or.inl ⟨by omega, by omega⟩ | exact Or.inr ⟨by omega, by omega⟩ | exact ⟨by decide, by decide⟩ | exact ⟨by decide, by decide, by decide⟩)
local macro_rules | `(tactic| walk_at "g1") => `(tactic| first
  | refine ⟨(_ : V), rfl, ?_⟩
  | refine ⟨(_ : Bool), rfl, ?_⟩
  | refine ⟨(_ : Int), (_ : Int), rfl, rfl, ?_⟩
  | refine ⟨(_ : Int), rfl, ?_⟩
  | refine ⟨(_ : Str), rfl, ?_⟩
  | refine ⟨(_ : Addr), (_ : List V), rfl, Or.inl (by walk_at "sl"), ?_⟩
  | refine ⟨(_ : Addr), (_ : List V), rfl, Or.inr (by walk_at "st"), ?_⟩
  | refine ⟨(_ : Addr), (_ : List V), (_ : Int), (_ : V), rfl, rfl, (by walk_at "sl"), (by first | rfl | assumption), ?_⟩
  | refine ⟨(_ : Addr), (_ : List V), (_ : Int), (_ : V), rfl, rfl, (by walk_at "st"), (by first | rfl | assumption), ?_⟩
  | refine ⟨(_ : Addr), (_ : List V), (_ : Int), (_ : Nat), rfl, rfl, upd_same, rfl, ?_⟩
  | refine ⟨(_ : Addr), (_ : List V), (_ : Int), (_ : Nat), rfl, rfl, (by assumption), rfl, ?_⟩
  | refine ⟨(_ : Addr), (_ : Addr), (_ : Addr), (_ : List (Str × V)), (_ : V), rfl, (by assumption), (by assumption), (by assumption), (by first | assumption | rfl), ?_⟩
  | refine Or.inl ⟨(_ : Int), rfl, ?_⟩
  | refine And.intro (by walk_at "sc") ?_
  | refine iteT ?_
  | refine iteF ?_)
/-! ### the law's cards -/
open LamX
def w6 : List Str := ["ant", "bee", "cat", "dog", "elk", "fox"]
def g1 : List Str := ["gnu"]
def w7 : List Str := ["ant", "bee", "cat", "dog", "elk", "fox", "gnu"]
structure GoodL (c : CD) : Prop where
  good : c.Good
  h : c.heading ∈ w7
  s : c.see = "" ∨ c.see ∈ w7
  a : ∀ x ∈ c.also, x ∈ w7
theorem w7_word : ∀ x ∈ w7, isWord x = true := by decide +kernel
theorem w7_nodup : w7.Nodup := by decide +kernel
theorem tabs_but {T : List (Addr × Str)} {H H' : Hp} {r sc : Addr} {ns : List Int} (h : Tabs T H) (b : But r H H') (R : RowAt K H r sc ns) : Tabs T H' := fun p hp => by
  obtain ⟨n1, n2, n3, hr, _⟩ := R
  obtain ⟨ps, h1, h2, h3⟩ := h p hp
  refine ⟨ps, b _ _ h1 fun e => ?_, h2, fun pos cv hc => ?_⟩
  · rw [e, hr] at h1
    cases h1
  · obtain ⟨c, e1, e2⟩ := h3 pos cv hc
    refine ⟨c, e1, b _ _ e2 fun e => ?_⟩
    rw [e, hr] at e2
    cases e2
theorem fm_filter (z : Str) : ∀ l : List Str, l.filterMap (fun y => if y = z then none else some (V.str y)) = (l.filter fun y => !decide (y = z)).map V.str
  | [] => rfl
  | y :: l => by
    rw [List.filterMap_cons, List.filter_cons, fm_filter z l]
    by_cases h : y = z
    · rw [if_pos h, decide_eq_true h]
      rfl
    · rw [if_neg h, decide_eq_false h]
      rfl
def othersOf (z : Str) (nm : List Str) : List Str := (nm ++ g1).filter fun y => !decide (y = z)
theorem int_dec (a b : Int) : decide (V.int a = V.int b) = decide (a = b) := by
  by_cases h : a = b
  · rw [decide_eq_true h, decide_eq_true (congrArg V.int h)]
  · rw [decide_eq_false h, decide_eq_false fun z => h (V.int.inj z)]
theorem good_see {z y : Str} (hz : z ∈ w7) (hy : y ∈ w7) (hne : y ≠ z) : GoodL ⟨z, [], y, []⟩ := by
  refine ⟨⟨w7_word z hz, (show isBooks [] = true by decide), ?_, .inr ⟨rfl, rfl⟩, rfl⟩, hz, .inr hy, nofun⟩
  show isTarget y z = true
  unfold isTarget
  rw [w7_word y hy, decide_eq_false hne]
  simp
theorem good_entry {z : Str} {bs : List Int} {hs : List Str} (hz : z ∈ w7) (hb : isBooks bs = true) (ha : ∀ x ∈ hs, x ∈ w7 ∧ x ≠ z) (hn : hs.Nodup) (hl : hs.length ≤ 4) : GoodL ⟨z, bs, "", hs⟩ := by
  refine ⟨⟨w7_word z hz, hb, ?_, .inl rfl, ?_⟩, hz, .inl rfl, fun x hx => (ha x hx).1⟩
  · show isTarget "" z = true
    unfold isTarget
    rw [decide_eq_true rfl, Bool.true_or]
  · show isFurther hs z = true
    unfold isFurther
    rw [decide_eq_true hl, decide_eq_true hn, Bool.and_true, Bool.true_and, List.all_eq_true]
    intro x hx
    rw [w7_word x (ha x hx).1, decide_eq_false (ha x hx).2]
    rfl
theorem nodup_leI : ∀ {ks ws : List Int}, ks.Nodup → (∀ k ∈ ks, k ∈ ws) → ks.length ≤ ws.length
  | [], _, _, _ => Nat.zero_le _
  | k :: ks, ws, hn, hs => by
    have hk := hs k (.head _)
    obtain ⟨h1, h2⟩ := List.nodup_cons.mp hn
    have := nodup_leI (ws := ws.erase k) h2 fun x hx => (List.mem_erase_of_ne fun e => h1 (by rw [← e]; exact hx)).mpr (hs x (.tail _ hx))
    rw [List.length_erase_of_mem hk] at this
    have := List.length_pos_of_mem hk
    rw [List.length_cons]
    omega
theorem asc_of : ∀ {ms : List Int}, ms.Pairwise (· < ·) → asc ms = true
  | [], _ => rfl
  | [_], _ => rfl
  | a :: b :: ms, h => by
    obtain ⟨h1, h2⟩ := List.pairwise_cons.mp h
    have q := asc_of h2
    show (decide (a < b) && ((b :: ms).zip ms).all fun p => decide (p.1 < p.2)) = true
    rw [decide_eq_true (h1 b (.head _)), Bool.true_and]
    exact q
theorem books_ok {ms : List Int} (hl : ms.length ≤ 6) (hb : ∀ k ∈ ms, 1 ≤ k ∧ k ≤ 999) (h : ms.Pairwise (· < ·)) : isBooks ms = true := by
  unfold isBooks
  rw [decide_eq_true hl, asc_of h, Bool.and_true, Bool.true_and, List.all_eq_true]
  intro k hk
  unfold isNum
  rw [decide_eq_true (hb k hk).1, decide_eq_true (hb k hk).2]
  rfl
/-- the cards, filed -/
def cardLe (a b : CD) : Bool := PySem.W.dataLe false keyD (.non, a.heading) (.non, b.heading)
def fileOf (cs : List CD) : List CD := cs.mergeSort cardLe
theorem fileOf_perm (cs : List CD) : (fileOf cs).Perm cs := List.mergeSort_perm _ _
theorem but_mut {r p : Addr} {H H1 : Hp} {o : HO} (b : But r H H1) (n : H p = none) : But r H (upd H1 p o) := fun c x h hn => by
  rw [upd_ne (ne_of_none h n)]
  exact b c x h hn
theorem seq_nat {n i : Nat} (h : i < n) : seqIndex? (i : Int) n = some i := by
  unfold seqIndex?
  show (if (decide (0 ≤ (if (i : Int) < 0 then (i : Int) + n else i)) && decide ((if (i : Int) < 0 then (i : Int) + n else i) < (n : Int))) = true then some (if (i : Int) < 0 then (i : Int) + n else i).toNat else none) = some i
  rw [if_neg (by omega : ¬ (i : Int) < 0), decide_eq_true (by omega : (0 : Int) ≤ i), decide_eq_true (by omega : (i : Int) < n)]
  rfl
theorem erase_map {α β : Type} (f : α → β) : ∀ (l : List α) (i : Nat), (l.map f).eraseIdx i = (l.eraseIdx i).map f
  | [], _ => rfl
  | _ :: _, 0 => rfl
  | x :: l, i + 1 => by
    show f x :: (l.map f).eraseIdx i = f x :: (l.eraseIdx i).map f
    rw [erase_map f l i]
theorem erase_perm {α : Type} : ∀ {l : List α} {i : Nat} (h : i < l.length), (l[i] :: l.eraseIdx i).Perm l
  | x :: l, 0, _ => List.Perm.refl _
  | x :: l, i + 1, h => (List.Perm.swap x (l[i]'(Nat.lt_of_succ_lt_succ h)) (l.eraseIdx i)).trans ((erase_perm (l := l) (Nat.lt_of_succ_lt_succ h)).cons x)
def lenAtH (a : Addr) : St → Hp → Nat := fun _ H => match H a with
  | some (.lst xs) => xs.length
  | _ => 0
end
section
local macro_rules | `(tactic| walk_at "sl") => `(tactic| first | assumption | exact SqL.of upd_same | exact SqL.of (by assumption) | ((with_reducible apply sql_upd); (walk_at "sl"); (first | assumption | exact Ne.symm (by assumption))))
local macro_rules | `(tactic| walk_at "st") => `(tactic| first | assumption | exact SqT.of upd_same | exact SqT.of (by assumption))
local macro_rules | `(tactic| walk_at "sc") => `(tactic| first | rfl | assumption | (show (0 : Int) < _; first | assumption | decide | omega) | exact Or.inl ⟨by omega, by omega⟩ | exact Or.inr ⟨by omega, by omega⟩ | exact ⟨by decide, by decide⟩ | exact ⟨by decide, by decide, by decide⟩)
local macro_rules | `(tactic| walk_at "g1") => `(tactic| first
  | refine ⟨(_ : V), rfl, ?_⟩
  | refine ⟨(_ : Bool), rfl, ?_⟩
  | refine ⟨(_ : Int), (_ : Int), rfl, rfl, ?_⟩
  | refine ⟨(_ : Int), rfl, ?_⟩
  | refine ⟨(_ : Str), rfl, ?_⟩
  | refine ⟨(_ : Addr), (_ : List V), rfl, Or.inl (by walk_at "sl"), ?_⟩
  | refine ⟨(_ : Addr), (_ : List V), rfl, Or.inr (by walk_at "st"), ?_⟩
  | refine ⟨(_ : Addr), (_ : List V), (_ : Int), (_ : V), rfl, rfl, (by walk_at "sl"), (by first | rfl | assumption), ?_⟩
  | refine ⟨(_ : Addr), (_ : List V), (_ : Int), (_ : V), rfl, rfl, (by walk_at "st"), (by first | rfl | assumption), ?_⟩
  | refine ⟨(_ : Addr), (_ : List V), (_ : Int), (_ : Nat), rfl, rfl, upd_same, rfl, ?_⟩
  | refine ⟨(_ : Addr), (_ : List V), (_ : Int), (_ : Nat), rfl, rfl, (by assumption), rfl, ?_⟩
  | refine ⟨(_ : Addr), (_ : Addr), (_ : Addr), (_ : List (Str × V)), (_ : V), rfl, (by assumption), (by assumption), (by assumption), (by first | assumption | rfl), ?_⟩
  | refine Or.inl ⟨(_ : Int), rfl, ?_⟩
  | refine And.intro (by walk_at "sc") ?_
  | refine iteT ?_
  | refine iteF ?_)
/-! ### the law's own card -/
theorem kb3_Card (T : Top K mg) : ∃ ds, Vals [.ref T.e_Card_init_2] ds ∧ Binds K T.fd_Card_init ["self", "heading", "books", "see", "also"] ds :=
  T.F_Card_init.binds1 (ps := ["self", "heading", "books", "see", "also"]) 4 2 (by simp) rfl (fun T kV doc pm an cdv ct us its l1 l2 => match us, its, l1, l2 with | [_, _, _, _], [_, _, _], _, _ => ⟨_, rfl, rfl⟩)
theorem kb4_Card (T : Top K mg) : Binds K T.fd_Card_init ["self", "heading", "books", "see", "also"] [] := by
  obtain ⟨ds, h1, h2⟩ := T.F_Card_init.binds1 (ps := ["self", "heading", "books", "see", "also"]) 5 3 (by simp) rfl (fun T kV doc pm an cdv ct us its l1 l2 => match us, its, l1, l2 with | [_, _, _, _, _], [_, _, _], _, _ => ⟨_, rfl, rfl⟩)
  cases h1
  exact h2
def spPCard (K : PySem.W.Frag) (C : Addr) : Sp := fun vs H Q _ => ∃ (r sc : Addr) (ns : List Int), vs = [.ref r] ∧ RowAt K H r sc ns ∧
  ∀ (q : Addr) (H' : Hp) (c : CD), But r H H' → RowAt K H' r sc ns → CardAt K C H' q c → GoodL c → q ≠ r → Q (.ref q) H'
def p5 : List Str := ["ant", "bee", "cat", "dog", "elk"]
def oth5 (z : Str) : List Str := w6.filter fun y => !decide (y = z)
def b4 : List Int := [1, 2, 3, 300]
theorem oth5_len : ∀ z ∈ p5, (oth5 z).length = 5 := by decide +kernel
theorem oth5_mem {z x : Str} (h : x ∈ oth5 z) : x ∈ w7 ∧ x ≠ z := by
  obtain ⟨h1, h2⟩ := List.mem_filter.mp h
  exact ⟨List.mem_append_left g1 h1, fun e => by rw [decide_eq_true e] at h2; cases h2⟩
theorem p5_w7 : ∀ x ∈ p5, x ∈ w7 := by decide +kernel
theorem w6_nodup : w6.Nodup := by decide +kernel
theorem b4_asc : b4.Pairwise (· < ·) := by decide +kernel
theorem b4_in : ∀ k ∈ b4, 1 ≤ k ∧ k ≤ 999 := by decide +kernel
/-- a comprehension that takes from the row for each item: a part of the items -/
theorem sub_snoc {α : Type} {ys xs : List α} {i : Nat} {x : α} (h : ys.Sublist (xs.take i)) (hx : xs[i]? = some x) : (ys ++ [x]).Sublist (xs.take (i + 1)) := by
  rw [List.take_add_one, hx]
  exact h.append (List.Sublist.refl _)
theorem sub_more {α : Type} {ys xs : List α} {i : Nat} (h : ys.Sublist (xs.take i)) : ys.Sublist (xs.take (i + 1)) := by
  rw [List.take_add_one]
  exact h.trans (List.sublist_append_left _ _)
theorem ok_llaw_card (T : Top K mg) : FnOk P w K mg base CX0 6 T.a_llaw_card T.fd_llaw_card ["_law_row"] (spPCard K T.c_Card) := by
  refine T.F_llaw_card.ok sc_llaw_card (fun vs H Q E h => ?_) (fun cdv A outer s H vs Q E hr h => ?_)
  · obtain ⟨r, sc, ns, rfl, _⟩ := h
    rfl
  · obtain ⟨r, sc, ns, rfl, hR, k⟩ := h
    have hu := hu_of hr
    obtain ⟨ds3, hv3, hb3⟩ := kb3_Card T
    refine ⟨_, (pss_cons (ps_set (i := 1) sc_llaw_card.nd rfl (.inl rfl) (pe_lst (pa_cons pe_str (pa_cons pe_str (pa_cons pe_str (pa_cons pe_str (pa_cons pe_str pa_nil)))))))
      (pss_cons (ps_asg (pe_tup (pa_cons (pe_ix ix_list (pv 1) (pe_call (ok_llaw_taken T) (hr.mono (by decide)) (by rfl) T.g_llaw_taken T.F_llaw_taken.kp (b_llaw_taken T) .nil pass0 (pa_cons (pv 0) (pa_cons pe_int pa_nil))) (fun _ _ => rfl)) (pa_cons (pe_call (ok_llaw_taken T) (hr.mono (by decide)) (by rfl) T.g_llaw_taken T.F_llaw_taken.kp (b_llaw_taken T) .nil pass0 (pa_cons (pv 0) (pa_cons pe_int pa_nil))) pa_nil))) (pg_tup rfl (pgs_cons (pg_name (i := 2) sc_llaw_card.nd rfl (.inr rfl)) (pgs_cons (pg_name (i := 3) sc_llaw_card.nd rfl (.inl rfl)) pgs_nil))))
      (pss_cons (ps_setLc (i := 4) (own := [("_law_other", 6)]) (g := gName 6) rfl sc_llaw_card.nd rfl rfl (sw_true rfl rfl rfl (by decide +kernel)) (pi_list (pe_op op_cat (pv 1) (pe_lst (pa_cons pe_str pa_nil)))) (blkOk_by (N := N_llaw_card) (sc := defScope s_llaw_card) (by decide +kernel)) (fun _ _ _ _ _ => (pg_name (i := 6) sc_llaw_card.nd rfl (.inl rfl))) (fun _ _ _ _ _ => (pts_one (pt_cmpR op_ne (pv 6) (pv 2) (nomark _)))) (fun _ _ _ _ _ => (pv 6)))
      (pss_cons (ps_if (pt_cmpR op_eq (pv 3) pe_int (nomark _)) (pss_one (ps_ret (pe_make T.Mk_Card (ok_Card_init T) (hr.mono (by decide)) (by rfl) T.g_Card hb3 hv3 pass0 (pa_cons (pv 2) (pa_cons (pe_tup pa_nil) (pa_cons (pe_ix ix_list (pv 4) (pe_call (ok_llaw_taken T) (hr.mono (by decide)) (by rfl) T.g_llaw_taken T.F_llaw_taken.kp (b_llaw_taken T) .nil pass0 (pa_cons (pv 0) (pa_cons pe_int pa_nil))) (fun _ _ => rfl)) pa_nil)))))) pss_nil)
      (pss_cons (ps_set (i := 5) sc_llaw_card.nd rfl (.inl rfl) (pe_callTy call_tuple_of (by rfl) T.m_tuple (by decide +kernel) (pa_cons (pe_slice sl_list (pe_lc (own := [("_law_other", 6)]) (g := gName 6) rfl sc_llaw_card.nd (pi_list (pv 4)) (blkOk_by (N := N_llaw_card) (sc := defScope s_llaw_card) (by decide +kernel)) (fun _ _ _ _ _ => (pg_name (i := 6) sc_llaw_card.nd rfl (.inl rfl))) (fun _ _ _ _ _ => (pts_one (pt_cmpR op_eq (pe_call (ok_llaw_taken T) (hr.mono (by decide)) (by rfl) T.g_llaw_taken T.F_llaw_taken.kp (b_llaw_taken T) .nil pass0 (pa_cons (pv 0) (pa_cons pe_int pa_nil))) pe_int (nomark _)))) (fun _ _ _ _ _ => (pv 6))) po_none (po_some pe_int)) pa_nil)))
      (pss_one (ps_ret (pe_make T.Mk_Card (ok_Card_init T) (hr.mono (by decide)) (by rfl) T.g_Card (kb4_Card T) .nil pass0 (pa_cons (pv 2) (pa_cons (pe_callTy call_tuple_of (by rfl) T.m_tuple (by decide +kernel) (pa_cons (pe_lc (own := [("_law_one", 7)]) (g := gName 7) rfl sc_llaw_card.nd (pi_tup (pe_tup (pa_cons pe_int (pa_cons pe_int (pa_cons pe_int (pa_cons pe_int pa_nil)))))) (blkOk_by (N := N_llaw_card) (sc := defScope s_llaw_card) (by decide +kernel)) (fun _ _ _ _ _ => (pg_name (i := 7) sc_llaw_card.nd rfl (.inl rfl))) (fun _ _ _ _ _ => (pts_one (pt_cmpR op_eq (pe_call (ok_llaw_taken T) (hr.mono (by decide)) (by rfl) T.g_llaw_taken T.F_llaw_taken.kp (b_llaw_taken T) .nil pass0 (pa_cons (pv 0) (pa_cons pe_int pa_nil))) pe_int (nomark _)))) (fun _ _ _ _ _ => (pv 7))) pa_nil)) (pa_cons pe_str (pa_cons (pv 5) pa_nil)))))))))))), ?_⟩
    refine ⟨by show 5 ≤ sizeLine; decide, fun ln hln => ?_⟩
    have R1 : RowAt K (upd H ln (.lst (p5.map V.str))) r sc ns := hR.same (same_new hln)
    have e1 : (upd H ln (.lst (p5.map V.str))) ln = some (.lst (p5.map V.str)) := upd_same
    have hlr : ln ≠ r := (hR.new hln).1
    have b1 : But r H (upd H ln (.lst (p5.map V.str))) := (same_new hln).but
    show gName 1 (.ref ln) (L2.start N_llaw_card [V.ref r]) (upd H ln (.lst (p5.map V.str))) _
    generalize upd H ln (.lst (p5.map V.str)) = H1 at *
    refine ⟨_, rfl, _, rfl, r, sc, ns, 5, rfl, by decide, by decide, R1, fun n1 H2 hn1 b2 R2 => ?_⟩
    have h15 : n1 < p5.length := by show n1 < 5; omega
    have hz : p5[n1]? = some p5[n1] := List.getElem?_eq_getElem h15
    have hzm : p5[n1] ∈ p5 := List.getElem_mem h15
    have e2 := b2 _ _ e1 hlr
    refine ⟨ln, _, (n1 : Nat), .str p5[n1], rfl, rfl, SqL.of e2, atI_nat (by rw [List.getElem?_map, hz]; rfl), ?_⟩
    generalize p5[n1] = z at *
    refine ⟨_, rfl, r, sc, ns, 3, rfl, by decide, by decide, R2, fun n2 H3 hn2 b3 R3 => ?_⟩
    refine ⟨by show 2 ≤ sizeLine; decide, fun t2 ht2 => ?_⟩
    have t2q : SqT K (upd H3 t2 (.tup [.str z, .int (n2 : Nat)])) t2 [.str z, .int (n2 : Nat)] := SqT.of upd_same
    have s4 : Same H3 (upd H3 t2 (.tup [.str z, .int (n2 : Nat)])) := same_new ht2
    have e4 := s4 _ _ (b3 _ _ e2 hlr)
    have R4 := R3.same s4
    have b4' : But r H (upd H3 t2 (.tup [.str z, .int (n2 : Nat)])) := ((b1.trans b2).trans b3).same s4
    generalize upd H3 t2 (.tup [.str z, .int (n2 : Nat)]) = H4 at *
    refine ⟨t2, _, rfl, t2q, rfl, ?_⟩
    refine ⟨_, _, rfl, _, _, rfl, rfl, ?_⟩
    clear t2q ht2 s4 R1 R2 R3 e1 e2 b1 b2 b3 h15 hz hn1 hln
    refine ⟨_, rfl, by show 1 ≤ sizeLine; decide, fun lg hlg => ?_⟩
    refine ⟨ln, lg, _, _, rfl, rfl, kp e4 hlg, upd_same, Nat.le_of_lt (sizeLine_of (by show 6 ≤ 1000000; decide)), fun lo hlo => ?_⟩
    have s5 : Same H4 (upd (upd H4 lg (.lst [.str "fox"])) lo (.lst (p5.map V.str ++ [.str "fox"]))) := (same_new hlg).trans (same_new hlo)
    have ho : (upd (upd H4 lg (.lst [.str "fox"])) lo (.lst (p5.map V.str ++ [.str "fox"]))) lo = some (.lst (w6.map V.str)) := upd_same
    generalize upd (upd H4 lg (.lst [.str "fox"])) lo (.lst (p5.map V.str ++ [.str "fox"])) = H5 at *
    refine ⟨lo, rfl, ⟨_, SqL.of ho⟩, fun D hD => lc_fn (walk_list (xs := w6.map V.str)) (by show 6 ≤ 1000000; decide) hD (fun j => (w6[j]?.bind fun y => if y = z then none else some (V.str y))) (fun H' s' => s'.seq (SqL.of ho)) (fun i x H10 H11 hi s10 hy Rr R0 r1 r0 => ?_) (fun H6 s6 hd => ?_)⟩
    · obtain ⟨rfl, hx⟩ := hy
      rw [List.getElem?_map] at hx
      obtain ⟨y, hy, rfl⟩ := Option.map_eq_some_iff.mp hx
      rw [hy] at r1 r0
      refine ⟨rfl, ?_⟩
      refine ⟨_, rfl, _, rfl, rNe_to (b := !decide (y = z)) rfl (by rw [str_dec]) ?_⟩
      refine ⟨_, rfl, ?_⟩
      by_cases hyz : y = z
      · rw [decide_eq_true hyz]
        exact iteF (r0 _ (if_pos hyz) (Same.refl _))
      · rw [decide_eq_false hyz]
        exact iteT ⟨_, rfl, r1 _ _ (if_neg hyz) (Same.refl _)⟩
    have hd2 : H6 D = some (.lst ((oth5 z).map V.str)) := by
      rw [hd, List.length_map, range_fm w6 (fun y => if y = z then none else some (V.str y)) _ (fun i x h => by rw [h]; rfl), fm_filter]
      rfl
    have R6 := R4.same (s5.trans s6)
    have b6 : But r H H6 := b4'.same (s5.trans s6)
    have hDr : D ≠ r := ((R4.same s5).new hD).1
    clear hd s5 s6 ho R4 b4' e4 hlg hlo hD
    have hz7 := p5_w7 z hzm
    refine ⟨_, rfl, tC_to (rEq_to (b := decide ((n2 : Int) = 0)) rfl (by rw [int_dec]) ?_)⟩
    refine ⟨_, rfl, ?_⟩
    by_cases h0 : (n2 : Int) = 0
    · rw [decide_eq_true h0]
      refine iteT ?_
      refine ⟨_, rfl, Nat.zero_le _, fun t0 ht0 => ?_⟩
      have R7 := R6.same (same_new (o := .tup []) ht0)
      have d7 := (same_new (o := .tup []) ht0) _ _ hd2
      have z7 : SqT K (upd H6 t0 (.tup [])) t0 (([] : List Int).map V.int) := SqT.of upd_same
      have b7 : But r H (upd H6 t0 (.tup [])) := b6.same (same_new ht0)
      have nt0 : t0 ≠ r := (R6.new ht0).1
      generalize upd H6 t0 (.tup []) = H7 at *
      refine ⟨_, rfl, _, rfl, r, sc, ns, 5, rfl, by decide, by decide, R7, fun n5 H8 hn5 b8 R8 => ?_⟩
      have h5 : n5 < (oth5 z).length := by rw [oth5_len z hzm]; omega
      have hy : (oth5 z)[n5]? = some (oth5 z)[n5] := List.getElem?_eq_getElem h5
      obtain ⟨hy7, hyz⟩ := oth5_mem (List.getElem_mem h5)
      refine ⟨D, _, (n5 : Nat), .str (oth5 z)[n5], rfl, rfl, SqL.of (b8 _ _ d7 hDr), atI_nat (by rw [List.getElem?_map, hy]; rfl), ?_⟩
      generalize (oth5 z)[n5] = y at *
      have z8 := b8.seqT nt0 z7
      have b08 := b7.trans b8
      clear d7 z7 R7 b7 b8 hd2 b6 R6 hy h5 ht0
      intro q dx hq hdx hne
      have sN : Same H8 (upd (upd H8 dx (.own q)) q (.ins T.c_Card dx [])) := fun b o e => by
        rw [upd_ne (ne_of_none e hq), upd_ne (ne_of_none e hdx)]
        exact e
      have hg := good_see hz7 hy7 hyz
      refine ⟨q, dx, ⟨z, [], y, []⟩, t0, T.e_Card_init_2, rfl, upd_same, hg.good, sN.seqT z8, T.ek_Card_init_2 _, Nat.zero_le _, fun H9 b9 c9 => ⟨rfl, ?_⟩⟩
      have s9 : Same H8 H9 := fun b o e => b9 b o (sN b o e) (ne_of_none e hq)
      exact k q H9 _ (b08.same s9) (R8.same s9) c9 hg (R8.new hq).1
    · rw [decide_eq_false h0]
      refine iteF ?_
      refine ⟨_, rfl, D, rfl, ⟨_, SqL.of hd2⟩, fun D2 hD2 => lc_it (walk_list (xs := (oth5 z).map V.str)) (fun i H7 => But r H6 H7 ∧ RowAt K H7 r sc ns ∧ D2 ≠ r ∧ ∃ ys : List Str, ys.Sublist ((oth5 z).take i) ∧ H7 D2 = some (.lst (ys.map V.str)))
        ⟨(same_new hD2).but, R6.same (same_new hD2), (R6.new hD2).1, [], List.nil_sublist _, upd_same⟩ (fun i H7 _ hP => hP.1.seq hDr (SqL.of hd2)) (fun i x H7 H8 hi hP hy => ?_) (fun H7 hP => ?_)⟩
      · obtain ⟨b7, R7, nD2, ys, hys, e7⟩ := hP
        obtain ⟨rfl, hx⟩ := hy
        rw [List.getElem?_map] at hx
        obtain ⟨y, hy, rfl⟩ := Option.map_eq_some_iff.mp hx
        have h5 := oth5_len z hzm
        have hyl : ys.length ≤ 5 := by
          have := hys.length_le
          rw [List.length_take] at this
          omega
        refine ⟨rfl, ?_⟩
        refine ⟨_, rfl, r, sc, ns, 4, rfl, by decide, by decide, R7, fun n H9 hn b9 R9 => ?_⟩
        refine tC_to (rEq_to (b := decide ((n : Int) = 0)) rfl (by rw [int_dec]) ?_)
        refine ⟨_, rfl, ?_⟩
        have e9 := b9 _ _ e7 nD2
        by_cases h0 : (n : Int) = 0
        · rw [decide_eq_true h0]
          refine iteT ?_
          exact ⟨_, rfl, _, e9, sizeLine_of (by rw [List.length_map]; omega), but_mut (b7.trans b9) hD2, R9.mut (R6.new hD2), nD2, ys ++ [y], sub_snoc hys hy, by rw [upd_same, List.map_append]; rfl⟩
        · rw [decide_eq_false h0]
          refine iteF ?_
          exact ⟨b7.trans b9, R9, nD2, ys, sub_more hys, e9⟩
      · obtain ⟨b7, R7, nD2, ys, hys, e7⟩ := hP
        have hys5 : ys.Sublist (oth5 z) := hys.trans (List.take_sublist _ _)
        clear hys
        refine ⟨_, rfl, D2, ys.map V.str, rfl, SqL.of e7, fun n4 hn4 => ?_⟩
        have hcut : cutV (ys.map V.str) none (some 4) = (ys.take 4).map V.str := by
          rw [List.map_take]
          exact cut_take (ys.map V.str) 4
        rw [hcut]
        have hs4 : (ys.take 4).Sublist (oth5 z) := (List.take_sublist _ _).trans hys5
        have hl4 : (ys.take 4).length ≤ 4 := by rw [List.length_take]; omega
        generalize ys.take 4 = hs at *
        refine ⟨n4, _, rfl, .inl ⟨SqL.of upd_same, fun th hth => ?_⟩⟩
        have s8 : Same H7 (upd (upd H7 n4 (.lst (hs.map V.str))) th (.tup (hs.map V.str))) := (same_new hn4).trans (same_new hth)
        have t8 : SqT K (upd (upd H7 n4 (.lst (hs.map V.str))) th (.tup (hs.map V.str))) th (hs.map V.str) := SqT.of upd_same
        have nth : th ≠ r := ((R7.same (same_new (o := .lst (hs.map V.str)) hn4)).new hth).1
        have R8 := R7.same s8
        have b8 : But r H (upd (upd H7 n4 (.lst (hs.map V.str))) th (.tup (hs.map V.str))) := (b6.trans b7).same s8
        generalize upd (upd H7 n4 (.lst (hs.map V.str))) th (.tup (hs.map V.str)) = H8 at *
        clear s8 R7 b7 e7 hn4 hth hcut hys5 b6 R6 hd2 hD2 nD2
        refine ⟨_, rfl, by show 4 ≤ sizeLine; decide, fun t4 ht4 => ?_⟩
        have nt4 : t4 ≠ r := (R8.new ht4).1
        have R9 := R8.same (same_new (o := .tup [.int 1, .int 2, .int 3, .int 300]) ht4)
        have b9 : But r H (upd H8 t4 (.tup [.int 1, .int 2, .int 3, .int 300])) := b8.same (same_new ht4)
        have t9 := (same_new (o := .tup [.int 1, .int 2, .int 3, .int 300]) ht4).seqT t8
        have q9 : SqT K (upd H8 t4 (.tup [.int 1, .int 2, .int 3, .int 300])) t4 (b4.map V.int) := SqT.of upd_same
        generalize upd H8 t4 (.tup [.int 1, .int 2, .int 3, .int 300]) = H9 at *
        clear R8 b8 t8 ht4
        refine ⟨t4, rfl, ⟨_, q9⟩, fun D3 hD3 => lc_it (walk_tup (xs := b4.map V.int)) (fun i H10 => But r H9 H10 ∧ RowAt K H10 r sc ns ∧ D3 ≠ r ∧ ∃ bs : List Int, bs.Sublist (b4.take i) ∧ H10 D3 = some (.lst (bs.map V.int)))
          ⟨(same_new hD3).but, R9.same (same_new hD3), (R9.new hD3).1, [], List.nil_sublist _, upd_same⟩ (fun i H10 _ hP => hP.1.seqT nt4 q9) (fun i x H10 H11 hi hP hy => ?_) (fun H10 hP => ?_)⟩
        · obtain ⟨b10, R10, nD3, bs, hbs, e10⟩ := hP
          obtain ⟨rfl, hx⟩ := hy
          rw [List.getElem?_map] at hx
          obtain ⟨b, hb, rfl⟩ := Option.map_eq_some_iff.mp hx
          have hbl : bs.length ≤ 4 := by
            have := hbs.length_le
            rw [List.length_take] at this
            have : b4.length = 4 := rfl
            omega
          refine ⟨rfl, ?_⟩
          refine ⟨_, rfl, r, sc, ns, 3, rfl, by decide, by decide, R10, fun n H12 hn b12 R12 => ?_⟩
          refine tC_to (rEq_to (b := decide ((n : Int) = 0)) rfl (by rw [int_dec]) ?_)
          refine ⟨_, rfl, ?_⟩
          have e12 := b12 _ _ e10 nD3
          by_cases h0 : (n : Int) = 0
          · rw [decide_eq_true h0]
            refine iteT ?_
            exact ⟨_, rfl, _, e12, sizeLine_of (by rw [List.length_map]; omega), but_mut (b10.trans b12) hD3, R12.mut (R9.new hD3), nD3, bs ++ [b], sub_snoc hbs hb, by rw [upd_same, List.map_append]; rfl⟩
          · rw [decide_eq_false h0]
            refine iteF ?_
            exact ⟨b10.trans b12, R12, nD3, bs, sub_more hbs, e12⟩
        · obtain ⟨b10, R10, nD3, bs, hbs, e10⟩ := hP
          have hbs4 : bs.Sublist b4 := hbs.trans (List.take_sublist _ _)
          have hbl : bs.length ≤ 6 := by
            have := hbs4.length_le
            have : b4.length = 4 := rfl
            omega
          refine ⟨D3, _, rfl, .inl ⟨SqL.of e10, fun tb htb => ?_⟩⟩
          have t11 := (b10.same (same_new (o := .tup (bs.map V.int)) htb)).seqT nth t9
          have q11 : SqT K (upd H10 tb (.tup (bs.map V.int))) tb (bs.map V.int) := SqT.of upd_same
          have R11 := R10.same (same_new (o := .tup (bs.map V.int)) htb)
          have b11 : But r H (upd H10 tb (.tup (bs.map V.int))) := (b9.trans b10).same (same_new htb)
          generalize upd H10 tb (.tup (bs.map V.int)) = H11 at *
          clear R10 b10 b9 R9 t9 q9 e10 hD3 hbs htb
          refine ⟨_, rfl, ?_⟩
          intro q dx hq hdx hne
          have sN : Same H11 (upd (upd H11 dx (.own q)) q (.ins T.c_Card dx [])) := fun b o e => by
            rw [upd_ne (ne_of_none e hq), upd_ne (ne_of_none e hdx)]
            exact e
          have hg : GoodL ⟨z, bs, "", hs⟩ := good_entry hz7 (books_ok hbl (fun k hk => b4_in k (hbs4.subset hk)) (b4_asc.sublist hbs4)) (fun x hx => oth5_mem (hs4.subset hx)) ((w6_nodup.sublist List.filter_sublist).sublist hs4) hl4
          refine ⟨q, dx, ⟨z, bs, "", hs⟩, tb, th, rfl, upd_same, hg.good, sN.seqT q11, sN.seqT t11, hl4, fun H12 b12 c12 => ⟨rfl, ?_⟩⟩
          have s12 : Same H11 H12 := fun b o e => b12 b o (sN b o e) (ne_of_none e hq)
          exact k q H12 _ (b11.same s12) (R11.same s12) c12 hg (R11.new hq).1
end
section
local macro_rules | `(tactic| walk_at "sl") => `(tactic| first | assumption | exact SqL.of upd_same | exact SqL.of (by assumption) | ((with_reducible apply sql_upd); (walk_at "sl"); (first | assumption | exact Ne.symm (by assumption))))
local macro_rules | `(tactic| walk_at "st") => `(tactic| first | assumption | exact SqT.of upd_same | exact SqT.of (by assumption))
local macro_rules | `(tactic| walk_at "sc") => `(tactic| first | rfl | assumption | (show (0 : Int) < _; first | assumption | decide | omega) | exact Or.inl ⟨by omega, by omega⟩ | exact Or.inr ⟨by omega, by omega⟩ | exact ⟨by decide, by decide⟩ | exact ⟨by decide, by decide, by decide⟩)
local macro_rules | `(tactic| walk_at "g1") => `(tactic| first
  | refine ⟨(_ : V), rfl, ?_⟩
  | refine ⟨(_ : Bool), rfl, ?_⟩
  | refine ⟨(_ : Int), (_ : Int), rfl, rfl, ?_⟩
  | refine ⟨(_ : Int), rfl, ?_⟩
  | refine ⟨(_ : Str), rfl, ?_⟩
  | refine ⟨(_ : Addr), (_ : List V), rfl, Or.inl (by walk_at "sl"), ?_⟩
  | refine ⟨(_ : Addr), (_ : List V), rfl, Or.inr (by walk_at "st"), ?_⟩
  | refine ⟨(_ : Addr), (_ : List V), (_ : Int), (_ : V), rfl, rfl, (by walk_at "sl"), (by first | rfl | assumption), ?_⟩
  | refine ⟨(_ : Addr), (_ : List V), (_ : Int), (_ : V), rfl, rfl, (by walk_at "st"), (by first | rfl | assumption), ?_⟩
  | refine ⟨(_ : Addr), (_ : List V), (_ : Int), (_ : Nat), rfl, rfl, upd_same, rfl, ?_⟩
  | refine ⟨(_ : Addr), (_ : List V), (_ : Int), (_ : Nat), rfl, rfl, (by assumption), rfl, ?_⟩
  | refine ⟨(_ : Addr), (_ : Addr), (_ : Addr), (_ : List (Str × V)), (_ : V), rfl, (by assumption), (by assumption), (by assumption), (by first | assumption | rfl), ?_⟩
  | refine Or.inl ⟨(_ : Int), rfl, ?_⟩
  | refine And.intro (by walk_at "sc") ?_
  | refine iteT ?_
  | refine iteF ?_)
/-! ### the law's own drawer -/
open LamX
theorem cards_sort {C : Addr} {H : Hp} {ps : List Addr} {cs : List CD} (h : Cards K C H ps cs) : ∃ bs : List (V × Str), bs.map (·.1) = ps.map V.ref ∧ (∀ b ∈ bs, RKi C "_heading" H b.1 b.2) ∧ ∃ ps' : List Addr, (sortBy bs).map (·.1) = ps'.map V.ref ∧ ∀ H', Imm H H' → Cards K C H' ps' (fileOf cs) := by
  obtain ⟨e1, e2, hz⟩ := h.zip
  generalize ps.zip cs = zs at *
  subst e1 e2
  refine ⟨zs.map fun z => (V.ref z.1, z.2.heading), by rw [List.map_map, List.map_map]; rfl, fun b hb => ?_, (zs.mergeSort fun z z' => cardLe z.2 z'.2).map Prod.fst, ?_, fun H' im => ?_⟩
  · obtain ⟨z, hm, rfl⟩ := List.mem_map.mp hb
    obtain ⟨dx, b, a, e, _⟩ := hz z hm
    exact ⟨z.1, dx, _, rfl, e, cf_heading _ _ _ _⟩
  · have q1 : sortBy (zs.map fun z => (V.ref z.1, z.2.heading)) = (zs.mergeSort fun z z' => cardLe z.2 z'.2).map fun z => (V.ref z.1, z.2.heading) := (List.map_mergeSort (r := fun (z z' : Addr × CD) => cardLe z.2 z'.2) (s := PySem.W.dataLe false keyD) (f := fun (z : Addr × CD) => (V.ref z.1, z.2.heading)) (fun a _ b _ => rfl)).symm
    rw [q1, List.map_map, List.map_map]
    rfl
  · have q2 : fileOf (zs.map Prod.snd) = (zs.mergeSort fun z z' => cardLe z.2 z'.2).map Prod.snd := (List.map_mergeSort (r := fun (z z' : Addr × CD) => cardLe z.2 z'.2) (s := cardLe) (f := Prod.snd) (fun a _ b _ => rfl)).symm
    rw [q2]
    exact Cards.of_zip fun z hm => (hz z ((List.mergeSort_perm _ _).mem_iff.mp hm)).imm im
theorem cards_snoc {C : Addr} {H H' : Hp} {ps : List Addr} {cs : List CD} {q : Addr} {c : CD} (I : Cards K C H ps cs) (im : Imm H H') (hv : CardAt K C H' q c) : Cards K C H' (ps ++ [q]) (cs ++ [c]) := by
  have I9 := I.imm im
  refine ⟨by rw [List.length_append, List.length_append, I.1]; rfl, fun m u d h1 h2 => ?_⟩
  by_cases hm : m < ps.length
  · rw [List.getElem?_append_left hm] at h1
    rw [List.getElem?_append_left (by rw [← I.1]; exact hm)] at h2
    exact I9.2 m u d h1 h2
  · have hl := (List.getElem?_eq_some_iff.mp h1).1
    rw [List.length_append, List.length_singleton] at hl
    obtain rfl : m = ps.length := by omega
    rw [List.getElem?_append_right (Nat.le_refl _), Nat.sub_self] at h1
    rw [I.1, List.getElem?_append_right (Nat.le_refl _), Nat.sub_self] at h2
    cases h1
    cases h2
    exact hv
abbrev lamP : Str := "_law_drawer" ++ ".<locals>." ++ "<lambda>"
/-- a drawer of these objects -/
def DrawerP (K : PySem.W.Frag) (D : Addr) (H : Hp) (p : Addr) (ps : List Addr) : Prop := ∃ dx t, H p = some (.ins D dx (drawFlds (.ref t))) ∧ SqT K H t (ps.map V.ref)
theorem DrawerP.imm {D : Addr} {H H' : Hp} {p : Addr} {ps : List Addr} (h : DrawerP K D H p ps) (s : Imm H H') : DrawerP K D H' p ps := by
  obtain ⟨dx, t, h1, h2⟩ := h
  exact ⟨dx, t, s _ _ h1 rfl, s.seqT h2⟩
theorem DrawerP.to {D C : Addr} {H : Hp} {p : Addr} {ps : List Addr} {cs : List CD} (h : DrawerP K D H p ps) (hC : Cards K C H ps cs) : DrawerAt K D C H p cs := by
  obtain ⟨dx, t, h1, h2⟩ := h
  exact ⟨dx, t, ps, h1, h2, hC⟩
def DrawerF (D : Addr) (H : Hp) (p : Addr) (ps : List Addr) : Prop := ∃ dx t, H p = some (.ins D dx (drawFlds (.ref t))) ∧ TupF H t (ps.map V.ref)
theorem DrawerF.p {D : Addr} {H : Hp} {p : Addr} {ps : List Addr} (h : DrawerF D H p ps) : DrawerP K D H p ps := by
  obtain ⟨dx, t, h1, h2⟩ := h
  exact ⟨dx, t, h1, h2.seq⟩
theorem DrawerF.imm {D : Addr} {H H' : Hp} {p : Addr} {ps : List Addr} (h : DrawerF D H p ps) (s : Imm H H') : DrawerF D H' p ps := by
  obtain ⟨dx, t, h1, h2⟩ := h
  exact ⟨dx, t, s _ _ h1 rfl, h2.imm s⟩
theorem DrawerF.to {D C : Addr} {H : Hp} {p : Addr} {ps : List Addr} {cs : List CD} (h : DrawerF D H p ps) (hC : Cards K C H ps cs) : DrawerAt K D C H p cs := DrawerP.to (K := K) h.p hC
def spPDrawer (K : PySem.W.Frag) (D C tP : Addr) : Sp := fun vs H Q _ => ∃ (r sc : Addr) (ns : List Int) (m : Nat) (TS : List (Addr × Str)), vs = [.ref r, .int (m : Nat)] ∧ m ≤ 16 ∧ RowAt K H r sc ns ∧ (tP, lamP) ∈ TS ∧ (∀ p ∈ TS, p.1 = tP → p.2 = lamP) ∧ Tabs TS H ∧
  ∀ (q : Addr) (H' : Hp) (ps : List Addr) (cs : List CD), cs.length ≤ m → ButN r H H' → Tabs TS H' → RowAt K H' r sc ns → DrawerF D H' q ps → Cards K C H' ps cs → (∀ c ∈ cs, GoodL c) → q ≠ r → Q (.ref q) H'
theorem rowAt_ext {H H' : Hp} {r sc : Addr} {ns : List Int} (R : RowAt K H r sc ns) (e : ExtN H H') : RowAt K H' r sc ns := by
  obtain ⟨n1, n2, n3, h1, h2, h3⟩ := R
  exact ⟨n1, n2, n3, e _ _ h1 (fun _ z => nomatch z), h2.imp (fun z => ⟨extN_sql e z.1, z.2⟩) id, h3⟩
theorem ok_llaw_drawer (T : Top K mg) {c tP : Addr} (hcode : T.fd_llaw_drawer.code = .ref c) (TB : TabB base mg c tP) : FnOk P w K mg base CX0 7 T.a_llaw_drawer T.fd_llaw_drawer ["_law_row", "_law_most"] (spPDrawer K T.c_Drawer T.c_Card tP) := by
  refine T.F_llaw_drawer.okC sc_llaw_drawer (fun vs H Q E h => ?_) (fun A outer s H vs Q E hr h => ?_)
  · obtain ⟨r, sc, ns, m, TS, rfl, _⟩ := h
    rfl
  · obtain ⟨r, sc, ns, m, TS, rfl, hm, hR, hmT, huT, hT, k⟩ := h
    have hu := hu_of hr
    refine ⟨_, (pss_cons (ps_setLc (i := 2) (own := [("_law_k", 3)]) (g := gName 3) (tt := tYes) rfl sc_llaw_drawer.nd rfl rfl (sw_true rfl rfl rfl (by decide +kernel)) (pi_range1 (by rfl) T.m_range (pa_cons (pe_call (ok_llaw_taken T) (hr.mono (by decide)) (by rfl) T.g_llaw_taken T.F_llaw_taken.kp (b_llaw_taken T) .nil pass0 (pa_cons (pv 0) (pa_cons (pe_op op_add (pv 1) pe_int) pa_nil))) pa_nil)) (blkOk_by (N := N_llaw_drawer) (sc := defScope s_llaw_drawer) (by decide +kernel)) (fun _ _ _ _ _ => (pg_name (i := 3) sc_llaw_drawer.nd rfl (.inl rfl))) (fun _ _ _ _ _ => pts_nil) (fun _ _ _ _ _ => (pe_call (ok_llaw_card T) (hr.mono (by decide)) (by rfl) T.g_llaw_card T.F_llaw_card.kp (b_llaw_card T) .nil pass0 (pa_cons (pv 0) pa_nil))))
      (pss_cons (ps_mid (ps_if (pt_cmpR op_eq (pe_call (ok_llaw_taken T) (hr.mono (by decide)) (by rfl) T.g_llaw_taken T.F_llaw_taken.kp (b_llaw_taken T) .nil pass0 (pa_cons (pv 0) (pa_cons pe_int pa_nil))) pe_int (nomark _)) (pss_one (ps_set (i := 2) sc_llaw_drawer.nd rfl (.inl rfl) (pe_sortPropT hmT huT (by rfl) T.m_sorted (pv 2) TB hcode hr T.cl_Card T.P_Card_heading T.F_Card_heading (b_Card_heading T) T.n_Card__heading))) pss_nil))
      (pss_one (ps_ret (pe_make T.Mk_Drawer (ok_Drawer_init T) (hr.mono (by decide)) (by rfl) T.g_Drawer (b_Drawer_init T) .nil pass0 (pa_cons (pe_callTy call_tuple_ofF (by rfl) T.m_tuple (by decide +kernel) (pa_cons (pv 2) pa_nil)) pa_nil)))))), ?_⟩
    refine ⟨_, rfl, _, rfl, _, _, rfl, rfl, ?_⟩
    refine ⟨r, sc, ns, (m : Int) + 1, rfl, by omega, by omega, hR, fun n H1 hn b1 R1 => ?_⟩
    refine ⟨_, rfl, by omega, by omega, fun D hD => ?_⟩
    have hDr := R1.new hD
    refine lc_it (walk_range (n := n)) (fun i H2 => But r H1 H2 ∧ RowAt K H2 r sc ns ∧ ∃ (ps : List Addr) (cs : List CD), cs.length = i ∧ (∀ c ∈ cs, GoodL c) ∧ H2 D = some (.lst (ps.map V.ref)) ∧ Cards K T.c_Card H2 ps cs)
      ⟨(same_new hD).but, R1.same (same_new hD), [], [], rfl, (fun _ h => nomatch h), upd_same, ⟨rfl, fun i q c h _ => nomatch h⟩⟩ (fun _ _ _ _ => trivial) (fun i x H2 H3 hi hP hy => ?_) (fun H2 hP => ?_)
    · obtain ⟨b2, R2, ps, cs, hcl, hG, e2, C2⟩ := hP
      obtain ⟨rfl, rfl⟩ := hy
      refine ⟨rfl, tYes_of ?_⟩
      refine ⟨_, rfl, r, sc, ns, rfl, R2, fun q H4 c b4 R4 c4 hg hqr => ?_⟩
      have e4 := b4 _ _ e2 hDr.1
      obtain ⟨o, ho1, ho2⟩ := R2.at
      have im4 : Imm _ (upd H4 D (.lst (ps.map V.ref ++ [.ref q]))) := (b4.imm ho1 ho2).mut e4 rfl
      have hpl := C2.1
      refine ⟨_, e4, sizeLine_of (by rw [List.length_map]; omega), but_mut (b2.trans b4) hD, R4.mut hDr, ps ++ [q], cs ++ [c], by rw [List.length_append, hcl]; rfl, fun c' hc' => ?_, by rw [upd_same, List.map_append]; rfl, cards_snoc C2 im4 (c4.imm (Imm.refl.mut e4 rfl))⟩
      rcases List.mem_append.mp hc' with h | h
      · exact hG c' h
      · rw [List.mem_singleton.mp h]
        exact hg
    · obtain ⟨b2, R2, ps, cs, hcl, hG, e2, C2⟩ := hP
      have b02 : But r H H2 := b1.trans b2
      clear b1 R1 hD b2
      refine ⟨fun σ H3 => ∃ (fl : Addr) (ps : List Addr) (cs : List CD) (y3 : Option V), σ = [some (.ref r), some (.int (m : Nat)), some (.ref fl), y3] ∧ cs.length ≤ m ∧ ButN r H H3 ∧ Tabs TS H3 ∧ RowAt K H3 r sc ns ∧ H3 fl = some (.lst (ps.map V.ref)) ∧ Cards K T.c_Card H3 ps cs ∧ ∀ c ∈ cs, GoodL c, ?_, fun σ H3 hP => ?_⟩
      · refine ⟨_, rfl, r, sc, ns, 2, rfl, by decide, by decide, R2, fun n4 H3 hn4 b3 R3 => ?_⟩
        refine tC_to (rEq_to (b := decide ((n4 : Int) = 0)) rfl (by rw [int_dec]) ?_)
        refine ⟨_, rfl, ?_⟩
        have e3 := b3 _ _ e2 hDr.1
        have b03 : But r H H3 := b02.trans b3
        obtain ⟨o, ho1, ho2⟩ := R2.at
        have C3 := C2.imm (b3.imm ho1 ho2)
        have T3 : Tabs TS H3 := tabs_but hT b03 hR
        by_cases h4 : (n4 : Int) = 0
        · rw [decide_eq_true h4]
          refine iteT ?_
          obtain ⟨bs, eb, hb, ps', es, hs⟩ := cards_sort C3
          refine ⟨_, rfl, T3, D, bs, rfl, by rw [eb]; exact SqL.of e3, hb, fun p H4 e4 T4 hp => ?_⟩
          have s5 : Same H4 (upd H4 p (.lst ((sortBy bs).map (·.1)))) := same_new hp
          refine ⟨p, ps', fileOf cs, _, rfl, by rw [(fileOf_perm cs).length_eq]; omega, ButN.ext b03 fun b o h n => s5 _ _ (e4 b o h n), T4.ext s5, (rowAt_ext R3 e4).same s5, by rw [upd_same, es], hs _ ((extN_imm e4).trans s5.imm), fun c hc => hG c ((fileOf_perm cs).mem_iff.mp hc)⟩
        · rw [decide_eq_false h4]
          refine iteF ?_
          exact ⟨D, ps, cs, _, rfl, by omega, ButN.of b03, T3, R3, e3, C3, hG⟩
      · obtain ⟨fl, ps, cs, y3, rfl, hcm, b3, T3, R3, e3, C3, hG⟩ := hP
        refine ⟨_, rfl, fl, _, rfl, SqL.of e3, fun u o1 hu' ho1 => ?_⟩
        intro x dx hx hdx hne
        have s6 : Same H3 (upd H3 u (.frz o1 (.tup (ps.map V.ref)))) := same_new hu'
        have s7 : Same (upd H3 u (.frz o1 (.tup (ps.map V.ref)))) (upd (upd (upd H3 u (.frz o1 (.tup (ps.map V.ref)))) dx (.own x)) x (.ins T.c_Drawer dx [])) := fun b o e => by
          rw [upd_ne (ne_of_none e hx), upd_ne (ne_of_none e hdx)]
          exact e
        refine ⟨x, dx, u, _, rfl, upd_same, s7.seqT (TupF.seq ⟨o1, upd_same, ho1⟩), by rw [List.length_map, C3.1]; omega, fun H7 b7 h7 => ⟨rfl, ?_⟩⟩
        have s8 : Same (upd H3 u (.frz o1 (.tup (ps.map V.ref)))) H7 := fun b o e => b7 b o (s7 b o e) (ne_of_none e hx)
        have s9 := s6.trans s8
        exact k x H7 ps cs hcm (fun b o e n m => s9 _ _ (b3 b o e n m)) (T3.ext s9) (R3.same s9) ⟨dx, u, h7, TupF.same ⟨o1, upd_same, ho1⟩ s8⟩ (C3.imm s9.imm) hG ((R3.same s6).new hx).1
end
section
local macro_rules | `(tactic| walk_at "sl") => `(tactic| first | assumption | exact SqL.of upd_same | exact SqL.of (by assumption) | ((with_reducible apply sql_upd); (walk_at "sl"); (first | assumption | exact Ne.symm (by assumption))))
local macro_rules | `(tactic| walk_at "st") => `(tactic| first | assumption | exact SqT.of upd_same | exact SqT.of (by assumption))
local macro_rules | `(tactic| walk_at "sc") => `(tactic| first | rfl | assumption | (show (0 : Int) < _; first | assumption | decide | omega) | exact Or.inl ⟨by omega, by omega⟩ | exact Or.inr ⟨by omega, by omega⟩ | exact ⟨by decide, by decide⟩ | exact ⟨by decide, by decide, by decide⟩)
local macro_rules | `(tactic| walk_at "g1") => `(tactic| first
  | refine ⟨(_ : V), rfl, ?_⟩
  | refine ⟨(_ : Bool), rfl, ?_⟩
  | refine ⟨(_ : Int), (_ : Int), rfl, rfl, ?_⟩
  | refine ⟨(_ : Int), rfl, ?_⟩
  | refine ⟨(_ : Str), rfl, ?_⟩
  | refine ⟨(_ : Addr), (_ : List V), rfl, Or.inl (by walk_at "sl"), ?_⟩
  | refine ⟨(_ : Addr), (_ : List V), rfl, Or.inr (by walk_at "st"), ?_⟩
  | refine ⟨(_ : Addr), (_ : List V), (_ : Int), (_ : V), rfl, rfl, (by walk_at "sl"), (by first | rfl | assumption), ?_⟩
  | refine ⟨(_ : Addr), (_ : List V), (_ : Int), (_ : V), rfl, rfl, (by walk_at "st"), (by first | rfl | assumption), ?_⟩
  | refine ⟨(_ : Addr), (_ : List V), (_ : Int), (_ : Nat), rfl, rfl, upd_same, rfl, ?_⟩
  | refine ⟨(_ : Addr), (_ : List V), (_ : Int), (_ : Nat), rfl, rfl, (by assumption), rfl, ?_⟩
  | refine ⟨(_ : Addr), (_ : Addr), (_ : Addr), (_ : List (Str × V)), (_ : V), rfl, (by assumption), (by assumption), (by assumption), (by first | assumption | rfl), ?_⟩
  | refine Or.inl ⟨(_ : Int), rfl, ?_⟩
  | refine And.intro (by walk_at "sc") ?_
  | refine iteT ?_
  | refine iteF ?_)
/-! ### all headings that stand somewhere -/
theorem take_flat_len {α β : Type} (f : α → List β) (l : List α) (i : Nat) : ((l.take i).flatMap f).length ≤ (l.flatMap f).length := by
  have e : l.flatMap f = (l.take i).flatMap f ++ (l.drop i).flatMap f := by
    rw [← List.flatMap_append, List.take_append_drop]
  rw [e, List.length_append]
  exact Nat.le_add_right _ _
def knownOf (c : CD) : List Str := (c.heading :: (if c.see = "" then [] else [c.see])) ++ c.also
def known (cs : List CD) : List Str := cs.flatMap knownOf
end
section
local macro_rules | `(tactic| walk_at "sl") => `(tactic| first | assumption | exact SqL.of upd_same | exact SqL.of (by assumption) | ((with_reducible apply sql_upd); (walk_at "sl"); (first | assumption | exact Ne.symm (by assumption))))
local macro_rules | `(tactic| walk_at "st") => `(tactic| first | assumption | exact SqT.of upd_same | exact SqT.of (by assumption))
local macro_rules | `(tactic| walk_at "sc") => `(tactic| first | rfl | assumption | (show (0 : Int) < _; first | assumption | decide | omega) | exact Or.inl ⟨by omega, by omega⟩ | exact Or.inr ⟨by omega, by omega⟩ | exact ⟨by decide, by decide⟩ | exact ⟨by decide, by decide, by decide⟩)
local macro_rules | `(tactic| walk_at "g1") => `(tactic| first
  | refine ⟨(_ : V), rfl, ?_⟩
  | refine ⟨(_ : Bool), rfl, ?_⟩
  | refine ⟨(_ : Int), (_ : Int), rfl, rfl, ?_⟩
  | refine ⟨(_ : Int), rfl, ?_⟩
  | refine ⟨(_ : Str), rfl, ?_⟩
  | refine ⟨(_ : Addr), (_ : List V), rfl, Or.inl (by walk_at "sl"), ?_⟩
  | refine ⟨(_ : Addr), (_ : List V), rfl, Or.inr (by walk_at "st"), ?_⟩
  | refine ⟨(_ : Addr), (_ : List V), (_ : Int), (_ : V), rfl, rfl, (by walk_at "sl"), (by first | rfl | assumption), ?_⟩
  | refine ⟨(_ : Addr), (_ : List V), (_ : Int), (_ : V), rfl, rfl, (by walk_at "st"), (by first | rfl | assumption), ?_⟩
  | refine ⟨(_ : Addr), (_ : List V), (_ : Int), (_ : Nat), rfl, rfl, upd_same, rfl, ?_⟩
  | refine ⟨(_ : Addr), (_ : List V), (_ : Int), (_ : Nat), rfl, rfl, (by assumption), rfl, ?_⟩
  | refine ⟨(_ : Addr), (_ : Addr), (_ : Addr), (_ : List (Str × V)), (_ : V), rfl, (by assumption), (by assumption), (by assumption), (by first | assumption | rfl), ?_⟩
  | refine Or.inl ⟨(_ : Int), rfl, ?_⟩
  | refine And.intro (by walk_at "sc") ?_
  | refine iteT ?_
  | refine iteF ?_)
/-! ### what is found has the heading that was sought -/
theorem along_sound (g : Bool) (h : Str) : ∀ (ws : List Str) (i j : Nat), (along g h i ws).1 = some j → i ≤ j ∧ ws[j - i]? = some h
  | [], i, j, e => by
    unfold along at e
    cases e
  | x :: r, i, j, e => by
    unfold along at e
    by_cases hx : x = h
    · rw [if_pos hx] at e
      obtain rfl : i = j := Option.some.inj e
      rw [Nat.sub_self, hx]
      exact ⟨Nat.le_refl _, rfl⟩
    · rw [if_neg hx] at e
      split at e
      · cases e
      · obtain ⟨h1, h2⟩ := along_sound g h r (i + 1) j e
        refine ⟨by omega, ?_⟩
        rw [show j - i = (j - (i + 1)) + 1 by omega]
        exact h2
theorem halves_sound (ws : List Str) (h : Str) : ∀ (n : Nat) (lo hi : Int) (ps : List Int) (j : Nat), 0 ≤ lo → hi < ws.length → (halves ws h n lo hi ps).1 = some j → ws[j]? = some h
  | 0, _, _, _, _, _, _, e => by
    unfold halves at e
    cases e
  | n + 1, lo, hi, ps, j, h0, h1, e => by
    unfold halves at e
    by_cases hl : lo ≤ hi
    · rw [if_pos hl] at e
      have hm : ((lo + hi) / 2).toNat < ws.length := by omega
      rw [List.getElem?_eq_getElem hm] at e
      split at e
      · rename_i q
        obtain rfl := Option.some.inj e
        rw [List.getElem?_eq_getElem hm]
        exact congrArg some q
      · split at e
        · exact halves_sound ws h n lo _ _ j h0 (by omega) e
        · exact halves_sound ws h n _ hi _ j (by omega) h1 e
    · rw [if_neg hl] at e
      cases e
theorem seek_sound {ws : List Str} {r h : Str} {j : Nat} (e : (seekOf ws r h).1 = some j) : ws[j]? = some h := by
  unfold seekOf at e
  split at e
  · exact halves_sound ws h _ _ _ _ j (Int.le_refl 0) (by omega) e
  · exact (along_sound _ h ws 0 j e).2
/-! ### data that look-ups tell -/
def onD : Option Nat → PyData
  | none => .none
  | some i => .int i
def seenD (r : Option Nat × List Int) : PyData := .tuple [onD r.1, .tuple (r.2.map PyData.int)]
theorem dp_on {H : Hp} (o : Option Nat) : Dp K H (onV o) (onD o) := by
  cases o with
  | none => exact .non
  | some i => exact .int i
theorem dp_seen {H : Hp} {t : Addr} {r : Option Nat × List Int} (h : Seen K H t r) : Dp K H (.ref t) (seenD r) := by
  obtain ⟨p, h1, h2⟩ := h
  exact .tup h1 (.cons (dp_on r.1) (.cons (dp_tInts h2) .nil))
theorem sh_seen (r : Option Nat × List Int) : SeqAt.shaped (seenD r) = true := by
  have h1 : (onD r.1).canLay0 = true := by cases r.1 <;> rfl
  have h2 : (onD r.1).depth = 0 := by cases r.1 <;> rfl
  show ((onD r.1).canLay0 && (PyData.canLayAll0 (r.2.map PyData.int) && true) && decide (max (onD r.1).depth (max (PyData.depthAll (r.2.map PyData.int) + 1) 0) + 1 ≤ 64)) = true
  rw [h1, h2, can_ints, dep_ints]
  rfl
theorem inV_on {i : Nat} : ∀ os : List (Option Nat), inV (.int i) (os.map onV) = decide (some i ∈ os)
  | [] => rfl
  | o :: r => by
    show (eqV (onV o) (.int i) || inV (.int i) (r.map onV)) = _
    rw [inV_on r]
    have q : eqV (onV o) (.int i) = decide (some i = o) := by
      cases o with
      | none => rfl
      | some j =>
        show (((j : Nat) : Int) == (i : Int)) = _
        by_cases e : i = j
        · subst e
          simp
        · rw [decide_eq_false (fun z => e (Option.some.inj z))]
          exact beq_eq_false_iff_ne.mpr fun z => e (by omega)
    rw [q]
    by_cases e : some i = o
    · subst e
      rw [decide_eq_true rfl, Bool.true_or, decide_eq_true (List.mem_cons_self ..)]
    · rw [decide_eq_false e, Bool.false_or]
      by_cases e3 : some i ∈ r
      · rw [decide_eq_true e3, decide_eq_true (List.mem_cons_of_mem _ e3)]
      · rw [decide_eq_false e3, decide_eq_false fun z => (List.mem_cons.mp z).elim e e3]
theorem flat_on : ∀ os : List (Option Nat), (os.map onV).all flatV = true
  | [] => rfl
  | o :: r => by
    show (flatV (onV o) && (r.map onV).all flatV) = true
    rw [flat_on r, Bool.and_true]
    cases o <;> rfl
end
section
local macro_rules | `(tactic| walk_at "sl") => `(tactic| first | assumption | exact SqL.of upd_same | exact SqL.of (by assumption) | ((with_reducible apply sql_upd); (walk_at "sl"); (first | assumption | exact Ne.symm (by assumption))))
local macro_rules | `(tactic| walk_at "st") => `(tactic| first | assumption | exact SqT.of upd_same | exact SqT.of (by assumption))
local macro_rules | `(tactic| walk_at "sc") => `(tactic| first | rfl | assumption | (show (0 : Int) < _; first | assumption | decide | omega) | exact Or.inl ⟨by omega, by omega⟩ | exact Or.inr ⟨by omega, by omega⟩ | exact ⟨by decide, by decide⟩ | exact ⟨by decide, by decide, by decide⟩)
local macro_rules | `(tactic| walk_at "g1") => `(tactic| first
  | refine ⟨(_ : V), rfl, ?_⟩
  | refine ⟨(_ : Bool), rfl, ?_⟩
  | refine ⟨(_ : Int), (_ : Int), rfl, rfl, ?_⟩
  | refine ⟨(_ : Int), rfl, ?_⟩
  | refine ⟨(_ : Str), rfl, ?_⟩
  | refine ⟨(_ : Addr), (_ : List V), rfl, Or.inl (by walk_at "sl"), ?_⟩
  | refine ⟨(_ : Addr), (_ : List V), rfl, Or.inr (by walk_at "st"), ?_⟩
  | refine ⟨(_ : Addr), (_ : List V), (_ : Int), (_ : V), rfl, rfl, (by walk_at "sl"), (by first | rfl | assumption), ?_⟩
  | refine ⟨(_ : Addr), (_ : List V), (_ : Int), (_ : V), rfl, rfl, (by walk_at "st"), (by first | rfl | assumption), ?_⟩
  | refine ⟨(_ : Addr), (_ : List V), (_ : Int), (_ : Nat), rfl, rfl, upd_same, rfl, ?_⟩
  | refine ⟨(_ : Addr), (_ : List V), (_ : Int), (_ : Nat), rfl, rfl, (by assumption), rfl, ?_⟩
  | refine ⟨(_ : Addr), (_ : Addr), (_ : Addr), (_ : List (Str × V)), (_ : V), rfl, (by assumption), (by assumption), (by assumption), (by first | assumption | rfl), ?_⟩
  | refine Or.inl ⟨(_ : Int), rfl, ?_⟩
  | refine And.intro (by walk_at "sc") ?_
  | refine iteT ?_
  | refine iteF ?_)
open LamX
theorem known7 {cs : List CD} (h : ∀ c ∈ cs, GoodL c) : ∀ k ∈ known cs, k ∈ w7 := fun k hk => by
  obtain ⟨c, hc, hk⟩ := List.mem_flatMap.mp hk
  have g := h c hc
  unfold knownOf at hk
  rcases List.mem_append.mp hk with hk | hk
  · rcases List.mem_cons.mp hk with rfl | hk
    · exact g.h
    · split at hk
      · cases hk
      · rename_i hs
        rw [List.mem_singleton.mp hk]
        exact g.s.resolve_left hs
  · exact g.a k hk
theorem known_len {cs : List CD} (h : ∀ c ∈ cs, GoodL c) (n : cs.length ≤ 16) : (known cs).length ≤ 1000 := by
  have q : ∀ cs : List CD, (∀ c ∈ cs, GoodL c) → (known cs).length ≤ 6 * cs.length := by
    intro cs
    induction cs with
    | nil => intro _; exact Nat.le_refl _
    | cons c r ih =>
      intro h
      have h1 := ih fun d hd => h d (.tail _ hd)
      have h2 := (h c (.head _)).good.la
      have e : known (c :: r) = knownOf c ++ known r := rfl
      rw [e, List.length_append, List.length_cons]
      have h3 : (knownOf c).length ≤ 6 := by
        unfold knownOf
        rw [List.length_append, List.length_cons]
        split <;> simp <;> omega
      omega
  have := q cs h
  omega
theorem nodup_leS : ∀ {ks ws : List Str}, ks.Nodup → (∀ k ∈ ks, k ∈ ws) → ks.length ≤ ws.length
  | [], _, _, _ => Nat.zero_le _
  | k :: ks, ws, hn, hs => by
    have hk := hs k (.head _)
    obtain ⟨h1, h2⟩ := List.nodup_cons.mp hn
    have := nodup_leS (ws := ws.erase k) h2 fun x hx => (List.mem_erase_of_ne fun e => h1 (by rw [← e]; exact hx)).mpr (hs x (.tail _ hx))
    rw [List.length_erase_of_mem hk] at this
    have := List.length_pos_of_mem hk
    rw [List.length_cons]
    omega
theorem heads_get {cs : List CD} {i : Nat} (hi : i < cs.length) : (heads cs)[i]? = some cs[i].heading := by
  unfold heads
  rw [List.getElem?_map, List.getElem?_eq_getElem hi]
  rfl
end
section
local macro_rules | `(tactic| walk_at "sl") => `(tactic| first | assumption | exact SqL.of upd_same | exact SqL.of (by assumption) | ((with_reducible apply sql_upd); (walk_at "sl"); (first | assumption | exact Ne.symm (by assumption))))
local macro_rules | `(tactic| walk_at "st") => `(tactic| first | assumption | exact SqT.of upd_same | exact SqT.of (by assumption))
local macro_rules | `(tactic| walk_at "sc") => `(tactic| first | rfl | assumption | (show (0 : Int) < _; first | assumption | decide | omega) | exact Or.inl ⟨by omega, by omega⟩ | exact Or.inr ⟨by omega, by omega⟩ | exact ⟨by decide, by decide⟩ | exact ⟨by decide, by decide, by decide⟩)
local macro_rules | `(tactic| walk_at "g1") => `(tactic| first
  | refine ⟨(_ : V), rfl, ?_⟩
  | refine ⟨(_ : Bool), rfl, ?_⟩
  | refine ⟨(_ : Int), (_ : Int), rfl, rfl, ?_⟩
  | refine ⟨(_ : Int), rfl, ?_⟩
  | refine ⟨(_ : Str), rfl, ?_⟩
  | refine ⟨(_ : Addr), (_ : List V), rfl, Or.inl (by walk_at "sl"), ?_⟩
  | refine ⟨(_ : Addr), (_ : List V), rfl, Or.inr (by walk_at "st"), ?_⟩
  | refine ⟨(_ : Addr), (_ : List V), (_ : Int), (_ : V), rfl, rfl, (by walk_at "sl"), (by first | rfl | assumption), ?_⟩
  | refine ⟨(_ : Addr), (_ : List V), (_ : Int), (_ : V), rfl, rfl, (by walk_at "st"), (by first | rfl | assumption), ?_⟩
  | refine ⟨(_ : Addr), (_ : List V), (_ : Int), (_ : Nat), rfl, rfl, upd_same, rfl, ?_⟩
  | refine ⟨(_ : Addr), (_ : List V), (_ : Int), (_ : Nat), rfl, rfl, (by assumption), rfl, ?_⟩
  | refine ⟨(_ : Addr), (_ : Addr), (_ : Addr), (_ : List (Str × V)), (_ : V), rfl, (by assumption), (by assumption), (by assumption), (by first | assumption | rfl), ?_⟩
  | refine Or.inl ⟨(_ : Int), rfl, ?_⟩
  | refine And.intro (by walk_at "sc") ?_
  | refine iteT ?_
  | refine iteF ?_)
/-! ### what else a card tells; the drawer's headings -/
theorem ok_Card_see (T : Top K mg) : FnOk P w K mg base CX0 1 T.a_Card_see T.fd_Card_see ["self"] (spGet K T.c_Card "_see") := by
  refine T.F_Card_see.ok sc_Card_see (fun vs H Q E h => ?_) (fun cdv A outer s H vs Q E hr h => ?_)
  · obtain ⟨p, dx, fs, v, rfl, _⟩ := h
    rfl
  · obtain ⟨p, dx, fs, v, rfl, hp, hv, k⟩ := h
    exact ⟨_, (pss_one (ps_ret (pe_fld (pv 0) rfl))), _, rfl, p, _, dx, fs, v, rfl, hp, T.cl_Card, T.n_Card__see, hv, k⟩
theorem ok_Card_also (T : Top K mg) : FnOk P w K mg base CX0 1 T.a_Card_also T.fd_Card_also ["self"] (spGet K T.c_Card "_also") := by
  refine T.F_Card_also.ok sc_Card_also (fun vs H Q E h => ?_) (fun cdv A outer s H vs Q E hr h => ?_)
  · obtain ⟨p, dx, fs, v, rfl, _⟩ := h
    rfl
  · obtain ⟨p, dx, fs, v, rfl, hp, hv, k⟩ := h
    exact ⟨_, (pss_one (ps_ret (pe_fld (pv 0) rfl))), _, rfl, p, _, dx, fs, v, rfl, hp, T.cl_Card, T.n_Card__also, hv, k⟩
/-- whether a card leads -/
def spLeads (K : PySem.W.Frag) (C : Addr) : Sp := fun vs H Q _ => ∃ (p dx : Addr) (fs : List (Str × V)) (x : Str), vs = [.ref p] ∧ H p = some (.ins C dx fs) ∧ fs.lookup ("_see" : Str) = some (.str x) ∧ Q (.bl (!decide (x = ""))) H
theorem ok_Card_leads (T : Top K mg) : FnOk P w K mg base CX0 1 T.a_Card_leads T.fd_Card_leads ["self"] (spLeads K T.c_Card) := by
  refine T.F_Card_leads.ok sc_Card_leads (fun vs H Q E h => ?_) (fun cdv A outer s H vs Q E hr h => ?_)
  · obtain ⟨p, dx, fs, x, rfl, _⟩ := h
    rfl
  · obtain ⟨p, dx, fs, x, rfl, hp, hv, k⟩ := h
    refine ⟨_, (pss_one (ps_ret (pe_cmpR op_ne (pe_fld (pv 0) rfl) pe_str (nomark _)))), _, rfl, p, _, dx, fs, _, rfl, hp, T.cl_Card, T.n_Card__see, hv, ?_⟩
    exact tC_to (rNe_to (b := !decide (x = "")) rfl (by rw [str_dec]) k)
end
section
local macro_rules | `(tactic| walk_at "sl") => `(tactic| first | assumption | exact SqL.of upd_same | exact SqL.of (by assumption) | ((with_reducible apply sql_upd); (walk_at "sl"); (first | assumption | exact Ne.symm (by assumption))))
local macro_rules | `(tactic| walk_at "st") => `(tactic| first | assumption | exact SqT.of upd_same | exact SqT.of (by assumption))
local macro_rules | `(tactic| walk_at "sc") => `(tactic| first | rfl | assumption | (show (0 : Int) < _; first | assumption | decide | omega) | exact Or.inl ⟨by omega, by omega⟩ | exact Or.inr ⟨by omega, by omega⟩ | exact ⟨by decide, by decide⟩ | exact ⟨by decide, by decide, by decide⟩)
local macro_rules | `(tactic| walk_at "g1") => `(tactic| first
  | refine ⟨(_ : V), rfl, ?_⟩
  | refine ⟨(_ : Bool), rfl, ?_⟩
  | refine ⟨(_ : Int), (_ : Int), rfl, rfl, ?_⟩
  | refine ⟨(_ : Int), rfl, ?_⟩
  | refine ⟨(_ : Str), rfl, ?_⟩
  | refine ⟨(_ : Addr), (_ : List V), rfl, Or.inl (by walk_at "sl"), ?_⟩
  | refine ⟨(_ : Addr), (_ : List V), rfl, Or.inr (by walk_at "st"), ?_⟩
  | refine ⟨(_ : Addr), (_ : List V), (_ : Int), (_ : V), rfl, rfl, (by walk_at "sl"), (by first | rfl | assumption), ?_⟩
  | refine ⟨(_ : Addr), (_ : List V), (_ : Int), (_ : V), rfl, rfl, (by walk_at "st"), (by first | rfl | assumption), ?_⟩
  | refine ⟨(_ : Addr), (_ : List V), (_ : Int), (_ : Nat), rfl, rfl, upd_same, rfl, ?_⟩
  | refine ⟨(_ : Addr), (_ : List V), (_ : Int), (_ : Nat), rfl, rfl, (by assumption), rfl, ?_⟩
  | refine ⟨(_ : Addr), (_ : Addr), (_ : Addr), (_ : List (Str × V)), (_ : V), rfl, (by assumption), (by assumption), (by assumption), (by first | assumption | rfl), ?_⟩
  | refine Or.inl ⟨(_ : Int), rfl, ?_⟩
  | refine And.intro (by walk_at "sc") ?_
  | refine iteT ?_
  | refine iteF ?_)
/-- the headings, ascending, each once -/
def spHeadOf (K : PySem.W.Frag) (D C : Addr) : Sp := fun vs H Q _ => ∃ (p : Addr) (cs : List CD), vs = [.ref p] ∧ DrawerAt K D C H p cs ∧ cs.length ≤ 16 ∧
  ∀ (t : Addr) (H' : Hp) (ys : List Str), Same H H' → H' t = some (.tup (ys.map V.str)) → ys.Nodup → PyProof.Rows.sortedS ys = true → (∀ k, k ∈ ys ↔ k ∈ heads cs) → Q (.ref t) H'
theorem ok_Drawer_headings (T : Top K mg) : FnOk P w K mg base CX0 3 T.a_Drawer_headings T.fd_Drawer_headings ["self"] (spHeadOf K T.c_Drawer T.c_Card) := by
  refine T.F_Drawer_headings.ok sc_Drawer_headings (fun vs H Q E h => ?_) (fun cdv A outer s H vs Q E hr h => ?_)
  · obtain ⟨p, cs, rfl, _⟩ := h
    rfl
  · obtain ⟨p, cs, rfl, hD, hl, k⟩ := h
    have hu := hu_of hr
    refine ⟨_, (pss_one (ps_ret (pe_callTy call_tuple_of (by rfl) T.m_tuple (by decide +kernel) (pa_cons (pe_callB (cr_sortedSS rfl) (by rfl) T.m_sorted (by decide +kernel) (pa_cons (pe_setZ zStr (own := [("card", 1)]) (g := gName 1) (tt := tYes) rfl sc_Drawer_headings.nd (pi_tup (pe_fld (pv 0) rfl)) (blkOk_by (N := N_Drawer_headings) (sc := defScope s_Drawer_headings) (by decide +kernel)) (fun _ _ _ _ _ => (pg_name (i := 1) sc_Drawer_headings.nd rfl (.inl rfl))) (fun _ _ _ _ _ => pts_nil) (fun _ _ _ _ _ => (pe_prop (pv 1) T.cl_Card T.P_Card_heading (ok_Card_heading T) (hr.mono (by decide)) (b_Card_heading T) .nil pass0 rfl))) pa_nil)) pa_nil)))), ?_⟩
    obtain ⟨dx, t, ps, hp, hT, hC⟩ := hD
    refine ⟨_, rfl, p, _, dx, _, _, rfl, hp, T.cl_Drawer, T.n_Drawer__cards, df_cards _, t, rfl, ⟨_, hT⟩, fun D hD => sz_fn zStr (walk_tup (K := K) (a := t) (xs := ps.map V.ref)) (by rw [List.length_map, hC.1]; omega) hD (fun i => cs[i]?.map CD.heading) (fun H' s' => s'.seqT hT) (fun i x H2 H3 hi s2 hy R R0 r1 r0 => ?_) (fun H2 S c s2 hS hc e2 => ?_)⟩
    · obtain ⟨rfl, hx⟩ := hy
      rw [List.getElem?_map] at hx
      obtain ⟨q, hq, rfl⟩ := Option.map_eq_some_iff.mp hx
      obtain ⟨c, hc, ca⟩ := hC.get hq
      obtain ⟨dq, b, a, hq2, _, _⟩ := ca.same s2
      refine ⟨rfl, tYes_of ?_⟩
      refine ⟨_, rfl, q, dq, _, rfl, hq2, q, dq, _, _, rfl, hq2, cf_heading _ _ _ _, ?_⟩
      exact r1 c.heading _ (by rw [hc]; rfl) (Same.refl _)
    · have el : (List.range (ps.map V.ref).length).filterMap (fun i => cs[i]?.map CD.heading) = heads cs := by
        rw [List.length_map, hC.1, range_fm cs (fun c => some c.heading) _ (fun i x h => by rw [h]; rfl), List.filterMap_eq_map']
        rfl
      rw [el] at hS
      refine ⟨D, S, c, rfl, e2, by rw [List.length_map, hC.1] at hc; omega, fun ys l n1 n2 n3 n4 hl0 => ?_⟩
      refine ⟨l, _, rfl, .inl ⟨SqL.of upd_same, fun u hu0 => ?_⟩⟩
      exact k u _ ys ((s2.trans (same_new hl0)).trans (same_new hu0)) upd_same n1 n2 fun z => (n3 z).trans (hS z)
end
section
local macro_rules | `(tactic| walk_at "sl") => `(tactic| first | assumption | exact SqL.of upd_same | exact SqL.of (by assumption) | ((with_reducible apply sql_upd); (walk_at "sl"); (first | assumption | exact Ne.symm (by assumption))))
local macro_rules | `(tactic| walk_at "st") => `(tactic| first | assumption | exact SqT.of upd_same | exact SqT.of (by assumption))
local macro_rules | `(tactic| walk_at "sc") => `(tactic| first | rfl | assumption | (show (0 : Int) < _; first | assumption | decide | omega) | exact Or.inl ⟨by omega, by omega⟩ | exact Or.inr ⟨by omega, by omega⟩ | exact ⟨by decide, by decide⟩ | exact ⟨by decide, by decide, by decide⟩)
local macro_rules | `(tactic| walk_at "g1") => `(tactic| first
  | refine ⟨(_ : V), rfl, ?_⟩
  | refine ⟨(_ : Bool), rfl, ?_⟩
  | refine ⟨(_ : Int), (_ : Int), rfl, rfl, ?_⟩
  | refine ⟨(_ : Int), rfl, ?_⟩
  | refine ⟨(_ : Str), rfl, ?_⟩
  | refine ⟨(_ : Addr), (_ : List V), rfl, Or.inl (by walk_at "sl"), ?_⟩
  | refine ⟨(_ : Addr), (_ : List V), rfl, Or.inr (by walk_at "st"), ?_⟩
  | refine ⟨(_ : Addr), (_ : List V), (_ : Int), (_ : V), rfl, rfl, (by walk_at "sl"), (by first | rfl | assumption), ?_⟩
  | refine ⟨(_ : Addr), (_ : List V), (_ : Int), (_ : V), rfl, rfl, (by walk_at "st"), (by first | rfl | assumption), ?_⟩
  | refine ⟨(_ : Addr), (_ : List V), (_ : Int), (_ : Nat), rfl, rfl, upd_same, rfl, ?_⟩
  | refine ⟨(_ : Addr), (_ : List V), (_ : Int), (_ : Nat), rfl, rfl, (by assumption), rfl, ?_⟩
  | refine ⟨(_ : Addr), (_ : Addr), (_ : Addr), (_ : List (Str × V)), (_ : V), rfl, (by assumption), (by assumption), (by assumption), (by first | assumption | rfl), ?_⟩
  | refine Or.inl ⟨(_ : Int), rfl, ?_⟩
  | refine And.intro (by walk_at "sc") ?_
  | refine iteT ?_
  | refine iteF ?_)
theorem getLast_at {ns : List Int} (h : ns ≠ []) : atI (ns.map V.int) (-1) = some (.int (ns.getLastD 0)) := by
  have e : ns.map V.int = (ns.dropLast.map V.int) ++ [.int (ns.getLast h)] := by
    rw [← List.map_singleton, ← List.map_append, List.dropLast_concat_getLast]
  rw [e, atI_last]
  congr 2
  cases ns with
  | nil => exact absurd rfl h
  | cons x r => exact (List.getLastD_cons ..).symm ▸ List.getLast_eq_getLastD h
theorem onV_ne {o : Option Nat} {i : Nat} : decide (onV o = V.int (i : Int)) = decide (o = some i) := by
  cases o with
  | none => rw [decide_eq_false (fun z => by cases z), decide_eq_false (fun z => by cases z)]
  | some j =>
    by_cases e : j = i
    · rw [decide_eq_true (by rw [e]; rfl), decide_eq_true (by rw [e])]
    · rw [decide_eq_false (fun z => e (by have := V.int.inj z; omega)), decide_eq_false (fun z => e (Option.some.inj z))]
theorem scal_on (o : Option Nat) (i : Int) : scal (onV o) (.int i) = true := by
  cases o <;> rfl
end
section
local macro_rules | `(tactic| walk_at "sl") => `(tactic| first | assumption | exact SqL.of upd_same | exact SqL.of (by assumption) | ((with_reducible apply sql_upd); (walk_at "sl"); (first | assumption | exact Ne.symm (by assumption))))
local macro_rules | `(tactic| walk_at "st") => `(tactic| first | assumption | exact SqT.of upd_same | exact SqT.of (by assumption))
local macro_rules | `(tactic| walk_at "sc") => `(tactic| first | rfl | assumption | (show (0 : Int) < _; first | assumption | decide | omega) | exact Or.inl ⟨by omega, by omega⟩ | exact Or.inr ⟨by omega, by omega⟩ | exact ⟨by decide, by decide⟩ | exact ⟨by decide, by decide, by decide⟩)
local macro_rules | `(tactic| walk_at "g1") => `(tactic| first
  | refine ⟨(_ : V), rfl, ?_⟩
  | refine ⟨(_ : Bool), rfl, ?_⟩
  | refine ⟨(_ : Int), (_ : Int), rfl, rfl, ?_⟩
  | refine ⟨(_ : Int), rfl, ?_⟩
  | refine ⟨(_ : Str), rfl, ?_⟩
  | refine ⟨(_ : Addr), (_ : List V), rfl, Or.inl (by walk_at "sl"), ?_⟩
  | refine ⟨(_ : Addr), (_ : List V), rfl, Or.inr (by walk_at "st"), ?_⟩
  | refine ⟨(_ : Addr), (_ : List V), (_ : Int), (_ : V), rfl, rfl, (by walk_at "sl"), (by first | rfl | assumption), ?_⟩
  | refine ⟨(_ : Addr), (_ : List V), (_ : Int), (_ : V), rfl, rfl, (by walk_at "st"), (by first | rfl | assumption), ?_⟩
  | refine ⟨(_ : Addr), (_ : List V), (_ : Int), (_ : Nat), rfl, rfl, upd_same, rfl, ?_⟩
  | refine ⟨(_ : Addr), (_ : List V), (_ : Int), (_ : Nat), rfl, rfl, (by assumption), rfl, ?_⟩
  | refine ⟨(_ : Addr), (_ : Addr), (_ : Addr), (_ : List (Str × V)), (_ : V), rfl, (by assumption), (by assumption), (by assumption), (by first | assumption | rfl), ?_⟩
  | refine Or.inl ⟨(_ : Int), rfl, ?_⟩
  | refine And.intro (by walk_at "sc") ?_
  | refine iteT ?_
  | refine iteF ?_)
/-! ### walks: what they tell -/
theorem nodup_le {α : Type} [DecidableEq α] : ∀ {ks ws : List α}, ks.Nodup → (∀ k ∈ ks, k ∈ ws) → ks.length ≤ ws.length
  | [], _, _, _ => Nat.zero_le _
  | k :: ks, ws, hn, hs => by
    have hk := hs k (.head _)
    obtain ⟨h1, h2⟩ := List.nodup_cons.mp hn
    have := nodup_le (ws := ws.erase k) h2 fun x hx => (List.mem_erase_of_ne fun e => h1 (by rw [← e]; exact hx)).mpr (hs x (.tail _ hx))
    rw [List.length_erase_of_mem hk] at this
    have := List.length_pos_of_mem hk
    rw [List.length_cons]
    omega
/-- a walk that was made: its end's word, the headings looked up, the places found, how many looks -/
structure TR where
  word : Str
  asked : List Str
  found : List Nat
  total : Nat
def seeAt (cs : List CD) (p : Nat) : Str := (cs[p]?.map CD.see).getD ""
/-- on from a heading, so many steps at most -/
def goT (cs : List CD) (r : Str) : Nat → Str → TR → TR
  | 0, _, t => t
  | n + 1, h, t => if h ∈ t.asked then { t with word := "ring" } else
      match (seekOf (heads cs) r h).1 with
      | none => ⟨"lost", t.asked ++ [h], t.found, t.total + (seekOf (heads cs) r h).2.length⟩
      | some p => if seeAt cs p = "" then ⟨"entry", t.asked ++ [h], t.found ++ [p], t.total + (seekOf (heads cs) r h).2.length⟩
        else goT cs r n (seeAt cs p) ⟨"", t.asked ++ [h], t.found ++ [p], t.total + (seekOf (heads cs) r h).2.length⟩
def tripOf (cs : List CD) (r h : Str) : TR := goT cs r 99 h ⟨"", [], [], 0⟩
def endOf (t : TR) : Option Nat := if t.word = "entry" then t.found.getLast? else none
/-- so far: each place found has the heading that was asked, none was asked twice -/
structure Sound (cs : List CD) (t : TR) : Prop where
  len : t.asked.length = t.found.length
  nd : t.asked.Nodup
  at_ : ∀ (i p : Nat), t.found[i]? = some p → (heads cs)[p]? = t.asked[i]? ∧ p < cs.length
theorem Sound.nil {cs : List CD} {x : Str} {n : Nat} : Sound cs ⟨x, [], [], n⟩ := ⟨rfl, List.nodup_nil, fun i p h => by simp at h⟩
theorem Sound.le {cs : List CD} {t : TR} (s : Sound cs t) : t.found.length ≤ cs.length := by
  have q : t.found.length ≤ (List.range cs.length).length := by
    refine nodup_le ?_ fun p hp => ?_
    · refine List.pairwise_iff_getElem.mpr fun i j hi hj hij e => ?_
      obtain ⟨h1, _⟩ := s.at_ i t.found[i] (List.getElem?_eq_getElem hi)
      obtain ⟨h2, _⟩ := s.at_ j t.found[j] (List.getElem?_eq_getElem hj)
      rw [e, h2] at h1
      have hi' : i < t.asked.length := by rw [s.len]; exact hi
      have hj' : j < t.asked.length := by rw [s.len]; exact hj
      rw [List.getElem?_eq_getElem hi', List.getElem?_eq_getElem hj'] at h1
      exact List.pairwise_iff_getElem.mp s.nd i j hi' hj' hij (Option.some.inj h1).symm
    · obtain ⟨i, hi⟩ := List.mem_iff_getElem?.mp hp
      exact List.mem_range.mpr (s.at_ i p hi).2
  rw [List.length_range] at q
  exact q
theorem Sound.step {cs : List CD} {t : TR} {r h x : Str} {p n : Nat} (s : Sound cs t) (hn : h ∉ t.asked) (hp : (seekOf (heads cs) r h).1 = some p) : Sound cs ⟨x, t.asked ++ [h], t.found ++ [p], n⟩ := by
  have hs := seek_sound hp
  have hl : p < cs.length := by
    have := (List.getElem?_eq_some_iff.mp hs).1
    unfold heads at this
    rw [List.length_map] at this
    exact this
  refine ⟨by rw [List.length_append, List.length_append, s.len]; rfl, List.nodup_append.mpr ⟨s.nd, by simp, fun a ha b hb e => ?_⟩, fun i q hq => ?_⟩
  · rw [List.mem_singleton.mp hb] at e
    exact hn (e ▸ ha)
  · by_cases hi : i < t.found.length
    · rw [List.getElem?_append_left hi] at hq
      obtain ⟨h1, h2⟩ := s.at_ i q hq
      exact ⟨by rw [h1]; exact (List.getElem?_append_left (by rw [s.len]; exact hi)).symm, h2⟩
    · rw [List.getElem?_append_right (by omega)] at hq
      have : i - t.found.length = 0 := by
        cases z : i - t.found.length with
        | zero => rfl
        | succ k => rw [z] at hq; simp at hq
      rw [this] at hq
      obtain rfl : p = q := Option.some.inj hq
      refine ⟨?_, hl⟩
      rw [List.getElem?_append_right (by rw [s.len]; omega), s.len, this, hs]
      rfl
/-! ### the object of a walk -/
def tripFlds (x a f n e : V) : List (Str × V) := putF "end" e (putF "total" n (putF "found" f (putF "asked" a (putF "word" x []))))
theorem tf_eq (x a f n e : V) : tripFlds x a f n e = ([(("word" : Str), x), (("asked" : Str), a), (("found" : Str), f), (("total" : Str), n), (("end" : Str), e)] : List (Str × V)) := by rfl
theorem tf_word (x a f n e : V) : (tripFlds x a f n e).lookup ("word" : Str) = some x := by rw [tf_eq]; rfl
theorem tf_asked (x a f n e : V) : (tripFlds x a f n e).lookup ("asked" : Str) = some a := by rw [tf_eq]; rfl
theorem tf_found (x a f n e : V) : (tripFlds x a f n e).lookup ("found" : Str) = some f := by rw [tf_eq]; rfl
theorem tf_total (x a f n e : V) : (tripFlds x a f n e).lookup ("total" : Str) = some n := by rw [tf_eq]; rfl
theorem tf_end (x a f n e : V) : (tripFlds x a f n e).lookup ("end" : Str) = some e := by rw [tf_eq]; rfl
def nsV (ps : List Nat) : List V := ps.map fun p => V.int (p : Nat)
def TripAt (C : Addr) (H : Hp) (p : Addr) (t : TR) : Prop := ∃ (dx a f : Addr), H p = some (.ins C dx (tripFlds (.str t.word) (.ref a) (.ref f) (.int (t.total : Nat)) (onV (endOf t)))) ∧ H a = some (.lst (t.asked.map V.str)) ∧ H f = some (.lst (nsV t.found))
theorem TripAt.same {C : Addr} {H H' : Hp} {p : Addr} {t : TR} (h : TripAt C H p t) (s : Same H H') : TripAt C H' p t := by
  obtain ⟨dx, a, f, h1, h2, h3⟩ := h
  exact ⟨dx, a, f, s _ _ h1, s _ _ h2, s _ _ h3⟩
theorem last_at {ps : List Nat} {q : Nat} (h : ps.getLast? = some q) : atI (nsV ps) (-1) = some (.int (q : Nat)) := by
  have e : ps ≠ [] := fun z => by rw [z] at h; cases h
  have h2 : (ps.map fun (p : Nat) => (p : Int)).getLastD 0 = (q : Int) := by
    rw [List.getLastD_eq_getLast?, List.getLast?_map, h]
    rfl
  have := getLast_at (ns := ps.map fun (p : Nat) => (p : Int)) (by simpa using e)
  rw [List.map_map, h2] at this
  exact this
def spTripInit (C : Addr) : Sp := fun vs H Q _ => ∃ (p dx a f : Addr) (t : TR), vs = [.ref p, .str t.word, .ref a, .ref f, .int (t.total : Nat)] ∧ H p = some (.ins C dx []) ∧ H a = some (.lst (t.asked.map V.str)) ∧ H f = some (.lst (nsV t.found)) ∧ (t.word = "entry" → t.found ≠ []) ∧
  ∀ H', But p H H' → TripAt C H' p t → Q .non H'
theorem ok_Trip_init (T : Top K mg) : FnOk P w K mg base CX0 1 T.a_Trip_init T.fd_Trip_init ["self", "word", "asked", "found", "total"] (spTripInit T.c_Trip) := by
  refine T.F_Trip_init.ok sc_Trip_init (fun vs H Q E h => ?_) (fun cdv A outer s H vs Q E hr h => ?_)
  · obtain ⟨p, dx, a, f, t, rfl, _⟩ := h
    rfl
  · obtain ⟨p, dx, a, f, t, rfl, hp, ha, hf, hne, k⟩ := h
    have hu := hu_of hr
    refine ⟨_, PSs.nox (pss_cons (ps_fld (pv 0) (pv 1) rfl)
      (pss_cons (ps_fld (pv 0) (pv 2) rfl)
      (pss_cons (ps_fld (pv 0) (pv 3) rfl)
      (pss_cons (ps_fld (pv 0) (pv 4) rfl)
      (pss_one (ps_fld (pv 0) (pe_ifExp (pt_cmpR op_eq (pv 1) pe_str (nomark _)) (pe_ix ix_list (pv 3) (pe_un un_neg pe_int) (fun _ _ => rfl)) pe_non) rfl)))))), ?_⟩
    have ea : a ≠ p := ne_of ha hp (by intro z; cases z)
    have ef : f ≠ p := ne_of hf hp (by intro z; cases z)
    refine ⟨_, rfl, _, rfl, p, T.c_Trip, dx, [], rfl, hp, T.cl_Trip, T.n_Trip_word, (by show 0 < 1000; decide), ?_⟩
    refine ⟨_, rfl, _, rfl, p, T.c_Trip, dx, _, rfl, upd_same, T.cl_Trip, T.n_Trip_asked, (by show 1 < 1000; decide), ?_⟩
    refine ⟨_, rfl, _, rfl, p, T.c_Trip, dx, _, rfl, upd_same, T.cl_Trip, T.n_Trip_found, (by show 2 < 1000; decide), ?_⟩
    refine ⟨_, rfl, _, rfl, p, T.c_Trip, dx, _, rfl, upd_same, T.cl_Trip, T.n_Trip_total, (by show 3 < 1000; decide), ?_⟩
    have e3 : ∀ o1 o2 o3 o4 : HO, upd (upd (upd (upd H p o1) p o2) p o3) p o4 = upd H p o4 := fun o1 o2 o3 o4 => by rw [upd_upd, upd_upd, upd_upd]
    rw [e3]
    refine ⟨_, rfl, tC_to (rEq_to (b := decide (t.word = "entry")) rfl (by rw [str_dec]) ?_)⟩
    refine ⟨_, rfl, ?_⟩
    have keep : ∀ {q : Addr} {u o : HO}, H q = some u → q ≠ p → upd H p o q = some u := fun h n => by rw [upd_ne n]; exact h
    have fin : ∀ v : V, v = onV (endOf t) → Q .non (upd H p (.ins T.c_Trip dx (tripFlds (.str t.word) (.ref a) (.ref f) (.int (t.total : Nat)) v))) := fun v hv => by
      subst hv
      refine k _ (fun q o h n => keep h n) ⟨dx, a, f, upd_same, keep ha ea, keep hf ef⟩
    by_cases he : t.word = "entry"
    · rw [decide_eq_true he]
      refine iteT ?_
      obtain ⟨q, hq⟩ : ∃ q, t.found.getLast? = some q := by
        cases z : t.found.getLast? with
        | none => exact absurd (List.getLast?_eq_none_iff.mp z) (hne he)
        | some q => exact ⟨q, rfl⟩
      refine ⟨_, rfl, 1, rfl, f, _, -1, _, rfl, rfl, SqL.of (keep hf ef), last_at hq, ?_⟩
      refine ⟨_, rfl, p, T.c_Trip, dx, _, rfl, upd_same, T.cl_Trip, T.n_Trip_end, (by show 4 < 1000; decide), ?_⟩
      rw [upd_upd]
      exact fin _ (by unfold endOf; rw [if_pos he, hq]; rfl)
    · rw [decide_eq_false he]
      refine iteF ?_
      refine ⟨_, rfl, p, T.c_Trip, dx, _, rfl, upd_same, T.cl_Trip, T.n_Trip_end, (by show 4 < 1000; decide), ?_⟩
      rw [upd_upd]
      exact fin _ (by unfold endOf; rw [if_neg he]; rfl)
end
section
local macro_rules | `(tactic| walk_at "sl") => `(tactic| first | assumption | exact SqL.of upd_same | exact SqL.of (by assumption) | ((with_reducible apply sql_upd); (walk_at "sl"); (first | assumption | exact Ne.symm (by assumption))))
local macro_rules | `(tactic| walk_at "st") => `(tactic| first | assumption | exact SqT.of upd_same | exact SqT.of (by assumption))
local macro_rules | `(tactic| walk_at "sc") => `(tactic| first | rfl | assumption | (show (0 : Int) < _; first | assumption | decide | omega) | exact Or.inl ⟨by omega, by omega⟩ | exact Or.inr ⟨by omega, by omega⟩ | exact ⟨by decide, by decide⟩ | exact ⟨by decide, by decide, by decide⟩)
local macro_rules | `(tactic| walk_at "g1") => `(tactic| first
  | refine ⟨(_ : V), rfl, ?_⟩
  | refine ⟨(_ : Bool), rfl, ?_⟩
  | refine ⟨(_ : Int), (_ : Int), rfl, rfl, ?_⟩
  | refine ⟨(_ : Int), rfl, ?_⟩
  | refine ⟨(_ : Str), rfl, ?_⟩
  | refine ⟨(_ : Addr), (_ : List V), rfl, Or.inl (by walk_at "sl"), ?_⟩
  | refine ⟨(_ : Addr), (_ : List V), rfl, Or.inr (by walk_at "st"), ?_⟩
  | refine ⟨(_ : Addr), (_ : List V), (_ : Int), (_ : V), rfl, rfl, (by walk_at "sl"), (by first | rfl | assumption), ?_⟩
  | refine ⟨(_ : Addr), (_ : List V), (_ : Int), (_ : V), rfl, rfl, (by walk_at "st"), (by first | rfl | assumption), ?_⟩
  | refine ⟨(_ : Addr), (_ : List V), (_ : Int), (_ : Nat), rfl, rfl, upd_same, rfl, ?_⟩
  | refine ⟨(_ : Addr), (_ : List V), (_ : Int), (_ : Nat), rfl, rfl, (by assumption), rfl, ?_⟩
  | refine ⟨(_ : Addr), (_ : Addr), (_ : Addr), (_ : List (Str × V)), (_ : V), rfl, (by assumption), (by assumption), (by assumption), (by first | assumption | rfl), ?_⟩
  | refine Or.inl ⟨(_ : Int), rfl, ?_⟩
  | refine And.intro (by walk_at "sc") ?_
  | refine iteT ?_
  | refine iteF ?_)
/-! ### travel -/
theorem mem_dec (h : Str) : ∀ ws : List Str, inV (.str h) (ws.map V.str) = decide (h ∈ ws)
  | [] => rfl
  | x :: r => by
    show (eqV (.str x) (.str h) || inV (.str h) (r.map V.str)) = _
    rw [mem_dec h r]
    show ((x == h) || _) = _
    by_cases e : x = h
    · subst e
      simp
    · have e2 : (x == h) = false := beq_eq_false_iff_ne.mpr e
      rw [e2, Bool.false_or]
      by_cases e3 : h ∈ r
      · rw [decide_eq_true e3, decide_eq_true (List.mem_cons_of_mem _ e3)]
      · rw [decide_eq_false e3, decide_eq_false fun z => (List.mem_cons.mp z).elim (fun z => e z.symm) e3]
theorem flat_strs : ∀ ws : List Str, (ws.map V.str).all flatV = true
  | [] => rfl
  | _ :: r => flat_strs r
theorem ns_len (ps : List Nat) : (nsV ps).length = ps.length := List.length_map ..
theorem ns_app (ps : List Nat) (q : Nat) : nsV ps ++ [V.int (q : Nat)] = nsV (ps ++ [q]) := by
  unfold nsV
  rw [List.map_append]
  rfl
theorem see_at {cs : List CD} {p : Nat} {c : CD} (h : cs[p]? = some c) : seeAt cs p = c.see := by
  unfold seeAt
  rw [h]
  rfl
theorem ring_ne : ¬ ("ring" : Str) = "entry" := by decide +kernel
theorem lost_ne : ¬ ("lost" : Str) = "entry" := by decide +kernel
def spTravel (K : PySem.W.Frag) (D C TC : Addr) : Sp := fun vs H Q _ => ∃ (p : Addr) (cs : List CD) (r h : Str), vs = [.ref p, .str r, .str h] ∧ DrawerAt K D C H p cs ∧ cs.length ≤ 16 ∧ ∀ (t : Addr) (H' : Hp), Same H H' → TripAt TC H' t (tripOf cs r h) → Q (.ref t) H'
theorem ok_travel (T : Top K mg) : FnOk P w K mg base CX0 5 T.a_travel T.fd_travel ["drawer", "rule", "heading"] (spTravel K T.c_Drawer T.c_Card T.c_Trip) := by
  refine T.F_travel.ok sc_travel (fun vs H Q E h => ?_) (fun cdv A outer s H vs Q E hr h => ?_)
  · obtain ⟨p, cs, r, h, rfl, _⟩ := h
    rfl
  · obtain ⟨p, cs, r, h, rfl, hD, hl, k⟩ := h
    have hu := hu_of hr
    refine ⟨_, (pss_cons (ps_set (i := 3) sc_travel.nd rfl (.inl rfl) (pe_call (ok_headings_along T) (hr.mono (by decide)) (by rfl) T.g_headings_along T.F_headings_along.kp (b_headings_along T) .nil pass0 (pa_cons (pv 0) pa_nil)))
      (pss_cons (ps_set (i := 4) sc_travel.nd rfl (.inl rfl) (pe_lst pa_nil))
      (pss_cons (ps_set (i := 5) sc_travel.nd rfl (.inl rfl) (pe_lst pa_nil))
      (pss_cons (ps_set (i := 6) sc_travel.nd rfl (.inl rfl) pe_int)
      (pss_cons (ps_set (i := 7) sc_travel.nd rfl (.inl rfl) (pv 2))
      (pss_cons (ps_while PassesOwn.never (pt_cmpR op_notIn_seq (pv 7) (pv 4) rfl)
        (pss_cons (ps_expr (pe_bm PySem.F.plainAttrs_list PySem.F.slot_list_append PySem.F.type_list_append mt_append (pv 4) (pa_cons (pv 7) pa_nil)))
        (pss_cons (ps_asg (pe_call (ok_seek T) (hr.mono (by decide)) (by rfl) T.g_seek T.F_seek.kp (b_seek T) .nil pass0 (pa_cons (pv 3) (pa_cons (pv 1) (pa_cons (pv 7) pa_nil)))) (pg_tup rfl (pgs_cons (pg_name (i := 8) sc_travel.nd rfl (.inl rfl)) (pgs_cons (pg_name (i := 9) sc_travel.nd rfl (.inl rfl)) pgs_nil))))
        (pss_cons (ps_aug (i := 6) sc_travel.nd rfl (.inl rfl) (pe_callB call_len_seq (by rfl) T.m_len (by decide +kernel) (pa_cons (pv 9) pa_nil)) ip_add)
        (pss_cons (ps_if (pt_cmpR op_isN (pv 8) pe_non (nomark _)) (pss_one (ps_ret (pe_make T.Mk_Trip (ok_Trip_init T) (hr.mono (by decide)) (by rfl) T.g_Trip (b_Trip_init T) .nil pass0 (pa_cons pe_str (pa_cons (pv 4) (pa_cons (pv 5) (pa_cons (pv 6) pa_nil))))))) pss_nil)
        (pss_cons (ps_expr (pe_bm PySem.F.plainAttrs_list PySem.F.slot_list_append PySem.F.type_list_append mt_append (pv 5) (pa_cons (pv 8) pa_nil)))
        (pss_cons (ps_if (pt_not (pt_val (pe_prop (pe_item (pv 0) (pv 8) T.M_Drawer_getitem T.I_Drawer_getitem (ok_Drawer_getitem T) (hr.mono (by decide)) (b_Drawer_getitem T) pass0) T.cl_Card T.P_Card_leads (ok_Card_leads T) (hr.mono (by decide)) (b_Card_leads T) .nil pass0 rfl))) (pss_one (ps_ret (pe_make T.Mk_Trip (ok_Trip_init T) (hr.mono (by decide)) (by rfl) T.g_Trip (b_Trip_init T) .nil pass0 (pa_cons pe_str (pa_cons (pv 4) (pa_cons (pv 5) (pa_cons (pv 6) pa_nil))))))) pss_nil)
        (pss_one (ps_set (i := 7) sc_travel.nd rfl (.inl rfl) (pe_prop (pe_item (pv 0) (pv 8) T.M_Drawer_getitem T.I_Drawer_getitem (ok_Drawer_getitem T) (hr.mono (by decide)) (b_Drawer_getitem T) pass0) T.cl_Card T.P_Card_see (ok_Card_see T) (hr.mono (by decide)) (b_Card_see T) .nil pass0 rfl))))))))))
      (pss_one (ps_ret (pe_make T.Mk_Trip (ok_Trip_init T) (hr.mono (by decide)) (by rfl) T.g_Trip (b_Trip_init T) .nil pass0 (pa_cons pe_str (pa_cons (pv 4) (pa_cons (pv 5) (pa_cons (pv 6) pa_nil))))))))))))), ?_⟩
    refine ⟨_, rfl, p, cs, rfl, hD, by omega, fun t H1 s1 ht0 ht => ?_⟩
    refine ⟨Nat.zero_le _, fun la hla => ?_⟩
    refine ⟨Nat.zero_le _, fun lf hlf => ?_⟩
    refine ⟨_, rfl, ?_⟩
    have s3 : Same H1 (upd (upd H1 la (.lst [])) lf (.lst [])) := (same_new hla).trans (same_new hlf)
    have a3 : (upd (upd H1 la (.lst [])) lf (.lst [])) la = some (.lst []) := kp upd_same hlf
    have f3 : (upd (upd H1 la (.lst [])) lf (.lst [])) lf = some (.lst []) := upd_same
    have nla : H la = none := s1.free hla
    have nlf : H lf = none := (s1.trans (same_new (o := .lst []) hla)).free hlf
    have naf : la ≠ lf := ne_of_none (upd_same (H := H1) (a := la) (o := .lst [])) hlf
    have s03 : Same H (upd (upd H1 la (.lst [])) lf (.lst [])) := s1.trans s3
    have t3 := s3 _ _ ht
    have ntl : t ≠ la := ne_of_none ht hla
    have ntf : t ≠ lf := ne_of_none (kp ht hla (o' := .lst [])) hlf
    generalize upd (upd H1 la (.lst [])) lf (.lst []) = H3 at *
    have hln : (heads cs).length = cs.length := by unfold heads; rw [List.length_map]
    have fin : ∀ (x : TR) (H4 : Hp), Same H H4 → H4 la = some (.lst (x.asked.map V.str)) → H4 lf = some (.lst (nsV x.found)) → (x.word = "entry" → x.found ≠ []) → tripOf cs r h = x → ∀ q dx : Addr, H4 q = none → H4 dx = none →
        spTripInit T.c_Trip [.ref q, .str x.word, .ref la, .ref lf, .int (x.total : Nat)] (upd (upd H4 dx (.own q)) q (.ins T.c_Trip dx [])) (fun v H' => v = .non ∧ Q (.ref q) H') E0 := by
      intro x H4 s4 a4 f4 he e q dx hq hdx
      have sN : Same H4 (upd (upd H4 dx (.own q)) q (.ins T.c_Trip dx [])) := fun b o z => by
        rw [upd_ne (ne_of_none z hq), upd_ne (ne_of_none z hdx)]
        exact z
      refine ⟨q, dx, la, lf, x, rfl, upd_same, sN _ _ a4, sN _ _ f4, he, fun H' b' t' => ⟨rfl, ?_⟩⟩
      refine k q H' (fun b o z => b' b o (sN _ _ (s4 _ _ z)) (ne_of_none (s4 _ _ z) hq)) ?_
      rw [e]
      exact t'
    refine while_by (fun σ H4 => ∃ (x : TR) (hh : Str) (n : Nat) (y8 y9 : Option V), σ = [some (.ref p), some (.str r), some (.str h), some (.ref t), some (.ref la), some (.ref lf), some (.int (x.total : Nat)), some (.str hh), y8, y9] ∧ Same H H4 ∧ H4 t = some (.tup ((heads cs).map V.str)) ∧ H4 la = some (.lst (x.asked.map V.str)) ∧ H4 lf = some (.lst (nsV x.found)) ∧ Sound cs x ∧ n + x.found.length = 99 ∧ goT cs r n hh x = tripOf cs r h)
      (fun _ H4 => 100 - lenAtH la [] H4) ⟨⟨"", [], [], 0⟩, h, 99, none, none, rfl, s03, t3, a3, f3, Sound.nil, rfl, rfl⟩ (fun σ H4 hP => ?_) (fun σ H4 Q Q' hq hc => ?_)
    · obtain ⟨x, hh, n, y8, y9, rfl, s4, t4, a4, f4, snd, hn, eq⟩ := hP
      have hfl := snd.le
      have hal := snd.len
      obtain ⟨n, rfl⟩ : ∃ n', n = n' + 1 := ⟨n - 1, by omega⟩
      have mu4 : lenAtH la [] H4 = x.asked.length := by unfold lenAtH; rw [a4]; exact List.length_map ..
      refine ⟨_, rfl, _, rfl, la, _, rfl, .inl (SqL.of a4), rfl, flat_strs _, ?_⟩
      refine ⟨_, rfl, ?_⟩
      show if (!inV (V.str hh) (x.asked.map V.str)) = true then _ else _
      rw [mem_dec]
      by_cases hm : hh ∈ x.asked
      · rw [decide_eq_true hm]
        refine iteF ?_
        have e : tripOf cs r h = { x with word := "ring" } := by
          rw [← eq]
          simp only [goT, if_pos hm]
        refine ⟨_, rfl, _, rfl, _, rfl, fun q dx hq hdx hne => ?_⟩
        exact fin { x with word := "ring" } H4 s4 a4 f4 (fun z => absurd z ring_ne) e q dx hq hdx
      · rw [decide_eq_false hm]
        refine iteT ?_
        refine ⟨_, rfl, .inl ⟨rfl, _, SqL.of a4⟩, ?_⟩
        refine ⟨_, rfl, ?_⟩
        refine ⟨la, _, _, rfl, rfl, a4, sizeLine_of (by rw [List.length_map]; omega), ?_⟩
        have a5 : (upd H4 la (.lst (x.asked.map V.str ++ [.str hh]))) la = some (.lst ((x.asked ++ [hh]).map V.str)) := by rw [upd_same, List.map_append]; rfl
        have f5 : (upd H4 la (.lst (x.asked.map V.str ++ [.str hh]))) lf = some (.lst (nsV x.found)) := kn f4 naf.symm
        have t5 : (upd H4 la (.lst (x.asked.map V.str ++ [.str hh]))) t = some (.tup ((heads cs).map V.str)) := kn t4 ntl
        have s5 : Same H (upd H4 la (.lst (x.asked.map V.str ++ [.str hh]))) := same_mut s4 nla
        generalize upd H4 la (.lst (x.asked.map V.str ++ [.str hh])) = H5 at *
        refine ⟨_, rfl, _, rfl, _, rfl, t, heads cs, r, hh, rfl, SqT.of t5, by omega, fun u H6 s6 hse => ?_⟩
        have a6 := s6 _ _ a5
        have f6 := s6 _ _ f5
        have t6 := s6 _ _ t5
        have s06 := s5.trans s6
        obtain ⟨pp, q1, q2⟩ := hse
        refine ⟨u, _, rfl, q1, rfl, _, _, rfl, _, _, rfl, rfl, ?_⟩
        refine ⟨_, rfl, _, rfl, pp, _, rfl, .inr q2, ?_⟩
        refine ⟨_, _, rfl, rfl, ?_⟩
        refine ⟨_, rfl, rfl, _, rfl, ?_⟩
        rw [List.length_map]
        cases hs : (seekOf (heads cs) r hh).1 with
        | none =>
          refine iteT ?_
          refine ⟨_, rfl, _, rfl, _, rfl, fun q dx hq hdx hne => ?_⟩
          refine fin ⟨"lost", x.asked ++ [hh], x.found, x.total + (seekOf (heads cs) r hh).2.length⟩ H6 s06 a6 f6 (fun z => absurd z lost_ne) ?_ q dx hq hdx
          rw [← eq]
          simp only [goT, if_neg hm, hs]
        | some j =>
          refine iteF ?_
          refine ⟨_, rfl, .inl ⟨rfl, _, SqL.of f6⟩, ?_⟩
          refine ⟨_, rfl, ?_⟩
          refine ⟨lf, _, _, rfl, rfl, f6, sizeLine_of (by rw [ns_len]; omega), ?_⟩
          rw [show nsV x.found ++ [onV (some j)] = nsV (x.found ++ [j]) from ns_app _ _]
          have f7 : (upd H6 lf (.lst (nsV (x.found ++ [j])))) lf = some (.lst (nsV (x.found ++ [j]))) := upd_same
          have a7 : (upd H6 lf (.lst (nsV (x.found ++ [j])))) la = some (.lst ((x.asked ++ [hh]).map V.str)) := kn a6 naf
          have t7 : (upd H6 lf (.lst (nsV (x.found ++ [j])))) t = some (.tup ((heads cs).map V.str)) := kn t6 ntf
          have s07 : Same H (upd H6 lf (.lst (nsV (x.found ++ [j])))) := same_mut s06 nlf
          generalize upd H6 lf (.lst (nsV (x.found ++ [j]))) = H7 at *
          have hD7 := hD.imm s07.imm
          have hhd := seek_sound hs
          have hjc : j < cs.length := by have := (List.getElem?_eq_some_iff.mp hhd).1; omega
          have hcj : cs[j]? = some cs[j] := List.getElem?_eq_getElem hjc
          have hsee : seeAt cs j = cs[j].see := see_at hcj
          generalize cs[j] = c at *
          obtain ⟨dx0, tt0, ps0, hp0, _, _⟩ := id hD7
          refine ⟨_, rfl, _, rfl, p, dx0, _, rfl, hp0, p, cs, j, c, rfl, hD7, by omega, hcj, fun q cq => ?_⟩
          obtain ⟨dq, bq, aq, hq, _, _⟩ := cq
          refine ⟨q, dq, _, rfl, hq, q, dq, _, _, rfl, hq, cf_see _ _ _ _, ?_⟩
          refine ⟨_, rfl, ?_⟩
          have snd' : ∀ (z : Str) (n : Nat), Sound cs ⟨z, x.asked ++ [hh], x.found ++ [j], n⟩ := fun z n => snd.step hm hs
          by_cases h0 : c.see = ""
          · rw [decide_eq_true h0]
            refine iteT ?_
            refine ⟨_, rfl, _, rfl, _, rfl, fun q dx hq hdx hne => ?_⟩
            refine fin ⟨"entry", x.asked ++ [hh], x.found ++ [j], x.total + (seekOf (heads cs) r hh).2.length⟩ H7 s07 a7 f7 (fun _ => by simp) ?_ q dx hq hdx
            rw [← eq]
            simp only [goT, if_neg hm, hs, hsee, if_pos h0]
          · rw [decide_eq_false h0]
            refine iteF ?_
            refine ⟨_, rfl, _, rfl, p, dx0, _, rfl, hp0, p, cs, j, c, rfl, hD7, by omega, hcj, fun q cq => ?_⟩
            obtain ⟨dq, bq, aq, hq, _, _⟩ := cq
            refine ⟨q, dq, _, rfl, hq, q, dq, _, _, rfl, hq, cf_see _ _ _ _, ?_⟩
            refine ⟨⟨⟨"", x.asked ++ [hh], x.found ++ [j], x.total + (seekOf (heads cs) r hh).2.length⟩, c.see, n, _, _, rfl, s07, t7, a7, f7, snd' _ _, ?_, ?_⟩, ?_⟩
            · rw [List.length_append]
              show n + (x.found.length + 1) = 99
              omega
            · rw [← eq]
              simp only [goT, if_neg hm, hs, hsee, if_neg h0]
            · rw [mu4]
              have : lenAtH la [] H7 = x.asked.length + 1 := by
                unfold lenAtH
                rw [a7]
                show ((x.asked ++ [hh]).map V.str).length = _
                rw [List.length_map, List.length_append]
                rfl
              rw [this]
              omega
    · obtain ⟨x, hx, y, hy, a, xs, e1, e2, e3, e4, k', e5, q⟩ := hc
      exact ⟨x, hx, y, hy, a, xs, e1, e2, e3, e4, k', e5, hq _ _ q⟩
end
section
local macro_rules | `(tactic| walk_at "sl") => `(tactic| first | assumption | exact SqL.of upd_same | exact SqL.of (by assumption) | ((with_reducible apply sql_upd); (walk_at "sl"); (first | assumption | exact Ne.symm (by assumption))))
local macro_rules | `(tactic| walk_at "st") => `(tactic| first | assumption | exact SqT.of upd_same | exact SqT.of (by assumption))
local macro_rules | `(tactic| walk_at "sc") => `(tactic| first | rfl | assumption | (show (0 : Int) < _; first | assumption | decide | omega) | exact Or.inl ⟨by omega, by omega⟩ | exact Or.inr ⟨by omega, by omega⟩ | exact ⟨by decide, by decide⟩ | exact ⟨by decide, by decide, by decide⟩)
local macro_rules | `(tactic| walk_at "g1") => `(tactic| first
  | refine ⟨(_ : V), rfl, ?_⟩
  | refine ⟨(_ : Bool), rfl, ?_⟩
  | refine ⟨(_ : Int), (_ : Int), rfl, rfl, ?_⟩
  | refine ⟨(_ : Int), rfl, ?_⟩
  | refine ⟨(_ : Str), rfl, ?_⟩
  | refine ⟨(_ : Addr), (_ : List V), rfl, Or.inl (by walk_at "sl"), ?_⟩
  | refine ⟨(_ : Addr), (_ : List V), rfl, Or.inr (by walk_at "st"), ?_⟩
  | refine ⟨(_ : Addr), (_ : List V), (_ : Int), (_ : V), rfl, rfl, (by walk_at "sl"), (by first | rfl | assumption), ?_⟩
  | refine ⟨(_ : Addr), (_ : List V), (_ : Int), (_ : V), rfl, rfl, (by walk_at "st"), (by first | rfl | assumption), ?_⟩
  | refine ⟨(_ : Addr), (_ : List V), (_ : Int), (_ : Nat), rfl, rfl, upd_same, rfl, ?_⟩
  | refine ⟨(_ : Addr), (_ : List V), (_ : Int), (_ : Nat), rfl, rfl, (by assumption), rfl, ?_⟩
  | refine ⟨(_ : Addr), (_ : Addr), (_ : Addr), (_ : List (Str × V)), (_ : V), rfl, (by assumption), (by assumption), (by assumption), (by first | assumption | rfl), ?_⟩
  | refine Or.inl ⟨(_ : Int), rfl, ?_⟩
  | refine And.intro (by walk_at "sc") ?_
  | refine iteT ?_
  | refine iteF ?_)
/-! ### the known headings -/
theorem leL_anti {a b : Str} (h1 : ¬ b.cps.toList < a.cps.toList) (h2 : ¬ a.cps.toList < b.cps.toList) : a = b := by
  have e : a.cps.toList = b.cps.toList := List.le_antisymm (List.not_lt.mp h1) (List.not_lt.mp h2)
  have := Array.ext' e
  cases a
  cases b
  exact congrArg Str.mk this
theorem rising_pw : ∀ {x : Str} {r : List Str}, PyProof.Rows.risingS x r = true → (x :: r).Pairwise fun a b => ¬ b.cps.toList < a.cps.toList
  | x, [], _ => List.pairwise_singleton _ _
  | x, y :: r, h => by
    have h' : (!PySem.Spec.ltCps y.cps.toList x.cps.toList && PyProof.Rows.risingS y r) = true := h
    rw [PyProof.Rows.ltCps_eq, Bool.and_eq_true] at h'
    have ih := rising_pw h'.2
    have h1 : ¬ y.cps.toList < x.cps.toList := by simpa using h'.1
    refine List.pairwise_cons.mpr ⟨fun z hz => ?_, ih⟩
    rcases List.mem_cons.mp hz with rfl | hz
    · exact h1
    · have h2 := (List.pairwise_cons.mp ih).1 z hz
      exact List.not_lt.mpr (List.le_trans (List.not_lt.mp h1) (List.not_lt.mp h2))
theorem sorted_pw {ys : List Str} (h : PyProof.Rows.sortedS ys = true) : ys.Pairwise fun a b => ¬ b.cps.toList < a.cps.toList := by
  cases ys with
  | nil => exact .nil
  | cons x r => exact rising_pw h
/-- two ascending lists of the same headings are one -/
theorem sorted_same {ys zs : List Str} (h1 : PyProof.Rows.sortedS ys = true) (h2 : PyProof.Rows.sortedS zs = true) (n1 : ys.Nodup) (n2 : zs.Nodup) (h : ∀ k, k ∈ ys ↔ k ∈ zs) : ys = zs :=
  List.Perm.eq_of_pairwise (fun _ _ _ _ a b => leL_anti a b) (sorted_pw h1) (sorted_pw h2) ((List.perm_ext_iff_of_nodup n1 n2).mpr h)
/-- the set's members, told by a list -/
def Mem1 (S : Str → Bool) (n : Nat) (ks : List Str) : Prop := ks.Nodup ∧ ks.length = n ∧ ∀ k, S k = true ↔ k ∈ ks
theorem Mem1.more {S : Str → Bool} {n : Nat} {ks : List Str} (m : Mem1 S n ks) (k : Str) : ∃ ks', Mem1 (more S k) (moreN S k n) ks' ∧ ∀ j, j ∈ ks' ↔ j ∈ ks ∨ j = k := by
  obtain ⟨h1, h2, h3⟩ := m
  by_cases hk : S k = true
  · refine ⟨ks, ⟨h1, by unfold moreN; rw [if_pos hk]; exact h2, fun j => ?_⟩, fun j => ⟨.inl, fun z => z.elim id fun e => by rw [e]; exact (h3 k).mp hk⟩⟩
    unfold My.more
    rw [Bool.or_eq_true, decide_eq_true_eq, h3 j]
    exact ⟨fun z => z.elim id fun e => by rw [e]; exact (h3 k).mp hk, .inl⟩
  · refine ⟨ks ++ [k], ⟨List.nodup_append.mpr ⟨h1, by simp, fun a ha b hb e => ?_⟩, by unfold moreN; rw [if_neg hk, List.length_append, h2]; rfl, fun j => ?_⟩, fun j => by rw [List.mem_append, List.mem_singleton]⟩
    · rw [List.mem_singleton.mp hb] at e
      exact hk ((h3 k).mpr (e ▸ ha))
    · unfold My.more
      rw [Bool.or_eq_true, decide_eq_true_eq, h3 j, List.mem_append, List.mem_singleton]
def leadsOf (c : CD) : List Str := (if c.see = "" then [] else [c.see]) ++ c.also
theorem mem_known {cs : List CD} {k : Str} : k ∈ known cs ↔ k ∈ heads cs ∨ k ∈ cs.flatMap leadsOf := by
  unfold known heads
  rw [List.mem_flatMap, List.mem_map, List.mem_flatMap]
  constructor
  · rintro ⟨c, hc, h⟩
    have h' : k ∈ c.heading :: leadsOf c := by
      unfold knownOf at h
      unfold leadsOf
      simpa [List.cons_append] using h
    rcases List.mem_cons.mp h' with rfl | h'
    · exact .inl ⟨c, hc, rfl⟩
    · exact .inr ⟨c, hc, h'⟩
  · rintro (⟨c, hc, rfl⟩ | ⟨c, hc, h⟩)
    · exact ⟨c, hc, by unfold knownOf; simp⟩
    · refine ⟨c, hc, ?_⟩
      unfold leadsOf at h
      unfold knownOf
      rw [List.cons_append]
      exact List.mem_cons_of_mem _ h
/-- the set at q holds just what L tells -/
def KS (P : Program) (w : World) (q : Addr) (H : Hp) (L : Str → Prop) : Prop := ∃ (S : Str → Bool) (n : Nat) (ks : List Str), H q = some (SetZ zStr P w q S n) ∧ Mem1 S n ks ∧ ∀ k, k ∈ ks ↔ L k
theorem KS.to {P : Program} {w : World} {q : Addr} {H : Hp} {L L' : Str → Prop} (h : KS P w q H L) (e : ∀ k, L k ↔ L' k) : KS P w q H L' := by
  obtain ⟨S, n, ks, h1, h2, h3⟩ := h
  exact ⟨S, n, ks, h1, h2, fun k => (h3 k).trans (e k)⟩
theorem KS.add {P : Program} {w : World} {q : Addr} {H : Hp} {L : Str → Prop} {k : Str} {Q : VK} (h : KS P w q H L) (hn : ∀ ks : List Str, ks.Nodup → (∀ j ∈ ks, L j) → ks.length ≤ 2000) (c : ∀ H', (∀ b o, b ≠ q → H b = some o → H' b = some o) → (∀ b, b ≠ q → H' b = H b) → KS P w q H' (fun j => L j ∨ j = k) → Q .non H') :
    (∃ S n, H q = some (SetZ zStr P w q S n)) ∧ ∃ (k' : Str) (S : Str → Bool) (n : Nat), V.str k = zStr.val k' ∧ H q = some (SetZ zStr P w q S n) ∧ n ≤ 2000 ∧ Q .non (upd H q (SetZ zStr P w q (more S k') (moreN S k' n))) := by
  obtain ⟨S, n, ks, h1, h2, h3⟩ := h
  obtain ⟨ks', m1, m2⟩ := h2.more k
  refine ⟨⟨S, n, h1⟩, k, S, n, rfl, h1, ?_, c _ (fun b o hb e => by rw [upd_ne hb]; exact e) (fun b hb => upd_ne hb) ⟨_, _, ks', upd_same, m1, fun j => (m2 j).trans (or_congr (h3 j) Iff.rfl)⟩⟩
  rw [← h2.2.1]
  exact hn ks h2.1 fun j hj => (h3 j).mp hj
def spKnownH (K : PySem.W.Frag) (D C : Addr) : Sp := fun vs H Q _ => ∃ (p : Addr) (cs : List CD), vs = [.ref p] ∧ DrawerAt K D C H p cs ∧ cs.length ≤ 16 ∧ (∀ c ∈ cs, c.also.length ≤ 4) ∧ (∀ ks : List Str, ks.Nodup → (∀ k ∈ ks, k ∈ known cs) → ks.length < 64) ∧
  ∀ (l : Addr) (H' : Hp) (ys : List Str), Same H H' → H l = none → H' l = some (.lst (ys.map V.str)) → ys.Nodup → PyProof.Rows.sortedS ys = true → (∀ k, k ∈ ys ↔ k ∈ known cs) → Q (.ref l) H'
theorem ok_known_headings (T : Top K mg) : FnOk P w K mg base CX0 5 T.a_known_headings T.fd_known_headings ["drawer"] (spKnownH K T.c_Drawer T.c_Card) := by
  refine T.F_known_headings.ok sc_known_headings (fun vs H Q E h => ?_) (fun cdv A outer s H vs Q E hr h => ?_)
  · obtain ⟨p, cs, rfl, _⟩ := h
    rfl
  · obtain ⟨p, cs, rfl, hD, hl, hal, h64, k⟩ := h
    have hu := hu_of hr
    refine ⟨_, (pss_cons (ps_set (i := 1) sc_known_headings.nd rfl (.inl rfl) (pe_callTy (call_setTSK (K := K) (P := P) (w := w) rfl rfl rfl rfl) (by rfl) T.m_set (by decide +kernel) (pa_cons (pe_prop (pv 0) T.cl_Drawer T.P_Drawer_headings (ok_Drawer_headings T) (hr.mono (by decide)) (b_Drawer_headings T) .nil pass0 rfl) pa_nil)))
      (pss_cons (ps_for PassesOwn.never rfl (pi_tup (pe_prop (pv 0) T.cl_Drawer T.P_Drawer_cards (ok_Drawer_cards T) (hr.mono (by decide)) (b_Drawer_cards T) .nil pass0 rfl)) (pg_name (i := 2) sc_known_headings.nd rfl (.inl rfl))
        (pss_cons (ps_if (pt_val (pe_prop (pv 2) T.cl_Card T.P_Card_leads (ok_Card_leads T) (hr.mono (by decide)) (b_Card_leads T) .nil pass0 rfl)) (pss_one (ps_expr (pe_grow zStr (pv 1) (pe_prop (pv 2) T.cl_Card T.P_Card_see (ok_Card_see T) (hr.mono (by decide)) (b_Card_see T) .nil pass0 rfl)))) pss_nil)
        (pss_one (ps_for PassesOwn.never rfl (pi_tup (pe_prop (pv 2) T.cl_Card T.P_Card_also (ok_Card_also T) (hr.mono (by decide)) (b_Card_also T) .nil pass0 rfl)) (pg_name (i := 3) sc_known_headings.nd rfl (.inl rfl))
          (pss_one (ps_expr (pe_grow zStr (pv 1) (pv 3))))))))
      (pss_one (ps_ret (pe_callB (cr_sortedSS rfl) (by rfl) T.m_sorted (by decide +kernel) (pa_cons (pv 1) pa_nil)))))), ?_⟩
    obtain ⟨dx0, tt0, ps0, hp0, hT0, hC0⟩ := id hD
    refine ⟨_, rfl, p, dx0, _, rfl, hp0, p, cs, rfl, hD, hl, fun t H1 ys s1 ht hyn hys hym => ?_⟩
    have hyl : ys.length ≤ 16 := by
      have := nodup_le hyn fun x hx => (hym x).mp hx
      unfold heads at this
      rw [List.length_map] at this
      omega
    refine ⟨t, ys, rfl, SqT.of ht, by omega, fun q ks hq hkn hks => ?_⟩
    have s2 : Same H (upd H1 q (SetZ zStr P w q (fun j => decide (j ∈ ys)) ks.length)) := s1.trans (same_new hq)
    have K2 : KS P w q (upd H1 q (SetZ zStr P w q (fun j => decide (j ∈ ys)) ks.length)) (fun k => k ∈ heads cs ∨ k ∈ (cs.take 0).flatMap leadsOf) :=
      ⟨_, _, ks, upd_same, ⟨hkn, rfl, fun k => by rw [decide_eq_true_eq]; exact (hks k).symm⟩, fun k => by rw [hks k, hym k]; simp⟩
    have nq : H q = none := s1.free hq
    generalize hH2 : upd H1 q (SetSO P w q (fun j => decide (j ∈ ys)) ks.length) = H2
    rw [show upd H1 q (SetZ zStr P w q (fun j => decide (j ∈ ys)) ks.length) = H2 from hH2] at s2 K2
    have hpl : (ps0.map V.ref).length = cs.length := by rw [List.length_map, hC0.1]
    refine ⟨_, rfl, p, dx0, _, rfl, s2 _ _ hp0, p, dx0, _, _, rfl, s2 _ _ hp0, df_cards _, tt0, rfl, ⟨_, s2.seqT hT0⟩, for_tup (K := K) (a := tt0) (xs := ps0.map V.ref) (fun i σ H3 => ∃ y2 y3, σ = [some (.ref p), some (.ref q), y2, y3] ∧ Same H H3 ∧ KS P w q H3 (fun k => k ∈ heads cs ∨ k ∈ (cs.take i).flatMap leadsOf))
      ⟨none, none, rfl, s2, K2⟩ (fun i σ H3 _ ⟨_, _, _, s3, _⟩ => s3.seqT hT0) (fun i x σ H3 hx hP => ?_) (fun σ H3 hP => ?_)⟩
    · obtain ⟨y2, y3, rfl, s3, K3⟩ := hP
      rw [List.getElem?_map] at hx
      obtain ⟨cq, hcq, rfl⟩ := Option.map_eq_some_iff.mp hx
      obtain ⟨c, hc, ca⟩ := hC0.get hcq
      obtain ⟨dq, bq, aq, hcp, hB, hA⟩ := ca
      have hcm : c ∈ cs := List.mem_of_getElem? hc
      have hic : i < cs.length := (List.getElem?_eq_some_iff.mp hc).1
      have etk : (cs.take (i + 1)).flatMap leadsOf = (cs.take i).flatMap leadsOf ++ leadsOf c := by
        rw [List.take_add_one, hc, List.flatMap_append]
        simp
      have inK : ∀ {L : List Str}, (∀ k ∈ L, k ∈ leadsOf c) → ∀ k, (k ∈ heads cs ∨ k ∈ (cs.take i).flatMap leadsOf ++ L) → k ∈ known cs := fun hL k hk => by
        refine mem_known.mpr (hk.imp id fun z => ?_)
        rcases List.mem_append.mp z with z | z
        · obtain ⟨d, hd, z⟩ := List.mem_flatMap.mp z
          exact List.mem_flatMap.mpr ⟨d, List.mem_of_mem_take hd, z⟩
        · exact List.mem_flatMap.mpr ⟨c, hcm, hL k z⟩
      have room : ∀ {L : List Str}, (∀ k ∈ L, k ∈ leadsOf c) → ∀ ks : List Str, ks.Nodup → (∀ j ∈ ks, j ∈ heads cs ∨ j ∈ (cs.take i).flatMap leadsOf ++ L) → ks.length ≤ 2000 := fun hL ks h1 h2 => by
        have := h64 ks h1 fun k hk => inK hL k (h2 k hk)
        omega
      refine ⟨_, rfl, cq, dq, _, rfl, s3 _ _ hcp, cq, dq, _, _, rfl, s3 _ _ hcp, cf_see _ _ _ _, ?_⟩
      refine ⟨_, rfl, ?_⟩
      by_cases h0 : c.see = ""
      · rw [decide_eq_true h0]
        refine iteF ?_
        have eL : leadsOf c = [] ++ c.also := by
          unfold leadsOf
          rw [if_pos h0]
        have s4 := s3
        have K4 : KS P w q H3 (fun k => k ∈ heads cs ∨ k ∈ (cs.take i).flatMap leadsOf ++ []) := K3.to fun k => by rw [List.append_nil]
        refine ⟨_, rfl, cq, dq, _, rfl, s4 _ _ hcp, cq, dq, _, _, rfl, s4 _ _ hcp, cf_also _ _ _ _, aq, rfl, ⟨_, s4.seqT hA⟩, for_tup (K := K) (a := aq) (xs := c.also.map V.str) (fun m σ H5 => ∃ y3, σ = [some (.ref p), some (.ref q), some (.ref cq), y3] ∧ Same H H5 ∧ KS P w q H5 (fun k => k ∈ heads cs ∨ k ∈ (cs.take i).flatMap leadsOf ++ (([] : List Str) ++ c.also.take m)))
          ⟨_, rfl, s4, by rw [List.take_zero, List.append_nil]; exact K4⟩ (fun m σ H5 _ ⟨_, _, s5, _⟩ => s5.seqT hA) (fun m x σ H5 hx hP => ?_) (fun σ H5 hP => ?_)⟩
        · obtain ⟨y3, rfl, s5, K5⟩ := hP
          rw [List.getElem?_map] at hx
          obtain ⟨z, hz, rfl⟩ := Option.map_eq_some_iff.mp hx
          have sub : ∀ k ∈ ([] : List Str) ++ c.also.take m, k ∈ leadsOf c := fun k hk => by
            rw [eL]
            exact (List.mem_append.mp hk).elim (fun h => List.mem_append_left _ h) fun h => List.mem_append_right _ (List.mem_of_mem_take h)
          obtain ⟨g1, g2⟩ := K5.add (k := z) (Q := fun v H' => v = .non ∧ Same H H' ∧ KS P w q H' (fun k => (k ∈ heads cs ∨ k ∈ (cs.take i).flatMap leadsOf ++ (([] : List Str) ++ c.also.take m)) ∨ k = z)) (room sub) (fun H' k1 k2 k3 => ⟨rfl, fun b o e => k1 b o (ne_of_none e nq) (s5 _ _ e), k3⟩)
          refine ⟨_, rfl, q, rfl, g1, ?_⟩
          obtain ⟨k', S', n', ek, hS', hn', _, s6, K6⟩ := g2
          refine ⟨_, rfl, k', S', n', ek, hS', hn', ?_⟩
          refine ⟨_, rfl, s6, K6.to fun k => ?_⟩
          rw [List.take_add_one, hz]
          simp only [List.mem_append, Option.toList, List.mem_singleton]
          constructor
          · rintro ((h | h | h | h) | h)
            · exact .inl h
            · exact .inr (.inl h)
            · exact .inr (.inr (.inl h))
            · exact .inr (.inr (.inr (.inl h)))
            · exact .inr (.inr (.inr (.inr h)))
          · rintro (h | h | h | h | h)
            · exact .inl (.inl h)
            · exact .inl (.inr (.inl h))
            · exact .inl (.inr (.inr (.inl h)))
            · exact .inl (.inr (.inr (.inr h)))
            · exact .inr h
        · obtain ⟨y3, rfl, s5, K5⟩ := hP
          rw [List.length_map, List.take_length] at K5
          exact ⟨_, _, rfl, s5, K5.to fun k => by rw [etk, eL]⟩
      · rw [decide_eq_false h0]
        refine iteT ?_
        have eL : leadsOf c = [c.see] ++ c.also := by
          unfold leadsOf
          rw [if_neg h0]
        obtain ⟨g1, g2⟩ := K3.add (k := c.see) (Q := fun v H' => v = .non ∧ Same H H' ∧ KS P w q H' (fun k => (k ∈ heads cs ∨ k ∈ (cs.take i).flatMap leadsOf) ∨ k = c.see)) (fun ks h1 h2 => room (L := []) (fun _ z => nomatch z) ks h1 (fun j hj => by rw [List.append_nil]; exact h2 j hj)) (fun H' k1 k2 k3 => ⟨rfl, fun b o e => k1 b o (ne_of_none e nq) (s3 _ _ e), k3⟩)
        refine ⟨_, rfl, q, rfl, g1, ?_⟩
        obtain ⟨k', S', n', ek, hS', hn', _, s4, K4⟩ := g2
        refine ⟨_, rfl, cq, dq, _, rfl, s3 _ _ hcp, cq, dq, _, _, rfl, s3 _ _ hcp, cf_see _ _ _ _, ?_⟩
        refine ⟨k', S', n', ek, hS', hn', ?_⟩
        replace K4 : KS P w q _ (fun k => k ∈ heads cs ∨ k ∈ (cs.take i).flatMap leadsOf ++ [c.see]) := K4.to fun k => by
          rw [List.mem_append, List.mem_singleton, or_assoc]
        refine ⟨_, rfl, cq, dq, _, rfl, s4 _ _ hcp, cq, dq, _, _, rfl, s4 _ _ hcp, cf_also _ _ _ _, aq, rfl, ⟨_, s4.seqT hA⟩, for_tup (K := K) (a := aq) (xs := c.also.map V.str) (fun m σ H5 => ∃ y3, σ = [some (.ref p), some (.ref q), some (.ref cq), y3] ∧ Same H H5 ∧ KS P w q H5 (fun k => k ∈ heads cs ∨ k ∈ (cs.take i).flatMap leadsOf ++ ([c.see] ++ c.also.take m)))
          ⟨_, rfl, s4, by rw [List.take_zero, List.append_nil]; exact K4⟩ (fun m σ H5 _ ⟨_, _, s5, _⟩ => s5.seqT hA) (fun m x σ H5 hx hP => ?_) (fun σ H5 hP => ?_)⟩
        · obtain ⟨y3, rfl, s5, K5⟩ := hP
          rw [List.getElem?_map] at hx
          obtain ⟨z, hz, rfl⟩ := Option.map_eq_some_iff.mp hx
          have sub : ∀ k ∈ [c.see] ++ c.also.take m, k ∈ leadsOf c := fun k hk => by
            rw [eL]
            exact (List.mem_append.mp hk).elim (fun h => List.mem_append_left _ h) fun h => List.mem_append_right _ (List.mem_of_mem_take h)
          obtain ⟨g1, g2⟩ := K5.add (k := z) (Q := fun v H' => v = .non ∧ Same H H' ∧ KS P w q H' (fun k => (k ∈ heads cs ∨ k ∈ (cs.take i).flatMap leadsOf ++ ([c.see] ++ c.also.take m)) ∨ k = z)) (room sub) (fun H' k1 k2 k3 => ⟨rfl, fun b o e => k1 b o (ne_of_none e nq) (s5 _ _ e), k3⟩)
          refine ⟨_, rfl, q, rfl, g1, ?_⟩
          obtain ⟨k', S', n', ek, hS', hn', _, s6, K6⟩ := g2
          refine ⟨_, rfl, k', S', n', ek, hS', hn', ?_⟩
          refine ⟨_, rfl, s6, K6.to fun k => ?_⟩
          rw [List.take_add_one, hz]
          simp only [List.mem_append, Option.toList, List.mem_singleton]
          constructor
          · rintro ((h | h | h | h) | h)
            · exact .inl h
            · exact .inr (.inl h)
            · exact .inr (.inr (.inl h))
            · exact .inr (.inr (.inr (.inl h)))
            · exact .inr (.inr (.inr (.inr h)))
          · rintro (h | h | h | h | h)
            · exact .inl (.inl h)
            · exact .inl (.inr (.inl h))
            · exact .inl (.inr (.inr (.inl h)))
            · exact .inl (.inr (.inr (.inr h)))
            · exact .inr h
        · obtain ⟨y3, rfl, s5, K5⟩ := hP
          rw [List.length_map, List.take_length] at K5
          exact ⟨_, _, rfl, s5, K5.to fun k => by rw [etk, eL]⟩
    · obtain ⟨y2, y3, rfl, s3, S, n, ks2, e3, ⟨m1, m2, m3⟩, m4⟩ := hP
      rw [hpl, List.take_length] at m4
      have hks2 : ∀ k, k ∈ ks2 ↔ k ∈ known cs := fun k => (m4 k).trans mem_known.symm
      refine ⟨_, rfl, q, S, n, rfl, e3, by rw [← m2]; exact h64 ks2 m1 fun k hk => (hks2 k).mp hk, fun zs l n1 n2 n3 n4 hl0 => ?_⟩
      exact k l _ zs (s3.trans (same_new hl0)) (s3.free hl0) upd_same n1 n2 fun z => (n3 z).trans ((m3 z).trans (hks2 z))
end
section
local macro_rules | `(tactic| walk_at "sl") => `(tactic| first | assumption | exact SqL.of upd_same | exact SqL.of (by assumption) | ((with_reducible apply sql_upd); (walk_at "sl"); (first | assumption | exact Ne.symm (by assumption))))
local macro_rules | `(tactic| walk_at "st") => `(tactic| first | assumption | exact SqT.of upd_same | exact SqT.of (by assumption))
local macro_rules | `(tactic| walk_at "sc") => `(tactic| first | rfl | assumption | (show (0 : Int) < _; first | assumption | decide | omega) | exact Or.inl ⟨by omega, by omega⟩ | exact Or.inr ⟨by omega, by omega⟩ | exact ⟨by decide, by decide⟩ | exact ⟨by decide, by decide, by decide⟩)
local macro_rules | `(tactic| walk_at "g1") => `(tactic| first
  | refine ⟨(_ : V), rfl, ?_⟩
  | refine ⟨(_ : Bool), rfl, ?_⟩
  | refine ⟨(_ : Int), (_ : Int), rfl, rfl, ?_⟩
  | refine ⟨(_ : Int), rfl, ?_⟩
  | refine ⟨(_ : Str), rfl, ?_⟩
  | refine ⟨(_ : Addr), (_ : List V), rfl, Or.inl (by walk_at "sl"), ?_⟩
  | refine ⟨(_ : Addr), (_ : List V), rfl, Or.inr (by walk_at "st"), ?_⟩
  | refine ⟨(_ : Addr), (_ : List V), (_ : Int), (_ : V), rfl, rfl, (by walk_at "sl"), (by first | rfl | assumption), ?_⟩
  | refine ⟨(_ : Addr), (_ : List V), (_ : Int), (_ : V), rfl, rfl, (by walk_at "st"), (by first | rfl | assumption), ?_⟩
  | refine ⟨(_ : Addr), (_ : List V), (_ : Int), (_ : Nat), rfl, rfl, upd_same, rfl, ?_⟩
  | refine ⟨(_ : Addr), (_ : List V), (_ : Int), (_ : Nat), rfl, rfl, (by assumption), rfl, ?_⟩
  | refine ⟨(_ : Addr), (_ : Addr), (_ : Addr), (_ : List (Str × V)), (_ : V), rfl, (by assumption), (by assumption), (by assumption), (by first | assumption | rfl), ?_⟩
  | refine Or.inl ⟨(_ : Int), rfl, ?_⟩
  | refine And.intro (by walk_at "sc") ?_
  | refine iteT ?_
  | refine iteF ?_)
/-! ### where walks end (as in M1) -/
def alsoAt (cs : List CD) (p : Nat) : List Str := (cs[p]?.map CD.also).getD []
theorem goT_lt {cs : List CD} {r : Str} : ∀ (n : Nat) (h : Str) (t : TR), (∀ p ∈ t.found, p < cs.length) → ∀ p ∈ (goT cs r n h t).found, p < cs.length
  | 0, h, t, h1 => h1
  | n + 1, h, t, h1 => by
    simp only [goT]
    by_cases hm : h ∈ t.asked
    · rw [if_pos hm]
      exact h1
    · rw [if_neg hm]
      cases hs : (seekOf (heads cs) r h).1 with
      | none => exact h1
      | some p =>
        have hp : p < cs.length := by
          have := (List.getElem?_eq_some_iff.mp (seek_sound hs)).1
          unfold heads at this
          rw [List.length_map] at this
          exact this
        have h2 : ∀ q ∈ t.found ++ [p], q < cs.length := fun q hq => by
          rcases List.mem_append.mp hq with hq | hq
          · exact h1 q hq
          · rw [List.mem_singleton.mp hq]
            exact hp
        simp only []
        by_cases h0 : seeAt cs p = ""
        · rw [if_pos h0]
          exact h2
        · rw [if_neg h0]
          exact goT_lt n _ _ h2
theorem end_lt {cs : List CD} {r f : Str} {p : Nat} (h : endOf (tripOf cs r f) = some p) : p < cs.length := by
  unfold endOf at h
  split at h
  · exact goT_lt 99 f ⟨"", [], [], 0⟩ (fun _ h => nomatch h) p (List.mem_of_getLast? h)
  · cases h
end
section
local macro_rules | `(tactic| walk_at "sl") => `(tactic| first | assumption | exact SqL.of upd_same | exact SqL.of (by assumption) | ((with_reducible apply sql_upd); (walk_at "sl"); (first | assumption | exact Ne.symm (by assumption))))
local macro_rules | `(tactic| walk_at "st") => `(tactic| first | assumption | exact SqT.of upd_same | exact SqT.of (by assumption))
local macro_rules | `(tactic| walk_at "sc") => `(tactic| first | rfl | assumption | (show (0 : Int) < _; first | assumption | decide | omega) | exact Or.inl ⟨by omega, by omega⟩ | exact Or.inr ⟨by omega, by omega⟩ | exact ⟨by decide, by decide⟩ | exact ⟨by decide, by decide, by decide⟩)
local macro_rules | `(tactic| walk_at "g1") => `(tactic| first
  | refine ⟨(_ : V), rfl, ?_⟩
  | refine ⟨(_ : Bool), rfl, ?_⟩
  | refine ⟨(_ : Int), (_ : Int), rfl, rfl, ?_⟩
  | refine ⟨(_ : Int), rfl, ?_⟩
  | refine ⟨(_ : Str), rfl, ?_⟩
  | refine ⟨(_ : Addr), (_ : List V), rfl, Or.inl (by walk_at "sl"), ?_⟩
  | refine ⟨(_ : Addr), (_ : List V), rfl, Or.inr (by walk_at "st"), ?_⟩
  | refine ⟨(_ : Addr), (_ : List V), (_ : Int), (_ : V), rfl, rfl, (by walk_at "sl"), (by first | rfl | assumption), ?_⟩
  | refine ⟨(_ : Addr), (_ : List V), (_ : Int), (_ : V), rfl, rfl, (by walk_at "st"), (by first | rfl | assumption), ?_⟩
  | refine ⟨(_ : Addr), (_ : List V), (_ : Int), (_ : Nat), rfl, rfl, upd_same, rfl, ?_⟩
  | refine ⟨(_ : Addr), (_ : List V), (_ : Int), (_ : Nat), rfl, rfl, (by assumption), rfl, ?_⟩
  | refine ⟨(_ : Addr), (_ : Addr), (_ : Addr), (_ : List (Str × V)), (_ : V), rfl, (by assumption), (by assumption), (by assumption), (by first | assumption | rfl), ?_⟩
  | refine Or.inl ⟨(_ : Int), rfl, ?_⟩
  | refine And.intro (by walk_at "sc") ?_
  | refine iteT ?_
  | refine iteF ?_)
/-! ### drawers joined -/
theorem catA_to {a b : Addr} {xs ys : List V} {H : Hp} {Q : VK} (h1 : SqT K H a xs) (h2 : SqT K H b ys) (hz : xs.length + ys.length ≤ sizeLine) (k : ∀ (p : Addr) (H' : Hp), Same H H' → SqT K H' p (xs ++ ys) → Q (.ref p) H') : rCatA K (.ref a) (.ref b) H Q :=
  ⟨a, b, xs, ys, rfl, rfl, h1, h2, hz, fun e => k b H (Same.refl _) (by rw [e]; exact h2), fun _ e => k a H (Same.refl _) (by rw [e, List.append_nil]; exact h1), fun _ _ p hp => k p _ (same_new hp) (SqT.of upd_same)⟩
theorem sameOfBut {H H1 H2 : Hp} {r : Addr} (s : Same H H1) (n : H r = none) (b : But r H1 H2) : Same H H2 := fun c o h => b c o (s c o h) (ne_of_none h n)
theorem drawer_p {D C : Addr} {H : Hp} {p : Addr} {cs : List CD} (h : DrawerAt K D C H p cs) : ∃ ps, DrawerP K D H p ps ∧ Cards K C H ps cs := by
  obtain ⟨dx, t, ps, h1, h2, h3⟩ := h
  exact ⟨ps, ⟨dx, t, h1, h2⟩, h3⟩
theorem cards_app {C : Addr} {H : Hp} {ps qs : List Addr} {cs ds : List CD} (h1 : Cards K C H ps cs) (h2 : Cards K C H qs ds) : Cards K C H (ps ++ qs) (cs ++ ds) := by
  refine ⟨by rw [List.length_append, List.length_append, h1.1, h2.1], fun i q c a b => ?_⟩
  by_cases hi : i < ps.length
  · rw [List.getElem?_append_left hi] at a
    rw [List.getElem?_append_left (by rw [← h1.1]; exact hi)] at b
    exact h1.2 i q c a b
  · rw [List.getElem?_append_right (by omega)] at a
    rw [List.getElem?_append_right (by rw [← h1.1]; omega), ← h1.1] at b
    exact h2.2 _ q c a b
def spJoined (K : PySem.W.Frag) (D : Addr) : Sp := fun vs H Q _ => ∃ (p q : Addr) (ps qs : List Addr), vs = [.ref p, .ref q] ∧ DrawerP K D H p ps ∧ DrawerP K D H q qs ∧ ps.length + qs.length ≤ 16 ∧ ∀ r H', Same H H' → DrawerP K D H' r (ps ++ qs) → Q (.ref r) H'
theorem ok_joined (T : Top K mg) : FnOk P w K mg base CX0 4 T.a_joined T.fd_joined ["one", "other"] (spJoined K T.c_Drawer) := by
  refine T.F_joined.ok sc_joined (fun vs H Q E h => ?_) (fun cdv A outer s H vs Q E hr h => ?_)
  · obtain ⟨p, q, ps, qs, rfl, _⟩ := h
    rfl
  · obtain ⟨p, q, ps, qs, rfl, ⟨dx, ta, hp, hta⟩, ⟨dy, tb, hq, htb⟩, hl, k2⟩ := h
    have hu := hu_of hr
    refine ⟨_, (pss_one (ps_ret (pe_make T.Mk_Drawer (ok_Drawer_init T) (hr.mono (by decide)) (by rfl) T.g_Drawer (b_Drawer_init T) .nil pass0 (pa_cons (pe_op op_catA (pe_prop (pv 0) T.cl_Drawer T.P_Drawer_cards (ok_Drawer_cards T) (hr.mono (by decide)) (b_Drawer_cards T) .nil pass0 rfl) (pe_prop (pv 1) T.cl_Drawer T.P_Drawer_cards (ok_Drawer_cards T) (hr.mono (by decide)) (b_Drawer_cards T) .nil pass0 rfl)) pa_nil)))), ?_⟩
    refine ⟨_, rfl, p, dx, _, rfl, hp, p, dx, _, _, rfl, hp, df_cards _, ?_⟩
    refine ⟨_, rfl, q, dy, _, rfl, hq, q, dy, _, _, rfl, hq, df_cards _, ?_⟩
    refine catA_to hta htb (sizeLine_of (by rw [List.length_map, List.length_map]; omega) |> Nat.le_of_lt) fun z H1 s1 hz => ?_
    intro x dz hx hdz hne
    have sN : Same H1 (upd (upd H1 dz (.own x)) x (.ins T.c_Drawer dz [])) := fun b o e => by
      rw [upd_ne (ne_of_none e hx), upd_ne (ne_of_none e hdz)]
      exact e
    have hlen : (ps.map V.ref ++ qs.map V.ref).length = ps.length + qs.length := by rw [List.length_append, List.length_map, List.length_map]
    refine ⟨x, dz, z, _, rfl, upd_same, sN.seqT hz, by rw [hlen]; omega, fun H7 b7 h7 => ⟨rfl, ?_⟩⟩
    have s7 : Same H1 H7 := fun b o e => b7 b o (sN b o e) (ne_of_none e hx)
    refine k2 x H7 (s1.trans s7) ⟨dz, z, h7, ?_⟩
    rw [List.map_append]
    exact s7.seqT hz
def spJoinedF (D : Addr) : Sp := fun vs H Q _ => ∃ (p q : Addr) (ps qs : List Addr), vs = [.ref p, .ref q] ∧ DrawerF D H p ps ∧ DrawerF D H q qs ∧ ps.length + qs.length ≤ 16 ∧ ∀ r H', Same H H' → DrawerF D H' r (ps ++ qs) → Q (.ref r) H'
theorem okf_joined (T : Top K mg) : FnOk P w K mg base CX0 4 T.a_joined T.fd_joined ["one", "other"] (spJoinedF T.c_Drawer) := by
  refine T.F_joined.ok sc_joined (fun vs H Q E h => ?_) (fun cdv A outer s H vs Q E hr h => ?_)
  · obtain ⟨p, q, ps, qs, rfl, _⟩ := h
    rfl
  · obtain ⟨p, q, ps, qs, rfl, ⟨dx, ta, hp, hta⟩, ⟨dy, tb, hq, htb⟩, hl, k2⟩ := h
    have hu := hu_of hr
    refine ⟨_, (pss_one (ps_ret (pe_make T.Mk_Drawer (ok_Drawer_init T) (hr.mono (by decide)) (by rfl) T.g_Drawer (b_Drawer_init T) .nil pass0 (pa_cons (pe_op op_catF (pe_prop (pv 0) T.cl_Drawer T.P_Drawer_cards (ok_Drawer_cards T) (hr.mono (by decide)) (b_Drawer_cards T) .nil pass0 rfl) (pe_prop (pv 1) T.cl_Drawer T.P_Drawer_cards (ok_Drawer_cards T) (hr.mono (by decide)) (b_Drawer_cards T) .nil pass0 rfl)) pa_nil)))), ?_⟩
    refine ⟨_, rfl, p, dx, _, rfl, hp, p, dx, _, _, rfl, hp, df_cards _, ?_⟩
    refine ⟨_, rfl, q, dy, _, rfl, hq, q, dy, _, _, rfl, hq, df_cards _, ?_⟩
    refine ⟨ta, tb, _, _, rfl, rfl, hta, htb, (sizeLine_of (by rw [List.length_map, List.length_map]; omega) |> Nat.le_of_lt), fun z H1 s1 hz => ?_⟩
    intro x dz hx hdz hne
    have sN : Same H1 (upd (upd H1 dz (.own x)) x (.ins T.c_Drawer dz [])) := fun b o e => by
      rw [upd_ne (ne_of_none e hx), upd_ne (ne_of_none e hdz)]
      exact e
    have hlen : (ps.map V.ref ++ qs.map V.ref).length = ps.length + qs.length := by rw [List.length_append, List.length_map, List.length_map]
    refine ⟨x, dz, z, _, rfl, upd_same, sN.seqT hz.seq, by rw [hlen]; omega, fun H7 b7 h7 => ⟨rfl, ?_⟩⟩
    have s7 : Same H1 H7 := fun b o e => b7 b o (sN b o e) (ne_of_none e hx)
    refine k2 x H7 (s1.trans s7) ⟨dz, z, h7, ?_⟩
    rw [List.map_append]
    exact hz.same s7
/-- the card at the end of the walk -/
def endC (cs : List CD) (r h : Str) : Option CD := (endOf (tripOf cs r h)).bind fun i => cs[i]?
def EndAt (K : PySem.W.Frag) (C : Addr) (H : Hp) (v : V) : Option CD → Prop
  | none => v = .non
  | some c => ∃ q, v = .ref q ∧ CardAt K C H q c
def spEnd (K : PySem.W.Frag) (D C : Addr) : Sp := fun vs H Q _ => ∃ (p : Addr) (cs : List CD) (r h : Str), vs = [.ref p, .str r, .str h] ∧ DrawerAt K D C H p cs ∧ cs.length ≤ 16 ∧ ∀ v H', Same H H' → EndAt K C H' v (endC cs r h) → Q v H'
theorem endC_lt {cs : List CD} {r h : Str} {i : Nat} (e : endOf (tripOf cs r h) = some i) : i < cs.length := end_lt e
theorem ok_card_at_end (T : Top K mg) : FnOk P w K mg base CX0 6 T.a_card_at_end T.fd_card_at_end ["drawer", "rule", "heading"] (spEnd K T.c_Drawer T.c_Card) := by
  refine T.F_card_at_end.ok sc_card_at_end (fun vs H Q E h => ?_) (fun cdv A outer s H vs Q E hr h => ?_)
  · obtain ⟨p, cs, r, h, rfl, _⟩ := h
    rfl
  · obtain ⟨p, cs, r, h, rfl, hD, hl, k⟩ := h
    have hu := hu_of hr
    refine ⟨_, (pss_cons (ps_set (i := 3) sc_card_at_end.nd rfl (.inl rfl) (pe_fld (pe_call (ok_travel T) (hr.mono (by decide)) (by rfl) T.g_travel T.F_travel.kp (b_travel T) .nil pass0 (pa_cons (pv 0) (pa_cons (pv 1) (pa_cons (pv 2) pa_nil)))) rfl))
      (pss_one (ps_ret (pe_ifExp (pt_cmpR op_isN (pv 3) pe_non (nomark _)) pe_non (pe_item (pv 0) (pv 3) T.M_Drawer_getitem T.I_Drawer_getitem (ok_Drawer_getitem T) (hr.mono (by decide)) (b_Drawer_getitem T) pass0))))), ?_⟩
    refine ⟨_, rfl, _, rfl, _, rfl, p, cs, r, h, rfl, hD, hl, fun t H1 s1 ht => ?_⟩
    obtain ⟨dx, a, f, h1, h2, h3⟩ := ht
    refine ⟨t, T.c_Trip, dx, _, _, rfl, h1, T.cl_Trip, T.n_Trip_end, tf_end _ _ _ _ _, ?_⟩
    have k' := fun v => k v H1 s1
    unfold endC at k'
    cases he : endOf (tripOf cs r h) with
    | none =>
      rw [he] at k'
      refine ⟨_, rfl, rfl, _, rfl, iteT ?_⟩
      exact k' _ rfl
    | some i =>
      rw [he] at k'
      have hi := endC_lt he
      have hc : cs[i]? = some cs[i] := List.getElem?_eq_getElem hi
      refine ⟨_, rfl, rfl, _, rfl, iteF ?_⟩
      have hD1 := hD.imm s1.imm
      obtain ⟨dx0, tt0, ps0, hp0, _, _⟩ := id hD1
      refine ⟨_, rfl, _, rfl, p, dx0, _, rfl, hp0, p, cs, i, cs[i], rfl, hD1, by omega, hc, fun q cq => ?_⟩
      refine k' _ ?_
      show EndAt K _ H1 _ (cs[i]?)
      rw [hc]
      exact ⟨q, rfl, cq⟩
def stillB (cs ds : List CD) (r k : Str) : Bool := match endC cs r k, endC (cs ++ ds) r k with
  | some c, some d => cdEq c d
  | _, _ => false
theorem w7_strOk : ∀ x ∈ w7, PyData.strOk x = true := by decide +kernel
theorem end_mem {cs : List CD} {r h : Str} {c : CD} (e : endC cs r h = some c) : c ∈ cs := by
  unfold endC at e
  obtain ⟨i, _, hi⟩ := Option.bind_eq_some_iff.mp e
  exact List.mem_of_getElem? hi
theorem known_few' {cs : List CD} (hG : ∀ c ∈ cs, GoodL c) : ∀ ks : List Str, ks.Nodup → (∀ k ∈ ks, k ∈ known cs) → ks.length ≤ 7 := fun ks h1 h2 => nodup_leS (ws := w7) h1 fun k hk => known7 hG k (h2 k hk)
end
section
local macro_rules | `(tactic| walk_at "sl") => `(tactic| first | assumption | exact SqL.of upd_same | exact SqL.of (by assumption) | ((with_reducible apply sql_upd); (walk_at "sl"); (first | assumption | exact Ne.symm (by assumption))))
local macro_rules | `(tactic| walk_at "st") => `(tactic| first | assumption | exact SqT.of upd_same | exact SqT.of (by assumption))
local macro_rules | `(tactic| walk_at "sc") => `(tactic| first | rfl | assumption | (show (0 : Int) < _; first | assumption | decide | omega) | exact Or.inl ⟨by omega, by omega⟩ | exact Or.inr ⟨by omega, by omega⟩ | exact ⟨by decide, by decide⟩ | exact ⟨by decide, by decide, by decide⟩)
local macro_rules | `(tactic| walk_at "g1") => `(tactic| first
  | refine ⟨(_ : V), rfl, ?_⟩
  | refine ⟨(_ : Bool), rfl, ?_⟩
  | refine ⟨(_ : Int), (_ : Int), rfl, rfl, ?_⟩
  | refine ⟨(_ : Int), rfl, ?_⟩
  | refine ⟨(_ : Str), rfl, ?_⟩
  | refine ⟨(_ : Addr), (_ : List V), rfl, Or.inl (by walk_at "sl"), ?_⟩
  | refine ⟨(_ : Addr), (_ : List V), rfl, Or.inr (by walk_at "st"), ?_⟩
  | refine ⟨(_ : Addr), (_ : List V), (_ : Int), (_ : V), rfl, rfl, (by walk_at "sl"), (by first | rfl | assumption), ?_⟩
  | refine ⟨(_ : Addr), (_ : List V), (_ : Int), (_ : V), rfl, rfl, (by walk_at "st"), (by first | rfl | assumption), ?_⟩
  | refine ⟨(_ : Addr), (_ : List V), (_ : Int), (_ : Nat), rfl, rfl, upd_same, rfl, ?_⟩
  | refine ⟨(_ : Addr), (_ : List V), (_ : Int), (_ : Nat), rfl, rfl, (by assumption), rfl, ?_⟩
  | refine ⟨(_ : Addr), (_ : Addr), (_ : Addr), (_ : List (Str × V)), (_ : V), rfl, (by assumption), (by assumption), (by assumption), (by first | assumption | rfl), ?_⟩
  | refine Or.inl ⟨(_ : Int), rfl, ?_⟩
  | refine And.intro (by walk_at "sc") ?_
  | refine iteT ?_
  | refine iteF ?_)
/-! ### a drawer in two parts, their tuples told -/
def lowB (b : Str) (c : CD) : Bool := decide (c.heading.cps.toList < b.cps.toList)
def partP (f : Bool) (ps : List Addr) (cs : List CD) (b : Str) : List Addr := ((ps.zip cs).filter fun z => lowB b z.2 == f).map Prod.fst
def partC (f : Bool) (cs : List CD) (b : Str) : List CD := cs.filter fun c => lowB b c == f
theorem part_cards {C : Addr} {H : Hp} {ps : List Addr} {cs : List CD} (h : Cards K C H ps cs) (f : Bool) (b : Str) : Cards K C H (partP f ps cs b) (partC f cs b) := by
  obtain ⟨_, e2, hz⟩ := h.zip
  have e : partC f cs b = ((ps.zip cs).filter fun z => lowB b z.2 == f).map Prod.snd := by
    unfold partC
    conv => lhs; rw [e2]
    rw [List.filter_map]
    rfl
  rw [e]
  exact Cards.of_zip fun z hm => hz z (List.mem_filter.mp hm).1
theorem part_fm (zs : List (Addr × CD)) (p : Addr × CD → Bool) : (List.range zs.length).filterMap (fun i => (zs[i]?).bind fun z => if p z = true then some (V.ref z.1) else none) = ((zs.filter p).map Prod.fst).map V.ref := by
  rw [range_fm zs (fun z => if p z = true then some (V.ref z.1) else none) _ (fun i x h => by rw [h]; rfl)]
  induction zs with
  | nil => rfl
  | cons z l ih =>
    rw [List.filterMap_cons, List.filter_cons, ih]
    cases h : p z <;> simp [h]
theorem part_len (f : Bool) (ps : List Addr) (cs : List CD) (b : Str) : (partP f ps cs b).length ≤ ps.length := by
  unfold partP
  rw [List.length_map]
  exact Nat.le_trans (List.length_filter_le _ _) (by rw [List.length_zip]; exact Nat.min_le_left _ _)
def spParts (K : PySem.W.Frag) (D C : Addr) : Sp := fun vs H Q _ => ∃ (p : Addr) (ps : List Addr) (cs : List CD) (b : Str), vs = [.ref p, .str b] ∧ DrawerP K D H p ps ∧ Cards K C H ps cs ∧ cs.length ≤ 16 ∧
  ∀ (u a1 a2 : Addr) (H' : Hp), Same H H' → SqT K H' u [.ref a1, .ref a2] → DrawerF D H' a1 (partP true ps cs b) → DrawerF D H' a2 (partP false ps cs b) → Q (.ref u) H'
theorem ok_parts_at (T : Top K mg) : FnOk P w K mg base CX0 4 T.a_parts_at T.fd_parts_at ["drawer", "border"] (spParts K T.c_Drawer T.c_Card) := by
  refine T.F_parts_at.ok sc_parts_at (fun vs H Q E h => ?_) (fun cdv A outer s H vs Q E hr h => ?_)
  · obtain ⟨p, ps, cs, b, rfl, _⟩ := h
    rfl
  · obtain ⟨p, ps, cs, b, rfl, ⟨dx, t, hp, hT⟩, hC, hl, k⟩ := h
    have hu := hu_of hr
    have hpl := hC.1
    refine ⟨_, (pss_cons (ps_setLc (i := 2) (own := [("card", 4)]) (g := gName 4) rfl sc_parts_at.nd rfl rfl (sw_true rfl rfl rfl (by decide +kernel)) (pi_tup (pe_prop (pv 0) T.cl_Drawer T.P_Drawer_cards (ok_Drawer_cards T) (hr.mono (by decide)) (b_Drawer_cards T) .nil pass0 rfl)) (blkOk_by (N := N_parts_at) (sc := defScope s_parts_at) (by decide +kernel)) (fun _ _ _ _ _ => (pg_name (i := 4) sc_parts_at.nd rfl (.inl rfl))) (fun _ _ _ _ _ => (pts_one (pt_cmpR op_lt_str (pe_prop (pv 4) T.cl_Card T.P_Card_heading (ok_Card_heading T) (hr.mono (by decide)) (b_Card_heading T) .nil pass0 rfl) (pv 1) (nomark _)))) (fun _ _ _ _ _ => (pv 4)))
      (pss_cons (ps_setLc (i := 3) (own := [("card", 4)]) (g := gName 4) rfl sc_parts_at.nd rfl rfl (sw_true rfl rfl rfl (by decide +kernel)) (pi_tup (pe_prop (pv 0) T.cl_Drawer T.P_Drawer_cards (ok_Drawer_cards T) (hr.mono (by decide)) (b_Drawer_cards T) .nil pass0 rfl)) (blkOk_by (N := N_parts_at) (sc := defScope s_parts_at) (by decide +kernel)) (fun _ _ _ _ _ => (pg_name (i := 4) sc_parts_at.nd rfl (.inl rfl))) (fun _ _ _ _ _ => (pts_one (pt_cmpR op_ge_str (pe_prop (pv 4) T.cl_Card T.P_Card_heading (ok_Card_heading T) (hr.mono (by decide)) (b_Card_heading T) .nil pass0 rfl) (pv 1) (nomark _)))) (fun _ _ _ _ _ => (pv 4)))
      (pss_one (ps_ret (pe_tup (pa_cons (pe_make T.Mk_Drawer (ok_Drawer_init T) (hr.mono (by decide)) (by rfl) T.g_Drawer (b_Drawer_init T) .nil pass0 (pa_cons (pe_callTy call_tuple_ofF (by rfl) T.m_tuple (by decide +kernel) (pa_cons (pv 2) pa_nil)) pa_nil)) (pa_cons (pe_make T.Mk_Drawer (ok_Drawer_init T) (hr.mono (by decide)) (by rfl) T.g_Drawer (b_Drawer_init T) .nil pass0 (pa_cons (pe_callTy call_tuple_ofF (by rfl) T.m_tuple (by decide +kernel) (pa_cons (pv 3) pa_nil)) pa_nil)) pa_nil))))))), ?_⟩
    · skip
      refine ⟨_, rfl, p, dx, _, rfl, hp, p, dx, _, _, rfl, hp, df_cards _, ?_⟩
      refine ⟨t, rfl, ⟨_, hT⟩, fun D1 hD1 => lc_fn (walk_tup (xs := ps.map V.ref)) (by rw [List.length_map]; omega) hD1 (fun i => ((ps.zip cs)[i]?).bind fun z => if (lowB b z.2 == true) = true then some (V.ref z.1) else none) (fun H' s' => s'.seqT hT) (fun i x H' H'' hi s' hy Rr R0 r1 r0 => ?_) (fun H1 s1 hd => ?_)⟩
      · obtain ⟨rfl, hx⟩ := hy
        rw [List.getElem?_map] at hx
        obtain ⟨q, hq, rfl⟩ := Option.map_eq_some_iff.mp hx
        obtain ⟨c, hc, cq⟩ := hC.get hq
        have hz : (ps.zip cs)[i]? = some (q, c) := List.getElem?_zip_eq_some.mpr ⟨hq, hc⟩
        rw [hz] at r1 r0
        obtain ⟨dq, bq, aq, hq1, _⟩ := cq.same (s')
        refine ⟨rfl, ?_⟩
        refine ⟨_, rfl, q, dq, _, rfl, hq1, q, dq, _, _, rfl, hq1, cf_heading _ _ _ _, ?_⟩
        refine ⟨_, rfl, _, _, rfl, rfl, ?_⟩
        refine ⟨_, rfl, ?_⟩
        cases hb : lowB b c with
        | true =>
          have e : decide (c.heading.cps.toList < b.cps.toList) = true := hb
          rw [e]
          exact iteT ⟨_, rfl, r1 _ _ (by show (if (lowB b c == true) = true then _ else _) = _; rw [hb]; rfl) (Same.refl _)⟩
        | false =>
          have e : decide (c.heading.cps.toList < b.cps.toList) = false := hb
          rw [e]
          exact iteF (r0 _ (by show (if (lowB b c == true) = true then _ else _) = _; rw [hb]; rfl) (Same.refl _))
      have hd2 : H1 D1 = some (.lst ((partP true ps cs b).map V.ref)) := by
        rw [hd, show (ps.map V.ref).length = (ps.zip cs).length by rw [List.length_map, List.length_zip, ← hC.1, Nat.min_self], part_fm (ps.zip cs) fun z => lowB b z.2 == true]
        rfl
      clear hd
      have d1 := hd2
      clear hd2
      refine ⟨_, rfl, p, dx, _, rfl, (s1 _ _ hp), p, dx, _, _, rfl, (s1 _ _ hp), df_cards _, ?_⟩
      refine ⟨t, rfl, ⟨_, (s1.seqT hT)⟩, fun D2 hD2 => lc_fn (walk_tup (xs := ps.map V.ref)) (by rw [List.length_map]; omega) hD2 (fun i => ((ps.zip cs)[i]?).bind fun z => if (lowB b z.2 == false) = true then some (V.ref z.1) else none) (fun H' s' => s'.seqT (s1.seqT hT)) (fun i x H' H'' hi s' hy Rr R0 r1 r0 => ?_) (fun H2 s2 hd => ?_)⟩
      · obtain ⟨rfl, hx⟩ := hy
        rw [List.getElem?_map] at hx
        obtain ⟨q, hq, rfl⟩ := Option.map_eq_some_iff.mp hx
        obtain ⟨c, hc, cq⟩ := hC.get hq
        have hz : (ps.zip cs)[i]? = some (q, c) := List.getElem?_zip_eq_some.mpr ⟨hq, hc⟩
        rw [hz] at r1 r0
        obtain ⟨dq, bq, aq, hq1, _⟩ := cq.same (s1.trans s')
        refine ⟨rfl, ?_⟩
        refine ⟨_, rfl, q, dq, _, rfl, hq1, q, dq, _, _, rfl, hq1, cf_heading _ _ _ _, ?_⟩
        refine ⟨_, rfl, _, _, rfl, rfl, ?_⟩
        refine ⟨_, rfl, ?_⟩
        cases hb : lowB b c with
        | true =>
          have e : decide (c.heading.cps.toList < b.cps.toList) = true := hb
          rw [e]
          exact iteF (r0 _ (by show (if (lowB b c == false) = true then _ else _) = _; rw [hb]; rfl) (Same.refl _))
        | false =>
          have e : decide (c.heading.cps.toList < b.cps.toList) = false := hb
          rw [e]
          exact iteT ⟨_, rfl, r1 _ _ (by show (if (lowB b c == false) = true then _ else _) = _; rw [hb]; rfl) (Same.refl _)⟩
      have hd2 : H2 D2 = some (.lst ((partP false ps cs b).map V.ref)) := by
        rw [hd, show (ps.map V.ref).length = (ps.zip cs).length by rw [List.length_map, List.length_zip, ← hC.1, Nat.min_self], part_fm (ps.zip cs) fun z => lowB b z.2 == false]
        rfl
      clear hd
      have d2 := hd2
      clear hd2
      have l1 := part_len true ps cs b
      have l2 := part_len false ps cs b
      have e1 := s2 _ _ d1
      refine ⟨_, rfl, D1, _, rfl, SqL.of e1, fun u1 o1 hu1 ho1 => ?_⟩
      intro a1 x1 ha1 hx1 hn1
      have sN : Same (upd H2 u1 (.frz o1 (.tup ((partP true ps cs b).map V.ref)))) (upd (upd (upd H2 u1 (.frz o1 (.tup ((partP true ps cs b).map V.ref)))) x1 (.own a1)) a1 (.ins T.c_Drawer x1 [])) := fun q o e => by
        rw [upd_ne (ne_of_none e ha1), upd_ne (ne_of_none e hx1)]
        exact e
      refine ⟨a1, x1, u1, _, rfl, upd_same, sN.seqT (TupF.seq ⟨o1, upd_same, ho1⟩), by rw [List.length_map]; omega, fun H3 b3 h3 => ⟨rfl, ?_⟩⟩
      have s3 : Same H2 H3 := fun q o e => b3 q o (sN q o ((same_new hu1) q o e)) (ne_of_none e (by have := ha1; cases z : H2 a1 with | none => rfl | some o2 => rw [(same_new hu1) _ _ z] at this; cases this))
      have t3 : TupF H3 u1 ((partP true ps cs b).map V.ref) := by
        have z : TupF (upd H2 u1 (.frz o1 (.tup ((partP true ps cs b).map V.ref)))) u1 ((partP true ps cs b).map V.ref) := ⟨o1, upd_same, ho1⟩
        exact z.same (show Same (upd H2 u1 (.frz o1 (.tup ((partP true ps cs b).map V.ref)))) H3 from fun q o e => b3 q o (sN q o e) (ne_of_none e ha1))
      have P1 : DrawerF T.c_Drawer H3 a1 (partP true ps cs b) := ⟨x1, u1, h3, t3⟩
      have e2 := s3 _ _ d2
      clear sN b3 h3 t3 hu1 ha1 hx1 hn1
      refine ⟨_, rfl, D2, _, rfl, SqL.of e2, fun u2 o2 hu2 ho2 => ?_⟩
      intro a2 x2 ha2 hx2 hn2
      have sN : Same (upd H3 u2 (.frz o2 (.tup ((partP false ps cs b).map V.ref)))) (upd (upd (upd H3 u2 (.frz o2 (.tup ((partP false ps cs b).map V.ref)))) x2 (.own a2)) a2 (.ins T.c_Drawer x2 [])) := fun q o e => by
        rw [upd_ne (ne_of_none e ha2), upd_ne (ne_of_none e hx2)]
        exact e
      refine ⟨a2, x2, u2, _, rfl, upd_same, sN.seqT (TupF.seq ⟨o2, upd_same, ho2⟩), by rw [List.length_map]; omega, fun H4 b4 h4 => ⟨rfl, ?_⟩⟩
      have s34 : Same (upd H3 u2 (.frz o2 (.tup ((partP false ps cs b).map V.ref)))) H4 := fun q o e => b4 q o (sN q o e) (ne_of_none e ha2)
      have s4 : Same H3 H4 := (same_new hu2).trans s34
      have t4 : TupF H4 u2 ((partP false ps cs b).map V.ref) := TupF.same ⟨o2, upd_same, ho2⟩ s34
      refine ⟨by show 2 ≤ sizeLine; decide, fun u hu => ?_⟩
      have s5 := same_new (o := .tup [.ref a1, .ref a2]) hu
      exact k u a1 a2 _ (s1.trans (s2.trans (s3.trans (s4.trans s5)))) (SqT.of upd_same) ((P1.imm s4.imm).imm s5.imm) (DrawerF.imm ⟨x2, u2, h4, t4⟩ s5.imm)
end
section
local macro_rules | `(tactic| walk_at "sl") => `(tactic| first | assumption | exact SqL.of upd_same | exact SqL.of (by assumption) | ((with_reducible apply sql_upd); (walk_at "sl"); (first | assumption | exact Ne.symm (by assumption))))
local macro_rules | `(tactic| walk_at "st") => `(tactic| first | assumption | exact SqT.of upd_same | exact SqT.of (by assumption))
local macro_rules | `(tactic| walk_at "sc") => `(tactic| first | rfl | assumption | (show (0 : Int) < _; first | assumption | decide | omega) | exact Or.inl ⟨by omega, by omega⟩ | exact Or.inr ⟨by omega, by omega⟩ | exact ⟨by decide, by decide⟩ | exact ⟨by decide, by decide, by decide⟩)
local macro_rules | `(tactic| walk_at "g1") => `(tactic| first
  | refine ⟨(_ : V), rfl, ?_⟩
  | refine ⟨(_ : Bool), rfl, ?_⟩
  | refine ⟨(_ : Int), (_ : Int), rfl, rfl, ?_⟩
  | refine ⟨(_ : Int), rfl, ?_⟩
  | refine ⟨(_ : Str), rfl, ?_⟩
  | refine ⟨(_ : Addr), (_ : List V), rfl, Or.inl (by walk_at "sl"), ?_⟩
  | refine ⟨(_ : Addr), (_ : List V), rfl, Or.inr (by walk_at "st"), ?_⟩
  | refine ⟨(_ : Addr), (_ : List V), (_ : Int), (_ : V), rfl, rfl, (by walk_at "sl"), (by first | rfl | assumption), ?_⟩
  | refine ⟨(_ : Addr), (_ : List V), (_ : Int), (_ : V), rfl, rfl, (by walk_at "st"), (by first | rfl | assumption), ?_⟩
  | refine ⟨(_ : Addr), (_ : List V), (_ : Int), (_ : Nat), rfl, rfl, upd_same, rfl, ?_⟩
  | refine ⟨(_ : Addr), (_ : List V), (_ : Int), (_ : Nat), rfl, rfl, (by assumption), rfl, ?_⟩
  | refine ⟨(_ : Addr), (_ : Addr), (_ : Addr), (_ : List (Str × V)), (_ : V), rfl, (by assumption), (by assumption), (by assumption), (by first | assumption | rfl), ?_⟩
  | refine Or.inl ⟨(_ : Int), rfl, ?_⟩
  | refine And.intro (by walk_at "sc") ?_
  | refine iteT ?_
  | refine iteF ?_)
/-! ### a walk over two parts -/
def lowS (h b : Str) : Bool := decide (h.cps.toList < b.cps.toList)
def goS (cs : List CD) (b r : Str) : Nat → Str → List Str → Option CD
  | 0, _, _ => none
  | n + 1, h, asked => if h ∈ asked then none else
    match (seekOf (heads (partC (lowS h b) cs b)) r h).1 with
    | none => none
    | some j => match (partC (lowS h b) cs b)[j]? with
      | none => none
      | some c => if c.see = "" then some c else goS cs b r n c.see (asked ++ [h])
def endS (cs : List CD) (b r h : Str) : Option CD := goS cs b r 99 h []
theorem part_sub {f : Bool} {cs : List CD} {b : Str} {c : CD} (h : c ∈ partC f cs b) : c ∈ cs := (List.mem_filter.mp h).1
theorem part_le (f : Bool) (cs : List CD) (b : Str) : (partC f cs b).length ≤ cs.length := List.length_filter_le _ _
theorem ifM2 {c : Bool} {ta tb : TE} {σ : St} {H : Hp} {Q : VK} (Pv : V → Hp → Prop) (m : ∀ v H', Pv v H' → Q v H') (a : c = true → (∀ v H', Pv v H' → Q v H') → ta σ H Q) (b : ¬ c = true → (∀ v H', Pv v H' → Q v H') → tb σ H Q) : if c = true then ta σ H Q else tb σ H Q := by
  split
  · exact a (by assumption) m
  · exact b (by assumption) m
def spBehind (K : PySem.W.Frag) (D C : Addr) : Sp := fun vs H Q _ => ∃ (u a1 a2 : Addr) (cs : List CD) (b r h : Str), vs = [.ref u, .str b, .str r, .str h] ∧ SqT K H u [.ref a1, .ref a2] ∧ DrawerAt K D C H a1 (partC true cs b) ∧ DrawerAt K D C H a2 (partC false cs b) ∧ cs.length ≤ 16 ∧ (∀ c ∈ cs, GoodL c) ∧ h ∈ w7 ∧
  ∀ v H', Same H H' → EndAt K C H' v (endS cs b r h) → Q v H'
theorem ok_card_behind_split (T : Top K mg) : FnOk P w K mg base CX0 5 T.a_card_behind_split T.fd_card_behind_split ["parts", "border", "rule", "heading"] (spBehind K T.c_Drawer T.c_Card) := by
  refine T.F_card_behind_split.ok sc_card_behind_split (fun vs H Q E h => ?_) (fun cdv A outer s H vs Q E hr h => ?_)
  · obtain ⟨u, a1, a2, cs, b, r, h, rfl, _⟩ := h
    rfl
  · obtain ⟨u, a1, a2, cs, b, r, h, rfl, hU, hD1, hD2, hl, hG, hw, k⟩ := h
    have hu := hu_of hr
    refine ⟨_, (pss_cons (ps_set (i := 4) sc_card_behind_split.nd rfl (.inl rfl) (pe_lst pa_nil))
      (pss_cons (ps_set (i := 5) sc_card_behind_split.nd rfl (.inl rfl) (pv 3))
      (pss_cons (ps_while PassesOwn.never (pt_cmpR op_notIn_seq (pv 5) (pv 4) rfl)
        (pss_cons (ps_expr (pe_bm PySem.F.plainAttrs_list PySem.F.slot_list_append PySem.F.type_list_append mt_append (pv 4) (pa_cons (pv 5) pa_nil)))
        (pss_cons (ps_set (i := 6) sc_card_behind_split.nd rfl (.inl rfl) (pe_ifExp (pt_cmpR op_lt_str (pv 5) (pv 1) (nomark _)) (pe_ix ix_tup (pv 0) pe_int (fun _ _ => rfl)) (pe_ix ix_tup (pv 0) pe_int (fun _ _ => rfl))))
        (pss_cons (ps_set (i := 7) sc_card_behind_split.nd rfl (.inl rfl) (pe_ix ix_tup (pe_call (ok_seek T) (hr.mono (by decide)) (by rfl) T.g_seek T.F_seek.kp (b_seek T) .nil pass0 (pa_cons (pe_call (ok_headings_along T) (hr.mono (by decide)) (by rfl) T.g_headings_along T.F_headings_along.kp (b_headings_along T) .nil pass0 (pa_cons (pv 6) pa_nil)) (pa_cons (pv 2) (pa_cons (pv 5) pa_nil)))) pe_int (fun _ _ => rfl)))
        (pss_cons (ps_if (pt_cmpR op_isN (pv 7) pe_non (nomark _)) (pss_one (ps_ret pe_non)) pss_nil)
        (pss_cons (ps_if (pt_not (pt_val (pe_prop (pe_item (pv 6) (pv 7) T.M_Drawer_getitem T.I_Drawer_getitem (ok_Drawer_getitem T) (hr.mono (by decide)) (b_Drawer_getitem T) pass0) T.cl_Card T.P_Card_leads (ok_Card_leads T) (hr.mono (by decide)) (b_Card_leads T) .nil pass0 rfl))) (pss_one (ps_ret (pe_item (pv 6) (pv 7) T.M_Drawer_getitem T.I_Drawer_getitem (ok_Drawer_getitem T) (hr.mono (by decide)) (b_Drawer_getitem T) pass0))) pss_nil)
        (pss_one (ps_set (i := 5) sc_card_behind_split.nd rfl (.inl rfl) (pe_prop (pe_item (pv 6) (pv 7) T.M_Drawer_getitem T.I_Drawer_getitem (ok_Drawer_getitem T) (hr.mono (by decide)) (b_Drawer_getitem T) pass0) T.cl_Card T.P_Card_see (ok_Card_see T) (hr.mono (by decide)) (b_Card_see T) .nil pass0 rfl)))))))))
      (pss_one (ps_ret pe_non))))), ?_⟩
    refine ⟨Nat.zero_le _, fun so hso => ?_⟩
    have s3 : Same H (upd H so (.lst [])) := same_new hso
    have o3 : (upd H so (.lst [])) so = some (.lst (([] : List Str).map V.str)) := upd_same
    generalize upd H so (.lst []) = H3 at *
    refine ⟨_, rfl, ?_⟩
    refine ⟨fun m σ H4 => ∃ (asked : List Str) (hh : Str) (y6 y7 : Option V), σ = [some (.ref u), some (.str b), some (.str r), some (.str h), some (.ref so), some (.str hh), y6, y7] ∧ Same H H4 ∧ H4 so = some (.lst (asked.map V.str)) ∧ asked.Nodup ∧ (∀ x ∈ asked, x ∈ w7) ∧ hh ∈ w7 ∧ m + asked.length = 98 ∧ goS cs b r (m + 1) hh asked = endS cs b r h,
      ⟨98, [], h, none, none, rfl, s3, o3, List.nodup_nil, (fun _ h => nomatch h), hw, rfl, rfl⟩, fun m σ H4 hW => ?_⟩
    clear s3 o3 H3
    obtain ⟨asked, hh, y6, y7, rfl, s4, o4, hnd, h7, hh7, hn, eq⟩ := hW
    have hal : asked.length ≤ 7 := nodup_leS (ws := w7) hnd h7
    refine ⟨_, rfl, _, rfl, so, _, rfl, .inl (SqL.of o4), rfl, flat_strs _, ?_⟩
    refine ⟨_, rfl, ?_⟩
    show if (!inV (V.str hh) (asked.map V.str)) = true then _ else _
    rw [mem_dec]
    by_cases hm : hh ∈ asked
    · rw [decide_eq_true hm]
      refine iteF ?_
      refine k .non H4 s4 ?_
      rw [← eq]
      simp only [goS, if_pos hm]
      rfl
    · rw [decide_eq_false hm]
      refine iteT ?_
      obtain ⟨m, rfl⟩ : ∃ m', m = m' + 1 := ⟨m - 1, by omega⟩
      refine ⟨fun σ' H' => ∃ m', m' < m + 1 ∧ _, fun σ' H' h => h, ?_⟩
      refine ⟨_, rfl, .inl ⟨rfl, _, SqL.of o4⟩, ?_⟩
      refine ⟨_, rfl, ?_⟩
      refine ⟨so, _, _, rfl, rfl, o4, sizeLine_of (by rw [List.length_map]; omega), ?_⟩
      have o5 : (upd H4 so (.lst (asked.map V.str ++ [.str hh]))) so = some (.lst ((asked ++ [hh]).map V.str)) := by rw [upd_same, List.map_append]; rfl
      have s5 : Same H (upd H4 so (.lst (asked.map V.str ++ [.str hh]))) := same_mut s4 hso
      generalize upd H4 so (.lst (asked.map V.str ++ [.str hh])) = H5 at *
      refine ⟨_, rfl, _, rfl, _, _, rfl, rfl, ?_⟩
      refine ⟨_, rfl, ?_⟩
      show if lowS hh b = true then _ else _
      refine ifM2 (fun v H' => v = .ref (if lowS hh b = true then a1 else a2) ∧ H' = H5) (fun v H' hv => ?_) (fun e m => ?_) (fun e m => ?_)
      · obtain ⟨rfl, rfl⟩ := hv
        have hDp : DrawerAt K T.c_Drawer T.c_Card H' (if lowS hh b = true then a1 else a2) (partC (lowS hh b) cs b) := by
          cases hb : lowS hh b with
          | true => exact hD1.imm s5.imm
          | false => exact hD2.imm s5.imm
        have hpl := part_le (lowS hh b) cs b
        have hpg : ∀ c ∈ partC (lowS hh b) cs b, GoodL c := fun c hc => hG c (part_sub hc)
        have eq' : goS cs b r (m + 1 + 1) hh asked = endS cs b r h := eq
        generalize (if lowS hh b = true then a1 else a2) = pt at *
        simp only [goS, if_neg hm] at eq'
        generalize partC (lowS hh b) cs b = pc at *
        refine ⟨_, rfl, pt, pc, rfl, hDp, by omega, fun t H6 s6 ht0 ht => ?_⟩
        refine ⟨_, rfl, _, rfl, t, heads pc, r, hh, rfl, SqT.of ht, by unfold heads; rw [List.length_map]; omega, fun u2 H7 s7 hse => ?_⟩
        have o7 := s7 _ _ (s6 _ _ o5)
        have s07 := s5.trans (s6.trans s7)
        have hD7 := hDp.imm (s6.trans s7).imm
        obtain ⟨pp, q1, q2⟩ := hse
        refine ⟨u2, _, ((0 : Nat) : Int), _, rfl, rfl, q1, atI_nat rfl, ?_⟩
        refine ⟨_, rfl, rfl, _, rfl, ?_⟩
        cases hs : (seekOf (heads pc) r hh).1 with
        | none =>
          refine iteT ?_
          refine k .non H7 s07 ?_
          rw [← eq']
          simp only [hs]
          rfl
        | some j =>
          refine iteF ?_
          have hhd := seek_sound hs
          have hjc : j < pc.length := by
            have := (List.getElem?_eq_some_iff.mp hhd).1
            unfold heads at this
            rw [List.length_map] at this
            exact this
          have hcj : pc[j]? = some pc[j] := List.getElem?_eq_getElem hjc
          have hgc := hpg _ (List.getElem_mem hjc)
          simp only [hs, hcj] at eq'
          generalize pc[j] = c at *
          obtain ⟨dx0, tt0, ps0, hp0, _, _⟩ := id hD7
          refine ⟨_, rfl, _, rfl, pt, dx0, _, rfl, hp0, pt, pc, j, c, rfl, hD7, by omega, hcj, fun q cq => ?_⟩
          obtain ⟨dq, bq, aq, hq, _, _⟩ := cq
          refine ⟨q, dq, _, rfl, hq, q, dq, _, _, rfl, hq, cf_see _ _ _ _, ?_⟩
          refine ⟨_, rfl, ?_⟩
          by_cases h0 : c.see = ""
          · rw [decide_eq_true h0]
            refine iteT ?_
            refine ⟨_, rfl, _, rfl, pt, dx0, _, rfl, hp0, pt, pc, j, c, rfl, hD7, by omega, hcj, fun q cq => ?_⟩
            refine k _ H7 s07 ?_
            rw [← eq', if_pos h0]
            exact ⟨q, rfl, cq⟩
          · rw [decide_eq_false h0]
            refine iteF ?_
            rw [if_neg h0] at eq'
            refine ⟨_, rfl, _, rfl, pt, dx0, _, rfl, hp0, pt, pc, j, c, rfl, hD7, by omega, hcj, fun q cq => ?_⟩
            obtain ⟨dq, bq, aq, hq, _, _⟩ := cq
            refine ⟨q, dq, _, rfl, hq, q, dq, _, _, rfl, hq, cf_see _ _ _ _, ?_⟩
            refine ⟨m, by omega, asked ++ [hh], c.see, _, _, rfl, s07, o7, ?_, fun x hx => ?_, hgc.s.resolve_left h0, ?_, eq'⟩
            · exact List.nodup_append.mpr ⟨hnd, by simp, fun x hx y hy e => by
                rw [List.mem_singleton.mp hy] at e
                exact hm (e ▸ hx)⟩
            · rcases List.mem_append.mp hx with z | z
              · exact h7 x z
              · rw [List.mem_singleton.mp z]
                exact hh7
            · rw [List.length_append]
              show m + (asked.length + 1) = 98
              omega
      · refine ⟨_, rfl, u, _, ((0 : Nat) : Int), _, rfl, rfl, s5.seqT hU, atI_nat rfl, m _ _ ⟨?_, rfl⟩⟩
        rw [if_pos e]
      · refine ⟨_, rfl, u, _, ((1 : Nat) : Int), _, rfl, rfl, s5.seqT hU, atI_nat rfl, m _ _ ⟨?_, rfl⟩⟩
        rw [if_neg e]
end
section
local macro_rules | `(tactic| walk_at "sl") => `(tactic| first | assumption | exact SqL.of upd_same | exact SqL.of (by assumption) | ((with_reducible apply sql_upd); (walk_at "sl"); (first | assumption | exact Ne.symm (by assumption))))
local macro_rules | `(tactic| walk_at "st") => `(tactic| first | assumption | exact SqT.of upd_same | exact SqT.of (by assumption))
local macro_rules | `(tactic| walk_at "sc") => `(tactic| first | rfl | assumption | (show (0 : Int) < _; first | assumption | decide | omega) | exact Or.inl ⟨by omega, by omega⟩ | exact Or.inr ⟨by omega, by omega⟩ | exact ⟨by decide, by decide⟩ | exact ⟨by decide, by decide, by decide⟩)
local macro_rules | `(tactic| walk_at "g1") => `(tactic| first
  | refine ⟨(_ : V), rfl, ?_⟩
  | refine ⟨(_ : Bool), rfl, ?_⟩
  | refine ⟨(_ : Int), (_ : Int), rfl, rfl, ?_⟩
  | refine ⟨(_ : Int), rfl, ?_⟩
  | refine ⟨(_ : Str), rfl, ?_⟩
  | refine ⟨(_ : Addr), (_ : List V), rfl, Or.inl (by walk_at "sl"), ?_⟩
  | refine ⟨(_ : Addr), (_ : List V), rfl, Or.inr (by walk_at "st"), ?_⟩
  | refine ⟨(_ : Addr), (_ : List V), (_ : Int), (_ : V), rfl, rfl, (by walk_at "sl"), (by first | rfl | assumption), ?_⟩
  | refine ⟨(_ : Addr), (_ : List V), (_ : Int), (_ : V), rfl, rfl, (by walk_at "st"), (by first | rfl | assumption), ?_⟩
  | refine ⟨(_ : Addr), (_ : List V), (_ : Int), (_ : Nat), rfl, rfl, upd_same, rfl, ?_⟩
  | refine ⟨(_ : Addr), (_ : List V), (_ : Int), (_ : Nat), rfl, rfl, (by assumption), rfl, ?_⟩
  | refine ⟨(_ : Addr), (_ : Addr), (_ : Addr), (_ : List (Str × V)), (_ : V), rfl, (by assumption), (by assumption), (by assumption), (by first | assumption | rfl), ?_⟩
  | refine Or.inl ⟨(_ : Int), rfl, ?_⟩
  | refine And.intro (by walk_at "sc") ?_
  | refine iteT ?_
  | refine iteF ?_)
/-! ### what a split loses -/
def lostB (cs : List CD) (b r k : Str) : Bool := match endC cs r k, endS cs b r k with
  | none, _ => false
  | some _, none => true
  | some c, some d => !cdEq c d
theorem goS_mem {cs : List CD} {b r : Str} : ∀ (n : Nat) (h : Str) (a : List Str) {c : CD}, goS cs b r n h a = some c → c ∈ cs
  | 0, _, _, _, e => by cases e
  | n + 1, h, a, c, e => by
    unfold goS at e
    split at e
    · cases e
    · split at e
      · cases e
      · split at e
        · cases e
        · rename_i d hd
          split at e
          · cases e
            exact part_sub (List.mem_of_getElem? hd)
          · exact goS_mem n _ _ e
def spLost (K : PySem.W.Frag) (D C : Addr) : Sp := fun vs H Q _ => ∃ (p : Addr) (ps : List Addr) (cs : List CD) (r b : Str), vs = [.ref p, .str r, .str b] ∧ DrawerP K D H p ps ∧ Cards K C H ps cs ∧ cs.length ≤ 16 ∧ (∀ c ∈ cs, GoodL c) ∧
  ∀ (l : Addr) (H' : Hp) (ys : List Str), Same H H' → ys.Nodup → PyProof.Rows.sortedS ys = true → (∀ k, k ∈ ys ↔ k ∈ known cs) → H' l = some (.lst ((ys.filter (lostB cs b r)).map V.str)) → Q (.ref l) H'
theorem ok_lost_at (T : Top K mg) : FnOk P w K mg base CX0 7 T.a_lost_at T.fd_lost_at ["drawer", "rule", "border"] (spLost K T.c_Drawer T.c_Card) := by
  refine T.F_lost_at.ok sc_lost_at (fun vs H Q E h => ?_) (fun cdv A outer s H vs Q E hr h => ?_)
  · obtain ⟨p, ps, cs, r, b, rfl, _⟩ := h
    rfl
  · obtain ⟨p, ps, cs, r, b, rfl, hP, hC, hl1, hG, k2⟩ := h
    have hu := hu_of hr
    have hD := hP.to hC
    refine ⟨_, (pss_cons (ps_set (i := 3) sc_lost_at.nd rfl (.inl rfl) (pe_call (ok_parts_at T) (hr.mono (by decide)) (by rfl) T.g_parts_at T.F_parts_at.kp (b_parts_at T) .nil pass0 (pa_cons (pv 0) (pa_cons (pv 2) pa_nil))))
      (pss_cons (ps_set (i := 4) sc_lost_at.nd rfl (.inl rfl) (pe_lst pa_nil))
      (pss_cons (ps_for PassesOwn.never rfl (pi_list (pe_call (ok_known_headings T) (hr.mono (by decide)) (by rfl) T.g_known_headings T.F_known_headings.kp (b_known_headings T) .nil pass0 (pa_cons (pv 0) pa_nil))) (pg_name (i := 5) sc_lost_at.nd rfl (.inl rfl))
        (pss_cons (ps_set (i := 6) sc_lost_at.nd rfl (.inl rfl) (pe_call (ok_card_at_end T) (hr.mono (by decide)) (by rfl) T.g_card_at_end T.F_card_at_end.kp (b_card_at_end T) .nil pass0 (pa_cons (pv 0) (pa_cons (pv 1) (pa_cons (pv 5) pa_nil)))))
        (pss_one (ps_if (PW.pt (pw_and (pt_cmpR op_notN (pv 6) pe_non (nomark _)) (pw_and1 (pt_cmpR (op_neB (RcB.or (rcB_ins (eqCard T) (ok_Card_eq T) (b_Card_eq T) true) (rcB_nonNe (eqCard T) T.qu_Card (ok_Card_eq T) (b_Card_eq T))) (hr.mono (by decide))) (pv 6) (pe_call (ok_card_behind_split T) (hr.mono (by decide)) (by rfl) T.g_card_behind_split T.F_card_behind_split.kp (b_card_behind_split T) .nil pass0 (pa_cons (pv 3) (pa_cons (pv 2) (pa_cons (pv 1) (pa_cons (pv 5) pa_nil))))) (nomark _))))) (pss_one (ps_expr (pe_bm PySem.F.plainAttrs_list PySem.F.slot_list_append PySem.F.type_list_append mt_append (pv 4) (pa_cons (pv 5) pa_nil)))) pss_nil))))
      (pss_one (ps_ret (pv 4)))))), ?_⟩
    refine ⟨_, rfl, _, rfl, p, ps, cs, b, rfl, hP, hC, hl1, fun u a1 a2 H1 s1 hu1 hA1 hA2 => ?_⟩
    have B1 := hA1.to (part_cards (hC.imm s1.imm) true b)
    have B2 := hA2.to (part_cards (hC.imm s1.imm) false b)
    have D1 := hD.imm s1.imm
    refine ⟨Nat.zero_le _, fun lf hlf => ?_⟩
    have sn := same_new (o := .lst []) hlf
    have s2 := s1.trans sn
    have nlf : H lf = none := s1.free hlf
    have e2 : (upd H1 lf (.lst [])) lf = some (.lst ([] : List V)) := upd_same
    have D2 := D1.imm sn.imm
    have C1 := B1.imm sn.imm
    have C2 := B2.imm sn.imm
    have U2 := sn.seqT hu1
    clear sn B1 B2 D1 hu1 hA1 hA2
    generalize upd H1 lf (.lst []) = H2 at *
    refine ⟨_, rfl, p, cs, rfl, D2, hl1, fun c hc => (hG c hc).good.la, fun ks h1 h2 => by have := known_few' hG ks h1 h2; omega, fun lk H3 ys s3 hlk0 hlk hnd hsrt hmem => ?_⟩
    have nlk : lk ≠ lf := fun e => by
      rw [e] at hlk0
      rw [hlk0] at e2
      cases e2
    have hyl := known_few' hG ys hnd fun k hk => (hmem k).mp hk
    have e3 := s3 _ _ e2
    have D3 := D2.imm s3.imm
    have E1 := C1.imm s3.imm
    have E2 := C2.imm s3.imm
    have U3 := s3.seqT U2
    have s03 := s2.trans s3
    clear D2 C1 C2 e2 s3 U2
    refine ⟨lk, rfl, ⟨_, SqL.of hlk⟩, for_list (K := K) (a := lk) (xs := ys.map V.str) (fun i σ H4 => ∃ y5 y6, σ = [some (.ref p), some (.str r), some (.str b), some (.ref u), some (.ref lf), y5, y6] ∧ But lf H3 H4 ∧ H4 lf = some (.lst (((ys.take i).filter (lostB cs b r)).map V.str)))
      ⟨_, _, rfl, But.refl, e3⟩ (fun i σ H4 _ ⟨_, _, _, b4, _⟩ => SqL.of (b4 _ _ hlk nlk)) (fun i x σ H4 hi hP => ?_) (fun σ H4 hP => ?_)⟩
    · obtain ⟨y5, y6, rfl, b4, e4⟩ := hP
      rw [List.getElem?_map] at hi
      obtain ⟨y, hy, rfl⟩ := Option.map_eq_some_iff.mp hi
      have im4 : Imm H3 H4 := b4.imm e3 rfl
      have D4 := D3.imm im4
      have hy7 : y ∈ w7 := known7 hG y ((hmem y).mp (List.mem_of_getElem? hy))
      have hstep : ∀ H', Same H4 H' → But lf H3 H' := fun H' s' => b4.same s'
      have fin0 : lostB cs b r y = false → ∀ H', Same H4 H' → H' lf = some (.lst (((ys.take (i + 1)).filter (lostB cs b r)).map V.str)) := fun h0 H' s' => by
        rw [List.take_add_one, hy, List.filter_append]
        simp only [Option.toList, List.filter_cons, h0, Bool.false_eq_true, if_false, List.filter_nil, List.append_nil]
        exact s' _ _ e4
      have hlt4 : ((ys.take i).filter (lostB cs b r)).length ≤ 7 := Nat.le_trans (List.length_filter_le _ _) (by rw [List.length_take]; omega)
      refine ⟨_, rfl, _, rfl, _, rfl, p, cs, r, y, rfl, D4, hl1, fun v H5 s5 hv => ?_⟩
      cases he : endC cs r y with
      | none =>
        rw [he] at hv
        obtain rfl : v = .non := hv
        refine ⟨_, rfl, rfl, _, rfl, iteF (iteF ?_)⟩
        exact ⟨_, _, rfl, hstep _ s5, fin0 (by unfold lostB; rw [he]) _ s5⟩
      | some c =>
        rw [he] at hv
        obtain ⟨qc, rfl, cq⟩ := hv
        refine ⟨_, rfl, rfl, _, rfl, iteT ?_⟩
        have im5 := im4.trans s5.imm
        refine ⟨_, rfl, _, rfl, _, rfl, _, rfl, _, rfl, u, a1, a2, cs, b, r, y, rfl, im5.seqT U3, E1.imm im5, E2.imm im5, hl1, hG, hy7, fun v2 H6 s6 hv2 => ?_⟩
        have cq6 := cq.same s6
        have hca : ∀ x ∈ c.also, PyData.strOk x = true := fun x hx => w7_strOk x ((hG c (end_mem he)).a x hx)
        obtain ⟨dxq, bq, aq, hq6, _⟩ := id cq6
        have fin1 : lostB cs b r y = true → ∀ H', Same H4 H' → ∃ y5 y6, ([some (.ref p), some (.str r), some (.str b), some (.ref u), some (.ref lf), some (.str y), some (.ref qc)] : L2.St) = [some (.ref p), some (.str r), some (.str b), some (.ref u), some (.ref lf), y5, y6] ∧ But lf H3 (upd H' lf (.lst (((ys.take i).filter (lostB cs b r)).map V.str ++ [.str y]))) ∧ (upd H' lf (.lst (((ys.take i).filter (lostB cs b r)).map V.str ++ [.str y]))) lf = some (.lst (((ys.take (i + 1)).filter (lostB cs b r)).map V.str)) := fun h1 H' s' => by
          refine ⟨_, _, rfl, (hstep _ s').upd, ?_⟩
          rw [upd_same, List.take_add_one, hy, List.filter_append]
          simp only [Option.toList, List.filter_cons, h1, if_true, List.filter_nil, List.map_append, List.map_cons, List.map_nil]
        cases he2 : endS cs b r y with
        | none =>
          rw [he2] at hv2
          obtain rfl : v2 = .non := hv2
          refine ⟨false, .inr ⟨qc, dxq, _, rfl, rfl, hq6, c, cq6, hca, .inr ⟨rfl, rfl⟩⟩, fun H7 s7 => ⟨_, rfl, iteT ?_⟩⟩
          have s47 := s5.trans (s6.trans s7)
          have e7 := s47 _ _ e4
          refine ⟨_, rfl, .inl ⟨rfl, _, SqL.of e7⟩, ?_⟩
          refine ⟨_, rfl, ?_⟩
          refine ⟨lf, _, _, rfl, rfl, e7, sizeLine_of (by rw [List.length_map]; omega), ?_⟩
          exact fin1 (by unfold lostB; rw [he, he2]) _ s47
        | some d =>
          rw [he2] at hv2
          obtain ⟨qd, rfl, dq⟩ := hv2
          have hda : ∀ x ∈ d.also, PyData.strOk x = true := fun x hx => w7_strOk x ((hG d (goS_mem _ _ _ he2)).a x hx)
          obtain ⟨dyq, bq', aq', hd6, _⟩ := id dq
          refine ⟨cdEq c d, .inl ⟨qc, qd, dxq, dyq, _, _, rfl, rfl, hq6, hd6, c, cq6, hca, .inl ⟨qd, d, rfl, dq, hda, rfl⟩⟩, fun H7 s7 => ⟨_, rfl, ?_⟩⟩
          have s47 := s5.trans (s6.trans s7)
          have hsb : lostB cs b r y = !cdEq c d := by unfold lostB; rw [he, he2]
          have e7 := s47 _ _ e4
          cases hb : cdEq c d with
          | true =>
            refine iteF ?_
            exact ⟨_, _, rfl, hstep _ s47, fin0 (by rw [hsb, hb]; rfl) _ s47⟩
          | false =>
            refine iteT ?_
            refine ⟨_, rfl, .inl ⟨rfl, _, SqL.of e7⟩, ?_⟩
            refine ⟨_, rfl, ?_⟩
            refine ⟨lf, _, _, rfl, rfl, e7, sizeLine_of (by rw [List.length_map]; omega), ?_⟩
            exact fin1 (by rw [hsb, hb]; rfl) _ s47
    · obtain ⟨y5, y6, rfl, b4, e4⟩ := hP
      rw [List.length_map, List.take_length] at e4
      refine ⟨_, rfl, ?_⟩
      refine k2 lf H4 ys ?_ hnd hsrt hmem e4
      exact sameOfBut s03 nlf b4
end
section
local macro_rules | `(tactic| walk_at "sl") => `(tactic| first | assumption | exact SqL.of upd_same | exact SqL.of (by assumption) | ((with_reducible apply sql_upd); (walk_at "sl"); (first | assumption | exact Ne.symm (by assumption))))
local macro_rules | `(tactic| walk_at "st") => `(tactic| first | assumption | exact SqT.of upd_same | exact SqT.of (by assumption))
local macro_rules | `(tactic| walk_at "sc") => `(tactic| first | rfl | assumption | (show (0 : Int) < _; first | assumption | decide | omega) | exact Or.inl ⟨by omega, by omega⟩ | exact Or.inr ⟨by omega, by omega⟩ | exact ⟨by decide, by decide⟩ | exact ⟨by decide, by decide, by decide⟩)
local macro_rules | `(tactic| walk_at "g1") => `(tactic| first
  | refine ⟨(_ : V), rfl, ?_⟩
  | refine ⟨(_ : Bool), rfl, ?_⟩
  | refine ⟨(_ : Int), (_ : Int), rfl, rfl, ?_⟩
  | refine ⟨(_ : Int), rfl, ?_⟩
  | refine ⟨(_ : Str), rfl, ?_⟩
  | refine ⟨(_ : Addr), (_ : List V), rfl, Or.inl (by walk_at "sl"), ?_⟩
  | refine ⟨(_ : Addr), (_ : List V), rfl, Or.inr (by walk_at "st"), ?_⟩
  | refine ⟨(_ : Addr), (_ : List V), (_ : Int), (_ : V), rfl, rfl, (by walk_at "sl"), (by first | rfl | assumption), ?_⟩
  | refine ⟨(_ : Addr), (_ : List V), (_ : Int), (_ : V), rfl, rfl, (by walk_at "st"), (by first | rfl | assumption), ?_⟩
  | refine ⟨(_ : Addr), (_ : List V), (_ : Int), (_ : Nat), rfl, rfl, upd_same, rfl, ?_⟩
  | refine ⟨(_ : Addr), (_ : List V), (_ : Int), (_ : Nat), rfl, rfl, (by assumption), rfl, ?_⟩
  | refine ⟨(_ : Addr), (_ : Addr), (_ : Addr), (_ : List (Str × V)), (_ : V), rfl, (by assumption), (by assumption), (by assumption), (by first | assumption | rfl), ?_⟩
  | refine Or.inl ⟨(_ : Int), rfl, ?_⟩
  | refine And.intro (by walk_at "sc") ?_
  | refine iteT ?_
  | refine iteF ?_)
/-! ### is_number of any item -/
def itemV : V → Bool
  | .int _ => true
  | .bl _ => true
  | _ => false
def isNumV (v : V) (lo hi : Int) : Bool := match v with
  | .int n => isNum n lo hi
  | _ => false
def spIsNumV : Sp := fun vs H Q _ => ∃ (v : V) (a b : Int), vs = [v, .int a, .int b] ∧ itemV v = true ∧ Q (.bl (isNumV v a b)) H
theorem okv_is_number (T : Top K mg) : FnOk P w K mg base CX0 1 T.a_is_number T.fd_is_number ["number", "least", "greatest"] spIsNumV := by
  refine T.F_is_number.ok sc_is_number (fun vs H Q E h => ?_) (fun cdv A outer s H vs Q E hr h => ?_)
  · obtain ⟨v, a, b, rfl, _⟩ := h
    rfl
  · obtain ⟨v, a, b, rfl, hv, k⟩ := h
    have hu := hu_of hr
    refine ⟨_, (pss_cons (ps_if (PW.pt (pw_or (pt_val (pe_callB call_isi (by rfl) T.m_isinstance (by decide +kernel) (pa_cons (pv 0) (pa_cons (pe_bltn (v := .ty "bool") (by rfl) T.m_bool (by decide +kernel) rfl) pa_nil)))) (pw_or1 (pt_not (pt_val (pe_callB call_isi (by rfl) T.m_isinstance (by decide +kernel) (pa_cons (pv 0) (pa_cons (pe_bltn (v := .ty "int") (by rfl) T.m_int (by decide +kernel) rfl) pa_nil)))))))) (pss_one (ps_ret pe_bl)) pss_nil)
      (pss_one (ps_ret (pe_chain op_le op_le (pv 1) (pv 0) (pv 2))))), ?_⟩
    cases v with
    | int n =>
      refine ⟨_, rfl, .int n, .ty "bool", .type "int", .type "bool", false, rfl, .ty _, .base (.int n), kit_ty (by decide +kernel), ?_⟩
      repeat walk_at "g1"
      refine ⟨.int n, .ty "int", .type "int", .type "int", true, rfl, .ty _, .base (.int n), kit_ty (by decide +kernel), ?_⟩
      repeat walk_at "g1"
      refine ite2 (fun h1 => ?_) (fun h1 => ?_)
      · repeat walk_at "g1"
        have e : isNumV (.int n) a b = decide (n ≤ b) := by show isNum n a b = _; unfold isNum; rw [h1, Bool.true_and]
        rw [e] at k
        exact k
      · have e : isNumV (.int n) a b = false := by show isNum n a b = _; unfold isNum; rw [Bool.eq_false_iff.mpr h1, Bool.false_and]
        rw [e] at k
        exact k
    | bl c =>
      refine ⟨_, rfl, .bl c, .ty "bool", .type "bool", .type "bool", true, rfl, .ty _, .base (.bl c), kit_ty (by decide +kernel), ?_⟩
      repeat walk_at "g1"
      exact k
    | _ => cases hv
end
section
local macro_rules | `(tactic| walk_at "sl") => `(tactic| first | assumption | exact SqL.of upd_same | exact SqL.of (by assumption) | ((with_reducible apply sql_upd); (walk_at "sl"); (first | assumption | exact Ne.symm (by assumption))))
local macro_rules | `(tactic| walk_at "st") => `(tactic| first | assumption | exact SqT.of upd_same | exact SqT.of (by assumption))
local macro_rules | `(tactic| walk_at "sc") => `(tactic| first | rfl | assumption | (show (0 : Int) < _; first | assumption | decide | omega) | exact Or.inl ⟨by omega, by omega⟩ | exact Or.inr ⟨by omega, by omega⟩ | exact ⟨by decide, by decide⟩ | exact ⟨by decide, by decide, by decide⟩)
local macro_rules | `(tactic| walk_at "g1") => `(tactic| first
  | refine ⟨(_ : V), rfl, ?_⟩
  | refine ⟨(_ : Bool), rfl, ?_⟩
  | refine ⟨(_ : Int), (_ : Int), rfl, rfl, ?_⟩
  | refine ⟨(_ : Int), rfl, ?_⟩
  | refine ⟨(_ : Str), rfl, ?_⟩
  | refine ⟨(_ : Addr), (_ : List V), rfl, Or.inl (by walk_at "sl"), ?_⟩
  | refine ⟨(_ : Addr), (_ : List V), rfl, Or.inr (by walk_at "st"), ?_⟩
  | refine ⟨(_ : Addr), (_ : List V), (_ : Int), (_ : V), rfl, rfl, (by walk_at "sl"), (by first | rfl | assumption), ?_⟩
  | refine ⟨(_ : Addr), (_ : List V), (_ : Int), (_ : V), rfl, rfl, (by walk_at "st"), (by first | rfl | assumption), ?_⟩
  | refine ⟨(_ : Addr), (_ : List V), (_ : Int), (_ : Nat), rfl, rfl, upd_same, rfl, ?_⟩
  | refine ⟨(_ : Addr), (_ : List V), (_ : Int), (_ : Nat), rfl, rfl, (by assumption), rfl, ?_⟩
  | refine ⟨(_ : Addr), (_ : Addr), (_ : Addr), (_ : List (Str × V)), (_ : V), rfl, (by assumption), (by assumption), (by assumption), (by first | assumption | rfl), ?_⟩
  | refine Or.inl ⟨(_ : Int), rfl, ?_⟩
  | refine And.intro (by walk_at "sc") ?_
  | refine iteT ?_
  | refine iteF ?_)
/-! ### texts by their order -/
theorem ltS_flip {x h : Str} (hne : x ≠ h) : ltS x h = !ltS h x := by
  have hn : x.cps.toList ≠ h.cps.toList := fun e => hne (by
    obtain ⟨a⟩ := x
    obtain ⟨b⟩ := h
    exact congrArg Str.mk (Array.toList_inj.mp e))
  unfold ltS
  by_cases z : h.cps.toList < x.cps.toList
  · rw [decide_eq_true z, decide_eq_false (List.lt_asymm z)]
    rfl
  · rw [decide_eq_false z, decide_eq_true (Std.lt_of_le_of_ne (List.not_lt.mp z) hn)]
    rfl
end
section
local macro_rules | `(tactic| walk_at "sl") => `(tactic| first | assumption | exact SqL.of upd_same | exact SqL.of (by assumption) | ((with_reducible apply sql_upd); (walk_at "sl"); (first | assumption | exact Ne.symm (by assumption))))
local macro_rules | `(tactic| walk_at "st") => `(tactic| first | assumption | exact SqT.of upd_same | exact SqT.of (by assumption))
local macro_rules | `(tactic| walk_at "sc") => `(tactic| first | rfl | assumption | (show (0 : Int) < _; first | assumption | decide | omega) | exact Or.inl ⟨by omega, by omega⟩ | exact Or.inr ⟨by omega, by omega⟩ | exact ⟨by decide, by decide⟩ | exact ⟨by decide, by decide, by decide⟩)
local macro_rules | `(tactic| walk_at "g1") => `(tactic| first
  | refine ⟨(_ : V), rfl, ?_⟩
  | refine ⟨(_ : Bool), rfl, ?_⟩
  | refine ⟨(_ : Int), (_ : Int), rfl, rfl, ?_⟩
  | refine ⟨(_ : Int), rfl, ?_⟩
  | refine ⟨(_ : Str), rfl, ?_⟩
  | refine ⟨(_ : Addr), (_ : List V), rfl, Or.inl (by walk_at "sl"), ?_⟩
  | refine ⟨(_ : Addr), (_ : List V), rfl, Or.inr (by walk_at "st"), ?_⟩
  | refine ⟨(_ : Addr), (_ : List V), (_ : Int), (_ : V), rfl, rfl, (by walk_at "sl"), (by first | rfl | assumption), ?_⟩
  | refine ⟨(_ : Addr), (_ : List V), (_ : Int), (_ : V), rfl, rfl, (by walk_at "st"), (by first | rfl | assumption), ?_⟩
  | refine ⟨(_ : Addr), (_ : List V), (_ : Int), (_ : Nat), rfl, rfl, upd_same, rfl, ?_⟩
  | refine ⟨(_ : Addr), (_ : List V), (_ : Int), (_ : Nat), rfl, rfl, (by assumption), rfl, ?_⟩
  | refine ⟨(_ : Addr), (_ : Addr), (_ : Addr), (_ : List (Str × V)), (_ : V), rfl, (by assumption), (by assumption), (by assumption), (by first | assumption | rfl), ?_⟩
  | refine Or.inl ⟨(_ : Int), rfl, ?_⟩
  | refine And.intro (by walk_at "sc") ?_
  | refine iteT ?_
  | refine iteF ?_)
/-! ### the best split -/
theorem monB_list {D : EqvB} (hD : MonB D) : MonB (DListB D) := fun x y b H H' e d => by
  obtain ⟨p, q, xs, ys, hx, hy, h1, h2, d⟩ := d
  refine ⟨p, q, xs, ys, hx, hy, e _ _ h1, e _ _ h2, ?_⟩
  rcases d with d | ⟨f, ⟨l, p⟩, hb⟩
  · exact .inl d
  · exact .inr ⟨f, ⟨l, fun i x y a c => hD _ _ _ _ _ e (p i x y a c)⟩, hb⟩
theorem eqB_listSame {X : Cx} : EqB X 1 (DListB DSame) := RcB.eqB (rcB_list monB_same eqB_same false) (fun x y b H d => by
  obtain ⟨p, q, _, _, hx, hy, _⟩ := d
  exact ⟨p, q, hx, hy⟩) (fun pins s σ H p b I d => by
  obtain ⟨p1, q1, xs, ys, e1, e2, h1, h2, d⟩ := d
  obtain rfl := V.ref.inj e1
  obtain rfl := V.ref.inj e2
  rw [h1] at h2
  injection h2 with h3
  injection h3 with h4
  subst h4
  rcases d with ⟨d, _⟩ | ⟨f, ⟨_, pr⟩, hb⟩
  · exact absurd rfl d
  · rw [hb]
    exact allB_t fun j hj => (pr j _ _ (List.getElem?_eq_getElem hj) (List.getElem?_eq_getElem hj)).2)
theorem cut_drop (xs : List V) (n : Nat) : cutV xs (some (n : Int)) none = xs.drop n := by
  unfold cutV
  rw [show HT.sIx xs.length 0 (some (n : Int)) = min n xs.length from HT.sIx_nat xs.length 0 n, HT.sIx_none]
  by_cases h : n ≤ xs.length
  · rw [Nat.min_eq_left h]
    exact List.take_of_length_le (by rw [List.length_drop]; exact Nat.le_refl _)
  · rw [Nat.min_eq_right (by omega), Nat.sub_self, List.drop_length, List.drop_eq_nil_of_le (by omega)]
    rfl
/-- the known headings in their order -/
def KnownIn (cs : List CD) (ys : List Str) : Prop := ys.Nodup ∧ PyProof.Rows.sortedS ys = true ∧ ∀ k, k ∈ ys ↔ k ∈ known cs
def lostN (cs : List CD) (ys : List Str) (r b : Str) : Int := ((ys.filter (lostB cs b r)).length : Nat)
def bestV (f : Str → Int) : List Str → V
  | [] => .non
  | b0 :: rest => .str (minP (f b0, b0) (rest.map fun b => (f b, b))).2
end
section
local macro_rules | `(tactic| walk_at "sl") => `(tactic| first | assumption | exact SqL.of upd_same | exact SqL.of (by assumption) | ((with_reducible apply sql_upd); (walk_at "sl"); (first | assumption | exact Ne.symm (by assumption))))
local macro_rules | `(tactic| walk_at "st") => `(tactic| first | assumption | exact SqT.of upd_same | exact SqT.of (by assumption))
local macro_rules | `(tactic| walk_at "sc") => `(tactic| first | rfl | assumption | (show (0 : Int) < _; first | assumption | decide | omega) | exact Or.inl ⟨by omega, by omega⟩ | exact Or.inr ⟨by omega, by omega⟩ | exact ⟨by decide, by decide⟩ | exact ⟨by decide, by decide, by decide⟩)
local macro_rules | `(tactic| walk_at "g1") => `(tactic| first
  | refine ⟨(_ : V), rfl, ?_⟩
  | refine ⟨(_ : Bool), rfl, ?_⟩
  | refine ⟨(_ : Int), (_ : Int), rfl, rfl, ?_⟩
  | refine ⟨(_ : Int), rfl, ?_⟩
  | refine ⟨(_ : Str), rfl, ?_⟩
  | refine ⟨(_ : Addr), (_ : List V), rfl, Or.inl (by walk_at "sl"), ?_⟩
  | refine ⟨(_ : Addr), (_ : List V), rfl, Or.inr (by walk_at "st"), ?_⟩
  | refine ⟨(_ : Addr), (_ : List V), (_ : Int), (_ : V), rfl, rfl, (by walk_at "sl"), (by first | rfl | assumption), ?_⟩
  | refine ⟨(_ : Addr), (_ : List V), (_ : Int), (_ : V), rfl, rfl, (by walk_at "st"), (by first | rfl | assumption), ?_⟩
  | refine ⟨(_ : Addr), (_ : List V), (_ : Int), (_ : Nat), rfl, rfl, upd_same, rfl, ?_⟩
  | refine ⟨(_ : Addr), (_ : List V), (_ : Int), (_ : Nat), rfl, rfl, (by assumption), rfl, ?_⟩
  | refine ⟨(_ : Addr), (_ : Addr), (_ : Addr), (_ : List (Str × V)), (_ : V), rfl, (by assumption), (by assumption), (by assumption), (by first | assumption | rfl), ?_⟩
  | refine Or.inl ⟨(_ : Int), rfl, ?_⟩
  | refine And.intro (by walk_at "sc") ?_
  | refine iteT ?_
  | refine iteF ?_)
/-! ### filed, among several tables -/
open LamX
abbrev lamF : Str := "filed" ++ ".<locals>." ++ "<lambda>"
def spFiled (K : PySem.W.Frag) (D C tP : Addr) : Sp := fun vs H Q _ => ∃ (d : Addr) (cs : List CD) (TS : List (Addr × Str)), vs = [.ref d] ∧ DrawerAt K D C H d cs ∧ cs.length ≤ 16 ∧ (tP, lamF) ∈ TS ∧ (∀ p ∈ TS, p.1 = tP → p.2 = lamF) ∧ Tabs TS H ∧
  ∀ q H', ExtN H H' → Tabs TS H' → (∀ b o, H b = some o → (∀ ps, o ≠ .tbl ps) → q ≠ b) → DrawerAt K D C H' q (fileOf cs) → Q (.ref q) H'
theorem ok_filed (T : Top K mg) {c tP : Addr} (hcode : T.fd_filed.code = .ref c) (TB : TabB base mg c tP) : FnOk P w K mg base CX0 7 T.a_filed T.fd_filed ["drawer"] (spFiled K T.c_Drawer T.c_Card tP) := by
  refine T.F_filed.okC sc_filed (fun vs H Q E h => ?_) (fun A outer s H vs Q E hr h => ?_)
  · obtain ⟨d, cs, TS, rfl, _⟩ := h
    rfl
  · obtain ⟨d, cs, TS, rfl, hD, hl, hmT, huT, hT, k⟩ := h
    have hu := hu_of hr
    refine ⟨_, (pss_one (ps_ret (pe_make T.Mk_Drawer (ok_Drawer_init T) (hr.mono (by decide)) (by rfl) T.g_Drawer (b_Drawer_init T) .nil pass0 (pa_cons (pe_callTy call_tuple_of (by rfl) T.m_tuple (by decide +kernel) (pa_cons (pe_sortPropTT hmT huT (by rfl) T.m_sorted (pe_prop (pv 0) T.cl_Drawer T.P_Drawer_cards (ok_Drawer_cards T) (hr.mono (by decide)) (b_Drawer_cards T) .nil pass0 rfl) TB hcode hr T.cl_Card T.P_Card_heading T.F_Card_heading (b_Card_heading T) T.n_Card__heading) pa_nil)) pa_nil)))), ?_⟩
    obtain ⟨dx, t, ps, hd, hTp, hC⟩ := id hD
    obtain ⟨bs, eb, hb, ps', es, hs⟩ := cards_sort hC
    refine ⟨_, rfl, d, dx, _, rfl, hd, d, dx, _, _, rfl, hd, df_cards _, hT, t, bs, rfl, by rw [eb]; exact hTp, hb, fun p H1 e1 T1 hp => ?_⟩
    have hpl : ps'.length = (fileOf cs).length := (hs H Imm.refl).1
    have hfl : (fileOf cs).length = cs.length := (fileOf_perm cs).length_eq
    rw [es]
    have s1 : Same H1 (upd H1 p (.lst (ps'.map V.ref))) := same_new hp
    have e2 : (upd H1 p (.lst (ps'.map V.ref))) p = some (.lst (ps'.map V.ref)) := upd_same
    have im1 : Imm H (upd H1 p (.lst (ps'.map V.ref))) := (extN_imm e1).trans s1.imm
    have T2 := T1.ext s1
    have x2 : ExtN H (upd H1 p (.lst (ps'.map V.ref))) := fun b o h n => s1 _ _ (e1 b o h n)
    generalize upd H1 p (.lst (ps'.map V.ref)) = H2 at *
    refine ⟨p, _, rfl, .inl ⟨SqL.of e2, fun u hu' => ?_⟩⟩
    intro x dx2 hx hdx hne
    have s4 : Same H2 (upd H2 u (.tup (ps'.map V.ref))) := same_new hu'
    have eU : SqT K (upd H2 u (.tup (ps'.map V.ref))) u (ps'.map V.ref) := SqT.of upd_same
    generalize upd H2 u (.tup (ps'.map V.ref)) = Hu at *
    have s5 : Same Hu (upd (upd Hu dx2 (.own x)) x (.ins T.c_Drawer dx2 [])) := fun b o e => by
      rw [upd_ne (ne_of_none e hx), upd_ne (ne_of_none e hdx)]
      exact e
    refine ⟨x, dx2, u, _, rfl, upd_same, s5.seqT eU, by rw [List.length_map]; omega, fun H7 b7 h7 => ⟨rfl, ?_⟩⟩
    have s8 : Same Hu H7 := fun b o e => b7 b o (s5 b o e) (ne_of_none e hx)
    have s9 := s4.trans s8
    have hxn : ∀ b o, H b = some o → (∀ ps, o ≠ .tbl ps) → x ≠ b := fun b o hb hn e => by
      have := s4 _ _ (x2 _ _ hb hn)
      rw [← e, hx] at this
      cases this
    exact k x H7 (fun b o h n => s9 _ _ (x2 b o h n)) (T2.ext s9) hxn ⟨dx2, u, ps', h7, s8.seqT eU, hs _ (im1.trans s9.imm)⟩
end
section
local macro_rules | `(tactic| walk_at "sl") => `(tactic| first | assumption | exact SqL.of upd_same | exact SqL.of (by assumption) | ((with_reducible apply sql_upd); (walk_at "sl"); (first | assumption | exact Ne.symm (by assumption))))
local macro_rules | `(tactic| walk_at "st") => `(tactic| first | assumption | exact SqT.of upd_same | exact SqT.of (by assumption))
local macro_rules | `(tactic| walk_at "sc") => `(tactic| first | rfl | assumption | (show (0 : Int) < _; first | assumption | decide | omega) | exact Or.inl ⟨by omega, by omega⟩ | exact Or.inr ⟨by omega, by omega⟩ | exact ⟨by decide, by decide⟩ | exact ⟨by decide, by decide, by decide⟩)
local macro_rules | `(tactic| walk_at "g1") => `(tactic| first
  | refine ⟨(_ : V), rfl, ?_⟩
  | refine ⟨(_ : Bool), rfl, ?_⟩
  | refine ⟨(_ : Int), (_ : Int), rfl, rfl, ?_⟩
  | refine ⟨(_ : Int), rfl, ?_⟩
  | refine ⟨(_ : Str), rfl, ?_⟩
  | refine ⟨(_ : Addr), (_ : List V), rfl, Or.inl (by walk_at "sl"), ?_⟩
  | refine ⟨(_ : Addr), (_ : List V), rfl, Or.inr (by walk_at "st"), ?_⟩
  | refine ⟨(_ : Addr), (_ : List V), (_ : Int), (_ : V), rfl, rfl, (by walk_at "sl"), (by first | rfl | assumption), ?_⟩
  | refine ⟨(_ : Addr), (_ : List V), (_ : Int), (_ : V), rfl, rfl, (by walk_at "st"), (by first | rfl | assumption), ?_⟩
  | refine ⟨(_ : Addr), (_ : List V), (_ : Int), (_ : Nat), rfl, rfl, upd_same, rfl, ?_⟩
  | refine ⟨(_ : Addr), (_ : List V), (_ : Int), (_ : Nat), rfl, rfl, (by assumption), rfl, ?_⟩
  | refine ⟨(_ : Addr), (_ : Addr), (_ : Addr), (_ : List (Str × V)), (_ : V), rfl, (by assumption), (by assumption), (by assumption), (by first | assumption | rfl), ?_⟩
  | refine Or.inl ⟨(_ : Int), rfl, ?_⟩
  | refine And.intro (by walk_at "sc") ?_
  | refine iteT ?_
  | refine iteF ?_)
/-! ### counts -/
def pz0 : Str × Int := ("", 0)
def CountsAt (K : PySem.W.Frag) (H : Hp) (a : Addr) (ps : List (Str × Int)) : Prop := ∃ qs : List Addr, SqL K H a (qs.map V.ref) ∧ qs.length = ps.length ∧ ∀ (i : Nat) (q : Addr) (p : Str × Int), qs[i]? = some q → ps[i]? = some p → SqT K H q [.str p.1, .int p.2]
theorem CountsAt.same {H H' : Hp} {a : Addr} {ps : List (Str × Int)} (h : CountsAt K H a ps) (s : Same H H') : CountsAt K H' a ps := by
  obtain ⟨qs, h1, h2, h3⟩ := h
  exact ⟨qs, s.seq h1, h2, fun i q p e1 e2 => s.seqT (h3 i q p e1 e2)⟩
end
section
local macro_rules | `(tactic| walk_at "sl") => `(tactic| first | assumption | exact SqL.of upd_same | exact SqL.of (by assumption) | ((with_reducible apply sql_upd); (walk_at "sl"); (first | assumption | exact Ne.symm (by assumption))))
local macro_rules | `(tactic| walk_at "st") => `(tactic| first | assumption | exact SqT.of upd_same | exact SqT.of (by assumption))
local macro_rules | `(tactic| walk_at "sc") => `(tactic| first | rfl | assumption | (show (0 : Int) < _; first | assumption | decide | omega) | exact Or.inl ⟨by omega, by omega⟩ | exact Or.inr ⟨by omega, by omega⟩ | exact ⟨by decide, by decide⟩ | exact ⟨by decide, by decide, by decide⟩)
local macro_rules | `(tactic| walk_at "g1") => `(tactic| first
  | refine ⟨(_ : V), rfl, ?_⟩
  | refine ⟨(_ : Bool), rfl, ?_⟩
  | refine ⟨(_ : Int), (_ : Int), rfl, rfl, ?_⟩
  | refine ⟨(_ : Int), rfl, ?_⟩
  | refine ⟨(_ : Str), rfl, ?_⟩
  | refine ⟨(_ : Addr), (_ : List V), rfl, Or.inl (by walk_at "sl"), ?_⟩
  | refine ⟨(_ : Addr), (_ : List V), rfl, Or.inr (by walk_at "st"), ?_⟩
  | refine ⟨(_ : Addr), (_ : List V), (_ : Int), (_ : V), rfl, rfl, (by walk_at "sl"), (by first | rfl | assumption), ?_⟩
  | refine ⟨(_ : Addr), (_ : List V), (_ : Int), (_ : V), rfl, rfl, (by walk_at "st"), (by first | rfl | assumption), ?_⟩
  | refine ⟨(_ : Addr), (_ : List V), (_ : Int), (_ : Nat), rfl, rfl, upd_same, rfl, ?_⟩
  | refine ⟨(_ : Addr), (_ : List V), (_ : Int), (_ : Nat), rfl, rfl, (by assumption), rfl, ?_⟩
  | refine ⟨(_ : Addr), (_ : Addr), (_ : Addr), (_ : List (Str × V)), (_ : V), rfl, (by assumption), (by assumption), (by assumption), (by first | assumption | rfl), ?_⟩
  | refine Or.inl ⟨(_ : Int), rfl, ?_⟩
  | refine And.intro (by walk_at "sc") ?_
  | refine iteT ?_
  | refine iteF ?_)
/-! ### joining and splitting, or their errors -/
def spStillX (K : PySem.W.Frag) (D C cR : Addr) : Sp := fun vs H Q E => ∃ (p q : Addr) (cs ds : List CD) (r : Str), vs = [.ref p, .ref q, .str r] ∧ DrawerAt K D C H p cs ∧ DrawerAt K D C H q ds ∧ cs.length + ds.length ≤ 16 ∧ (∀ c ∈ cs, GoodL c) ∧ (∀ c ∈ ds, GoodL c) ∧ (r ∉ rules3 → ∀ H', Same H H' → E (.ref cR) none H') ∧ (r ∈ rules3 → ∀ (l : Addr) (H' : Hp), Same H H' → Q (.ref l) H')
theorem okx_still_found (T : Top K mg) : FnOk P w K mg base (L2.CX P w) 7 T.a_still_found T.fd_still_found ["one", "other", "rule"] (spStillX K T.c_Drawer T.c_Card T.c_InvalidRule) := by
  refine T.F_still_found.okX sc_still_found (fun vs H Q E h => ?_) (fun cdv A outer s H vs Q E hr h => ?_)
  · obtain ⟨p, q, cs, ds, r, rfl, _⟩ := h
    rfl
  · obtain ⟨p, q, cs, ds, r, rfl, hD, hE, hl, hG, hG2, k1, k2⟩ := h
    have hu := hu_of hr
    refine ⟨_, (pss_cons (ps_nox (ps_set (i := 3) sc_still_found.nd rfl (.inl rfl) (pe_call (ok_joined T) (hr.mono (by decide)) (by rfl) T.g_joined T.F_joined.kp (b_joined T) .nil pass0 (pa_cons (pv 0) (pa_cons (pv 1) pa_nil)))))
      (pss_cons (ps_expr (pe_call (okx_check_rule T) (hr.mono (by decide)) (by rfl) T.g_check_rule T.F_check_rule.kp (b_check_rule T) .nil (passX (fun _ _ _ h => h) rfl rfl rfl rfl) (pa_cons (pv 2) pa_nil)))
      (pss_cons (ps_nox (ps_set (i := 4) sc_still_found.nd rfl (.inl rfl) (pe_lst pa_nil)))
      (pss_cons (ps_nox (ps_for PassesOwn.never rfl (pi_list (pe_call (ok_known_headings T) (hr.mono (by decide)) (by rfl) T.g_known_headings T.F_known_headings.kp (b_known_headings T) .nil pass0 (pa_cons (pv 0) pa_nil))) (pg_name (i := 5) sc_still_found.nd rfl (.inl rfl))
        (pss_cons (ps_nox (ps_set (i := 6) sc_still_found.nd rfl (.inl rfl) (pe_call (ok_card_at_end T) (hr.mono (by decide)) (by rfl) T.g_card_at_end T.F_card_at_end.kp (b_card_at_end T) .nil pass0 (pa_cons (pv 0) (pa_cons (pv 2) (pa_cons (pv 5) pa_nil))))))
        (pss_one (ps_nox (ps_if (PW.pt (pw_and (pt_cmpR op_notN (pv 6) pe_non (nomark _)) (pw_and1 (pt_cmpR (op_eqB (RcB.or (rcB_ins (eqCard T) (ok_Card_eq T) (b_Card_eq T) false) (rcB_non (eqCard T) T.qu_Card (ok_Card_eq T) (b_Card_eq T))) (hr.mono (by decide))) (pv 6) (pe_call (ok_card_at_end T) (hr.mono (by decide)) (by rfl) T.g_card_at_end T.F_card_at_end.kp (b_card_at_end T) .nil pass0 (pa_cons (pv 3) (pa_cons (pv 2) (pa_cons (pv 5) pa_nil)))) (nomark _))))) (pss_one (ps_nox (ps_expr (pe_bm PySem.F.plainAttrs_list PySem.F.slot_list_append PySem.F.type_list_append mt_append (pv 4) (pa_cons (pv 5) pa_nil))))) pss_nil))))))
      (pss_one (ps_nox (ps_ret (pv 4)))))))), ?_⟩
    obtain ⟨ps, hP, hC⟩ := drawer_p hD
    obtain ⟨qs, hQ, hC2⟩ := drawer_p hE
    have lp := hC.1
    have lq := hC2.1
    refine ⟨_, rfl, _, rfl, p, q, ps, qs, rfl, hP, hQ, by omega, fun b H1 s1 hB => ?_⟩
    have hl1 : cs.length ≤ 16 := by omega
    have D1 := hD.imm s1.imm
    have B1 : DrawerAt K T.c_Drawer T.c_Card H1 b (cs ++ ds) := hB.to (cards_app (hC.imm s1.imm) (hC2.imm s1.imm))
    have hlb : (cs ++ ds).length ≤ 16 := by rw [List.length_append]; omega
    have hGb : ∀ c ∈ cs ++ ds, GoodL c := fun c hc => (List.mem_append.mp hc).elim (hG c) (hG2 c)
    refine ⟨_, rfl, r, rfl, fun hr3 => ?_, fun hr3 => k1 hr3 H1 s1⟩
    refine ⟨Nat.zero_le _, fun lf hlf => ?_⟩
    have s2 := s1.trans (same_new (o := .lst []) hlf)
    have nlf : H lf = none := s1.free hlf
    have e2 : (upd H1 lf (.lst [])) lf = some (.lst ([] : List V)) := upd_same
    have D2 := D1.imm (same_new (o := .lst []) hlf).imm
    have B2 := B1.imm (same_new (o := .lst []) hlf).imm
    generalize upd H1 lf (.lst []) = H2 at *
    refine ⟨_, rfl, p, cs, rfl, D2, hl1, fun c hc => (hG c hc).good.la, fun ks h1 h2 => by have := known_few' hG ks h1 h2; omega, fun lk H3 ys s3 hlk0 hlk hnd hsrt hmem => ?_⟩
    have nlk : lk ≠ lf := fun e => by
      rw [e] at hlk0
      rw [hlk0] at e2
      cases e2
    have hyl := known_few' hG ys hnd fun k hk => (hmem k).mp hk
    have e3 := s3 _ _ e2
    have D3 := D2.imm s3.imm
    have B3 := B2.imm s3.imm
    have s03 := s2.trans s3
    clear D1 B1 D2 B2 e2 s3 hP hQ hC hC2 hB
    refine ⟨lk, rfl, ⟨_, SqL.of hlk⟩, for_list (K := K) (a := lk) (xs := ys.map V.str) (fun i σ H4 => ∃ y5 y6, σ = [some (.ref p), some (.ref q), some (.str r), some (.ref b), some (.ref lf), y5, y6] ∧ But lf H3 H4 ∧ H4 lf = some (.lst (((ys.take i).filter (stillB cs ds r)).map V.str)))
      ⟨_, _, rfl, But.refl, e3⟩ (fun i σ H4 _ ⟨_, _, _, b4, _⟩ => SqL.of (b4 _ _ hlk nlk)) (fun i x σ H4 hi hP => ?_) (fun σ H4 hP => ?_)⟩
    · obtain ⟨y5, y6, rfl, b4, e4⟩ := hP
      rw [List.getElem?_map] at hi
      obtain ⟨y, hy, rfl⟩ := Option.map_eq_some_iff.mp hi
      have im4 : Imm H3 H4 := b4.imm e3 rfl
      have D4 := D3.imm im4
      have B4 := B3.imm im4
      have hstep : ∀ H', Same H4 H' → But lf H3 H' := fun H' s' => b4.same s'
      have fin0 : stillB cs ds r y = false → ∀ H', Same H4 H' → H' lf = some (.lst (((ys.take (i + 1)).filter (stillB cs ds r)).map V.str)) := fun h0 H' s' => by
        rw [List.take_add_one, hy, List.filter_append]
        simp only [Option.toList, List.filter_cons, h0, Bool.false_eq_true, if_false, List.filter_nil, List.append_nil]
        exact s' _ _ e4
      have hlt4 : ((ys.take i).filter (stillB cs ds r)).length ≤ 7 := Nat.le_trans (List.length_filter_le _ _) (by rw [List.length_take]; omega)
      refine ⟨_, rfl, _, rfl, _, rfl, p, cs, r, y, rfl, D4, hl1, fun v H5 s5 hv => ?_⟩
      cases he : endC cs r y with
      | none =>
        rw [he] at hv
        obtain rfl : v = .non := hv
        refine ⟨_, rfl, rfl, _, rfl, iteF (iteF ?_)⟩
        exact ⟨_, _, rfl, hstep _ s5, fin0 (by unfold stillB; rw [he]) _ s5⟩
      | some c =>
        rw [he] at hv
        obtain ⟨qc, rfl, cq⟩ := hv
        refine ⟨_, rfl, rfl, _, rfl, iteT ?_⟩
        refine ⟨_, rfl, _, rfl, _, rfl, _, rfl, b, cs ++ ds, r, y, rfl, B4.imm s5.imm, hlb, fun v2 H6 s6 hv2 => ?_⟩
        have cq6 := cq.same s6
        have hca : ∀ x ∈ c.also, PyData.strOk x = true := fun x hx => w7_strOk x ((hG c (end_mem he)).a x hx)
        cases he2 : endC (cs ++ ds) r y with
        | none =>
          rw [he2] at hv2
          obtain rfl : v2 = .non := hv2
          obtain ⟨dxq, bq, aq, hq6, _⟩ := id cq6
          refine ⟨false, .inr ⟨qc, dxq, _, rfl, rfl, hq6, c, cq6, hca, .inr ⟨rfl, rfl⟩⟩, fun H7 s7 => ⟨_, rfl, iteF ?_⟩⟩
          have s47 := s5.trans (s6.trans s7)
          exact ⟨_, _, rfl, hstep _ s47, fin0 (by unfold stillB; rw [he, he2]) _ s47⟩
        | some d =>
          rw [he2] at hv2
          obtain ⟨qd, rfl, dq⟩ := hv2
          have hda : ∀ x ∈ d.also, PyData.strOk x = true := fun x hx => w7_strOk x ((hGb d (end_mem he2)).a x hx)
          obtain ⟨dxq, bq, aq, hq6, _⟩ := id cq6
          obtain ⟨dyq, bq', aq', hd6, _⟩ := id dq
          refine ⟨cdEq c d, .inl ⟨qc, qd, dxq, dyq, _, _, rfl, rfl, hq6, hd6, c, cq6, hca, .inl ⟨qd, d, rfl, dq, hda, rfl⟩⟩, fun H7 s7 => ⟨_, rfl, ?_⟩⟩
          have s47 := s5.trans (s6.trans s7)
          have hsb : stillB cs ds r y = cdEq c d := by unfold stillB; rw [he, he2]
          have e7 := s47 _ _ e4
          cases hb : cdEq c d with
          | false =>
            refine iteF ?_
            exact ⟨_, _, rfl, hstep _ s47, fin0 (by rw [hsb, hb]) _ s47⟩
          | true =>
            refine iteT ?_
            refine ⟨_, rfl, .inl ⟨rfl, _, SqL.of e7⟩, ?_⟩
            refine ⟨_, rfl, ?_⟩
            refine ⟨lf, _, _, rfl, rfl, e7, sizeLine_of (by rw [List.length_map]; omega), ?_⟩
            refine ⟨_, _, rfl, (hstep _ s47).upd, ?_⟩
            rw [upd_same, List.take_add_one, hy, List.filter_append]
            simp only [Option.toList, List.filter_cons, hsb, hb, if_true, List.filter_nil, List.map_append, List.map_cons, List.map_nil]
    · obtain ⟨y5, y6, rfl, b4, e4⟩ := hP
      rw [List.length_map, List.take_length] at e4
      refine ⟨_, rfl, ?_⟩
      exact k2 hr3 lf H4 (sameOfBut s03 nlf b4)
def spBestX (K : PySem.W.Frag) (D C cR : Addr) : Sp := fun vs H Q E => ∃ (p : Addr) (ps : List Addr) (cs : List CD) (r : Str), vs = [.ref p, .str r] ∧ DrawerP K D H p ps ∧ Cards K C H ps cs ∧ cs.length ≤ 16 ∧ (∀ c ∈ cs, GoodL c) ∧ (r ∉ rules3 → ∀ H', Same H H' → E (.ref cR) none H') ∧ (r ∈ rules3 → ∀ v H', Same H H' → Q v H')
theorem okx_best_split (T : Top K mg) : FnOk P w K mg base (L2.CX P w) 9 T.a_best_split T.fd_best_split ["drawer", "rule"] (spBestX K T.c_Drawer T.c_Card T.c_InvalidRule) := by
  refine T.F_best_split.okX sc_best_split (fun vs H Q E h => ?_) (fun cdv A outer s H vs Q E hr h => ?_)
  · obtain ⟨p, ps, cs, r, rfl, _⟩ := h
    rfl
  · obtain ⟨p, ps, cs, r, rfl, hP, hC, hl, hG, ke, k0⟩ := h
    have hu := hu_of hr
    have hD := hP.to hC
    obtain ⟨dx, t, hp, hT⟩ := id hP
    refine ⟨_, (pss_cons (ps_expr (pe_call (okx_check_rule T) (hr.mono (by decide)) (by rfl) T.g_check_rule T.F_check_rule.kp (b_check_rule T) .nil (passX (fun _ _ _ h => h) rfl rfl rfl rfl) (pa_cons (pv 1) pa_nil)))
      (pss_cons (ps_nox (ps_mid (ps_set (i := 2) sc_best_split.nd rfl (.inl rfl) (pe_slice sl_tupA (pe_prop (pv 0) T.cl_Drawer T.P_Drawer_headings (ok_Drawer_headings T) (hr.mono (by decide)) (b_Drawer_headings T) .nil pass0 rfl) (po_some pe_int) po_none))))
      (pss_cons (ps_nox (ps_if (pt_not (pt_truth (pv 2) (by intro _; rfl))) (pss_one (ps_nox (ps_ret pe_non))) pss_nil))
      (pss_one (ps_nox (ps_ret (pe_ix ix_tup (pe_callB (cr_minP rfl hr.units) (by rfl) T.m_min (by decide +kernel) (pa_cons (pe_lc (own := [("border", 3)]) (g := gName 3) (tt := tYes) rfl sc_best_split.nd (pi_tup (pv 2)) (blkOk_by (N := N_best_split) (sc := defScope s_best_split) (by decide +kernel)) (fun _ _ _ _ _ => (pg_name (i := 3) sc_best_split.nd rfl (.inl rfl))) (fun _ _ _ _ _ => pts_nil) (fun _ _ _ _ _ => (pe_tup (pa_cons (pe_callB (call_len_seqK (K := K) rfl) (by rfl) T.m_len (by decide +kernel) (pa_cons (pe_call (ok_lost_at T) (hr.mono (by decide)) (by rfl) T.g_lost_at T.F_lost_at.kp (b_lost_at T) .nil pass0 (pa_cons (pv 0) (pa_cons (pv 1) (pa_cons (pv 3) pa_nil)))) pa_nil)) (pa_cons (pv 3) pa_nil))))) pa_nil)) pe_int (fun _ _ => rfl)))))))), ?_⟩
    refine ⟨_, rfl, r, rfl, fun hr3 => ?_, fun hr3 => ke hr3 H (Same.refl _)⟩
    have k := fun (hs : List Str) v H' (_ : hs.Nodup) (_ : PyProof.Rows.sortedS hs = true) (_ : ∀ k, k ∈ hs ↔ k ∈ heads cs) (s' : Same H H') (_ : ∀ ys, KnownIn cs ys → v = bestV (lostN cs ys r) (hs.drop 1)) => k0 hr3 v H' s'
    clear k0 ke
    refine ⟨fun σ H2 => ∃ (tb : Addr) (hs : List Str), σ = [some (.ref p), some (.str r), some (.ref tb), none] ∧ hs.Nodup ∧ PyProof.Rows.sortedS hs = true ∧ (∀ k, k ∈ hs ↔ k ∈ heads cs) ∧ Same H H2 ∧ SqT K H2 tb ((hs.map V.str).drop 1), ?_, fun σ H2 hP2 => ?_⟩
    · refine ⟨_, rfl, p, dx, _, rfl, hp, p, cs, rfl, hD, hl, fun th H1 hs s1 hth hnd hsrt hmem => ?_⟩
      refine ⟨_, rfl, th, hs.map V.str, rfl, SqT.of hth, fun hw => ?_, fun _ tb htb => ?_⟩
      · refine ⟨th, hs, rfl, hnd, hsrt, hmem, s1, ?_⟩
        have z2 : min 1 (hs.map V.str).length = 0 := hw.1
        have h0 : hs.map V.str = [] := List.eq_nil_of_length_eq_zero (by omega)
        have e : (hs.map V.str).drop 1 = hs.map V.str := by rw [h0]; rfl
        rw [e]
        exact SqT.of hth
      · refine ⟨tb, hs, rfl, hnd, hsrt, hmem, s1.trans (same_new htb), ?_⟩
        have e : cutV (hs.map V.str) (some 1) none = (hs.map V.str).drop 1 := cut_drop (hs.map V.str) 1
        rw [← e]
        exact SqT.of upd_same
    obtain ⟨tb, hs, rfl, hnd, hsrt, hmem, s02, htb⟩ := hP2
    have hh7 : ∀ x ∈ hs, x ∈ w7 := fun x hx => by
      obtain ⟨c, hc, rfl⟩ := List.mem_map.mp ((hmem x).mp hx)
      exact (hG c hc).h
    have hhl : hs.length ≤ 7 := nodup_leS (ws := w7) hnd hh7
    rw [← List.map_drop] at htb
    have hbl : (hs.drop 1).length ≤ 7 := Nat.le_trans (by rw [List.length_drop]; omega) hhl
    have k' := fun v H' => k hs v H' hnd hsrt hmem
    clear k hmem hsrt hnd hh7 hhl
    generalize hs.drop 1 = bs at *
    refine ⟨_, rfl, !bs.isEmpty, .inr (.inl ⟨_, htb, by cases bs <;> rfl⟩), ?_⟩
    cases hbs : bs with
    | nil =>
      subst hbs
      refine iteT ?_
      exact k' .non H2 s02 fun ys _ => rfl
    | cons b0 rest =>
      refine iteF ?_
      have hne : bs ≠ [] := by rw [hbs]; exact List.cons_ne_nil _ _
      have hD2 := hP.imm s02.imm
      have hC2 := hC.imm s02.imm
      refine ⟨_, rfl, tb, rfl, ⟨_, htb⟩, fun D hD => lc_it (walk_tup (xs := bs.map V.str)) (fun i H' => Same H2 H' ∧ (0 < i → ∃ ys, KnownIn cs ys) ∧ ∃ xs : List V, xs.length = i ∧ H' D = some (.lst xs) ∧ ∀ (j : Nat) x b, xs[j]? = some x → bs[j]? = some b → ∃ n : Int, PairAt K H' x (n, b) ∧ ∀ ys, KnownIn cs ys → n = lostN cs ys r b)
        ⟨same_new hD, (fun h => absurd h (Nat.lt_irrefl 0)), [], rfl, upd_same, fun j x b h _ => nomatch h⟩ (fun i H' _ hP => hP.1.seqT htb) (fun i x H3 H4 hi hP hy => ?_) (fun H3 hP => ?_)⟩
      · obtain ⟨s3, hys, xs, hxl, e3, hx3⟩ := hP
        obtain ⟨rfl, hx⟩ := hy
        rw [List.getElem?_map] at hx
        obtain ⟨b, hb, rfl⟩ := Option.map_eq_some_iff.mp hx
        have hil : i < bs.length := (List.getElem?_eq_some_iff.mp hb).1
        refine ⟨rfl, tYes_of ?_⟩
        refine ⟨_, rfl, _, rfl, _, rfl, p, ps, cs, r, b, rfl, hD2.imm s3.imm, hC2.imm s3.imm, hl, hG, fun l H5 ys s5 hnd hsrt hmem hl5 => ?_⟩
        refine ⟨l, _, rfl, .inl (SqL.of hl5), ?_⟩
        refine ⟨_, rfl, by show 2 ≤ sizeLine; decide, fun tp htp => ?_⟩
        have s6 := same_new (o := .tup [.int (((ys.filter (lostB cs b r)).map V.str).length : Nat), .str b]) htp
        have s36 := s5.trans s6
        refine ⟨xs, s36 _ _ e3, sizeLine_of (by omega), same_mut (s3.trans s36) hD, fun _ => ⟨ys, hnd, hsrt, hmem⟩, xs ++ [.ref tp], by rw [List.length_append, hxl]; rfl, upd_same, fun j x b' h1 h2 => ?_⟩
        have im6 := (Imm.refl (H := upd H5 tp (.tup [.int (((ys.filter (lostB cs b r)).map V.str).length : Nat), .str b]))).mut (s36 _ _ e3) (o' := .lst (xs ++ [.ref tp])) rfl
        by_cases hj : j < xs.length
        · rw [List.getElem?_append_left hj] at h1
          obtain ⟨n, ⟨a, ea, ha⟩, hn⟩ := hx3 j x b' h1 h2
          exact ⟨n, ⟨a, ea, im6.seqT (s36.seqT ha)⟩, hn⟩
        · have hjl := (List.getElem?_eq_some_iff.mp h1).1
          rw [List.length_append, List.length_singleton] at hjl
          obtain rfl : j = xs.length := by omega
          rw [List.getElem?_append_right (Nat.le_refl _), Nat.sub_self] at h1
          obtain rfl : V.ref tp = x := Option.some.inj h1
          rw [hxl, hb] at h2
          obtain rfl : b = b' := Option.some.inj h2
          refine ⟨_, ⟨tp, rfl, im6.seqT (SqT.of upd_same)⟩, fun ys' hk => ?_⟩
          obtain rfl : ys' = ys := sorted_same hk.2.1 hsrt hk.1 hnd fun k => by rw [hk.2.2, hmem]
          unfold lostN
          rw [List.length_map]
      · obtain ⟨s3, hys, xs, hxl, e3, hx3⟩ := hP
        rw [List.length_map] at hxl hys
        obtain ⟨ys, hk⟩ := hys (List.length_pos_iff.mpr hne)
        have hx4 : ∀ (j : Nat) x b, xs[j]? = some x → bs[j]? = some b → PairAt K H3 x (lostN cs ys r b, b) := fun j x b h1 h2 => by
          obtain ⟨n, ha, hn⟩ := hx3 j x b h1 h2
          rw [← hn ys hk]
          exact ha
        subst hbs
        refine ⟨D, xs, (lostN cs ys r b0, b0), rest.map (fun b => (lostN cs ys r b, b)), rfl, SqL.of e3, by rw [hxl, List.length_map]; rfl, fun j x q h1 h2 => ?_, fun v hv hp => ?_⟩
        · have h3 : ((b0 :: rest).map fun b => (lostN cs ys r b, b))[j]? = some q := h2
          rw [List.getElem?_map] at h3
          obtain ⟨b, hb, rfl⟩ := Option.map_eq_some_iff.mp h3
          exact hx4 j x b h1 hb
        · obtain ⟨a, rfl, ha⟩ := hp
          refine ⟨a, _, ((1 : Nat) : Int), _, rfl, rfl, ha, atI_nat rfl, ?_⟩
          refine k' _ H3 (s02.trans s3) fun ys' hk' => ?_
          obtain rfl : ys' = ys := sorted_same hk'.2.1 hk.2.1 hk'.1 hk.1 fun k => by rw [hk'.2.2, hk.2.2]
          rfl
def spSplitX (K : PySem.W.Frag) (D C cH : Addr) : Sp := fun vs H Q E => ∃ (p : Addr) (ps : List Addr) (cs : List CD) (b : Str), vs = [.ref p, .str b] ∧ b.length ≤ 1000 ∧ DrawerP K D H p ps ∧ Cards K C H ps cs ∧ cs.length ≤ 16 ∧ (isWord b = false → ∀ H', Same H H' → E (.ref cH) none H') ∧ (isWord b = true → ∀ v H', Same H H' → Q v H')
theorem okx_split (T : Top K mg) : FnOk P w K mg base (L2.CX P w) 5 T.a_split T.fd_split ["drawer", "heading"] (spSplitX K T.c_Drawer T.c_Card T.c_InvalidHeading) := by
  refine T.F_split.okX sc_split (fun vs H Q E h => ?_) (fun cdv A outer s H vs Q E hr h => ?_)
  · obtain ⟨p, ps, cs, b, rfl, _⟩ := h
    rfl
  · obtain ⟨p, ps, cs, b, rfl, hbl, hP, hC, hl, ke, k⟩ := h
    have hu := hu_of hr
    refine ⟨_, (pss_cons (ps_expr (pe_call (okx_check_heading T) (hr.mono (by decide)) (by rfl) T.g_check_heading T.F_check_heading.kp (b_check_heading T) .nil (passX (fun _ _ _ h => h) rfl rfl rfl rfl) (pa_cons (pv 1) pa_nil)))
      (pss_one (ps_nox (ps_ret (pe_call (ok_parts_at T) (hr.mono (by decide)) (by rfl) T.g_parts_at T.F_parts_at.kp (b_parts_at T) .nil pass0 (pa_cons (pv 0) (pa_cons (pv 1) pa_nil))))))), ?_⟩
    refine ⟨_, rfl, b, rfl, hbl, fun H1 s1 => ⟨fun hw => ?_, fun hw => ke hw H1 s1⟩⟩
    exact ⟨_, rfl, _, rfl, p, ps, cs, b, rfl, hP.imm s1.imm, hC.imm s1.imm, hl, fun u a1 a2 H2 s2 hu2 q1 q2 => k hw _ H2 (s1.trans s2)⟩
def spLostX (K : PySem.W.Frag) (D C cR cH : Addr) : Sp := fun vs H Q E => ∃ (p : Addr) (ps : List Addr) (cs : List CD) (r b : Str), vs = [.ref p, .str r, .str b] ∧ b.length ≤ 1000 ∧ DrawerP K D H p ps ∧ Cards K C H ps cs ∧ cs.length ≤ 16 ∧ (∀ c ∈ cs, GoodL c) ∧ (r ∉ rules3 → ∀ H', Same H H' → E (.ref cR) none H') ∧ (r ∈ rules3 → isWord b = false → ∀ H', Same H H' → E (.ref cH) none H') ∧ (r ∈ rules3 → isWord b = true → ∀ v H', Same H H' → Q v H')
theorem okx_lost_by_split (T : Top K mg) : FnOk P w K mg base (L2.CX P w) 8 T.a_lost_by_split T.fd_lost_by_split ["drawer", "rule", "heading"] (spLostX K T.c_Drawer T.c_Card T.c_InvalidRule T.c_InvalidHeading) := by
  refine T.F_lost_by_split.okX sc_lost_by_split (fun vs H Q E h => ?_) (fun cdv A outer s H vs Q E hr h => ?_)
  · obtain ⟨p, ps, cs, r, b, rfl, _⟩ := h
    rfl
  · obtain ⟨p, ps, cs, r, b, rfl, hbl, hP, hC, hl, hG, k1, k2, k3⟩ := h
    have hu := hu_of hr
    refine ⟨_, (pss_cons (ps_expr (pe_call (okx_check_rule T) (hr.mono (by decide)) (by rfl) T.g_check_rule T.F_check_rule.kp (b_check_rule T) .nil (passX (fun _ _ _ h => h) rfl rfl rfl rfl) (pa_cons (pv 1) pa_nil)))
      (pss_cons (ps_expr (pe_call (okx_check_heading T) (hr.mono (by decide)) (by rfl) T.g_check_heading T.F_check_heading.kp (b_check_heading T) .nil (passX (fun _ _ _ h => h) rfl rfl rfl rfl) (pa_cons (pv 2) pa_nil)))
      (pss_one (ps_nox (ps_ret (pe_call (ok_lost_at T) (hr.mono (by decide)) (by rfl) T.g_lost_at T.F_lost_at.kp (b_lost_at T) .nil pass0 (pa_cons (pv 0) (pa_cons (pv 1) (pa_cons (pv 2) pa_nil))))))))), ?_⟩
    refine ⟨_, rfl, r, rfl, fun hr3 => ?_, fun hr3 => k1 hr3 H (Same.refl _)⟩
    refine ⟨_, rfl, b, rfl, hbl, fun H1 s1 => ⟨fun hw => ?_, fun hw => k2 hr3 hw H1 s1⟩⟩
    exact ⟨_, rfl, _, rfl, _, rfl, p, ps, cs, r, b, rfl, hP.imm s1.imm, hC.imm s1.imm, hl, hG, fun l H2 ys s2 h1 h2 h3 h4 => k3 hr3 hw _ H2 (s1.trans s2)⟩
end
section
local macro_rules | `(tactic| walk_at "sl") => `(tactic| first | assumption | exact SqL.of upd_same | exact SqL.of (by assumption) | ((with_reducible apply sql_upd); (walk_at "sl"); (first | assumption | exact Ne.symm (by assumption))))
local macro_rules | `(tactic| walk_at "st") => `(tactic| first | assumption | exact SqT.of upd_same | exact SqT.of (by assumption))
local macro_rules | `(tactic| walk_at "sc") => `(tactic| first | rfl | assumption | (show (0 : Int) < _; first | assumption | decide | omega) | exact Or.inl ⟨by omega, by omega⟩ | exact Or.inr ⟨by omega, by omega⟩ | exact ⟨by decide, by decide⟩ | exact ⟨by decide, by decide, by decide⟩)
local macro_rules | `(tactic| walk_at "g1") => `(tactic| first
  | refine ⟨(_ : V), rfl, ?_⟩
  | refine ⟨(_ : Bool), rfl, ?_⟩
  | refine ⟨(_ : Int), (_ : Int), rfl, rfl, ?_⟩
  | refine ⟨(_ : Int), rfl, ?_⟩
  | refine ⟨(_ : Str), rfl, ?_⟩
  | refine ⟨(_ : Addr), (_ : List V), rfl, Or.inl (by walk_at "sl"), ?_⟩
  | refine ⟨(_ : Addr), (_ : List V), rfl, Or.inr (by walk_at "st"), ?_⟩
  | refine ⟨(_ : Addr), (_ : List V), (_ : Int), (_ : V), rfl, rfl, (by walk_at "sl"), (by first | rfl | assumption), ?_⟩
  | refine ⟨(_ : Addr), (_ : List V), (_ : Int), (_ : V), rfl, rfl, (by walk_at "st"), (by first | rfl | assumption), ?_⟩
  | refine ⟨(_ : Addr), (_ : List V), (_ : Int), (_ : Nat), rfl, rfl, upd_same, rfl, ?_⟩
  | refine ⟨(_ : Addr), (_ : List V), (_ : Int), (_ : Nat), rfl, rfl, (by assumption), rfl, ?_⟩
  | refine ⟨(_ : Addr), (_ : Addr), (_ : Addr), (_ : List (Str × V)), (_ : V), rfl, (by assumption), (by assumption), (by assumption), (by first | assumption | rfl), ?_⟩
  | refine Or.inl ⟨(_ : Int), rfl, ?_⟩
  | refine And.intro (by walk_at "sc") ?_
  | refine iteT ?_
  | refine iteF ?_)
/-! ### numbers, tallies, or their errors -/
def spNumX (cN : Addr) : Sp := fun vs H Q E => ∃ (v : V) (a b : Int), vs = [v, .int a, .int b] ∧ itemV v = true ∧ (isNumV v a b = true → Q .non H) ∧ (isNumV v a b = false → E (.ref cN) none H)
theorem okx_check_number (T : Top K mg) : FnOk P w K mg base (L2.CX P w) 2 T.a_check_number T.fd_check_number ["number", "least", "greatest"] (spNumX T.c_InvalidNumber) := by
  refine T.F_check_number.okX sc_check_number (fun vs H Q E h => ?_) (fun cdv A outer s H vs Q E hr h => ?_)
  · obtain ⟨v, a, b, rfl, _⟩ := h
    rfl
  · obtain ⟨v, a, b, rfl, hv, k1, k2⟩ := h
    have hu := hu_of hr
    refine ⟨_, (pss_one (ps_if (pt_not (pt_val (pe_call (okv_is_number T) (hr.mono (by decide)) (by rfl) T.g_is_number T.F_is_number.kp (b_is_number T) .nil pass0 (pa_cons (pv 0) (pa_cons (pv 1) (pa_cons (pv 2) pa_nil)))))) (pss_one (ps_err ⟨T.xe_InvalidNumber, T.xk_InvalidNumber, T.xs_InvalidNumber, T.xt_InvalidNumber⟩ T.g_InvalidNumber (by rfl) rfl rfl rfl rfl rfl)) pss_nil)), ?_⟩
    refine ⟨_, rfl, _, rfl, _, rfl, v, a, b, rfl, hv, ⟨_, rfl, ?_⟩⟩
    by_cases hn : isNumV v a b = true
    · rw [hn]
      exact iteF (k1 hn)
    · rw [Bool.eq_false_iff.mpr hn]
      exact iteT (k2 (Bool.eq_false_iff.mpr hn))
def firstBad (ps : List (Str × Int)) : Option Nat := ps.findIdx? fun p => !isWord p.1
theorem first_none {ps : List (Str × Int)} (h : firstBad ps = none) : ∀ p ∈ ps, isWord p.1 = true := fun p hp => by
  have := List.findIdx?_eq_none_iff.mp h p hp
  simpa using this
theorem first_at {ps : List (Str × Int)} {i : Nat} {p : Str × Int} (hp : ps[i]? = some p) (hb : isWord p.1 = false) (ha : ∀ j q, j < i → ps[j]? = some q → isWord q.1 = true) : firstBad ps = some i := by
  unfold firstBad
  rw [List.findIdx?_eq_some_iff_getElem]
  obtain ⟨hi, e⟩ := List.getElem?_eq_some_iff.mp hp
  refine ⟨hi, by rw [e, hb]; rfl, fun j hj => ?_⟩
  have := ha j ps[j] hj (List.getElem?_eq_getElem (by omega))
  rw [this]
  decide
def spFirstW (K : PySem.W.Frag) : Sp := fun vs H Q _ => ∃ (a : Addr) (ps : List (Str × Int)), vs = [.ref a] ∧ CountsAt K H a ps ∧ ps.length ≤ 1000 ∧ (∀ p ∈ ps, p.1.length ≤ 1000) ∧ ∀ H', Same H H' → Q (onV (firstBad ps)) H'
theorem ok_first_without_word (T : Top K mg) : FnOk P w K mg base CX0 2 T.a_first_without_word T.fd_first_without_word ["rows"] (spFirstW K) := by
  refine T.F_first_without_word.ok sc_first_without_word (fun vs H Q E h => ?_) (fun cdv A outer s H vs Q E hr h => ?_)
  · obtain ⟨a, ps, rfl, _⟩ := h
    rfl
  · obtain ⟨a, ps, rfl, ⟨qs, hL, hql, hq⟩, hl, hw, k⟩ := h
    have hu := hu_of hr
    refine ⟨_, (pss_cons (ps_for PassesOwn.never rfl (pi_enum (by rfl) T.m_enumerate (pa_cons (pv 0) pa_nil)) (pg_tup rfl (pgs_cons (pg_name (i := 1) sc_first_without_word.nd rfl (.inl rfl)) (pgs_cons (pg_name (i := 2) sc_first_without_word.nd rfl (.inl rfl)) pgs_nil)))
        (pss_one (ps_if (pt_not (pt_val (pe_call (ok_is_word T) (hr.mono (by decide)) (by rfl) T.g_is_word T.F_is_word.kp (b_is_word T) .nil pass0 (pa_cons (pe_ix ix_tup (pv 2) pe_int (fun _ _ => rfl)) pa_nil)))) (pss_one (ps_ret (pv 1))) pss_nil)))
      (pss_one (ps_ret pe_non))), ?_⟩
    refine ⟨_, rfl, a, _, rfl, hL, for_enum (K := K) (a := a) (xs := qs.map V.ref) (fun i σ H1 => ∃ y1 y2, σ = [some (.ref a), y1, y2] ∧ Same H H1 ∧ ∀ j q, j < i → ps[j]? = some q → isWord q.1 = true) ⟨none, none, rfl, Same.refl _, fun j q h => absurd h (Nat.not_lt_zero j)⟩ (fun i σ H1 _ ⟨_, _, _, s1, _⟩ => s1.seq hL) (fun i x Tp σ H1 hi hP hT => ?_) (fun σ H1 hP => ?_)⟩
    · obtain ⟨y1, y2, rfl, s1, hj⟩ := hP
      rw [List.getElem?_map] at hi
      obtain ⟨q, hqi, rfl⟩ := Option.map_eq_some_iff.mp hi
      have hil : i < ps.length := by
        rw [← hql]
        exact (List.getElem?_eq_some_iff.mp hqi).1
      have hpi := List.getElem?_eq_getElem hil
      have hm := hw _ (List.mem_of_getElem? hpi)
      have t1 := hq i q _ hqi hpi
      generalize ps[i] = p at *
      have s2 := s1.trans (same_new (o := .tup [.int (i : Nat), .ref q]) hT)
      refine ⟨Tp, _, rfl, SqT.of upd_same, rfl, _, _, rfl, _, _, rfl, rfl, ?_⟩
      generalize upd H1 Tp (.tup [.int (i : Nat), .ref q]) = H2 at *
      refine ⟨_, rfl, q, _, 0, _, rfl, rfl, s2.seqT t1, rfl, p.1, rfl, hm, fun H3 s3 => ⟨_, rfl, ?_⟩⟩
      by_cases hb : isWord p.1 = true
      · rw [hb]
        refine iteF ?_
        refine ⟨_, _, rfl, s2.trans s3, fun j q hji hjq => ?_⟩
        by_cases e : j = i
        · subst e
          rw [hpi] at hjq
          cases hjq
          exact hb
        · exact hj j q (by omega) hjq
      · have hb' := Bool.eq_false_iff.mpr hb
        rw [hb']
        refine iteT ?_
        have := k H3 (s2.trans s3)
        rw [first_at hpi hb' hj] at this
        exact ⟨_, rfl, this⟩
    · obtain ⟨y1, y2, rfl, s1, hj⟩ := hP
      have e : firstBad ps = none := List.findIdx?_eq_none_iff.mpr fun p hp => by
        obtain ⟨j, hjp⟩ := List.mem_iff_getElem?.mp hp
        have hjl : j < (qs.map V.ref).length := by rw [List.length_map, hql]; exact (List.getElem?_eq_some_iff.mp hjp).1
        rw [hj j p hjl hjp]
        rfl
      have := k H1 s1
      rw [e] at this
      exact this
/-! #### InvalidTally.__init__ -/
def talS : Str := "wrong item of a tally: "
theorem tal_len : talS.length = 23 := by decide +kernel
def strN (p : Nat) : Str := toString ((p : Nat) : Int)
theorem strN_len : ∀ p < 500, (strN p).length ≤ 3 := by decide +kernel
theorem logN : ∀ p < 500, (((p : Nat) : Int)).natAbs.log2 < 1920 := by decide +kernel
def xdI (o : Nat) : List (Str × V) := [("index", .int (o : Nat))]
def spInitT (C : Addr) : Sp := fun vs H Q _ => ∃ (a : Addr) (o : Nat), vs = [.ref a, .int (o : Nat)] ∧ o < 500 ∧ H a = some (exo a C none) ∧ ∀ dx, H dx = none → dx ≠ a → Q .non (upd (upd H dx (exd dx (xdI o))) a (exo a C (some dx)))
theorem ok_InvalidTally_init (T : Top K mg) : FnOk P w K mg base CX0 1 T.a_InvalidTally_init T.fd_InvalidTally_init ["self", "index"] (spInitT T.c_InvalidTally) := by
  refine T.F_InvalidTally_init.ok sc_InvalidTally_init (fun vs H Q E h => ?_) (fun cdv A outer s H vs Q E hr h => ?_)
  · obtain ⟨a, o, rfl, _⟩ := h
    rfl
  · obtain ⟨a, o, rfl, ho, ha, k⟩ := h
    have hu := hu_of hr
    refine ⟨_, (pss_cons (ps_expr (pe_binit ⟨T.bg_SeeError, T.br_SeeError, T.bv_SeeError⟩ (by rfl) T.g_SeeError (pa_cons (pv 0) (pa_cons (pe_joined (PJ.cons pe_str (PJ.cons (pe_fmt (pv 1)) PJ.nil))) pa_nil))))
      (pss_one (ps_ost (pv 0) (pv 1)))), ?_⟩
    have l1 := strN_len o ho
    refine ⟨_, rfl, talS, rfl, Nat.le_of_lt (sizeLine_of (by rw [PySem.Str.length_append, tal_len]; show 0 + _ ≤ _; omega)), ?_⟩
    rw [fstr_empty]
    refine ⟨_, rfl, .inr ⟨_, rfl, logN o ho, strN o, rfl, Nat.le_of_lt (sizeLine_of (by rw [PySem.Str.length_append, tal_len]; omega)), ?_⟩⟩
    refine ⟨a, T.c_InvalidTally, _, rfl, by show 1 ≤ 1000; decide, T.ox_InvalidTally, ha, ?_⟩
    refine ⟨_, rfl, _, rfl, a, T.c_InvalidTally, rfl, T.ox_InvalidTally, T.nf_InvalidTally_index, .inl ⟨ha, fun dx hdx hne => ?_⟩⟩
    exact k dx hdx hne
def spTallyX (K : PySem.W.Frag) (cT : Addr) : Sp := fun vs H Q E => ∃ (a : Addr) (ps : List (Str × Int)), vs = [.ref a] ∧ CountsAt K H a ps ∧ ps.length ≤ 400 ∧ (∀ p ∈ ps, p.1.length ≤ 1000) ∧ (firstBad ps = none → ∀ H', Same H H' → Q .non H') ∧ (∀ i, firstBad ps = some i → ∀ H' dd, Same H H' → H' dd = some (.xd (xdI i)) → E (.ref cT) (some dd) H')
theorem okx_check_tally (T : Top K mg) : FnOk P w K mg base (L2.CX P w) 3 T.a_check_tally T.fd_check_tally ["tally"] (spTallyX K T.c_InvalidTally) := by
  refine T.F_check_tally.okX sc_check_tally (fun vs H Q E h => ?_) (fun cdv A outer s H vs Q E hr h => ?_)
  · obtain ⟨a, ps, rfl, _⟩ := h
    rfl
  · obtain ⟨a, ps, rfl, hC, hl, hw, k1, k2⟩ := h
    have hu := hu_of hr
    refine ⟨_, (pss_cons (ps_nox (ps_set (i := 1) sc_check_tally.nd rfl (.inl rfl) (pe_call (ok_first_without_word T) (hr.mono (by decide)) (by rfl) T.g_first_without_word T.F_first_without_word.kp (b_first_without_word T) .nil pass0 (pa_cons (pv 0) pa_nil))))
      (pss_one (ps_if (pt_cmpR op_notN (pv 1) pe_non (nomark _)) (pss_one (ps_errO T.ox_InvalidTally T.oi_InvalidTally T.ot_InvalidTally (ok_InvalidTally_init T) (hr.mono (by decide)) (b_InvalidTally_init T) .nil pass0 T.g_InvalidTally (by rfl) (pa_cons (pv 1) pa_nil) rfl rfl rfl rfl rfl)) pss_nil))), ?_⟩
    refine ⟨_, rfl, a, ps, rfl, hC, by omega, hw, fun H1 s1 => ?_⟩
    cases hf : firstBad ps with
    | none =>
      refine ⟨_, rfl, rfl, _, rfl, iteF ?_⟩
      exact k1 hf H1 s1
    | some i =>
      have hil : i < ps.length := by
        unfold firstBad at hf
        obtain ⟨h, _⟩ := List.findIdx?_eq_some_iff_getElem.mp hf
        exact h
      refine ⟨_, rfl, rfl, _, rfl, iteT ?_⟩
      refine ⟨_, rfl, by show 1 ≤ 1000; decide, fun a' ha' => ⟨a', i, rfl, by omega, upd_same, fun dx' hdx hne => ⟨rfl, dx', _, upd_same, by rw [upd_ne hne, upd_same], by rw [upd_ne hne] at hdx; exact hdx, ?_⟩⟩⟩
      rw [upd_ne hne] at hdx
      obtain ⟨H', e, s', hd⟩ := xd_same (C := T.c_InvalidTally) (f := "index") (v := .int ((i : Nat) : Int)) ha' hdx hne
      have := k2 i hf H' dx' (s1.trans s') hd
      rw [e] at this
      exact this
end
section
local macro_rules | `(tactic| walk_at "sl") => `(tactic| first | assumption | exact SqL.of upd_same | exact SqL.of (by assumption) | ((with_reducible apply sql_upd); (walk_at "sl"); (first | assumption | exact Ne.symm (by assumption))))
local macro_rules | `(tactic| walk_at "st") => `(tactic| first | assumption | exact SqT.of upd_same | exact SqT.of (by assumption))
local macro_rules | `(tactic| walk_at "sc") => `(tactic| first | rfl | assumption | (show (0 : Int) < _; first | assumption | decide | omega) | exact Or.inl ⟨by omega, by omega⟩ | exact Or.inr ⟨by omega, by omega⟩ | exact ⟨by decide, by decide⟩ | exact ⟨by decide, by decide, by decide⟩)
local macro_rules | `(tactic| walk_at "g1") => `(tactic| first
  | refine ⟨(_ : V), rfl, ?_⟩
  | refine ⟨(_ : Bool), rfl, ?_⟩
  | refine ⟨(_ : Int), (_ : Int), rfl, rfl, ?_⟩
  | refine ⟨(_ : Int), rfl, ?_⟩
  | refine ⟨(_ : Str), rfl, ?_⟩
  | refine ⟨(_ : Addr), (_ : List V), rfl, Or.inl (by walk_at "sl"), ?_⟩
  | refine ⟨(_ : Addr), (_ : List V), rfl, Or.inr (by walk_at "st"), ?_⟩
  | refine ⟨(_ : Addr), (_ : List V), (_ : Int), (_ : V), rfl, rfl, (by walk_at "sl"), (by first | rfl | assumption), ?_⟩
  | refine ⟨(_ : Addr), (_ : List V), (_ : Int), (_ : V), rfl, rfl, (by walk_at "st"), (by first | rfl | assumption), ?_⟩
  | refine ⟨(_ : Addr), (_ : List V), (_ : Int), (_ : Nat), rfl, rfl, upd_same, rfl, ?_⟩
  | refine ⟨(_ : Addr), (_ : List V), (_ : Int), (_ : Nat), rfl, rfl, (by assumption), rfl, ?_⟩
  | refine ⟨(_ : Addr), (_ : Addr), (_ : Addr), (_ : List (Str × V)), (_ : V), rfl, (by assumption), (by assumption), (by assumption), (by first | assumption | rfl), ?_⟩
  | refine Or.inl ⟨(_ : Int), rfl, ?_⟩
  | refine And.intro (by walk_at "sc") ?_
  | refine iteT ?_
  | refine iteF ?_)
/-! ### orders of cards; a request -/
theorem cut_lo (xs : List V) (m : Nat) : cutV xs (some ((m : Nat) : Int)) none = xs.drop m := by
  unfold cutV
  rw [HT.sIx_nat, HT.sIx_none]
  by_cases h : m ≤ xs.length
  · rw [Nat.min_eq_left h, List.take_of_length_le (by rw [List.length_drop]; omega)]
  · rw [Nat.min_eq_right (by omega), List.drop_eq_nil_of_le (Nat.le_refl _), List.drop_eq_nil_of_le (by omega), List.take_nil]
theorem slA_toT {a : Addr} {xs : List V} {lo hi : Option Int} {H : Hp} {Q : VK} (h : H a = some (.tup xs)) (k : ∀ (p : Addr) (H' : Hp), Same H H' → H' p = some (.tup (cutV xs lo hi)) → Q (.ref p) H') : rSlA K (.ref a) lo hi H Q := by
  refine ⟨a, xs, rfl, SqT.of h, fun e => ?_, fun _ p hp => k p _ (same_new hp) upd_same⟩
  refine k a H (Same.refl _) ?_
  unfold cutV
  rw [e.1, e.2, List.drop_zero, Nat.sub_zero, List.take_length]
  exact h
theorem np_to {σ : L2.St} {H : Hp} {R : Option Int → Hp → Prop} (h : R none H) : tNoPart σ H R := h
def intV (k : Nat) : V := .int ((k : Nat) : Int)
/-- an order of cards stands at t -/
def TupO (H : Hp) (t : Addr) (o : List Nat) : Prop := H t = some (.tup (o.map intV))
def frontN (o : List Nat) (i : Nat) : List Nat := [o[i]?.getD 0] ++ o.take i ++ o.drop (i + 1)
theorem front_len {o : List Nat} {i : Nat} (h : i < o.length) : (frontN o i).length = o.length := by
  unfold frontN
  rw [List.length_append, List.length_append, List.length_take, List.length_drop]
  show 1 + _ + _ = _
  omega
theorem front_mem {o : List Nat} {i k : Nat} (h : i < o.length) (hk : k ∈ frontN o i) : k ∈ o := by
  unfold frontN at hk
  rcases List.mem_append.mp hk with hk | hk
  · rcases List.mem_append.mp hk with hk | hk
    · rw [List.mem_singleton.mp hk, List.getElem?_eq_getElem h]
      exact List.getElem_mem h
    · exact List.mem_of_mem_take hk
  · exact List.mem_of_mem_drop hk
def rowBy (ws : List Str) (o : List Nat) : List Str := o.map fun k => ws[k]?.getD ""
/-- a request: the order behind it, how many looks -/
def req (ws : List Str) (r : Str) (o : List Nat) (h : Str) : List Nat × Nat :=
  (match (seekOf (rowBy ws o) r h).1 with | none => o | some i => frontN o i, (seekOf (rowBy ws o) r h).2.length)
structure OrdOk (n : Nat) (o : List Nat) : Prop where
  l : o.length = n
  m : ∀ k ∈ o, k < n
theorem req_ok {ws : List Str} {r h : Str} {o : List Nat} {n : Nat} (g : OrdOk n o) : OrdOk n (req ws r o h).1 := by
  unfold req
  cases e : (seekOf (rowBy ws o) r h).1 with
  | none => exact g
  | some i =>
    have hs := seek_sound e
    have hi := (List.getElem?_eq_some_iff.mp hs).1
    unfold rowBy at hi
    rw [List.length_map] at hi
    exact ⟨(front_len hi).trans g.l, fun k hk => g.m k (front_mem hi hk)⟩
/-- an order and a number, a tuple -/
def OrdNum (K : PySem.W.Frag) (H : Hp) (p : Addr) (x : List Nat × Nat) : Prop := ∃ t, SqT K H p [.ref t, .int (x.2 : Nat)] ∧ TupO H t x.1
end
section
local macro_rules | `(tactic| walk_at "sl") => `(tactic| first | assumption | exact SqL.of upd_same | exact SqL.of (by assumption) | ((with_reducible apply sql_upd); (walk_at "sl"); (first | assumption | exact Ne.symm (by assumption))))
local macro_rules | `(tactic| walk_at "st") => `(tactic| first | assumption | exact SqT.of upd_same | exact SqT.of (by assumption))
local macro_rules | `(tactic| walk_at "sc") => `(tactic| first | rfl | assumption | (show (0 : Int) < _; first | assumption | decide | omega) | exact Or.inl ⟨by omega, by omega⟩ | exact Or.inr ⟨by omega, by omega⟩ | exact ⟨by decide, by decide⟩ | exact ⟨by decide, by decide, by decide⟩)
local macro_rules | `(tactic| walk_at "g1") => `(tactic| first
  | refine ⟨(_ : V), rfl, ?_⟩
  | refine ⟨(_ : Bool), rfl, ?_⟩
  | refine ⟨(_ : Int), (_ : Int), rfl, rfl, ?_⟩
  | refine ⟨(_ : Int), rfl, ?_⟩
  | refine ⟨(_ : Str), rfl, ?_⟩
  | refine ⟨(_ : Addr), (_ : List V), rfl, Or.inl (by walk_at "sl"), ?_⟩
  | refine ⟨(_ : Addr), (_ : List V), rfl, Or.inr (by walk_at "st"), ?_⟩
  | refine ⟨(_ : Addr), (_ : List V), (_ : Int), (_ : V), rfl, rfl, (by walk_at "sl"), (by first | rfl | assumption), ?_⟩
  | refine ⟨(_ : Addr), (_ : List V), (_ : Int), (_ : V), rfl, rfl, (by walk_at "st"), (by first | rfl | assumption), ?_⟩
  | refine ⟨(_ : Addr), (_ : List V), (_ : Int), (_ : Nat), rfl, rfl, upd_same, rfl, ?_⟩
  | refine ⟨(_ : Addr), (_ : List V), (_ : Int), (_ : Nat), rfl, rfl, (by assumption), rfl, ?_⟩
  | refine ⟨(_ : Addr), (_ : Addr), (_ : Addr), (_ : List (Str × V)), (_ : V), rfl, (by assumption), (by assumption), (by assumption), (by first | assumption | rfl), ?_⟩
  | refine Or.inl ⟨(_ : Int), rfl, ?_⟩
  | refine And.intro (by walk_at "sc") ?_
  | refine iteT ?_
  | refine iteF ?_)
/-! ### many requests; drawers by orders -/
theorem range_ok (n : Nat) : OrdOk n (List.range n) := ⟨List.length_range, fun k hk => List.mem_range.mp hk⟩
/-- the cards by an order -/
def cardsBy (cs : List CD) (o : List Nat) : List CD := o.filterMap fun k => cs[k]?
theorem cardsBy_len {cs : List CD} : ∀ {o : List Nat}, (∀ k ∈ o, k < cs.length) → (cardsBy cs o).length = o.length
  | [], _ => rfl
  | k :: o, h => by
    have hk0 := h k (.head _)
    have hk : cs[k]? = some cs[k] := List.getElem?_eq_getElem hk0
    unfold cardsBy
    rw [List.filterMap_cons, hk]
    show (cardsBy cs o).length + 1 = _
    rw [cardsBy_len fun x hx => h x (.tail _ hx)]
    rfl
theorem none_back {H H' : Hp} (s : Same H H') {q : Addr} (h : H' q = none) : H q = none := by
  cases z : H q with
  | none => rfl
  | some o =>
    rw [s _ _ z] at h
    cases h
theorem heads_len (cs : List CD) : (heads cs).length = cs.length := List.length_map _
end
section
local macro_rules | `(tactic| walk_at "sl") => `(tactic| first | assumption | exact SqL.of upd_same | exact SqL.of (by assumption) | ((with_reducible apply sql_upd); (walk_at "sl"); (first | assumption | exact Ne.symm (by assumption))))
local macro_rules | `(tactic| walk_at "st") => `(tactic| first | assumption | exact SqT.of upd_same | exact SqT.of (by assumption))
local macro_rules | `(tactic| walk_at "sc") => `(tactic| first | rfl | assumption | (show (0 : Int) < _; first | assumption | decide | omega) | exact Or.inl ⟨by omega, by omega⟩ | exact Or.inr ⟨by omega, by omega⟩ | exact ⟨by decide, by decide⟩ | exact ⟨by decide, by decide, by decide⟩)
local macro_rules | `(tactic| walk_at "g1") => `(tactic| first
  | refine ⟨(_ : V), rfl, ?_⟩
  | refine ⟨(_ : Bool), rfl, ?_⟩
  | refine ⟨(_ : Int), (_ : Int), rfl, rfl, ?_⟩
  | refine ⟨(_ : Int), rfl, ?_⟩
  | refine ⟨(_ : Str), rfl, ?_⟩
  | refine ⟨(_ : Addr), (_ : List V), rfl, Or.inl (by walk_at "sl"), ?_⟩
  | refine ⟨(_ : Addr), (_ : List V), rfl, Or.inr (by walk_at "st"), ?_⟩
  | refine ⟨(_ : Addr), (_ : List V), (_ : Int), (_ : V), rfl, rfl, (by walk_at "sl"), (by first | rfl | assumption), ?_⟩
  | refine ⟨(_ : Addr), (_ : List V), (_ : Int), (_ : V), rfl, rfl, (by walk_at "st"), (by first | rfl | assumption), ?_⟩
  | refine ⟨(_ : Addr), (_ : List V), (_ : Int), (_ : Nat), rfl, rfl, upd_same, rfl, ?_⟩
  | refine ⟨(_ : Addr), (_ : List V), (_ : Int), (_ : Nat), rfl, rfl, (by assumption), rfl, ?_⟩
  | refine ⟨(_ : Addr), (_ : Addr), (_ : Addr), (_ : List (Str × V)), (_ : V), rfl, (by assumption), (by assumption), (by assumption), (by first | assumption | rfl), ?_⟩
  | refine Or.inl ⟨(_ : Int), rfl, ?_⟩
  | refine And.intro (by walk_at "sc") ?_
  | refine iteT ?_
  | refine iteF ?_)
/-! ### filed rows -/
theorem cardLe_dec (a b : CD) : cardLe a b = decide (a.heading.cps.toList ≤ b.heading.cps.toList) := by
  have := congrFun (congrFun (PySem.W.dataLe_str (fun b : V × Str => b.2)) (.non, a.heading)) (.non, b.heading)
  exact this
def Asc (ws : List Str) : Prop := ws.Pairwise fun a b => a.cps.toList ≤ b.cps.toList
theorem file_sorted (cs : List CD) : (fileOf cs).Pairwise fun a b => cardLe a b = true := by
  refine List.pairwise_mergeSort (fun a b c h1 h2 => ?_) (fun a b => ?_) cs
  · rw [cardLe_dec] at *
    exact decide_eq_true (List.le_trans (of_decide_eq_true h1) (of_decide_eq_true h2))
  · rw [cardLe_dec, cardLe_dec, Bool.or_eq_true]
    rcases List.le_total a.heading.cps.toList b.heading.cps.toList with h | h
    · exact .inl (decide_eq_true h)
    · exact .inr (decide_eq_true h)
theorem file_asc (cs : List CD) : Asc (heads (fileOf cs)) := List.pairwise_map.mpr ((file_sorted cs).imp fun {a b} h => by
  rw [cardLe_dec] at h
  exact of_decide_eq_true h)
theorem file_file (cs : List CD) : fileOf (fileOf cs) = fileOf cs := List.mergeSort_of_pairwise (file_sorted cs)
theorem asc_rises : ∀ {ws : List Str}, Asc ws → risesBy ws = true
  | [], _ => rfl
  | [_], _ => rfl
  | x :: y :: r, h => by
    obtain ⟨h1, h2⟩ := List.pairwise_cons.mp h
    have ih := asc_rises (ws := y :: r) h2
    show (leS x y && risesBy (y :: r)) = true
    rw [ih, Bool.and_true]
    unfold leS
    rw [decide_eq_false (List.not_lt.mpr (h1 y (.head _)))]
    rfl
theorem str_eq {a b : Str} (e : a.cps.toList = b.cps.toList) : a = b := by
  have := Array.ext' e
  cases a
  cases b
  exact congrArg Str.mk this
/-! one after another -/
theorem along_in {h : Str} : ∀ {ws : List Str} {k : Nat}, h ∈ ws → (along false h k ws).1 ≠ none
  | x :: r, k, hm => by
    unfold along
    by_cases hx : x = h
    · rw [if_pos hx]
      exact fun z => nomatch z
    · rw [if_neg hx, if_neg (by simp)]
      exact along_in ((List.mem_cons.mp hm).resolve_left fun e => hx e.symm)
theorem along_leafs {h : Str} : ∀ {ws : List Str} {k : Nat}, Asc ws → h ∈ ws → along true h k ws = along false h k ws
  | x :: r, k, A, hm => by
    obtain ⟨h1, h2⟩ := List.pairwise_cons.mp A
    unfold along
    by_cases hx : x = h
    · rw [if_pos hx, if_pos hx]
    · have hr := (List.mem_cons.mp hm).resolve_left fun e => hx e.symm
      have hle := h1 h hr
      have hn : ltS h x = false := by
        unfold ltS
        exact decide_eq_false (List.not_lt.mpr hle)
      rw [if_neg hx, if_neg hx, hn, if_neg (by simp), if_neg (by simp)]
      exact along_leafs h2 hr
theorem along_found {h : Str} : ∀ {ws : List Str} {k j : Nat}, (along false h k ws).1 = some j → ∃ i, j = k + i ∧ (along false h k ws).2 = k + i + 1 ∧ ws[i]? = some h ∧ h ∉ ws.take i
  | [], k, j, e => by
    unfold along at e
    cases e
  | x :: r, k, j, e => by
    unfold along at e ⊢
    by_cases hx : x = h
    · rw [if_pos hx] at e ⊢
      exact ⟨0, (Option.some.inj e).symm, rfl, by rw [hx]; rfl, fun z => nomatch z⟩
    · rw [if_neg hx, if_neg (by simp)] at e ⊢
      obtain ⟨i, h1, h2, h3, h4⟩ := along_found (ws := r) (k := k + 1) e
      refine ⟨i + 1, by omega, by omega, h3, fun z => ?_⟩
      rcases List.mem_cons.mp z with z | z
      · exact hx z.symm
      · exact h4 z
/-! by halves -/
theorem asc_get {ws : List Str} (A : Asc ws) {i j : Nat} {a b : Str} (hi : ws[i]? = some a) (hj : ws[j]? = some b) (h : i ≤ j) : a.cps.toList ≤ b.cps.toList := by
  obtain ⟨li, rfl⟩ := List.getElem?_eq_some_iff.mp hi
  obtain ⟨lj, rfl⟩ := List.getElem?_eq_some_iff.mp hj
  by_cases e : i = j
  · subst e
    exact List.le_refl _
  · exact List.pairwise_iff_getElem.mp A i j li lj (by omega)
theorem halves_in {ws : List Str} {h : Str} (A : Asc ws) : ∀ (n : Nat) (lo hi : Int) (ps : List Int), hi < lo + n → 0 ≤ lo → hi < ws.length → (∃ j : Nat, lo ≤ j ∧ (j : Int) ≤ hi ∧ ws[j]? = some h) → (halves ws h n lo hi ps).1 ≠ none
  | 0, lo, hi, ps, h1, _, _, ⟨j, a, b, _⟩ => by omega
  | n + 1, lo, hi, ps, h1, h2, h3, ⟨j, a, b, c⟩ => by
    have hm : ((lo + hi) / 2).toNat < ws.length := by omega
    have hmid : ws[((lo + hi) / 2).toNat]? = some ws[((lo + hi) / 2).toNat] := List.getElem?_eq_getElem hm
    unfold halves
    rw [if_pos (by omega)]
    by_cases e1 : ws[((lo + hi) / 2).toNat]?.getD "" = h
    · rw [if_pos e1]
      exact fun z => nomatch z
    · rw [if_neg e1]
      rw [hmid] at e1 ⊢
      generalize ws[((lo + hi) / 2).toNat] = x at *
      have e1 : ¬ x = h := e1
      show (if ltS h x = true then _ else _ : Option Nat × List Int).1 ≠ none
      by_cases e2 : ltS h x = true
      · rw [if_pos e2]
        have e2 : h.cps.toList < x.cps.toList := of_decide_eq_true e2
        have hj : (j : Int) < (lo + hi) / 2 := by
          refine Classical.byContradiction fun z => ?_
          exact absurd e2 (List.not_lt.mpr (asc_get A hmid c (by omega)))
        exact halves_in A n lo _ _ (by omega) h2 (by omega) ⟨j, a, by omega, c⟩
      · rw [if_neg e2]
        have e2 : ¬ h.cps.toList < x.cps.toList := fun z => e2 (decide_eq_true z)
        have hj : (lo + hi) / 2 < (j : Int) := by
          refine Classical.byContradiction fun z => ?_
          have q1 := asc_get A c hmid (by omega)
          exact e1 (str_eq (List.le_antisymm (List.not_lt.mp e2) q1))
        exact halves_in A n _ hi _ (by omega) (by omega) h3 ⟨j, by omega, b, c⟩
theorem halves_few {ws : List Str} {h : Str} : ∀ (n k : Nat) (lo hi : Int) (ps : List Int), hi - lo + 1 < 2 ^ k → (halves ws h n lo hi ps).2.length ≤ ps.length + k
  | 0, k, lo, hi, ps, _ => Nat.le_add_right _ _
  | n + 1, k, lo, hi, ps, hk => by
    unfold halves
    by_cases hl : lo ≤ hi
    · rw [if_pos hl]
      cases k with
      | zero =>
        have : hi - lo + 1 < 1 := hk
        omega
      | succ k =>
        have hk2 : hi - lo + 1 < 2 * 2 ^ k := by
          have : (2 : Int) ^ (k + 1) = 2 * 2 ^ k := by rw [Int.pow_succ, Int.mul_comm]
          omega
        split
        · show (ps ++ [(lo + hi) / 2]).length ≤ _
          rw [List.length_append]
          show ps.length + 1 ≤ _
          omega
        · split
          · have := halves_few (ws := ws) (h := h) n k lo ((lo + hi) / 2 - 1) (ps ++ [(lo + hi) / 2]) (by omega)
            rw [List.length_append, List.length_singleton] at this
            omega
          · have := halves_few (ws := ws) (h := h) n k ((lo + hi) / 2 + 1) hi (ps ++ [(lo + hi) / 2]) (by omega)
            rw [List.length_append, List.length_singleton] at this
            omega
    · rw [if_neg hl]
      exact Nat.le_add_right _ _
/-! by each rule -/
theorem rule_cases {r : Str} (h : r ∈ rules3) : r = "all" ∨ r = "half" ∨ r = "leaf" := by
  unfold rules3 at h
  simp only [List.mem_cons, List.not_mem_nil, or_false] at h
  rcases h with h | h | h <;> simp [h]
theorem seek_all (ws : List Str) (h : Str) : seekOf ws "all" h = alongOf ws false h := rfl
theorem seek_leaf (ws : List Str) (h : Str) : seekOf ws "leaf" h = alongOf ws true h := rfl
theorem seek_half (ws : List Str) (h : Str) : seekOf ws "half" h = halvesOf ws h := rfl
theorem seek_in {ws : List Str} {r h : Str} (A : Asc ws) (hr : r ∈ rules3) (hm : h ∈ ws) : (seekOf ws r h).1 ≠ none := by
  rcases rule_cases hr with rfl | rfl | rfl
  · exact along_in hm
  · obtain ⟨j, hj, e⟩ := List.mem_iff_getElem.mp hm
    exact halves_in A _ _ _ _ (by omega) (by omega) (by omega) ⟨j, by omega, by omega, by rw [List.getElem?_eq_getElem hj, e]⟩
  · show (along true h 0 ws).1 ≠ none
    rw [along_leafs A hm]
    exact along_in hm
theorem seek_iff {ws : List Str} {r h : Str} (A : Asc ws) (hr : r ∈ rules3) : (seekOf ws r h).1 = none ↔ h ∉ ws := by
  refine ⟨fun e hm => seek_in A hr hm e, fun hm => ?_⟩
  cases e : (seekOf ws r h).1 with
  | none => rfl
  | some j => exact absurd (List.mem_of_getElem? (seek_sound e)) hm
theorem seek_leaf_all {ws : List Str} {h : Str} (A : Asc ws) : (seekOf ws "leaf" h).1 = (seekOf ws "all" h).1 := by
  by_cases hm : h ∈ ws
  · show (along true h 0 ws).1 = (along false h 0 ws).1
    rw [along_leafs A hm]
  · rw [(seek_iff A (by unfold rules3; simp)).mpr hm, (seek_iff A (by unfold rules3; simp)).mpr hm]
theorem seek_once {ws : List Str} {r r2 h : Str} (A : Asc ws) (n : ws.Nodup) (hr : r ∈ rules3) (hr2 : r2 ∈ rules3) : (seekOf ws r h).1 = (seekOf ws r2 h).1 := by
  cases e1 : (seekOf ws r h).1 with
  | none => rw [(seek_iff A hr2).mpr ((seek_iff A hr).mp e1)]
  | some i =>
    cases e2 : (seekOf ws r2 h).1 with
    | none =>
      rw [(seek_iff A hr).mpr ((seek_iff A hr2).mp e2)] at e1
      cases e1
    | some j =>
      have q1 := seek_sound e1
      have q2 := seek_sound e2
      congr 1
      exact (List.getElem?_inj (List.getElem?_eq_some_iff.mp q1).1 n).mp (q1.trans q2.symm)
theorem half_few {ws : List Str} {h : Str} (hl : ws.length ≤ 16) : (seekOf ws "half" h).2.length ≤ 5 := by
  have := halves_few (ws := ws) (h := h) (ws.length + 1) 5 0 ((ws.length : Int) - 1) [] (by omega)
  exact Nat.le_trans this (by simp)
theorem seek_first {ws : List Str} {r h : Str} {j : Nat} (A : Asc ws) (hr : r ∈ rules3) (hn : r ≠ "half") (e : (seekOf ws r h).1 = some j) : (seekOf ws r h).2 = upTo (j + 1) ∧ h ∉ ws.take j := by
  have hm : h ∈ ws := List.mem_of_getElem? (seek_sound e)
  have q : seekOf ws r h = alongOf ws false h := by
    rcases rule_cases hr with rfl | rfl | rfl
    · rfl
    · exact absurd rfl hn
    · show ((along true h 0 ws).1, upTo (along true h 0 ws).2) = _
      rw [along_leafs A hm]
      rfl
  rw [q] at e ⊢
  obtain ⟨i, h1, h2, h3, h4⟩ := along_found (k := 0) e
  have hij : i = j := by omega
  subst hij
  refine ⟨?_, h4⟩
  show upTo (along false h 0 ws).2 = _
  rw [h2, Nat.zero_add]
end
section
local macro_rules | `(tactic| walk_at "sl") => `(tactic| first | assumption | exact SqL.of upd_same | exact SqL.of (by assumption) | ((with_reducible apply sql_upd); (walk_at "sl"); (first | assumption | exact Ne.symm (by assumption))))
local macro_rules | `(tactic| walk_at "st") => `(tactic| first | assumption | exact SqT.of upd_same | exact SqT.of (by assumption))
local macro_rules | `(tactic| walk_at "sc") => `(tactic| first | rfl | assumption | (show (0 : Int) < _; first | assumption | decide | omega) | exact Or.inl ⟨by omega, by omega⟩ | exact Or.inr ⟨by omega, by omega⟩ | exact ⟨by decide, by decide⟩ | exact ⟨by decide, by decide, by decide⟩)
local macro_rules | `(tactic| walk_at "g1") => `(tactic| first
  | refine ⟨(_ : V), rfl, ?_⟩
  | refine ⟨(_ : Bool), rfl, ?_⟩
  | refine ⟨(_ : Int), (_ : Int), rfl, rfl, ?_⟩
  | refine ⟨(_ : Int), rfl, ?_⟩
  | refine ⟨(_ : Str), rfl, ?_⟩
  | refine ⟨(_ : Addr), (_ : List V), rfl, Or.inl (by walk_at "sl"), ?_⟩
  | refine ⟨(_ : Addr), (_ : List V), rfl, Or.inr (by walk_at "st"), ?_⟩
  | refine ⟨(_ : Addr), (_ : List V), (_ : Int), (_ : V), rfl, rfl, (by walk_at "sl"), (by first | rfl | assumption), ?_⟩
  | refine ⟨(_ : Addr), (_ : List V), (_ : Int), (_ : V), rfl, rfl, (by walk_at "st"), (by first | rfl | assumption), ?_⟩
  | refine ⟨(_ : Addr), (_ : List V), (_ : Int), (_ : Nat), rfl, rfl, upd_same, rfl, ?_⟩
  | refine ⟨(_ : Addr), (_ : List V), (_ : Int), (_ : Nat), rfl, rfl, (by assumption), rfl, ?_⟩
  | refine ⟨(_ : Addr), (_ : Addr), (_ : Addr), (_ : List (Str × V)), (_ : V), rfl, (by assumption), (by assumption), (by assumption), (by first | assumption | rfl), ?_⟩
  | refine Or.inl ⟨(_ : Int), rfl, ?_⟩
  | refine And.intro (by walk_at "sc") ?_
  | refine iteT ?_
  | refine iteF ?_)
/-! ### numbers as data -/
theorem dpAll_nats {H : Hp} : ∀ o : List Nat, DpAll K H (o.map intV) ((o.map fun (k : Nat) => ((k : Nat) : Int)).map PyData.int)
  | [] => .nil
  | _ :: o => .cons (.int _) (dpAll_nats o)
def natD (o : List Nat) : PyData := .list ((o.map fun (k : Nat) => ((k : Nat) : Int)).map PyData.int)
theorem natD_eqv (a b : List Nat) : (natD a).eqv (natD b) = decide (a = b) := by
  show PyData.eqvAll _ _ = _
  rw [eqv_ints]
  have inj : ∀ {a b : List Nat}, (a.map fun (k : Nat) => ((k : Nat) : Int)) = (b.map fun (k : Nat) => ((k : Nat) : Int)) → a = b := fun {a} => by
    induction a with
    | nil => intro b h; cases b with
      | nil => rfl
      | cons _ _ => cases h
    | cons x a ih => intro b h; cases b with
      | nil => cases h
      | cons y b =>
        obtain ⟨h1, h2⟩ := List.cons.inj h
        rw [ih h2, Int.ofNat.inj h1]
  by_cases h : a = b
  · rw [h, decide_eq_true rfl, decide_eq_true rfl]
  · rw [decide_eq_false h, decide_eq_false fun e => h (inj e)]
theorem natD_plain : ∀ o : List Nat, (natD o).plain = true := fun o => by
  show PyData.plainAll _ = true
  induction o with
  | nil => rfl
  | cons a o ih => exact ih
theorem natD_depth (o : List Nat) : (natD o).depth ≤ 32 := by
  show PyData.depthAll _ + 1 ≤ 32
  rw [dep_ints]
  decide
end
section
local macro_rules | `(tactic| walk_at "sl") => `(tactic| first | assumption | exact SqL.of upd_same | exact SqL.of (by assumption) | ((with_reducible apply sql_upd); (walk_at "sl"); (first | assumption | exact Ne.symm (by assumption))))
local macro_rules | `(tactic| walk_at "st") => `(tactic| first | assumption | exact SqT.of upd_same | exact SqT.of (by assumption))
local macro_rules | `(tactic| walk_at "sc") => `(tactic| first | rfl | assumption | (show (0 : Int) < _; first | assumption | decide | omega) | exact Or.inl ⟨by omega, by omega⟩ | exact Or.inr ⟨by omega, by omega⟩ | exact ⟨by decide, by decide⟩ | exact ⟨by decide, by decide, by decide⟩)
local macro_rules | `(tactic| walk_at "g1") => `(tactic| first
  | refine ⟨(_ : V), rfl, ?_⟩
  | refine ⟨(_ : Bool), rfl, ?_⟩
  | refine ⟨(_ : Int), (_ : Int), rfl, rfl, ?_⟩
  | refine ⟨(_ : Int), rfl, ?_⟩
  | refine ⟨(_ : Str), rfl, ?_⟩
  | refine ⟨(_ : Addr), (_ : List V), rfl, Or.inl (by walk_at "sl"), ?_⟩
  | refine ⟨(_ : Addr), (_ : List V), rfl, Or.inr (by walk_at "st"), ?_⟩
  | refine ⟨(_ : Addr), (_ : List V), (_ : Int), (_ : V), rfl, rfl, (by walk_at "sl"), (by first | rfl | assumption), ?_⟩
  | refine ⟨(_ : Addr), (_ : List V), (_ : Int), (_ : V), rfl, rfl, (by walk_at "st"), (by first | rfl | assumption), ?_⟩
  | refine ⟨(_ : Addr), (_ : List V), (_ : Int), (_ : Nat), rfl, rfl, upd_same, rfl, ?_⟩
  | refine ⟨(_ : Addr), (_ : List V), (_ : Int), (_ : Nat), rfl, rfl, (by assumption), rfl, ?_⟩
  | refine ⟨(_ : Addr), (_ : Addr), (_ : Addr), (_ : List (Str × V)), (_ : V), rfl, (by assumption), (by assumption), (by assumption), (by first | assumption | rfl), ?_⟩
  | refine Or.inl ⟨(_ : Int), rfl, ?_⟩
  | refine And.intro (by walk_at "sc") ?_
  | refine iteT ?_
  | refine iteF ?_)
/-! ### rows of cards by orders -/
theorem rowBy_heads {cs : List CD} : ∀ {o : List Nat}, (∀ k ∈ o, k < cs.length) → rowBy (heads cs) o = heads (cardsBy cs o)
  | [], _ => rfl
  | k :: o, h => by
    have hk0 := h k (.head _)
    have hk : cs[k]? = some cs[k] := List.getElem?_eq_getElem hk0
    have ih := rowBy_heads (cs := cs) fun x hx => h x (.tail _ hx)
    show ((heads cs)[k]?.getD "") :: rowBy (heads cs) o = _
    rw [ih]
    unfold heads cardsBy
    rw [List.getElem?_map, hk, List.filterMap_cons, hk]
    rfl
end
section
local macro_rules | `(tactic| walk_at "sl") => `(tactic| first | assumption | exact SqL.of upd_same | exact SqL.of (by assumption) | ((with_reducible apply sql_upd); (walk_at "sl"); (first | assumption | exact Ne.symm (by assumption))))
local macro_rules | `(tactic| walk_at "st") => `(tactic| first | assumption | exact SqT.of upd_same | exact SqT.of (by assumption))
local macro_rules | `(tactic| walk_at "sc") => `(tactic| first | rfl | assumption | (show (0 : Int) < _; first | assumption | decide | omega) | exact Or.inl ⟨by omega, by omega⟩ | exact Or.inr ⟨by omega, by omega⟩ | exact ⟨by decide, by decide⟩ | exact ⟨by decide, by decide, by decide⟩)
local macro_rules | `(tactic| walk_at "g1") => `(tactic| first
  | refine ⟨(_ : V), rfl, ?_⟩
  | refine ⟨(_ : Bool), rfl, ?_⟩
  | refine ⟨(_ : Int), (_ : Int), rfl, rfl, ?_⟩
  | refine ⟨(_ : Int), rfl, ?_⟩
  | refine ⟨(_ : Str), rfl, ?_⟩
  | refine ⟨(_ : Addr), (_ : List V), rfl, Or.inl (by walk_at "sl"), ?_⟩
  | refine ⟨(_ : Addr), (_ : List V), rfl, Or.inr (by walk_at "st"), ?_⟩
  | refine ⟨(_ : Addr), (_ : List V), (_ : Int), (_ : V), rfl, rfl, (by walk_at "sl"), (by first | rfl | assumption), ?_⟩
  | refine ⟨(_ : Addr), (_ : List V), (_ : Int), (_ : V), rfl, rfl, (by walk_at "st"), (by first | rfl | assumption), ?_⟩
  | refine ⟨(_ : Addr), (_ : List V), (_ : Int), (_ : Nat), rfl, rfl, upd_same, rfl, ?_⟩
  | refine ⟨(_ : Addr), (_ : List V), (_ : Int), (_ : Nat), rfl, rfl, (by assumption), rfl, ?_⟩
  | refine ⟨(_ : Addr), (_ : Addr), (_ : Addr), (_ : List (Str × V)), (_ : V), rfl, (by assumption), (by assumption), (by assumption), (by first | assumption | rfl), ?_⟩
  | refine Or.inl ⟨(_ : Int), rfl, ?_⟩
  | refine And.intro (by walk_at "sc") ?_
  | refine iteT ?_
  | refine iteF ?_)
/-! ### rounds of requests -/
/-! ### how many orders there are at most -/
def vecs (n : Nat) : Nat → List (List Nat)
  | 0 => [[]]
  | k + 1 => (List.range n).flatMap fun a => (vecs n k).map (a :: ·)
theorem vecs_len (n : Nat) : ∀ k, (vecs n k).length = n ^ k
  | 0 => rfl
  | k + 1 => by
    show ((List.range n).flatMap fun a => (vecs n k).map (a :: ·)).length = _
    have q : ∀ l : List Nat, (l.flatMap fun a => (vecs n k).map (a :: ·)).length = l.length * n ^ k := fun l => by
      induction l with
      | nil => exact (Nat.zero_mul _).symm
      | cons a l ih => rw [List.flatMap_cons, List.length_append, ih, List.length_map, vecs_len n k, List.length_cons, Nat.add_mul, Nat.one_mul, Nat.add_comm]
    rw [q, List.length_range, Nat.pow_succ, Nat.mul_comm]
theorem mem_vecs {n : Nat} : ∀ {o : List Nat}, (∀ k ∈ o, k < n) → o ∈ vecs n o.length
  | [], _ => List.mem_singleton.mpr rfl
  | a :: o, h => List.mem_flatMap.mpr ⟨a, List.mem_range.mpr (h a (.head _)), List.mem_map.mpr ⟨o, mem_vecs fun k hk => h k (.tail _ hk), rfl⟩⟩
theorem pow_le8 : ∀ n ≤ 8, n ^ n ≤ 16777216 := by decide
/-! ### a dict from orders -/
def keyO (o : List Nat) : List Key := o.map fun (k : Nat) => Sum.inl ((k : Nat) : Int)
theorem keyO_kV (o : List Nat) : (keyO o).map kV = o.map intV := by
  unfold keyO
  rw [List.map_map]
  rfl
theorem keyO_inj : ∀ {o o' : List Nat}, keyO o = keyO o' → o = o'
  | [], [], _ => rfl
  | [], _ :: _, h => by cases h
  | _ :: _, [], h => by cases h
  | a :: o, b :: o', h => by
    obtain ⟨h1, h2⟩ := List.cons.inj h
    rw [keyO_inj h2, Int.ofNat.inj (Sum.inl.inj h1)]
theorem TupO.key {H : Hp} {t : Addr} {o : List Nat} (h : TupO H t o) : H t = some (.tup ((keyO o).map kV)) := by rw [keyO_kV]; exact h
end
section
local macro_rules | `(tactic| walk_at "sl") => `(tactic| first | assumption | exact SqL.of upd_same | exact SqL.of (by assumption) | ((with_reducible apply sql_upd); (walk_at "sl"); (first | assumption | exact Ne.symm (by assumption))))
local macro_rules | `(tactic| walk_at "st") => `(tactic| first | assumption | exact SqT.of upd_same | exact SqT.of (by assumption))
local macro_rules | `(tactic| walk_at "sc") => `(tactic| first | rfl | assumption | (show (0 : Int) < _; first | assumption | decide | omega) | exact Or.inl ⟨by omega, by omega⟩ | exact Or.inr ⟨by omega, by omega⟩ | exact ⟨by decide, by decide⟩ | exact ⟨by decide, by decide, by decide⟩)
local macro_rules | `(tactic| walk_at "g1") => `(tactic| first
  | refine ⟨(_ : V), rfl, ?_⟩
  | refine ⟨(_ : Bool), rfl, ?_⟩
  | refine ⟨(_ : Int), (_ : Int), rfl, rfl, ?_⟩
  | refine ⟨(_ : Int), rfl, ?_⟩
  | refine ⟨(_ : Str), rfl, ?_⟩
  | refine ⟨(_ : Addr), (_ : List V), rfl, Or.inl (by walk_at "sl"), ?_⟩
  | refine ⟨(_ : Addr), (_ : List V), rfl, Or.inr (by walk_at "st"), ?_⟩
  | refine ⟨(_ : Addr), (_ : List V), (_ : Int), (_ : V), rfl, rfl, (by walk_at "sl"), (by first | rfl | assumption), ?_⟩
  | refine ⟨(_ : Addr), (_ : List V), (_ : Int), (_ : V), rfl, rfl, (by walk_at "st"), (by first | rfl | assumption), ?_⟩
  | refine ⟨(_ : Addr), (_ : List V), (_ : Int), (_ : Nat), rfl, rfl, upd_same, rfl, ?_⟩
  | refine ⟨(_ : Addr), (_ : List V), (_ : Int), (_ : Nat), rfl, rfl, (by assumption), rfl, ?_⟩
  | refine ⟨(_ : Addr), (_ : Addr), (_ : Addr), (_ : List (Str × V)), (_ : V), rfl, (by assumption), (by assumption), (by assumption), (by first | assumption | rfl), ?_⟩
  | refine Or.inl ⟨(_ : Int), rfl, ?_⟩
  | refine And.intro (by walk_at "sc") ?_
  | refine iteT ?_
  | refine iteF ?_)
/-! ### one card moved -/
def mvN (o : List Nat) (i j : Nat) : List Nat := (o.take i ++ o.drop (i + 1)).take j ++ [o[i]?.getD 0] ++ (o.take i ++ o.drop (i + 1)).drop j
theorem mv_perm {o : List Nat} {i : Nat} (h : i < o.length) (j : Nat) : (mvN o i j).Perm o := by
  unfold mvN
  rw [List.append_assoc]
  have e : ∀ (A B : List Nat) (x : Nat), A ++ ([x] ++ B) = A ++ x :: B := fun _ _ _ => rfl
  rw [e]
  refine List.perm_middle.trans ?_
  rw [List.take_append_drop, List.getElem?_eq_getElem h]
  refine List.perm_middle.symm.trans ?_
  show (o.take i ++ o[i] :: o.drop (i + 1)).Perm o
  rw [← List.drop_eq_getElem_cons h, List.take_append_drop]
theorem mv_ok {n : Nat} {o : List Nat} {i : Nat} (g : OrdOk n o) (h : i < n) (j : Nat) : OrdOk n (mvN o i j) := by
  have q := mv_perm (o := o) (i := i) (by rw [g.l]; exact h) j
  exact ⟨by rw [q.length_eq, g.l], fun k hk => g.m k (q.mem_iff.mp hk)⟩
theorem mv_same {o : List Nat} {i : Nat} (h : i < o.length) : mvN o i i = o := by
  unfold mvN
  have hl : (o.take i).length = i := by rw [List.length_take]; omega
  rw [List.take_append_of_le_length (by omega), List.drop_append_of_le_length (by omega), List.take_of_length_le (by omega), List.drop_of_length_le (by omega), List.getElem?_eq_getElem h, List.nil_append]
  show o.take i ++ [o[i]] ++ o.drop (i + 1) = o
  rw [List.append_assoc]
  show o.take i ++ o[i] :: o.drop (i + 1) = o
  rw [← List.drop_eq_getElem_cons h, List.take_append_drop]
def mvsN (n : Nat) (o : List Nat) : List (List Nat) := (List.range n).flatMap fun i => ((List.range n).filter fun j => decide (j ≠ i)).map (mvN o i)
theorem mvs_ok {n : Nat} {o : List Nat} (g : OrdOk n o) : ∀ x ∈ mvsN n o, OrdOk n x := fun x hx => by
  obtain ⟨i, hi, hx⟩ := List.mem_flatMap.mp hx
  obtain ⟨j, _, rfl⟩ := List.mem_map.mp hx
  exact mv_ok g (List.mem_range.mp hi) j
def MovesAt (H : Hp) (xs : List V) (os : List (List Nat)) : Prop := xs.length = os.length ∧ ∀ (i : Nat) x o, xs[i]? = some x → os[i]? = some o → ∃ (p t : Addr) (a : V), x = .ref p ∧ H p = some (.tup [a, .ref t]) ∧ TupO H t o
theorem MovesAt.imm {H H' : Hp} {xs : List V} {os : List (List Nat)} (h : MovesAt H xs os) (c : Imm H H') : MovesAt H' xs os := ⟨h.1, fun i x o h1 h2 => by
  obtain ⟨p, t, a, e, g1, g2⟩ := h.2 i x o h1 h2
  exact ⟨p, t, a, e, c _ _ g1 rfl, c _ _ g2 rfl⟩⟩
theorem MovesAt.snoc {H : Hp} {xs : List V} {os : List (List Nat)} {p t : Addr} {a : V} {o : List Nat} (h : MovesAt H xs os) (g1 : H p = some (.tup [a, .ref t])) (g2 : TupO H t o) : MovesAt H (xs ++ [.ref p]) (os ++ [o]) := by
  refine ⟨by rw [List.length_append, List.length_append, h.1]; rfl, fun i x o' h1 h2 => ?_⟩
  by_cases hi : i < xs.length
  · rw [List.getElem?_append_left hi] at h1
    rw [List.getElem?_append_left (by rw [← h.1]; exact hi)] at h2
    exact h.2 i x o' h1 h2
  · rw [List.getElem?_append_right (by omega)] at h1
    rw [List.getElem?_append_right (by rw [← h.1]; omega), ← h.1] at h2
    cases hz : i - xs.length with
    | zero =>
      rw [hz] at h1 h2
      obtain rfl := Option.some.inj h1
      obtain rfl := Option.some.inj h2
      exact ⟨p, t, a, rfl, g1, g2⟩
    | succ k =>
      rw [hz] at h1
      cases h1
theorem flat_le {α β : Type} (f : α → List β) (m : Nat) : ∀ {l : List α}, (∀ a ∈ l, (f a).length ≤ m) → (l.flatMap f).length ≤ l.length * m
  | [], _ => Nat.zero_le _
  | a :: l, h => by
    have h1 := h a (.head _)
    have h2 := flat_le f m (l := l) fun b hb => h b (.tail _ hb)
    rw [List.flatMap_cons, List.length_append, List.length_cons, Nat.add_mul, Nat.one_mul]
    omega
theorem mvs_len (n : Nat) (o : List Nat) : (mvsN n o).length ≤ n * n := by
  have := flat_le (fun i => ((List.range n).filter fun j => decide (j ≠ i)).map (mvN o i)) n (l := List.range n) fun i _ => by
    rw [List.length_map]
    exact Nat.le_trans (List.length_filter_le ..) (by rw [List.length_range]; exact Nat.le_refl _)
  rw [List.length_range] at this
  exact this
def spMoves (K : PySem.W.Frag) : Sp := fun vs H Q _ => ∃ (t : Addr) (o : List Nat), vs = [.ref t] ∧ TupO H t o ∧ o.length ≤ 8 ∧ ∀ q xs H', Same H H' → H' q = some (.lst xs) → MovesAt H' xs (mvsN o.length o) → Q (.ref q) H'
theorem ok_moves_of (T : Top K mg) : FnOk P w K mg base CX0 2 T.a_moves_of T.fd_moves_of ["row"] (spMoves K) := by
  refine T.F_moves_of.ok sc_moves_of (fun vs H Q E h => ?_) (fun cdv A outer s H vs Q E hr h => ?_)
  · obtain ⟨t, o, rfl, _⟩ := h
    rfl
  · obtain ⟨t, o, rfl, hT, hol, k⟩ := h
    have hu := hu_of hr
    refine ⟨_, (pss_cons (ps_set (i := 1) sc_moves_of.nd rfl (.inl rfl) (pe_lst pa_nil))
      (pss_cons (ps_for PassesOwn.never rfl (pi_enumT (by rfl) T.m_enumerate (pa_cons (pv 0) pa_nil)) (pg_tup rfl (pgs_cons (pg_name (i := 2) sc_moves_of.nd rfl (.inl rfl)) (pgs_cons (pg_name (i := 3) sc_moves_of.nd rfl (.inl rfl)) pgs_nil)))
        (pss_cons (ps_set (i := 4) sc_moves_of.nd rfl (.inl rfl) (pe_op op_catA (pe_slice sl_tupA (pv 0) po_none (po_some (pv 2))) (pe_slice sl_tupA (pv 0) (po_some (pe_op op_add (pv 2) pe_int)) po_none)))
        (pss_one (ps_for PassesOwn.never rfl (pi_range1 (by rfl) T.m_range (pa_cons (pe_callB call_len_seq (by rfl) T.m_len (by decide +kernel) (pa_cons (pv 0) pa_nil)) pa_nil)) (pg_name (i := 5) sc_moves_of.nd rfl (.inl rfl))
          (pss_one (ps_if (pt_cmpR op_ne (pv 5) (pv 2) (nomark _)) (pss_one (ps_expr (pe_bm PySem.F.plainAttrs_list PySem.F.slot_list_append PySem.F.type_list_append mt_append (pv 1) (pa_cons (pe_tup (pa_cons (pe_tup (pa_cons (pv 2) (pa_cons (pv 5) pa_nil))) (pa_cons (pe_op op_catA (pe_op op_catA (pe_slice sl_tupA (pv 4) po_none (po_some (pv 5))) (pe_tup (pa_cons (pv 3) pa_nil))) (pe_slice sl_tupA (pv 4) (po_some (pv 5)) po_none)) pa_nil))) pa_nil)))) pss_nil))))))
      (pss_one (ps_ret (pv 1))))), ?_⟩
    have hsz := sizeLine_of (show (1000000 : Nat) ≤ 1000000 by omega)
    refine ⟨Nat.zero_le _, fun f0 hf0 => ?_⟩
    have sf := same_new (o := .lst []) hf0
    refine ⟨_, rfl, t, _, rfl, SqT.of (sf _ _ hT), for_enumT (K := K) (a := t) (xs := o.map intV) (fun i σ H3 => ∃ (f : Addr) (xs : List V) (y2 y3 y4 y5 : Option V), σ = [some (.ref t), some (.ref f), y2, y3, y4, y5] ∧ Same H H3 ∧ H f = none ∧ H3 f = some (.lst xs) ∧ MovesAt H3 xs ((List.range i).flatMap fun i => ((List.range o.length).filter fun j => decide (j ≠ i)).map (mvN o i))) ⟨f0, [], _, _, _, _, rfl, sf, hf0, upd_same, rfl, fun i x o h1 h2 => nomatch h1⟩ (fun i σ H3 _ ⟨_, _, _, _, _, _, _, s3, _⟩ => SqT.of (s3 _ _ hT)) (fun i x tp σ H3 hi hP ht => ?_) (fun σ H3 hP => ?_)⟩
    · obtain ⟨f, xs, y2, y3, y4, y5, rfl, s3, hf, e3, hx⟩ := hP
      rw [List.getElem?_map] at hi
      obtain ⟨h, hh, rfl⟩ := Option.map_eq_some_iff.mp hi
      have hil := (List.getElem?_eq_some_iff.mp hh).1
      have st := same_new (o := .tup [.int (i : Nat), intV h]) ht
      have s4 := s3.trans st
      refine ⟨tp, _, rfl, SqT.of upd_same, rfl, _, _, rfl, _, _, rfl, rfl, ?_⟩
      have e4 := st _ _ e3
      have x4 := hx.imm st.imm
      generalize upd H3 tp (.tup [.int (i : Nat), intV h]) = H4 at *
      have hT4 := s4 _ _ hT
      refine ⟨_, rfl, _, rfl, _, rfl, slA_toT hT4 fun p1 H5 s5 hp1 => ?_⟩
      rw [cut_take, ← List.map_take] at hp1
      refine ⟨_, rfl, _, rfl, _, _, rfl, rfl, _, rfl, np_to (slA_toT (s5 _ _ hT4) fun p2 H6 s6 hp2 => ?_)⟩
      have hc2 : cutV (o.map intV) (some (((i : Nat) : Int) + 1)) none = (o.drop (i + 1)).map intV := by
        rw [show ((i : Nat) : Int) + 1 = ((i + 1 : Nat) : Int) by omega, cut_lo, List.map_drop]
      rw [hc2] at hp2
      refine catA_toT (s6 _ _ hp1) hp2 (by rw [List.length_map, List.length_map, List.length_take, List.length_drop]; omega) fun pr H7 s7 hpr => ?_
      rw [← List.map_append] at hpr
      have s47 := (s5.trans s6).trans s7
      have e7 := s47 _ _ e4
      have x7 := x4.imm s47.imm
      have s07 := s4.trans s47
      have hi' : i < o.length := hil
      have hrl : (o.take i ++ o.drop (i + 1)).length + 1 = o.length := by rw [List.length_append, List.length_take, List.length_drop]; omega
      have hoi : o[i]?.getD 0 = h := by rw [hh]; rfl
      generalize hrest : o.take i ++ o.drop (i + 1) = rest at *
      clear hc2 hp1 hp2 s5 s6 s7 s47 x4 e4 s4 st e3 hx s3 ht hT4
      refine ⟨_, rfl, t, _, rfl, .inr (SqT.of (s07 _ _ hT)), _, rfl, by omega, by rw [List.length_map]; omega, for_range (lo := 0) (n := (((o.map intV).length : Nat) : Int).toNat) (fun j σ H8 => ∃ (xs : List V) (y5 : Option V), σ = [some (.ref t), some (.ref f), some (.int (i : Nat)), some (intV h), some (.ref pr), y5] ∧ Same H H8 ∧ H8 f = some (.lst xs) ∧ TupO H8 pr rest ∧ MovesAt H8 xs (((List.range i).flatMap fun i => ((List.range o.length).filter fun j => decide (j ≠ i)).map (mvN o i)) ++ ((List.range j).filter fun j => decide (j ≠ i)).map (mvN o i))) ⟨xs, _, rfl, s07, e7, hpr, by rw [List.range_zero]; show MovesAt _ xs (_ ++ []); rw [List.append_nil]; exact x7⟩ (fun j σ H8 hj hP => ?_) (fun σ H8 hP => ?_)⟩
      · obtain ⟨zs, y5, rfl, s8, e8, hr8, hz⟩ := hP
        rw [Int.toNat_natCast, List.length_map] at hj
        have ev : V.int (0 + ((j : Nat) : Int)) = intV j := by rw [Int.zero_add]; rfl
        show gName 5 (V.int (0 + ((j : Nat) : Int))) _ _ _
        rw [ev]
        refine ⟨_, rfl, _, rfl, rNe_to (b := !decide (j = i)) rfl (by rw [show intV j = V.int ((j : Nat) : Int) from rfl, int_dec]; exact congrArg (! ·) (decide_eq_decide.mpr (by omega))) ?_⟩
        refine ⟨_, rfl, ?_⟩
        by_cases hji : j = i
        · rw [decide_eq_true hji]
          refine iteF ⟨zs, _, rfl, s8, e8, hr8, ?_⟩
          rw [List.range_succ, List.filter_append, List.filter_cons, if_neg (by rw [decide_eq_false (fun g => g hji)]; exact Bool.false_ne_true), List.filter_nil, List.append_nil]
          exact hz
        · rw [decide_eq_false hji]
          refine iteT ?_
          refine ⟨_, rfl, .inl ⟨rfl, _, SqL.of e8⟩, _, rfl, _, rfl, by show 2 ≤ sizeLine; decide, fun pa hpa => ?_⟩
          have sa := same_new (o := .tup [.int (i : Nat), intV j]) hpa
          have e9 := sa _ _ e8
          have r9 : TupO _ pr rest := sa _ _ hr8
          have z9 := hz.imm sa.imm
          have s9 := s8.trans sa
          generalize upd H8 pa (.tup [.int (i : Nat), intV j]) = H9 at *
          refine ⟨_, rfl, _, rfl, _, rfl, slA_toT r9 fun q1 H10 s10 hq1 => ?_⟩
          rw [cut_take, ← List.map_take] at hq1
          refine ⟨_, rfl, by show 1 ≤ sizeLine; decide, fun q2 hq2 => ?_⟩
          have s11 := same_new (o := .tup [intV h]) hq2
          have f11 : (upd H10 q2 (.tup [intV h])) q2 = some (.tup ([h].map intV)) := upd_same
          generalize upd H10 q2 (.tup [intV h]) = H11 at *
          refine catA_toT (s11 _ _ hq1) f11 (by rw [List.length_map, List.length_map, List.length_take]; show _ + 1 ≤ _; omega) fun q3 H12 s12 hq3 => ?_
          rw [← List.map_append] at hq3
          have r12 := (s10.trans (s11.trans s12)) _ _ r9
          refine ⟨_, rfl, _, rfl, _, rfl, np_to (slA_toT r12 fun q4 H13 s13 hq4 => ?_)⟩
          have hc2 : cutV (rest.map intV) (some ((j : Nat) : Int)) none = (rest.drop j).map intV := by
            rw [cut_lo, List.map_drop]
          rw [hc2] at hq4
          refine catA_toT (s13 _ _ hq3) hq4 (by rw [List.length_map, List.length_map, List.length_append, List.length_take, List.length_drop]; show _ + 1 + _ ≤ _; omega) fun q5 H14 s14 hq5 => ?_
          rw [← List.map_append] at hq5
          refine ⟨by show 2 ≤ sizeLine; decide, fun pp hpp => ?_⟩
          have s15 := same_new (o := .tup [.ref pa, .ref q5]) hpp
          have s9e := (((((s10.trans s11).trans s12).trans s13).trans s14).trans s15)
          have e15 := s9e _ _ e9
          have f15 : (upd H14 pp (.tup [.ref pa, .ref q5])) pp = some (.tup [.ref pa, .ref q5]) := upd_same
          have t15 := s15 _ _ hq5
          have r15 := s9e _ _ r9
          have z15 := z9.imm s9e.imm
          have s015 := s9.trans s9e
          generalize upd H14 pp (.tup [.ref pa, .ref q5]) = H15 at *
          refine ⟨f, zs, .ref pp, rfl, rfl, e15, ?_, ?_⟩
          · have hzl := z15.1
            have h1 := flat_le (fun i => ((List.range o.length).filter fun j => decide (j ≠ i)).map (mvN o i)) 8 (l := List.range i) fun k _ => by
              rw [List.length_map]
              refine Nat.le_trans (List.length_filter_le ..) ?_
              rw [List.length_range]
              exact hol
            have h2 := List.length_filter_le (fun k => decide (k ≠ i)) (List.range j)
            rw [List.length_range] at h1 h2
            rw [List.length_append, List.length_map] at hzl
            exact sizeLine_of (by omega)
          · have im : Imm H15 (upd H15 f (.lst (zs ++ [.ref pp]))) := Imm.refl.mut e15 rfl
            refine ⟨zs ++ [.ref pp], _, rfl, same_mut s015 hf, upd_same, im _ _ r15 rfl, ?_⟩
            rw [List.range_succ, List.filter_append, List.filter_cons, if_pos (by rw [decide_eq_true hji]), List.filter_nil, List.map_append, ← List.append_assoc]
            refine (z15.imm im).snoc (im _ _ f15 rfl) ?_
            have em : mvN o i j = rest.take j ++ [h] ++ rest.drop j := by unfold mvN; rw [hrest, hoi]
            rw [em]
            exact im _ _ t15 rfl
      · obtain ⟨zs, y5, rfl, s8, e8, hr8, hz⟩ := hP
        rw [Int.toNat_natCast, List.length_map] at hz
        refine ⟨f, zs, _, _, _, _, rfl, s8, hf, e8, ?_⟩
        rw [List.range_succ, List.flatMap_append, List.flatMap_cons, List.flatMap_nil, List.append_nil]
        exact hz
    · obtain ⟨f, xs, y2, y3, y4, y5, rfl, s3, hf, e3, hx⟩ := hP
      refine ⟨_, rfl, ?_⟩
      rw [List.length_map] at hx
      exact k f xs H3 s3 e3 hx
end
section
local macro_rules | `(tactic| walk_at "sl") => `(tactic| first | assumption | exact SqL.of upd_same | exact SqL.of (by assumption) | ((with_reducible apply sql_upd); (walk_at "sl"); (first | assumption | exact Ne.symm (by assumption))))
local macro_rules | `(tactic| walk_at "st") => `(tactic| first | assumption | exact SqT.of upd_same | exact SqT.of (by assumption))
local macro_rules | `(tactic| walk_at "sc") => `(tactic| first | rfl | assumption | (show (0 : Int) < _; first | assumption | decide | omega) | exact Or.inl ⟨by omega, by omega⟩ | exact Or.inr ⟨by omega, by omega⟩ | exact ⟨by decide, by decide⟩ | exact ⟨by decide, by decide, by decide⟩)
local macro_rules | `(tactic| walk_at "g1") => `(tactic| first
  | refine ⟨(_ : V), rfl, ?_⟩
  | refine ⟨(_ : Bool), rfl, ?_⟩
  | refine ⟨(_ : Int), (_ : Int), rfl, rfl, ?_⟩
  | refine ⟨(_ : Int), rfl, ?_⟩
  | refine ⟨(_ : Str), rfl, ?_⟩
  | refine ⟨(_ : Addr), (_ : List V), rfl, Or.inl (by walk_at "sl"), ?_⟩
  | refine ⟨(_ : Addr), (_ : List V), rfl, Or.inr (by walk_at "st"), ?_⟩
  | refine ⟨(_ : Addr), (_ : List V), (_ : Int), (_ : V), rfl, rfl, (by walk_at "sl"), (by first | rfl | assumption), ?_⟩
  | refine ⟨(_ : Addr), (_ : List V), (_ : Int), (_ : V), rfl, rfl, (by walk_at "st"), (by first | rfl | assumption), ?_⟩
  | refine ⟨(_ : Addr), (_ : List V), (_ : Int), (_ : Nat), rfl, rfl, upd_same, rfl, ?_⟩
  | refine ⟨(_ : Addr), (_ : List V), (_ : Int), (_ : Nat), rfl, rfl, (by assumption), rfl, ?_⟩
  | refine ⟨(_ : Addr), (_ : Addr), (_ : Addr), (_ : List (Str × V)), (_ : V), rfl, (by assumption), (by assumption), (by assumption), (by first | assumption | rfl), ?_⟩
  | refine Or.inl ⟨(_ : Int), rfl, ?_⟩
  | refine And.intro (by walk_at "sc") ?_
  | refine iteT ?_
  | refine iteF ?_)
/-! ### orders as integers -/
def intsO (o : List Nat) : List Int := o.map fun (k : Nat) => ((k : Nat) : Int)
theorem intsO_inj {o o' : List Nat} (h : intsO o = intsO o') : o = o' := by
  unfold intsO at h
  induction o generalizing o' with
  | nil => cases o' with
    | nil => rfl
    | cons _ _ => cases h
  | cons a o ih => cases o' with
    | nil => cases h
    | cons b o' =>
      obtain ⟨h1, h2⟩ := List.cons.inj h
      rw [ih h2, Int.ofNat.inj h1]
end
section
local macro_rules | `(tactic| walk_at "sl") => `(tactic| first | assumption | exact SqL.of upd_same | exact SqL.of (by assumption) | ((with_reducible apply sql_upd); (walk_at "sl"); (first | assumption | exact Ne.symm (by assumption))))
local macro_rules | `(tactic| walk_at "st") => `(tactic| first | assumption | exact SqT.of upd_same | exact SqT.of (by assumption))
local macro_rules | `(tactic| walk_at "sc") => `(tactic| first | rfl | assumption | (show (0 : Int) < _; first | assumption | decide | omega) | exact Or.inl ⟨by omega, by omega⟩ | exact Or.inr ⟨by omega, by omega⟩ | exact ⟨by decide, by decide⟩ | exact ⟨by decide, by decide, by decide⟩)
local macro_rules | `(tactic| walk_at "g1") => `(tactic| first
  | refine ⟨(_ : V), rfl, ?_⟩
  | refine ⟨(_ : Bool), rfl, ?_⟩
  | refine ⟨(_ : Int), (_ : Int), rfl, rfl, ?_⟩
  | refine ⟨(_ : Int), rfl, ?_⟩
  | refine ⟨(_ : Str), rfl, ?_⟩
  | refine ⟨(_ : Addr), (_ : List V), rfl, Or.inl (by walk_at "sl"), ?_⟩
  | refine ⟨(_ : Addr), (_ : List V), rfl, Or.inr (by walk_at "st"), ?_⟩
  | refine ⟨(_ : Addr), (_ : List V), (_ : Int), (_ : V), rfl, rfl, (by walk_at "sl"), (by first | rfl | assumption), ?_⟩
  | refine ⟨(_ : Addr), (_ : List V), (_ : Int), (_ : V), rfl, rfl, (by walk_at "st"), (by first | rfl | assumption), ?_⟩
  | refine ⟨(_ : Addr), (_ : List V), (_ : Int), (_ : Nat), rfl, rfl, upd_same, rfl, ?_⟩
  | refine ⟨(_ : Addr), (_ : List V), (_ : Int), (_ : Nat), rfl, rfl, (by assumption), rfl, ?_⟩
  | refine ⟨(_ : Addr), (_ : Addr), (_ : Addr), (_ : List (Str × V)), (_ : V), rfl, (by assumption), (by assumption), (by assumption), (by first | assumption | rfl), ?_⟩
  | refine Or.inl ⟨(_ : Int), rfl, ?_⟩
  | refine And.intro (by walk_at "sc") ?_
  | refine iteT ?_
  | refine iteF ?_)
/-! ### orders after moves -/
def addO (os : List (List Nat)) (o : List Nat) : List (List Nat) := if o ∈ os then os else os ++ [o]
def adds (os L : List (List Nat)) : List (List Nat) := L.foldl addO os
theorem mem_addO {os : List (List Nat)} {o x : List Nat} : x ∈ addO os o ↔ x ∈ os ∨ x = o := by
  unfold addO
  by_cases h : o ∈ os
  · rw [if_pos h]
    exact ⟨.inl, fun g => g.elim id fun e => e ▸ h⟩
  · rw [if_neg h, List.mem_append, List.mem_singleton]
theorem mem_adds : ∀ {L os : List (List Nat)} {x : List Nat}, x ∈ adds os L ↔ x ∈ os ∨ x ∈ L
  | [], os, x => ⟨.inl, fun g => g.elim id fun e => nomatch e⟩
  | o :: L, os, x => by
    show x ∈ adds (addO os o) L ↔ _
    rw [mem_adds, mem_addO, List.mem_cons, or_assoc]
theorem addO_nodup {os : List (List Nat)} {o : List Nat} (h : os.Nodup) : (addO os o).Nodup := by
  unfold addO
  by_cases g : o ∈ os
  · rw [if_pos g]
    exact h
  · rw [if_neg g]
    refine List.nodup_append.mpr ⟨h, List.nodup_cons.mpr ⟨List.not_mem_nil, List.nodup_nil⟩, fun a ha b hb e => ?_⟩
    rw [List.mem_singleton] at hb
    exact g (hb ▸ e ▸ ha)
theorem adds_nodup : ∀ {L os : List (List Nat)}, os.Nodup → (adds os L).Nodup
  | [], _, h => h
  | _ :: L, _, h => adds_nodup (L := L) (addO_nodup h)
theorem adds_snoc (os L : List (List Nat)) (o : List Nat) : adds os (L ++ [o]) = addO (adds os L) o := by
  unfold adds
  rw [List.foldl_append]
  rfl
theorem adds_app (os L M : List (List Nat)) : adds os (L ++ M) = adds (adds os L) M := List.foldl_append
/-- the keys of a dict from orders -/
def KeysOf (kvs : List (List Key × V)) (os : List (List Nat)) : Prop := kvs.map (·.1) = os.map keyO
theorem KeysOf.len {kvs : List (List Key × V)} {os : List (List Nat)} (h : KeysOf kvs os) : kvs.length = os.length := by
  have := congrArg List.length h
  rwa [List.length_map, List.length_map] at this
theorem KeysOf.put {kvs : List (List Key × V)} {os : List (List Nat)} (h : KeysOf kvs os) (o : List Nat) (v : V) : KeysOf (putK kvs (keyO o) v) (addO os o) := by
  have hm : (kvs.any fun kv => decide (kv.1 = keyO o)) = true ↔ o ∈ os := by
    rw [List.any_eq_true]
    constructor
    · rintro ⟨kv, hk, e⟩
      have := List.mem_map_of_mem (f := (·.1)) hk
      rw [h] at this
      obtain ⟨o', ho', e'⟩ := List.mem_map.mp this
      rw [keyO_inj (e'.trans (of_decide_eq_true e))] at ho'
      exact ho'
    · intro ho
      have := List.mem_map_of_mem (f := keyO) ho
      rw [← h] at this
      obtain ⟨kv, hk, e⟩ := List.mem_map.mp this
      exact ⟨kv, hk, decide_eq_true e⟩
  unfold KeysOf putK addO
  by_cases g : o ∈ os
  · rw [if_pos (hm.mpr g), if_pos g, ← h, List.map_map]
    refine List.map_congr_left fun kv _ => ?_
    show (if kv.1 = keyO o then (kv.1, v) else kv).1 = kv.1
    split <;> rfl
  · rw [if_neg (fun z => g (hm.mp z)), if_neg g, List.map_append, List.map_append, h]
    rfl
theorem keys_at {H : Hp} : ∀ {kvs : List (List Key × V)} {bs : List Addr} {os : List (List Nat)}, IsKeys H kvs bs → KeysOf kvs os → bs.length = os.length ∧ ∀ (i : Nat) b o, bs[i]? = some b → os[i]? = some o → TupO H b o
  | [], bs, os, h, g => by
    cases h
    have := List.map_eq_nil_iff.mp g.symm
    subst this
    exact ⟨rfl, fun i b o h1 => nomatch h1⟩
  | kv :: kvs, bs, os, h, g => by
    cases h with
    | cons h1 h2 =>
    cases os with
    | nil => cases g
    | cons o os =>
      obtain ⟨e1, e2⟩ := List.cons.inj g
      obtain ⟨l, q⟩ := keys_at h2 e2
      refine ⟨by rw [List.length_cons, List.length_cons, l], fun i b o' g1 g2 => ?_⟩
      cases i with
      | zero =>
        obtain rfl := Option.some.inj g1
        obtain rfl := Option.some.inj g2
        unfold TupO
        rw [← keyO_kV, ← e1]
        exact h1
      | succ i => exact q i b o' g1 g2
def roundO (f : List Nat → List (List Nat)) (os : List (List Nat)) : List (List Nat) := adds os (os.flatMap f)
def itO (f : List Nat → List (List Nat)) (n : Nat) : Nat → List (List Nat)
  | 0 => [List.range n]
  | m + 1 => roundO f (itO f n m)
theorem itO_nodup (f : List Nat → List (List Nat)) (n : Nat) : ∀ m, (itO f n m).Nodup
  | 0 => List.nodup_cons.mpr ⟨List.not_mem_nil, List.nodup_nil⟩
  | m + 1 => adds_nodup (itO_nodup f n m)
theorem itO_ok {f : List Nat → List (List Nat)} {n : Nat} (hf : ∀ o, OrdOk n o → ∀ x ∈ f o, OrdOk n x) : ∀ m, ∀ o ∈ itO f n m, OrdOk n o
  | 0, o, ho => by
    rw [List.mem_singleton.mp ho]
    exact range_ok n
  | m + 1, o, ho => by
    rcases mem_adds.mp ho with h | h
    · exact itO_ok hf m o h
    · obtain ⟨x, hx, ho⟩ := List.mem_flatMap.mp h
      exact hf x (itO_ok hf m x hx) o ho
/-- orders with n places, all different: at most n ^ n -/
theorem ords_le {n : Nat} {os : List (List Nat)} (h : os.Nodup) (g : ∀ o ∈ os, OrdOk n o) : os.length ≤ n ^ n := by
  have := nodup_le (ws := vecs n n) h fun o ho => by
    have q := mem_vecs (n := n) (o := o) (g o ho).m
    rw [(g o ho).l] at q
    exact q
  rwa [vecs_len] at this
theorem itO_same {f g : List Nat → List (List Nat)} {n : Nat} (hf : ∀ o, OrdOk n o → ∀ x ∈ f o, OrdOk n x) (h : ∀ o, OrdOk n o → ∀ x, x ∈ f o ∨ x = o ↔ x ∈ g o ∨ x = o) : ∀ m x, x ∈ itO f n m ↔ x ∈ itO g n m
  | 0, _ => Iff.rfl
  | m + 1, x => by
    have ih := itO_same hf h m
    have ok := itO_ok hf m
    show x ∈ adds _ _ ↔ x ∈ adds _ _
    rw [mem_adds, mem_adds, List.mem_flatMap, List.mem_flatMap]
    constructor
    · rintro (z | ⟨o, ho, z⟩)
      · exact .inl ((ih x).mp z)
      · rcases (h o (ok o ho) x).mp (.inl z) with q | q
        · exact .inr ⟨o, (ih o).mp ho, q⟩
        · exact .inl (q ▸ (ih o).mp ho)
    · rintro (z | ⟨o, ho, z⟩)
      · exact .inl ((ih x).mpr z)
      · have ho := (ih o).mpr ho
        rcases (h o (ok o ho) x).mpr (.inl z) with q | q
        · exact .inr ⟨o, ho, q⟩
        · exact .inl (q ▸ ho)
def toO (m : List Int) : List Nat := m.map Int.toNat
theorem toO_ints (o : List Nat) : toO (intsO o) = o := by
  unfold toO intsO
  rw [List.map_map]
  conv => rhs; rw [← List.map_id o]
  exact List.map_congr_left fun k _ => Int.toNat_natCast k
/-- sorted as Python sorts tuples of numbers -/
def SortO (os : List (List Nat)) : Prop := os.Pairwise fun a b => intsO a ≤ intsO b
theorem sort_same {os ps : List (List Nat)} (h1 : SortO os) (h2 : SortO ps) (n1 : os.Nodup) (n2 : ps.Nodup) (h : ∀ x, x ∈ os ↔ x ∈ ps) : os = ps :=
  List.Perm.eq_of_pairwise (fun _ _ _ _ a b => intsO_inj (List.le_antisymm a b)) h1 h2 ((List.perm_ext_iff_of_nodup n1 n2).mpr h)
theorem sort_back {ms : List (List Int)} {os : List (List Nat)} (hp : ms.Perm (os.map intsO)) (hs : ms.Pairwise (· ≤ ·)) : ∃ ps, ms = ps.map intsO ∧ ps.Perm os ∧ SortO ps := by
  have e : ms = (ms.map toO).map intsO := by
    rw [List.map_map]
    conv => lhs; rw [← List.map_id ms]
    refine List.map_congr_left fun m hm => ?_
    obtain ⟨o, _, rfl⟩ := List.mem_map.mp (hp.mem_iff.mp hm)
    show intsO o = intsO (toO (intsO o))
    rw [toO_ints]
  refine ⟨ms.map toO, e, ?_, ?_⟩
  · have := hp.map toO
    rw [List.map_map] at this
    have e2 : os.map (toO ∘ intsO) = os := by
      conv => rhs; rw [← List.map_id os]
      exact List.map_congr_left fun o _ => toO_ints o
    rwa [e2] at this
  · unfold SortO
    rw [e] at hs
    exact List.pairwise_map.mp hs
end
section
local macro_rules | `(tactic| walk_at "sl") => `(tactic| first | assumption | exact SqL.of upd_same | exact SqL.of (by assumption) | ((with_reducible apply sql_upd); (walk_at "sl"); (first | assumption | exact Ne.symm (by assumption))))
local macro_rules | `(tactic| walk_at "st") => `(tactic| first | assumption | exact SqT.of upd_same | exact SqT.of (by assumption))
local macro_rules | `(tactic| walk_at "sc") => `(tactic| first | rfl | assumption | (show (0 : Int) < _; first | assumption | decide | omega) | exact Or.inl ⟨by omega, by omega⟩ | exact Or.inr ⟨by omega, by omega⟩ | exact ⟨by decide, by decide⟩ | exact ⟨by decide, by decide, by decide⟩)
local macro_rules | `(tactic| walk_at "g1") => `(tactic| first
  | refine ⟨(_ : V), rfl, ?_⟩
  | refine ⟨(_ : Bool), rfl, ?_⟩
  | refine ⟨(_ : Int), (_ : Int), rfl, rfl, ?_⟩
  | refine ⟨(_ : Int), rfl, ?_⟩
  | refine ⟨(_ : Str), rfl, ?_⟩
  | refine ⟨(_ : Addr), (_ : List V), rfl, Or.inl (by walk_at "sl"), ?_⟩
  | refine ⟨(_ : Addr), (_ : List V), rfl, Or.inr (by walk_at "st"), ?_⟩
  | refine ⟨(_ : Addr), (_ : List V), (_ : Int), (_ : V), rfl, rfl, (by walk_at "sl"), (by first | rfl | assumption), ?_⟩
  | refine ⟨(_ : Addr), (_ : List V), (_ : Int), (_ : V), rfl, rfl, (by walk_at "st"), (by first | rfl | assumption), ?_⟩
  | refine ⟨(_ : Addr), (_ : List V), (_ : Int), (_ : Nat), rfl, rfl, upd_same, rfl, ?_⟩
  | refine ⟨(_ : Addr), (_ : List V), (_ : Int), (_ : Nat), rfl, rfl, (by assumption), rfl, ?_⟩
  | refine ⟨(_ : Addr), (_ : Addr), (_ : Addr), (_ : List (Str × V)), (_ : V), rfl, (by assumption), (by assumption), (by assumption), (by first | assumption | rfl), ?_⟩
  | refine Or.inl ⟨(_ : Int), rfl, ?_⟩
  | refine And.intro (by walk_at "sc") ?_
  | refine iteT ?_
  | refine iteF ?_)
/-! ### lists of tuples of numbers -/
def TupsAt (K : PySem.W.Frag) (H : Hp) (xs : List V) (os : List (List Nat)) : Prop := xs.length = os.length ∧ ∀ (i : Nat) x o, xs[i]? = some x → os[i]? = some o → ∃ t, x = .ref t ∧ TupO H t o
theorem TupsAt.imm {H H' : Hp} {xs : List V} {os : List (List Nat)} (h : TupsAt K H xs os) (c : Imm H H') : TupsAt K H' xs os := ⟨h.1, fun i x o h1 h2 => by
  obtain ⟨t, e, g⟩ := h.2 i x o h1 h2
  exact ⟨t, e, c _ _ g rfl⟩⟩
theorem TupsAt.app {H : Hp} {xs ys : List V} {os ps : List (List Nat)} (h : TupsAt K H xs os) (g : TupsAt K H ys ps) : TupsAt K H (xs ++ ys) (os ++ ps) := by
  refine ⟨by rw [List.length_append, List.length_append, h.1, g.1], fun i x o h1 h2 => ?_⟩
  by_cases hi : i < xs.length
  · rw [List.getElem?_append_left hi] at h1
    rw [List.getElem?_append_left (by rw [← h.1]; exact hi)] at h2
    exact h.2 i x o h1 h2
  · rw [List.getElem?_append_right (by omega)] at h1
    rw [List.getElem?_append_right (by rw [← h.1]; omega), ← h.1] at h2
    exact g.2 _ x o h1 h2
theorem TupsAt.one {H : Hp} {t : Addr} {o : List Nat} (h : TupO H t o) : TupsAt K H [.ref t] [o] := ⟨rfl, fun i x p h1 h2 => by
  cases i with
  | zero =>
    obtain rfl := Option.some.inj h1
    obtain rfl := Option.some.inj h2
    exact ⟨t, rfl, h⟩
  | succ i => cases h1⟩
end
section
local macro_rules | `(tactic| walk_at "sl") => `(tactic| first | assumption | exact SqL.of upd_same | exact SqL.of (by assumption) | ((with_reducible apply sql_upd); (walk_at "sl"); (first | assumption | exact Ne.symm (by assumption))))
local macro_rules | `(tactic| walk_at "st") => `(tactic| first | assumption | exact SqT.of upd_same | exact SqT.of (by assumption))
local macro_rules | `(tactic| walk_at "sc") => `(tactic| first | rfl | assumption | (show (0 : Int) < _; first | assumption | decide | omega) | exact Or.inl ⟨by omega, by omega⟩ | exact Or.inr ⟨by omega, by omega⟩ | exact ⟨by decide, by decide⟩ | exact ⟨by decide, by decide, by decide⟩)
local macro_rules | `(tactic| walk_at "g1") => `(tactic| first
  | refine ⟨(_ : V), rfl, ?_⟩
  | refine ⟨(_ : Bool), rfl, ?_⟩
  | refine ⟨(_ : Int), (_ : Int), rfl, rfl, ?_⟩
  | refine ⟨(_ : Int), rfl, ?_⟩
  | refine ⟨(_ : Str), rfl, ?_⟩
  | refine ⟨(_ : Addr), (_ : List V), rfl, Or.inl (by walk_at "sl"), ?_⟩
  | refine ⟨(_ : Addr), (_ : List V), rfl, Or.inr (by walk_at "st"), ?_⟩
  | refine ⟨(_ : Addr), (_ : List V), (_ : Int), (_ : V), rfl, rfl, (by walk_at "sl"), (by first | rfl | assumption), ?_⟩
  | refine ⟨(_ : Addr), (_ : List V), (_ : Int), (_ : V), rfl, rfl, (by walk_at "st"), (by first | rfl | assumption), ?_⟩
  | refine ⟨(_ : Addr), (_ : List V), (_ : Int), (_ : Nat), rfl, rfl, upd_same, rfl, ?_⟩
  | refine ⟨(_ : Addr), (_ : List V), (_ : Int), (_ : Nat), rfl, rfl, (by assumption), rfl, ?_⟩
  | refine ⟨(_ : Addr), (_ : Addr), (_ : Addr), (_ : List (Str × V)), (_ : V), rfl, (by assumption), (by assumption), (by assumption), (by first | assumption | rfl), ?_⟩
  | refine Or.inl ⟨(_ : Int), rfl, ?_⟩
  | refine And.intro (by walk_at "sc") ?_
  | refine iteT ?_
  | refine iteF ?_)
/-! ### orders_after -/
theorem rng_ord {H : Hp} {q : Addr} (n : Nat) : TupO (upd H q (.tup (rgV 0 ((n : Nat) : Int)))) q (List.range n) := by
  unfold TupO
  rw [upd_same, rgV_up]
  unfold upTo
  rw [List.map_map]
  rfl
theorem one_key (n : Nat) (v : V) : KeysOf [(keyO (List.range n), v)] [List.range n] := rfl
def spAfter (K : PySem.W.Frag) : Sp := fun vs H Q _ => ∃ (n m : Nat), vs = [.int (n : Nat), .int (m : Nat)] ∧ n ≤ 6 ∧ m ≤ 2 ∧ ∀ q xs os H', Same H H' → H q = none → H' q = some (.lst xs) → TupsAt K H' xs os → SortO os → os.Nodup → (∀ o, o ∈ os ↔ o ∈ itO (mvsN n) n m) → Q (.ref q) H'
theorem ok_orders_after (T : Top K mg) : FnOk P w K mg base CX0 3 T.a_orders_after T.fd_orders_after ["many", "most"] (spAfter K) := by
  refine T.F_orders_after.ok sc_orders_after (fun vs H Q E h => ?_) (fun cdv A outer s H vs Q E hr h => ?_)
  · obtain ⟨n, m, rfl, _⟩ := h
    rfl
  · obtain ⟨n, m, rfl, hn, hm, k⟩ := h
    have hu := hu_of hr
    refine ⟨_, (pss_cons (ps_set (i := 2) sc_orders_after.nd rfl (.inl rfl) (pe_dispT1 hu (pe_tupRg rfl (by rfl) T.m_tuple (prg_1 (by rfl) T.m_range (pv 0))) pe_bl))
      (pss_cons (ps_for PassesOwn.never rfl (pi_range1 (by rfl) T.m_range (pa_cons (pv 1) pa_nil)) (pg_name (i := 3) sc_orders_after.nd rfl (.inl rfl))
        (pss_one (ps_for PassesOwn.never rfl (pi_list (pe_callTy (call_list_dT rfl) (by rfl) T.m_list (by decide +kernel) (pa_cons (pv 2) pa_nil))) (pg_name (i := 4) sc_orders_after.nd rfl (.inl rfl))
          (pss_one (ps_for PassesOwn.never rfl (pi_list (pe_call (ok_moves_of T) (hr.mono (by decide)) (by rfl) T.g_moves_of T.F_moves_of.kp (b_moves_of T) .nil pass0 (pa_cons (pv 4) pa_nil))) (pg_tup rfl (pgs_cons (pg_name (i := 5) sc_orders_after.nd rfl (.inl rfl)) (pgs_cons (pg_name (i := 6) sc_orders_after.nd rfl (.inl rfl)) pgs_nil)))
            (pss_one (ps_dput hu (pv 2) (pv 6) pe_bl rfl)))))))
      (pss_one (ps_ret (pe_callB (cr_sortedDT rfl hr.units) (by rfl) T.m_sorted (by decide +kernel) (pa_cons (pv 2) pa_nil)))))), ?_⟩
    have hsz := sizeLine_of (show (1000000 : Nat) ≤ 1000000 by omega)
    have hpow : ∀ n ≤ 6, n ^ n ≤ 46656 := by decide
    have hmo : ∀ o, OrdOk n o → ∀ x ∈ mvsN n o, OrdOk n x := fun o g => mvs_ok g
    intro b hb
    have sb := same_new (o := .dT []) hb
    have eb : (upd H b (.dT [])) b = some (.dT []) := upd_same
    generalize upd H b (.dT []) = H1 at *
    refine ⟨_, rfl, _, rfl, RgOk.of_le (by omega) (by omega) (by omega) (by omega), fun q hq => ?_⟩
    have eb2 := (same_new hq (o := .tup (rgV 0 ((n : Nat) : Int)))) _ _ eb
    have s2 := sb.trans (same_new hq (o := .tup (rgV 0 ((n : Nat) : Int))))
    have hq2 : TupO (upd H1 q (.tup (rgV 0 ((n : Nat) : Int)))) q (List.range n) := rng_ord n
    generalize upd H1 q (.tup (rgV 0 ((n : Nat) : Int))) = H2 at *
    refine ⟨q, keyO (List.range n), rfl, eb2, TupO.key hq2, ?_⟩
    have s3 : Same H (upd H2 b (.dT [(keyO (List.range n), .bl true)])) := same_mut s2 hb
    have eb3 : (upd H2 b (.dT [(keyO (List.range n), .bl true)])) b = some (.dT [(keyO (List.range n), .bl true)]) := upd_same
    generalize upd H2 b (.dT [(keyO (List.range n), .bl true)]) = H3 at *
    refine ⟨_, rfl, _, rfl, by omega, by omega, for_range (lo := 0) (n := ((m : Nat) : Int).toNat) (fun i σ H4 => ∃ (kvs : List (List Key × V)) (y3 y4 y5 y6 : Option V), σ = [some (.int (n : Nat)), some (.int (m : Nat)), some (.ref b), y3, y4, y5, y6] ∧ Same H H4 ∧ H4 b = some (.dT kvs) ∧ KeysOf kvs (itO (mvsN n) n i)) ⟨_, _, _, _, _, rfl, s3, eb3, one_key n _⟩ (fun i σ H4 hi hP => ?_) (fun σ H4 hP => ?_)⟩
    · obtain ⟨kvs, y3, y4, y5, y6, rfl, s4, e4, hk⟩ := hP
      have hnd := itO_nodup (mvsN n) n i
      have hok := itO_ok hmo i
      have hok2 := itO_ok hmo (i + 1)
      have hnd2 := itO_nodup (mvsN n) n (i + 1)
      have hle := ords_le hnd hok
      have hp6 := hpow n hn
      have hU : itO (mvsN n) n (i + 1) = roundO (mvsN n) (itO (mvsN n) n i) := rfl
      rw [hU] at hok2 hnd2
      have hgoal : ∀ σ H4, (∃ (kvs : List (List Key × V)) (y3 y4 y5 y6 : Option V), σ = [some (.int (n : Nat)), some (.int (m : Nat)), some (.ref b), y3, y4, y5, y6] ∧ Same H H4 ∧ H4 b = some (.dT kvs) ∧ KeysOf kvs (roundO (mvsN n) (itO (mvsN n) n i))) → (∃ (kvs : List (List Key × V)) (y3 y4 y5 y6 : Option V), σ = [some (.int (n : Nat)), some (.int (m : Nat)), some (.ref b), y3, y4, y5, y6] ∧ Same H H4 ∧ H4 b = some (.dT kvs) ∧ KeysOf kvs (itO (mvsN n) n (i + 1))) := fun _ _ g => g
      generalize itO (mvsN n) n i = os at *
      refine ⟨_, rfl, b, kvs, rfl, Rd.of e4, fun p1 bs hp1 hks => ⟨p1, rfl, ⟨_, SqL.of upd_same⟩, ?_⟩⟩
      obtain ⟨hbl, hbo⟩ := keys_at hks hk
      have s5 := same_new (o := .lst (bs.map V.ref)) hp1
      have e5 := s5 _ _ e4
      have s05 := s4.trans s5
      have l5 : (upd H4 p1 (.lst (bs.map V.ref))) p1 = some (.lst (bs.map V.ref)) := upd_same
      have hbo5 : ∀ (i : Nat) b o, bs[i]? = some b → os[i]? = some o → TupO (upd H4 p1 (.lst (bs.map V.ref))) b o := fun i b o g1 g2 => s5 _ _ (hbo i b o g1 g2)
      have np : p1 ≠ b := fun e => by rw [e, e4] at hp1; cases hp1
      generalize upd H4 p1 (.lst (bs.map V.ref)) = H5 at *
      refine for_list (K := K) (a := p1) (xs := bs.map V.ref) (fun j σ H6 => ∃ (kvs : List (List Key × V)) (y4 y5 y6 : Option V), σ = [some (.int (n : Nat)), some (.int (m : Nat)), some (.ref b), some (.int (0 + ((i : Nat) : Int))), y4, y5, y6] ∧ But b H5 H6 ∧ H6 b = some (.dT kvs) ∧ KeysOf kvs (adds os ((os.take j).flatMap (mvsN n)))) ⟨kvs, _, _, _, rfl, But.refl, e5, hk⟩ (fun j σ H6 _ ⟨_, _, _, _, _, b6, _⟩ => b6.seq np (SqL.of l5)) (fun j x σ H6 hx hP => ?_) (fun σ H6 hP => ?_)
      · obtain ⟨kv6, y4, y5, y6, rfl, b6, e6, hk6⟩ := hP
        rw [List.getElem?_map] at hx
        obtain ⟨t, ht, rfl⟩ := Option.map_eq_some_iff.mp hx
        have hj : j < os.length := by rw [← hbl]; exact (List.getElem?_eq_some_iff.mp ht).1
        have ho : os[j]? = some os[j] := List.getElem?_eq_getElem hj
        have tO := hbo5 j t _ ht ho
        have hoo := hok _ (List.getElem_mem hj)
        have nt : t ≠ b := fun e => by
          have q : H5 t = some (.tup _) := tO
          rw [e, e5] at q
          cases q
        have tO6 : TupO H6 t os[j] := b6 _ _ tO nt
        refine ⟨_, rfl, t, os[j], rfl, tO6, by rw [hoo.l]; omega, fun q xs H7 s7 eq7 hx7 => ⟨q, rfl, ⟨_, SqL.of eq7⟩, ?_⟩⟩
        rw [hoo.l] at hx7
        have e7 := s7 _ _ e6
        have b7 := b6.same s7
        have nq : q ≠ b := fun e => by rw [e, e7] at eq7; cases eq7
        have hLl := hx7.1
        refine for_list (K := K) (a := q) (xs := xs) (fun z σ H8 => ∃ (kvs : List (List Key × V)) (y5 y6 : Option V), σ = [some (.int (n : Nat)), some (.int (m : Nat)), some (.ref b), some (.int (0 + ((i : Nat) : Int))), some (.ref t), y5, y6] ∧ But b H7 H8 ∧ H8 b = some (.dT kvs) ∧ KeysOf kvs (adds (adds os ((os.take j).flatMap (mvsN n))) ((mvsN n os[j]).take z))) ⟨kv6, _, _, rfl, But.refl, e7, hk6⟩ (fun z σ H8 _ ⟨_, _, _, _, b8, _⟩ => b8.seq nq (SqL.of eq7)) (fun z x σ H8 hx hP => ?_) (fun σ H8 hP => ?_)
        · obtain ⟨kv8, y5, y6, rfl, b8, e8, hk8⟩ := hP
          have hz : z < (mvsN n os[j]).length := by rw [← hLl]; exact (List.getElem?_eq_some_iff.mp hx).1
          have hzo : (mvsN n os[j])[z]? = some (mvsN n os[j])[z] := List.getElem?_eq_getElem hz
          obtain ⟨p, t2, a, rfl, hp7, ht7⟩ := hx7.2 z x _ hx hzo
          have np8 : p ≠ b := fun e => by rw [e, e7] at hp7; cases hp7
          have nt8 : t2 ≠ b := fun e => by
            have q : H7 t2 = some (.tup _) := ht7
            rw [e, e7] at q
            cases q
          have hp8 := b8 _ _ hp7 np8
          have ht8 : TupO H8 t2 _ := b8 _ _ ht7 nt8
          refine ⟨p, _, rfl, SqT.of hp8, rfl, _, _, rfl, _, _, rfl, rfl, ?_⟩
          refine ⟨_, rfl, _, rfl, b, _, rfl, DPut.t e8 (TupO.key ht8) ?_, ?_⟩
          · have hnd8 := adds_nodup (L := (mvsN n os[j]).take z) (adds_nodup (L := (os.take j).flatMap (mvsN n)) hnd)
            have h8 := ords_le hnd8 fun o ho => by
              rcases mem_adds.mp ho with g | g
              · rcases mem_adds.mp g with g | g
                · exact hok o g
                · obtain ⟨y, hy, g⟩ := List.mem_flatMap.mp g
                  exact hmo y (hok y (List.mem_of_mem_take hy)) o g
              · exact hmo _ hoo o (List.mem_of_mem_take g)
            have h9 := hk8.len
            exact sizeLine_of (by omega)
          · refine ⟨_, _, _, rfl, b8.upd, upd_same, ?_⟩
            rw [List.take_add_one, hzo]
            show KeysOf _ (adds _ (_ ++ [_]))
            rw [adds_snoc]
            exact hk8.put _ _
        · obtain ⟨kv8, y5, y6, rfl, b8, e8, hk8⟩ := hP
          rw [hLl, List.take_length] at hk8
          refine ⟨kv8, _, _, _, rfl, b7.trans b8, e8, ?_⟩
          rw [List.take_add_one, ho, List.flatMap_append, adds_app]
          show KeysOf _ (adds _ ([os[j]].flatMap _))
          rw [List.flatMap_cons, List.flatMap_nil, List.append_nil]
          exact hk8
      · obtain ⟨kv6, y4, y5, y6, rfl, b6, e6, hk6⟩ := hP
        rw [List.length_map, hbl, List.take_length] at hk6
        exact hgoal _ _ ⟨kv6, _, _, _, _, rfl, fun c o h => b6 c o (s05 c o h) (fun e => by rw [e, hb] at h; cases h), e6, hk6⟩
    · obtain ⟨kvs, y3, y4, y5, y6, rfl, s4, e4, hk⟩ := hP
      rw [Int.toNat_natCast] at hk
      have hnd := itO_nodup (mvsN n) n m
      have hok := itO_ok hmo m
      refine ⟨_, rfl, b, kvs, (itO (mvsN n) n m).map intsO, rfl, Rd.of e4, ?_, ?_, ?_⟩
      · rw [show kvs.map (·.1) = (itO (mvsN n) n m).map keyO from hk, List.map_map]
        refine List.map_congr_left fun o _ => ?_
        show _ = (intsO o).map Sum.inl
        unfold keyO intsO
        rw [List.map_map]
        rfl
      · by_cases h0 : n = 0
        · subst h0
          have := ords_le hnd hok
          rw [List.length_map]
          exact .inr this
        · refine .inl fun x hx e => ?_
          obtain ⟨o, ho, rfl⟩ := List.mem_map.mp hx
          have h1 := (hok o ho).l
          have h2 := congrArg List.length e
          unfold intsO at h2
          rw [List.length_map, h1] at h2
          exact h0 h2
      · intro p as ms hp hs hl ha hpf
        obtain ⟨ps, rfl, hps, hss⟩ := sort_back hp hs
        refine k p _ ps _ (s4.trans (same_new hpf)) (none_back s4 hpf) upd_same ⟨?_, fun j x o g1 g2 => ?_⟩ hss (hps.nodup_iff.mpr hnd) fun o => hps.mem_iff
        · rw [List.length_map, hl, List.length_map]
        · rw [List.getElem?_map] at g1
          obtain ⟨a, ha1, rfl⟩ := Option.map_eq_some_iff.mp g1
          have q := ha j a (intsO o) ha1 (by rw [List.getElem?_map, g2]; rfl)
          refine ⟨a, rfl, ?_⟩
          unfold TupO
          rw [same_new hpf _ _ q]
          unfold intsO
          rw [List.map_map]
          rfl
end
section
local macro_rules | `(tactic| walk_at "sl") => `(tactic| first | assumption | exact SqL.of upd_same | exact SqL.of (by assumption) | ((with_reducible apply sql_upd); (walk_at "sl"); (first | assumption | exact Ne.symm (by assumption))))
local macro_rules | `(tactic| walk_at "st") => `(tactic| first | assumption | exact SqT.of upd_same | exact SqT.of (by assumption))
local macro_rules | `(tactic| walk_at "sc") => `(tactic| first | rfl | assumption | (show (0 : Int) < _; first | assumption | decide | omega) | exact Or.inl ⟨by omega, by omega⟩ | exact Or.inr ⟨by omega, by omega⟩ | exact ⟨by decide, by decide⟩ | exact ⟨by decide, by decide, by decide⟩)
local macro_rules | `(tactic| walk_at "g1") => `(tactic| first
  | refine ⟨(_ : V), rfl, ?_⟩
  | refine ⟨(_ : Bool), rfl, ?_⟩
  | refine ⟨(_ : Int), (_ : Int), rfl, rfl, ?_⟩
  | refine ⟨(_ : Int), rfl, ?_⟩
  | refine ⟨(_ : Str), rfl, ?_⟩
  | refine ⟨(_ : Addr), (_ : List V), rfl, Or.inl (by walk_at "sl"), ?_⟩
  | refine ⟨(_ : Addr), (_ : List V), rfl, Or.inr (by walk_at "st"), ?_⟩
  | refine ⟨(_ : Addr), (_ : List V), (_ : Int), (_ : V), rfl, rfl, (by walk_at "sl"), (by first | rfl | assumption), ?_⟩
  | refine ⟨(_ : Addr), (_ : List V), (_ : Int), (_ : V), rfl, rfl, (by walk_at "st"), (by first | rfl | assumption), ?_⟩
  | refine ⟨(_ : Addr), (_ : List V), (_ : Int), (_ : Nat), rfl, rfl, upd_same, rfl, ?_⟩
  | refine ⟨(_ : Addr), (_ : List V), (_ : Int), (_ : Nat), rfl, rfl, (by assumption), rfl, ?_⟩
  | refine ⟨(_ : Addr), (_ : Addr), (_ : Addr), (_ : List (Str × V)), (_ : V), rfl, (by assumption), (by assumption), (by assumption), (by first | assumption | rfl), ?_⟩
  | refine Or.inl ⟨(_ : Int), rfl, ?_⟩
  | refine And.intro (by walk_at "sc") ?_
  | refine iteT ?_
  | refine iteF ?_)
/-! ### fits_tally, orders_by, possible_orders -/
open LamX
def fitsB (ws : List Str) (r : Str) (ps : List (Str × Int)) : Bool := ps.all fun p => decide ((((seekOf ws r p.1).2.length : Nat) : Int) = p.2)
def spFits (K : PySem.W.Frag) : Sp := fun vs H Q _ => ∃ (t a : Addr) (ws : List Str) (r : Str) (ps : List (Str × Int)), vs = [.ref t, .str r, .ref a] ∧ SqT K H t (ws.map V.str) ∧ ws.length ≤ 1000 ∧ r ∈ rules3 ∧ CountsAt K H a ps ∧ ∀ H', Same H H' → Q (.bl (fitsB ws r ps)) H'
theorem fits_take {ws : List Str} {r : Str} {ps : List (Str × Int)} {i : Nat} {p : Str × Int} (h : ps[i]? = some p) : fitsB ws r (ps.take (i + 1)) = (fitsB ws r (ps.take i) && decide ((((seekOf ws r p.1).2.length : Nat) : Int) = p.2)) := by
  unfold fitsB
  rw [List.take_add_one, h, List.all_append]
  show (_ && (_ && true)) = _
  rw [Bool.and_true]
theorem fits_fail {ws : List Str} {r : Str} {ps : List (Str × Int)} {i : Nat} {p : Str × Int} (h : ps[i]? = some p) (g : ¬ (((seekOf ws r p.1).2.length : Nat) : Int) = p.2) : fitsB ws r ps = false := by
  unfold fitsB
  rw [List.all_eq_false]
  exact ⟨p, List.mem_of_getElem? h, by rw [decide_eq_true_eq]; exact g⟩
theorem ok_fits_tally (T : Top K mg) : FnOk P w K mg base CX0 3 T.a_fits_tally T.fd_fits_tally ["row", "rule", "tally"] (spFits K) := by
  refine T.F_fits_tally.ok sc_fits_tally (fun vs H Q E h => ?_) (fun cdv A outer s H vs Q E hr h => ?_)
  · obtain ⟨t, a, ws, r, ps, rfl, _⟩ := h
    rfl
  · obtain ⟨t, a, ws, r, ps, rfl, hT, hl, hr3, ⟨qs, hL, hql, hq⟩, k⟩ := h
    have hu := hu_of hr
    refine ⟨_, (pss_cons (ps_for PassesOwn.never rfl (pi_list (pv 2)) (pg_tup rfl (pgs_cons (pg_name (i := 3) sc_fits_tally.nd rfl (.inl rfl)) (pgs_cons (pg_name (i := 4) sc_fits_tally.nd rfl (.inl rfl)) pgs_nil)))
        (pss_one (ps_if (pt_cmpR op_ne (pe_callB call_len_seq (by rfl) T.m_len (by decide +kernel) (pa_cons (pe_ix ix_tup (pe_call (ok_seek T) (hr.mono (by decide)) (by rfl) T.g_seek T.F_seek.kp (b_seek T) .nil pass0 (pa_cons (pv 0) (pa_cons (pv 1) (pa_cons (pv 3) pa_nil)))) pe_int (fun _ _ => rfl)) pa_nil)) (pv 4) (nomark _)) (pss_one (ps_ret pe_bl)) pss_nil)))
      (pss_one (ps_ret pe_bl))), ?_⟩
    refine ⟨_, rfl, a, rfl, ⟨_, hL⟩, for_list (K := K) (a := a) (xs := qs.map V.ref) (fun i σ H1 => ∃ (y3 y4 : Option V), σ = [some (.ref t), some (.str r), some (.ref a), y3, y4] ∧ Same H H1 ∧ fitsB ws r (ps.take i) = true) ⟨none, none, rfl, Same.refl _, rfl⟩ (fun i σ H1 _ ⟨_, _, _, s1, _⟩ => s1.seq hL) (fun i x σ H1 hi hP => ?_) (fun σ H1 hP => ?_)⟩
    · obtain ⟨y1, y2, rfl, s1, hf⟩ := hP
      rw [List.getElem?_map] at hi
      obtain ⟨q, hqi, rfl⟩ := Option.map_eq_some_iff.mp hi
      have hil : i < ps.length := by
        rw [← hql]
        exact (List.getElem?_eq_some_iff.mp hqi).1
      have hpi := List.getElem?_eq_getElem hil
      have t1 := s1.seqT (hq i q _ hqi hpi)
      have hft := fits_take (ws := ws) (r := r) hpi
      have hff := fits_fail (ws := ws) (r := r) hpi
      generalize ps[i] = p at *
      refine ⟨q, _, rfl, t1, rfl, _, _, rfl, _, _, rfl, rfl, ?_⟩
      refine ⟨_, rfl, _, rfl, _, rfl, t, ws, r, p.1, rfl, s1.seqT hT, hl, fun u H2 s2 hS2 => ?_⟩
      obtain ⟨pp, hu2, hp2⟩ := hS2
      refine ⟨u, _, 1, .ref pp, rfl, rfl, hu2, rfl, pp, _, rfl, .inr hp2, ?_⟩
      rw [List.length_map]
      refine ⟨_, rfl, rNe_to (b := !decide ((((seekOf ws r p.1).2.length : Nat) : Int) = p.2)) rfl (by rw [int_dec]) ?_⟩
      refine ⟨_, rfl, ?_⟩
      by_cases he : (((seekOf ws r p.1).2.length : Nat) : Int) = p.2
      · rw [decide_eq_true he]
        refine iteF ⟨_, _, rfl, s1.trans s2, ?_⟩
        rw [hft, hf, decide_eq_true he]
        rfl
      · rw [decide_eq_false he]
        refine iteT ?_
        have := k H2 (s1.trans s2)
        rw [hff he] at this
        exact this
    · obtain ⟨y1, y2, rfl, s1, hf⟩ := hP
      rw [List.length_map, hql, List.take_length] at hf
      have := k H1 s1
      rw [hf] at this
      exact this
theorem TupsAt.len {H : Hp} {xs : List V} {os : List (List Nat)} (h : TupsAt K H xs os) : xs.length = os.length := h.1
theorem CountsAt.ext {H H' : Hp} {a : Addr} {ps : List (Str × Int)} (h : CountsAt K H a ps) (e : ExtN H H') : CountsAt K H' a ps := by
  obtain ⟨qs, h1, h2, h3⟩ := h
  exact ⟨qs, extN_sql e h1, h2, fun i q p e1 e2 => (extN_imm e).seqT (h3 i q p e1 e2)⟩
def fitOrd (ws : List Str) (r : Str) (ps : List (Str × Int)) (o : List Nat) : Bool := fitsB (rowBy ws o) r ps
end
section
local macro_rules | `(tactic| walk_at "sl") => `(tactic| first | assumption | exact SqL.of upd_same | exact SqL.of (by assumption) | ((with_reducible apply sql_upd); (walk_at "sl"); (first | assumption | exact Ne.symm (by assumption))))
local macro_rules | `(tactic| walk_at "st") => `(tactic| first | assumption | exact SqT.of upd_same | exact SqT.of (by assumption))
local macro_rules | `(tactic| walk_at "sc") => `(tactic| first | rfl | assumption | (show (0 : Int) < _; first | assumption | decide | omega) | exact Or.inl ⟨by omega, by omega⟩ | exact Or.inr ⟨by omega, by omega⟩ | exact ⟨by decide, by decide⟩ | exact ⟨by decide, by decide, by decide⟩)
local macro_rules | `(tactic| walk_at "g1") => `(tactic| first
  | refine ⟨(_ : V), rfl, ?_⟩
  | refine ⟨(_ : Bool), rfl, ?_⟩
  | refine ⟨(_ : Int), (_ : Int), rfl, rfl, ?_⟩
  | refine ⟨(_ : Int), rfl, ?_⟩
  | refine ⟨(_ : Str), rfl, ?_⟩
  | refine ⟨(_ : Addr), (_ : List V), rfl, Or.inl (by walk_at "sl"), ?_⟩
  | refine ⟨(_ : Addr), (_ : List V), rfl, Or.inr (by walk_at "st"), ?_⟩
  | refine ⟨(_ : Addr), (_ : List V), (_ : Int), (_ : V), rfl, rfl, (by walk_at "sl"), (by first | rfl | assumption), ?_⟩
  | refine ⟨(_ : Addr), (_ : List V), (_ : Int), (_ : V), rfl, rfl, (by walk_at "st"), (by first | rfl | assumption), ?_⟩
  | refine ⟨(_ : Addr), (_ : List V), (_ : Int), (_ : Nat), rfl, rfl, upd_same, rfl, ?_⟩
  | refine ⟨(_ : Addr), (_ : List V), (_ : Int), (_ : Nat), rfl, rfl, (by assumption), rfl, ?_⟩
  | refine ⟨(_ : Addr), (_ : Addr), (_ : Addr), (_ : List (Str × V)), (_ : V), rfl, (by assumption), (by assumption), (by assumption), (by first | assumption | rfl), ?_⟩
  | refine Or.inl ⟨(_ : Int), rfl, ?_⟩
  | refine And.intro (by walk_at "sc") ?_
  | refine iteT ?_
  | refine iteF ?_)
theorem ok_Drawer_len (T : Top K mg) : FnOk P w K mg base CX0 1 T.a_Drawer_len T.fd_Drawer_len ["self"] (fun vs H Q _ => ∃ (p : Addr) (cs : List CD), vs = [.ref p] ∧ DrawerAt K T.c_Drawer T.c_Card H p cs ∧ cs.length ≤ 1000 ∧ Q (.int cs.length) H) := by
  refine T.F_Drawer_len.ok sc_Drawer_len (fun vs H Q E h => ?_) (fun cdv A outer s H vs Q E hr h => ?_)
  · obtain ⟨p, cs, rfl, _⟩ := h
    rfl
  · obtain ⟨p, cs, rfl, ⟨dx, t, ps, hp, hT, hC⟩, hl, k⟩ := h
    have hu := hu_of hr
    refine ⟨_, (pss_one (ps_ret (pe_callB call_len_seq (by rfl) T.m_len (by decide +kernel) (pa_cons (pe_fld (pv 0) rfl) pa_nil)))), ?_⟩
    refine ⟨_, rfl, p, _, dx, _, _, rfl, hp, T.cl_Drawer, T.n_Drawer__cards, df_cards _, t, _, rfl, .inr hT, ?_⟩
    rw [List.length_map, hC.1]
    exact k
end
section
local macro_rules | `(tactic| walk_at "sl") => `(tactic| first | assumption | exact SqL.of upd_same | exact SqL.of (by assumption) | ((with_reducible apply sql_upd); (walk_at "sl"); (first | assumption | exact Ne.symm (by assumption))))
local macro_rules | `(tactic| walk_at "st") => `(tactic| first | assumption | exact SqT.of upd_same | exact SqT.of (by assumption))
local macro_rules | `(tactic| walk_at "sc") => `(tactic| first | rfl | assumption | (show (0 : Int) < _; first | assumption | decide | omega) | exact Or.inl ⟨by omega, by omega⟩ | exact Or.inr ⟨by omega, by omega⟩ | exact ⟨by decide, by decide⟩ | exact ⟨by decide, by decide, by decide⟩)
local macro_rules | `(tactic| walk_at "g1") => `(tactic| first
  | refine ⟨(_ : V), rfl, ?_⟩
  | refine ⟨(_ : Bool), rfl, ?_⟩
  | refine ⟨(_ : Int), (_ : Int), rfl, rfl, ?_⟩
  | refine ⟨(_ : Int), rfl, ?_⟩
  | refine ⟨(_ : Str), rfl, ?_⟩
  | refine ⟨(_ : Addr), (_ : List V), rfl, Or.inl (by walk_at "sl"), ?_⟩
  | refine ⟨(_ : Addr), (_ : List V), rfl, Or.inr (by walk_at "st"), ?_⟩
  | refine ⟨(_ : Addr), (_ : List V), (_ : Int), (_ : V), rfl, rfl, (by walk_at "sl"), (by first | rfl | assumption), ?_⟩
  | refine ⟨(_ : Addr), (_ : List V), (_ : Int), (_ : V), rfl, rfl, (by walk_at "st"), (by first | rfl | assumption), ?_⟩
  | refine ⟨(_ : Addr), (_ : List V), (_ : Int), (_ : Nat), rfl, rfl, upd_same, rfl, ?_⟩
  | refine ⟨(_ : Addr), (_ : List V), (_ : Int), (_ : Nat), rfl, rfl, (by assumption), rfl, ?_⟩
  | refine ⟨(_ : Addr), (_ : Addr), (_ : Addr), (_ : List (Str × V)), (_ : V), rfl, (by assumption), (by assumption), (by assumption), (by first | assumption | rfl), ?_⟩
  | refine Or.inl ⟨(_ : Int), rfl, ?_⟩
  | refine And.intro (by walk_at "sc") ?_
  | refine iteT ?_
  | refine iteF ?_)
/-! ### orders that are possible, or their errors -/
open LamX
theorem num_two {v : V} (h : isNumV v 0 2 = true) : ∃ m : Nat, v = .int (m : Nat) ∧ m ≤ 2 := by
  cases v with
  | int n =>
    have h' : isNum n 0 2 = true := h
    unfold isNum at h'
    rw [Bool.and_eq_true] at h'
    have h1 := of_decide_eq_true h'.1
    have h2 := of_decide_eq_true h'.2
    exact ⟨n.toNat, by rw [Int.toNat_of_nonneg h1], by omega⟩
  | _ => cases h
def OrdErr (cR cT cN : Addr) (r : Str) (ps : List (Str × Int)) (v : V) (H : Hp) (E : XK) : Prop :=
  (r ∉ rules3 → E (.ref cR) none H) ∧ (r ∈ rules3 → ∀ i, firstBad ps = some i → ∀ H' dd, Same H H' → H' dd = some (.xd (xdI i)) → E (.ref cT) (some dd) H') ∧ (r ∈ rules3 → firstBad ps = none → isNumV v 0 2 = false → ∀ H', Same H H' → E (.ref cN) none H')
def spOrdX (K : PySem.W.Frag) (D C tP cR cT cN : Addr) : Sp := fun vs H Q E => ∃ (d a : Addr) (cs : List CD) (r : Str) (ps : List (Str × Int)) (v : V) (TS : List (Addr × Str)), vs = [.ref d, .str r, .ref a, v] ∧ DrawerAt K D C H d cs ∧ cs.length ≤ 6 ∧ CountsAt K H a ps ∧ ps.length ≤ 400 ∧ (∀ p ∈ ps, p.1.length ≤ 1000) ∧ itemV v = true ∧ (tP, lamF) ∈ TS ∧ (∀ p ∈ TS, p.1 = tP → p.2 = lamF) ∧ Tabs TS H ∧
  (r ∉ rules3 → E (.ref cR) none H) ∧ (r ∈ rules3 → ∀ i, firstBad ps = some i → ∀ H' dd, Same H H' → H' dd = some (.xd (xdI i)) → E (.ref cT) (some dd) H') ∧ (r ∈ rules3 → firstBad ps = none → isNumV v 0 2 = false → ∀ H', Same H H' → E (.ref cN) none H') ∧
  (r ∈ rules3 → firstBad ps = none → isNumV v 0 2 = true → ∀ q H', ExtN H H' → Tabs TS H' → Q (.ref q) H')
theorem okx_orders_by (T : Top K mg) {c tP : Addr} (hcodeF : T.fd_filed.code = .ref c) (TBF : TabB base mg c tP) : FnOk P w K mg base (L2.CX P w) 8 T.a_orders_by T.fd_orders_by ["drawer", "rule", "tally", "most"] (spOrdX K T.c_Drawer T.c_Card tP T.c_InvalidRule T.c_InvalidTally T.c_InvalidNumber) := by
  refine T.F_orders_by.okX sc_orders_by (fun vs H Q E h => ?_) (fun cdv A outer s H vs Q E hr h => ?_)
  · obtain ⟨d, a, cs, r, ps, v, TS, rfl, _⟩ := h
    rfl
  · obtain ⟨d, a, cs, r, ps, v, TS, rfl, hD, hl, hC, hpl, hwl, hv, hmT, huT, hT, k1, k2, k3, k0⟩ := h
    have hu := hu_of hr
    refine ⟨_, (pss_cons (ps_expr (pe_call (okx_check_rule T) (hr.mono (by decide)) (by rfl) T.g_check_rule T.F_check_rule.kp (b_check_rule T) .nil (passX (fun _ _ _ h => h) rfl rfl rfl rfl) (pa_cons (pv 1) pa_nil)))
      (pss_cons (ps_expr (pe_call (okx_check_tally T) (hr.mono (by decide)) (by rfl) T.g_check_tally T.F_check_tally.kp (b_check_tally T) .nil (passX (fun _ _ _ h => h) rfl rfl rfl rfl) (pa_cons (pv 2) pa_nil)))
      (pss_cons (ps_expr (pe_call (okx_check_number T) (hr.mono (by decide)) (by rfl) T.g_check_number T.F_check_number.kp (b_check_number T) .nil (passX (fun _ _ _ h => h) rfl rfl rfl rfl) (pa_cons (pv 3) (pa_cons pe_int (pa_cons (pe_glob rfl T.g_MOST_MOVES T.r_MOST_MOVES) pa_nil)))))
      (pss_cons (ps_nox (ps_set (i := 4) sc_orders_by.nd rfl (.inr rfl) (pe_call (ok_headings_along T) (hr.mono (by decide)) (by rfl) T.g_headings_along T.F_headings_along.kp (b_headings_along T) .nil pass0 (pa_cons (pe_call (ok_filed T hcodeF TBF) (hr.mono (by decide)) (by rfl) T.g_filed T.F_filed.kp (b_filed T) .nil pass0 (pa_cons (pv 0) pa_nil)) pa_nil))))
      (pss_cons (ps_nox (ps_set (i := 5) sc_orders_by.nd rfl (.inl rfl) (pe_lst pa_nil)))
      (pss_cons (ps_nox (ps_for PassesOwn.never rfl (pi_list (pe_call (ok_orders_after T) (hr.mono (by decide)) (by rfl) T.g_orders_after T.F_orders_after.kp (b_orders_after T) .nil pass0 (pa_cons (pe_callB call_len_seq (by rfl) T.m_len (by decide +kernel) (pa_cons (pv 4) pa_nil)) (pa_cons (pv 3) pa_nil)))) (pg_name (i := 6) sc_orders_by.nd rfl (.inl rfl))
        (pss_one (ps_nox (ps_if (pt_val (pe_call (ok_fits_tally T) (hr.mono (by decide)) (by rfl) T.g_fits_tally T.F_fits_tally.kp (b_fits_tally T) .nil pass0 (pa_cons (pe_callTy call_tuple_of (by rfl) T.m_tuple (by decide +kernel) (pa_cons (pe_lc (own := [("place", 7)]) (g := gName 7) (tt := tYes) rfl sc_orders_by.nd (pi_tup (pv 6)) (blkOk_by (N := N_orders_by) (sc := defScope s_orders_by) (by decide +kernel)) (fun _ _ _ _ _ => (pg_name (i := 7) sc_orders_by.nd rfl (.inl rfl))) (fun _ _ _ _ _ => pts_nil) (fun _ _ _ _ _ => (pe_ix (ix_tupK (K := K) rfl) (pv 4) (pv 7) (fun _ _ => rfl)))) pa_nil)) (pa_cons (pv 1) (pa_cons (pv 2) pa_nil))))) (pss_one (ps_nox (ps_expr (pe_bm PySem.F.plainAttrs_list PySem.F.slot_list_append PySem.F.type_list_append mt_append (pv 5) (pa_cons (pv 6) pa_nil))))) pss_nil)))))
      (pss_one (ps_nox (ps_ret (pv 5)))))))))), ?_⟩
    have hsz := sizeLine_of (show (1000000 : Nat) ≤ 1000000 by omega)
    refine ⟨_, rfl, r, rfl, fun hr3 => ?_, fun hr3 => k1 hr3⟩
    refine ⟨_, rfl, a, ps, rfl, hC, hpl, hwl, fun hf H1 s1 => ?_, fun i hf H' dd s' hd => k2 hr3 i hf H' dd s' hd⟩
    have hw : ∀ p ∈ ps, isWord p.1 = true ∧ p.1.length ≤ 1000 := fun p hp => ⟨first_none hf p hp, hwl p hp⟩
    refine ⟨_, rfl, v, 0, 2, rfl, hv, fun hn => ?_, fun hn => k3 hr3 hf hn H1 s1⟩
    obtain ⟨m, rfl, hm⟩ := num_two hn
    have k := k0 hr3 hf hn
    refine ⟨_, rfl, d, cs, TS, rfl, hD.imm s1.imm, by omega, hmT, huT, hT.ext s1, fun dq H2 x2 T2 _ hD2 => ?_⟩
    have x02 : ExtN H H2 := fun b o h n => x2 b o (s1 b o h) n
    have hfl : (fileOf cs).length = cs.length := (fileOf_perm cs).length_eq
    refine ⟨dq, fileOf cs, rfl, hD2, by omega, fun tw H3 s3 _ hW => ?_⟩
    replace hW : SqT K H3 tw ((heads (fileOf cs)).map V.str) := SqT.of hW
    have hhl : (heads (fileOf cs)).length = cs.length := (List.length_map _).trans hfl
    have hpow : ∀ n ≤ 6, n ^ n ≤ 46656 := by decide
    have x03 : ExtN H H3 := fun b o h n => s3 _ _ (x02 b o h n)
    have T3 := T2.ext s3
    clear hD2 x2 x02
    generalize hws : heads (fileOf cs) = ws at *
    refine ⟨Nat.zero_le _, fun lf hlf => ?_⟩
    have s4 := same_new (o := .lst []) hlf
    have W4 := s4.seqT hW
    have e4 : (upd H3 lf (.lst [])) lf = some (.lst []) := upd_same
    generalize upd H3 lf (.lst []) = H4 at *
    refine ⟨_, rfl, tw, _, rfl, .inr W4, _, rfl, cs.length, m, by rw [List.length_map, hhl]; rfl, hl, hm, fun q xs os H5 s5 nq e5 hx hso hnd hmem => ?_⟩
    have nql : q ≠ lf := fun e => by rw [e, e4] at nq; cases nq
    have e5f := s5 _ _ e4
    have s35 := s4.trans s5
    have W5 := s5.seqT W4
    have hoo : ∀ o ∈ os, OrdOk cs.length o := fun o ho => itO_ok (fun o g => mvs_ok g) m o ((hmem o).mp ho)
    have hle : os.length ≤ 46656 := Nat.le_trans (ords_le hnd hoo) (hpow _ hl)
    have hxl := hx.1
    refine ⟨q, rfl, ⟨_, SqL.of e5⟩, for_list (K := K) (a := q) (xs := xs) (fun i σ H6 => ∃ (zs : List V) (y6 y7 : Option V), σ = [some (.ref d), some (.str r), some (.ref a), some (.int (m : Nat)), some (.ref tw), some (.ref lf), y6, y7] ∧ Same H3 H6 ∧ But lf H5 H6 ∧ H6 lf = some (.lst zs) ∧ TupsAt K H6 zs ((os.take i).filter (fitOrd ws r ps))) ⟨[], _, _, rfl, s35, But.refl, e5f, rfl, fun i x o h => nomatch h⟩ (fun i σ H6 _ ⟨_, _, _, _, _, b6, _⟩ => b6.seq nql (SqL.of e5)) (fun i x σ H6 hi hP => ?_) (fun σ H6 hP => ?_)⟩
    · obtain ⟨zs, y6, y7, rfl, s6, b6, e6, hz⟩ := hP
      have hil : i < os.length := by rw [← hxl]; exact (List.getElem?_eq_some_iff.mp hi).1
      have ho : os[i]? = some os[i] := List.getElem?_eq_getElem hil
      have hok := hoo _ (List.getElem_mem hil)
      obtain ⟨t, rfl, ht5⟩ := hx.2 i x _ hi ho
      have nt : t ≠ lf := fun e => by
        have g : H5 t = some (.tup _) := ht5
        rw [e, e5f] at g
        cases g
      have ht6 : TupO H6 t os[i] := b6 _ _ ht5 nt
      have hzl := hz.1
      have hfz := List.length_filter_le (fitOrd ws r ps) (os.take i)
      have htk := List.length_take_le i os
      rw [List.take_add_one, ho, List.filter_append]
      generalize os[i] = o at *
      have hol := hok.l
      refine ⟨_, rfl, t, rfl, ⟨_, SqT.of ht6⟩, fun D hD => lc_map (walk_tup (K := K) (a := t) (xs := o.map intV)) (by rw [List.length_map]; omega) hD (fun i => V.str (ws[o[i]?.getD 0]?.getD "")) (fun H' s' => s'.seqT (SqT.of ht6)) (fun i x H1 H2 hi s1 hy R rr => ?_) (fun H7 s7 hd => ?_) gName_mono⟩
      · obtain ⟨rfl, hx⟩ := hy
        rw [List.getElem?_map] at hx
        obtain ⟨m, hm, rfl⟩ := Option.map_eq_some_iff.mp hx
        have hmn := hok.m m (List.mem_of_getElem? hm)
        have hw : ws[m]? = some ws[m] := List.getElem?_eq_getElem (by omega)
        refine ⟨rfl, ?_⟩
        refine ⟨_, rfl, _, rfl, tw, _, ((m : Nat) : Int), .str ws[m], rfl, rfl, (s6.trans s1).seqT hW, atI_nat (by rw [List.getElem?_map, hw]; rfl), ?_⟩
        have := rr _ (Same.refl _)
        rw [hm] at this
        show R (V.str ws[m]) _
        have e2 : ws[(some m).getD 0]?.getD "" = ws[m] := by show ws[m]?.getD "" = _; rw [hw]; rfl
        rw [e2] at this
        exact this
      · have el : (List.range (o.map intV).length).map (fun i => V.str (ws[o[i]?.getD 0]?.getD "")) = (rowBy ws o).map V.str := by
          rw [List.length_map]
          unfold rowBy
          rw [List.map_map]
          refine range_map o _ _ fun i x h => ?_
          rw [h]
          rfl
        rw [el] at hd
        refine ⟨D, _, rfl, .inl ⟨SqL.of hd, fun u hu' => ?_⟩⟩
        have s8 := s7.trans (same_new (o := .tup ((rowBy ws o).map V.str)) hu')
        have hrl : (rowBy ws o).length = o.length := by unfold rowBy; rw [List.length_map]
        have x8 : ExtN H (upd H7 u (.tup ((rowBy ws o).map V.str))) := fun b o h n => s8 _ _ (s6 _ _ (x03 b o h n))
        have C8 : CountsAt K (upd H7 u (.tup ((rowBy ws o).map V.str))) a ps := hC.ext x8
        refine ⟨_, rfl, _, rfl, u, a, rowBy ws o, r, ps, rfl, SqT.of upd_same, by omega, hr3, C8, fun H9 s9 => ?_⟩
        have s69 := s8.trans s9
        have e9 := s69 _ _ e6
        have z9 := hz.imm s69.imm
        refine ⟨_, rfl, ?_⟩
        cases hfb : fitsB (rowBy ws o) r ps with
        | true =>
          refine iteT ?_
          refine ⟨_, rfl, .inl ⟨rfl, _, SqL.of e9⟩, _, rfl, lf, zs, .ref t, rfl, rfl, e9, sizeLine_of (by omega), ?_⟩
          have im : Imm H9 (upd H9 lf (.lst (zs ++ [.ref t]))) := Imm.refl.mut e9 rfl
          refine ⟨zs ++ [.ref t], _, _, rfl, same_mut (s6.trans s69) hlf, (b6.same s69).upd, upd_same, ?_⟩
          have hfo : fitOrd ws r ps o = true := hfb
          show TupsAt K _ _ (_ ++ [o].filter _)
          rw [List.filter_cons, if_pos hfo, List.filter_nil]
          exact (z9.imm im).app (TupsAt.one (im _ _ (s69 _ _ ht6) rfl))
        | false =>
          refine iteF ?_
          refine ⟨zs, _, _, rfl, s6.trans s69, b6.same s69, e9, ?_⟩
          have hfo : ¬ fitOrd ws r ps o = true := by
            show ¬ fitsB (rowBy ws o) r ps = true
            rw [hfb]
            exact Bool.false_ne_true
          show TupsAt K _ _ (_ ++ [o].filter _)
          rw [List.filter_cons, if_neg hfo, List.filter_nil, List.append_nil]
          exact z9
    · obtain ⟨zs, y6, y7, rfl, s6, b6, e6, hz⟩ := hP
      rw [hxl, List.take_length] at hz
      refine ⟨_, rfl, k lf H6 (fun b o h n => s6 _ _ (x03 b o h n)) (T3.ext s6)⟩
theorem okx_possible_orders (T : Top K mg) {c tP : Addr} (hcodeF : T.fd_filed.code = .ref c) (TBF : TabB base mg c tP) : FnOk P w K mg base (L2.CX P w) 9 T.a_possible_orders T.fd_possible_orders ["drawer", "rule", "tally", "most"] (spOrdX K T.c_Drawer T.c_Card tP T.c_InvalidRule T.c_InvalidTally T.c_InvalidNumber) := by
  refine T.F_possible_orders.okX sc_possible_orders (fun vs H Q E h => ?_) (fun cdv A outer s H vs Q E hr h => ?_)
  · obtain ⟨d, a, cs, r, ps, v, TS, rfl, _⟩ := h
    rfl
  · obtain ⟨d, a, cs, r, ps, v, TS, rfl, h⟩ := h
    refine ⟨_, (pss_one (ps_ret (pe_call (okx_orders_by T hcodeF TBF) (hr.mono (by decide)) (by rfl) T.g_orders_by T.F_orders_by.kp (b_orders_by T) .nil (passX (fun _ _ _ h => h) rfl rfl rfl rfl) (pa_cons (pv 0) (pa_cons (pv 1) (pa_cons (pv 2) (pa_cons (pv 3) pa_nil))))))), ?_⟩
    exact ⟨_, rfl, _, rfl, _, rfl, _, rfl, d, a, cs, r, ps, v, TS, rfl, h⟩
/-- misplaced, where an error is due -/
def spMisE (K : PySem.W.Frag) (D C tP cR cT cN : Addr) : Sp := fun vs H Q E => ∃ (d a : Addr) (cs : List CD) (r : Str) (ps : List (Str × Int)) (v : V) (TS : List (Addr × Str)), vs = [.ref d, .str r, .ref a, v] ∧ DrawerAt K D C H d cs ∧ cs.length ≤ 6 ∧ CountsAt K H a ps ∧ ps.length ≤ 400 ∧ (∀ p ∈ ps, p.1.length ≤ 1000) ∧ itemV v = true ∧ (tP, lamF) ∈ TS ∧ (∀ p ∈ TS, p.1 = tP → p.2 = lamF) ∧ Tabs TS H ∧
  (r ∉ rules3 → E (.ref cR) none H) ∧ (r ∈ rules3 → ∀ i, firstBad ps = some i → ∀ H' dd, Same H H' → H' dd = some (.xd (xdI i)) → E (.ref cT) (some dd) H') ∧ (r ∈ rules3 → firstBad ps = none → isNumV v 0 2 = false → ∀ H', Same H H' → E (.ref cN) none H') ∧
  ¬ (r ∈ rules3 ∧ firstBad ps = none ∧ isNumV v 0 2 = true)
theorem okx_misplaced (T : Top K mg) {c tP : Addr} (hcodeF : T.fd_filed.code = .ref c) (TBF : TabB base mg c tP) : FnOk P w K mg base (L2.CX P w) 9 T.a_misplaced T.fd_misplaced ["drawer", "rule", "tally", "most"] (spMisE K T.c_Drawer T.c_Card tP T.c_InvalidRule T.c_InvalidTally T.c_InvalidNumber) := by
  refine T.F_misplaced.okX sc_misplaced (fun vs H Q E h => ?_) (fun cdv A outer s H vs Q E hr h => ?_)
  · obtain ⟨d, a, cs, r, ps, v, TS, rfl, _⟩ := h
    rfl
  · obtain ⟨d, a, cs, r, ps, v, TS, rfl, hD, hl, hC, hpl, hwl, hv, hmT, huT, hT, k1, k2, k3, k0⟩ := h
    have hu := hu_of hr
    refine ⟨_, (pss_cons (ps_set (i := 4) sc_misplaced.nd rfl (.inr rfl) (pe_call (okx_orders_by T hcodeF TBF) (hr.mono (by decide)) (by rfl) T.g_orders_by T.F_orders_by.kp (b_orders_by T) .nil (passX (fun _ _ _ h => h) rfl rfl rfl rfl) (pa_cons (pv 0) (pa_cons (pv 1) (pa_cons (pv 2) (pa_cons (pv 3) pa_nil))))))
      (pss_cons (ps_if (pt_not (pt_truth (pv 4) (by intro _; rfl))) (pss_one (ps_err ⟨T.xe_NoOrder, T.xk_NoOrder, T.xs_NoOrder, T.xt_NoOrder⟩ T.g_NoOrder (by rfl) rfl rfl rfl rfl rfl)) pss_nil)
      (pss_one (ps_nox (ps_ret (pe_lc (own := [("place", 5)]) (g := gName 5) rfl sc_misplaced.nd (pi_range1 (by rfl) T.m_range (pa_cons (pe_callB (call_lenOwn T.M_Drawer_len (ok_Drawer_len T) (hr.mono (by decide)) (b_Drawer_len T) pass0) (by rfl) T.m_len (by decide +kernel) (pa_cons (pv 0) pa_nil)) pa_nil)) (blkOk_by (N := N_misplaced) (sc := defScope s_misplaced) (by decide +kernel)) (fun _ _ _ _ _ => (pg_name (i := 5) sc_misplaced.nd rfl (.inr rfl))) (fun _ _ _ _ _ => (pts_one (pt_val (pe_callB (cr_allK (K := K) rfl rfl) (by rfl) T.m_all (by decide +kernel) (pa_cons (pe_lc (own := [("order", 6)]) (g := gName 6) (tt := tYes) rfl sc_misplaced.nd (pi_listK (K := K) rfl (pv 4)) (blkOk_by (N := N_misplaced) (sc := relS _ (defScope s_misplaced)) (by decide +kernel)) (fun _ _ _ _ _ => (pg_name (i := 6) sc_misplaced.nd rfl (.inl rfl))) (fun _ _ _ _ _ => pts_nil) (fun _ _ _ _ _ => (pe_cmpR op_ne (pe_ix (ix_tupK (K := K) rfl) (pv 6) (pv 5) (fun _ _ => rfl)) (pv 5) (nomark _)))) pa_nil))))) (fun _ _ _ _ _ => (pv 5)))))))), ?_⟩
    exact ⟨_, rfl, _, rfl, _, rfl, _, rfl, d, a, cs, r, ps, v, TS, rfl, hD, hl, hC, hpl, hwl, hv, hmT, huT, hT, k1, k2, k3, fun h1 h2 h3 => absurd ⟨h1, h2, h3⟩ k0⟩
end
section
local macro_rules | `(tactic| walk_at "sl") => `(tactic| first | assumption | exact SqL.of upd_same | exact SqL.of (by assumption) | ((with_reducible apply sql_upd); (walk_at "sl"); (first | assumption | exact Ne.symm (by assumption))))
local macro_rules | `(tactic| walk_at "st") => `(tactic| first | assumption | exact SqT.of upd_same | exact SqT.of (by assumption))
local macro_rules | `(tactic| walk_at "sc") => `(tactic| first | rfl | assumption | (show (0 : Int) < _; first | assumption | decide | omega) | exact Or.inl ⟨by omega, by omega⟩ | exact Or.inr ⟨by omega, by omega⟩ | exact ⟨by decide, by decide⟩ | exact ⟨by decide, by decide, by decide⟩)
local macro_rules | `(tactic| walk_at "g1") => `(tactic| first
  | refine ⟨(_ : V), rfl, ?_⟩
  | refine ⟨(_ : Bool), rfl, ?_⟩
  | refine ⟨(_ : Int), (_ : Int), rfl, rfl, ?_⟩
  | refine ⟨(_ : Int), rfl, ?_⟩
  | refine ⟨(_ : Str), rfl, ?_⟩
  | refine ⟨(_ : Addr), (_ : List V), rfl, Or.inl (by walk_at "sl"), ?_⟩
  | refine ⟨(_ : Addr), (_ : List V), rfl, Or.inr (by walk_at "st"), ?_⟩
  | refine ⟨(_ : Addr), (_ : List V), (_ : Int), (_ : V), rfl, rfl, (by walk_at "sl"), (by first | rfl | assumption), ?_⟩
  | refine ⟨(_ : Addr), (_ : List V), (_ : Int), (_ : V), rfl, rfl, (by walk_at "st"), (by first | rfl | assumption), ?_⟩
  | refine ⟨(_ : Addr), (_ : List V), (_ : Int), (_ : Nat), rfl, rfl, upd_same, rfl, ?_⟩
  | refine ⟨(_ : Addr), (_ : List V), (_ : Int), (_ : Nat), rfl, rfl, (by assumption), rfl, ?_⟩
  | refine ⟨(_ : Addr), (_ : Addr), (_ : Addr), (_ : List (Str × V)), (_ : V), rfl, (by assumption), (by assumption), (by assumption), (by first | assumption | rfl), ?_⟩
  | refine Or.inl ⟨(_ : Int), rfl, ?_⟩
  | refine And.intro (by walk_at "sc") ?_
  | refine iteT ?_
  | refine iteF ?_)
open LamX
abbrev lamL : Str := "law" ++ ".<locals>." ++ "<lambda>"
def spLaw (K : PySem.W.Frag) (tF tD tL : Addr) : Sp := fun vs H Q _ => ∃ (a : Addr) (ns : List Int), vs = [.ref a] ∧ SqL K H a (ns.map V.int) ∧ ns.length ≤ 63 ∧ H tF = some (.tbl #[]) ∧ H tD = some (.tbl #[]) ∧ H tL = some (.tbl #[]) ∧ ∀ H', Q (.bl true) H'
theorem three_u {a b c : Addr × Str} (hab : a.1 ≠ b.1) (hac : a.1 ≠ c.1) (hbc : b.1 ≠ c.1) : (∀ p ∈ [a, b, c], p.1 = a.1 → p.2 = a.2) ∧ (∀ p ∈ [a, b, c], p.1 = b.1 → p.2 = b.2) ∧ (∀ p ∈ [a, b, c], p.1 = c.1 → p.2 = c.2) := by
  refine ⟨fun p hp e => ?_, fun p hp e => ?_, fun p hp e => ?_⟩
  all_goals
    simp only [List.mem_cons, List.not_mem_nil, or_false] at hp
    rcases hp with rfl | rfl | rfl
  · rfl
  · exact absurd e hab.symm
  · exact absurd e hac.symm
  · exact absurd e hab
  · rfl
  · exact absurd e hbc.symm
  · exact absurd e hac
  · exact absurd e hbc
  · rfl
structure En (K : PySem.W.Frag) (D C : Addr) (TS : List (Addr × Str)) (rw a : Addr) (ns : List Int) (d : Addr) (ps : List Addr) (cs : List CD) (H : Hp) : Prop where
  R : RowAt K H rw a ns
  T : Tabs TS H
  F : DrawerF D H d ps
  C : Cards K C H ps cs
theorem En.ext {D C rw a d : Addr} {TS : List (Addr × Str)} {ns : List Int} {ps : List Addr} {cs : List CD} {H H' : Hp} (e : En K D C TS rw a ns d ps cs H) (x : ExtN H H') (t : Tabs TS H') : En K D C TS rw a ns d ps cs H' :=
  ⟨rowAt_ext e.R x, t, e.F.imm (extN_imm x), e.C.imm (extN_imm x)⟩
theorem En.same {D C rw a d : Addr} {TS : List (Addr × Str)} {ns : List Int} {ps : List Addr} {cs : List CD} {H H' : Hp} (e : En K D C TS rw a ns d ps cs H) (s : Same H H') : En K D C TS rw a ns d ps cs H' :=
  ⟨e.R.same s, e.T.ext s, e.F.imm s.imm, e.C.imm s.imm⟩
theorem En.but {D C rw a d : Addr} {TS : List (Addr × Str)} {ns : List Int} {ps : List Addr} {cs : List CD} {H H' : Hp} (e : En K D C TS rw a ns d ps cs H) (b : But rw H H') (R : RowAt K H' rw a ns) : En K D C TS rw a ns d ps cs H' := by
  obtain ⟨o, ho, hi⟩ := e.R.at
  exact ⟨R, tabs_but e.T b e.R, e.F.imm (b.imm ho hi), e.C.imm (b.imm ho hi)⟩
theorem En.D {D C rw a d : Addr} {TS : List (Addr × Str)} {ns : List Int} {ps : List Addr} {cs : List CD} {H : Hp} (e : En K D C TS rw a ns d ps cs H) : DrawerAt K D C H d cs := DrawerP.to e.F.p e.C
section
variable {rw a d : Addr} {ns : List Int}
theorem tabs_upd {T : List (Addr × Str)} {H : Hp} {x : Addr} {o o' : HO} (h : Tabs T H) (e : H x = some o) (n : (∃ xs, o = .lst xs) ∨ ∃ kvs, o = .dT kvs) : Tabs T (upd H x o') := fun p hp => by
  obtain ⟨ps, h1, h2, h3⟩ := h p hp
  have ne : ∀ {b : Addr} {u : HO}, H b = some u → (∀ xs, u ≠ .lst xs) → (∀ kvs, u ≠ .dT kvs) → b ≠ x := fun hb n1 n2 z => by
    rw [z, e] at hb
    rcases n with ⟨xs, rfl⟩ | ⟨kvs, rfl⟩
    · exact n1 _ (Option.some.inj hb).symm
    · exact n2 _ (Option.some.inj hb).symm
  refine ⟨ps, by rw [upd_ne (ne h1 (fun _ z => nomatch z) (fun _ z => nomatch z))]; exact h1, h2, fun pos cv hc => ?_⟩
  obtain ⟨c, e1, e2⟩ := h3 pos cv hc
  exact ⟨c, e1, by rw [upd_ne (ne e2 (fun _ z => nomatch z) (fun _ z => nomatch z))]; exact e2⟩
end
theorem En.mut {D C rw a d : Addr} {TS : List (Addr × Str)} {ns : List Int} {ps : List Addr} {cs : List CD} {H : Hp} (e : En K D C TS rw a ns d ps cs H) {x : Addr} {xs : List V} {o' : HO} (f : x ≠ rw ∧ (a ≠ x ∨ ∀ H' : Hp, SqL K H' a (ns.map V.int))) (hx : H x = some (.lst xs)) : En K D C TS rw a ns d ps cs (upd H x o') := by
  have im : Imm H (upd H x o') := Imm.refl.mut hx rfl
  exact ⟨e.R.mut f, tabs_upd e.T hx (.inl ⟨xs, rfl⟩), e.F.imm im, e.C.imm im⟩
/-! what is due: nothing, a word, or a tally's index -/
abbrev Due := Option (Str ⊕ Nat)
def DueV (K : PySem.W.Frag) (H : Hp) (v : V) : Due → Prop
  | none => v = .non
  | some (.inl x) => v = .str x ∧ PyData.strOk x = true
  | some (.inr i) => ∃ t, v = .ref t ∧ SqT K H t [.str "tally", .int (i : Nat)]
theorem DueV.imm {H H' : Hp} {v : V} {d : Due} (h : DueV K H v d) (s : Imm H H') : DueV K H' v d := by
  cases d with
  | none => exact h
  | some d => cases d with
    | inl x => exact h
    | inr i =>
      obtain ⟨t, e, h⟩ := h
      exact ⟨t, e, s.seqT h⟩
def dueD : Due → PyData
  | none => .none
  | some (.inl x) => .str x
  | some (.inr i) => .tuple [.str "tally", .int (i : Nat)]
theorem dp_due {H : Hp} {v : V} {d : Due} (h : DueV K H v d) : Dp K H v (dueD d) := by
  cases d with
  | none => obtain rfl : v = .non := h; exact .non
  | some d => cases d with
    | inl x => obtain ⟨rfl, _⟩ := h; exact .str x
    | inr i =>
      obtain ⟨t, rfl, h⟩ := h
      exact .tup h (.cons (.str _) (.cons (.int _) .nil))
theorem sh_due {H : Hp} {v : V} {d : Due} (h : DueV K H v d) : SeqAt.shaped (dueD d) = true := by
  cases d with
  | none => rfl
  | some d => cases d with
    | inl x =>
      show (PyData.strOk x && decide (0 ≤ 64)) = true
      rw [h.2]
      rfl
    | inr i =>
      show ((PyData.strOk "tally" && (true && true)) && decide (max 0 (max 0 0) + 1 ≤ 64)) = true
      rw [show PyData.strOk "tally" = true by decide +kernel]
      rfl
theorem due_ne {H : Hp} {v v' : V} {d : Due} {Q : VK} (h : DueV K H v d) (h' : DueV K H v' d) (q : Q (.bl false) H) : rNeD K v v' H Q := rNeD_self (dp_due h) (dp_due h') (sh_due h) q
def dueR (r : Str) : Due := if r ∈ rules3 then none else some (.inl "rule")
def dueH (b : Str) : Due := if isWord b = true then none else some (.inl "heading")
def dueL (r b : Str) : Due := if r ∈ rules3 then dueH b else some (.inl "rule")
def dueT (r : Str) (fb : Option Nat) : Due := if r ∈ rules3 then fb.map .inr else some (.inl "rule")
def dueN (r : Str) (fb : Option Nat) (v : V) : Due := if r ∈ rules3 then (match fb with | some i => some (.inr i) | none => if isNumV v 0 2 = true then none else some (.inl "number")) else some (.inl "rule")
theorem ok_rule : PyData.strOk "rule" = true := by decide +kernel
theorem ok_heading : PyData.strOk "heading" = true := by decide +kernel
theorem ok_number : PyData.strOk "number" = true := by decide +kernel
def rl5 : List Str := ["all", "halves", "half", "", "leaf"]
def nm6 : List Str := ["ant", "", "Ant", "anteaters", "a b", "zoo"]
def tw5 : List Str := ["ant", "bee", "cat", "Ant", "fox"]
theorem nm_len : ∀ x ∈ nm6, x.length ≤ 1000 := by decide +kernel
theorem tw_len : ∀ x ∈ tw5, x.length ≤ 1000 := by decide +kernel
theorem nm_word : ∀ x ∈ nm6, isWord x = decide (x ∈ (["ant", "zoo"] : List Str)) := by decide +kernel
theorem tw_word : ∀ x ∈ tw5, isWord x = !decide (x = "Ant") := by decide +kernel
theorem rl_rule : ∀ x ∈ rl5, decide (x ∈ rules3) = !decide (x ∈ (["halves", ""] : List Str)) := by decide +kernel
theorem due_pick {H : Hp} {v3 v4 : V} {r b : Str} (h3 : DueV K H v3 (dueR r)) (h4 : DueV K H v4 (dueH b)) : (v3 ≠ .non → DueV K H v3 (dueL r b)) ∧ (v3 = .non → DueV K H v4 (dueL r b)) := by
  unfold dueR at h3
  unfold dueL
  by_cases hr : r ∈ rules3
  · rw [if_pos hr] at h3 ⊢
    exact ⟨fun e => absurd h3 e, fun _ => h4⟩
  · rw [if_neg hr] at h3 ⊢
    refine ⟨fun _ => h3, fun e => ?_⟩
    rw [e] at h3
    exact absurd h3.1 nofun
/-- the tally so far -/
def TalW (K : PySem.W.Frag) (H : Hp) (lt : Addr) (ps : List (Str × Int)) : Prop := ∃ qs : List Addr, H lt = some (.lst (qs.map V.ref)) ∧ qs.length = ps.length ∧ (∀ p ∈ ps, p.1 ∈ tw5) ∧ ∀ (i : Nat) (q : Addr) (p : Str × Int), qs[i]? = some q → ps[i]? = some p → SqT K H q [.str p.1, .int p.2]
theorem TalW.counts {H : Hp} {lt : Addr} {ps : List (Str × Int)} (h : TalW K H lt ps) : CountsAt K H lt ps := by
  obtain ⟨qs, h1, h2, _, h5⟩ := h
  exact ⟨qs, SqL.of h1, h2, h5⟩
theorem TalW.ext {H H' : Hp} {lt : Addr} {ps : List (Str × Int)} (h : TalW K H lt ps) (s : ExtN H H') : TalW K H' lt ps := by
  obtain ⟨qs, h1, h2, h3, h5⟩ := h
  exact ⟨qs, s _ _ h1 (fun _ z => nomatch z), h2, h3, fun i q p e1 e2 => (extN_imm s).seqT (h5 i q p e1 e2)⟩
theorem TalW.but {H H' : Hp} {lt x : Addr} {ps : List (Str × Int)} {o : HO} (h : TalW K H lt ps) (s : But x H H') (n : lt ≠ x) (e : H x = some o) (im : immO o = false) : TalW K H' lt ps := by
  obtain ⟨qs, h1, h2, h3, h5⟩ := h
  exact ⟨qs, s _ _ h1 n, h2, h3, fun i q p e1 e2 => (s.imm e im).seqT (h5 i q p e1 e2)⟩
theorem TalW.snoc {H : Hp} {lt q : Addr} {ps : List (Str × Int)} {qs : List Addr} {p : Str × Int} (h1 : H lt = some (.lst (qs.map V.ref))) (h2 : qs.length = ps.length) (h4 : ∀ p ∈ ps, p.1 ∈ tw5) (h5 : ∀ (i : Nat) (q : Addr) (p : Str × Int), qs[i]? = some q → ps[i]? = some p → SqT K H q [.str p.1, .int p.2])
    (g : SqT K H q [.str p.1, .int p.2]) (hp : p.1 ∈ tw5) : TalW K (upd H lt (.lst (qs.map V.ref ++ [.ref q]))) lt (ps ++ [p]) := by
  have im : Imm H (upd H lt (.lst (qs.map V.ref ++ [.ref q]))) := Imm.refl.mut h1 rfl
  refine ⟨qs ++ [q], by rw [upd_same, List.map_append]; rfl, by rw [List.length_append, List.length_append, h2]; rfl, fun x hx => ?_, fun j u x e1 e2 => im.seqT ?_⟩
  · rcases List.mem_append.mp hx with h | h
    · exact h4 x h
    · rw [List.mem_singleton.mp h]
      exact hp
  · by_cases hj : j < qs.length
    · rw [List.getElem?_append_left hj] at e1
      rw [List.getElem?_append_left (by rw [← h2]; exact hj)] at e2
      exact h5 j u x e1 e2
    · rw [List.getElem?_append_right (by omega)] at e1
      rw [List.getElem?_append_right (by rw [← h2]; omega), ← h2] at e2
      cases hz : j - qs.length with
      | zero =>
        rw [hz] at e1 e2
        obtain rfl := Option.some.inj e1
        obtain rfl := Option.some.inj e2
        exact g
      | succ k =>
        rw [hz] at e1
        cases e1
theorem first_snoc (ps : List (Str × Int)) (p : Str × Int) : firstBad (ps ++ [p]) = (firstBad ps).or (if isWord p.1 = true then none else some ps.length) := by
  unfold firstBad
  rw [List.findIdx?_append]
  congr 1
  rw [List.findIdx?_singleton]
  cases isWord p.1 <;> simp
def ms6 : List V := [.int 0, .int 1, .int 2, .int 3, .int (0 - 1), .bl true]
theorem ms_item : ∀ v ∈ ms6, itemV v = true := fun v hv => by
  unfold ms6 at hv
  simp only [List.mem_cons, List.not_mem_nil, or_false] at hv
  rcases hv with rfl | rfl | rfl | rfl | rfl | rfl <;> rfl
theorem ok_law (T : Top K mg) {cF tF cD tD c tL : Addr} (hcodeF : T.fd_filed.code = .ref cF) (TBF : TabB base mg cF tF) (hcodeD : T.fd_llaw_drawer.code = .ref cD) (TBD : TabB base mg cD tD) (hcode : T.fd_law.code = .ref c) (TB : TabB base mg c tL) (hFD : tF ≠ tD) (hFL : tF ≠ tL) (hDL : tD ≠ tL) : FnOk P w K mg base CX0 14 T.a_law T.fd_law ["_law_script"] (spLaw K tF tD tL) := by
  obtain ⟨oc, od, kV, doc, pm, an, cdW, ct, osl, eW, lkW, hcgW⟩ := T.F_llaw_told.ex
  have hbW := b_llaw_told T
  rw [eW] at hbW lkW
  obtain ⟨uF, uD, huT⟩ := three_u (a := (tF, lamF)) (b := (tD, lamP)) (c := (tL, lamL)) hFD hFL hDL
  have mF : (tF, lamF) ∈ [(tF, lamF), (tD, lamP), (tL, lamL)] := .head _
  have mD : (tD, lamP) ∈ [(tF, lamF), (tD, lamP), (tL, lamL)] := .tail _ (.head _)
  have hmT : (tL, lamL) ∈ [(tF, lamF), (tD, lamP), (tL, lamL)] := .tail _ (.tail _ (.head _))
  generalize hTS : [(tF, lamF), (tD, lamP), (tL, lamL)] = TS at *
  refine T.F_law.okC sc_law (fun vs H Q E h => ?_) (fun A outer s H vs Q E hr h => ?_)
  · obtain ⟨a, ns, rfl, _⟩ := h
    rfl
  · obtain ⟨a, ns, rfl, hS, hl, hPF, hPD, hPL, k⟩ := h
    have hu := hu_of hr
    refine ⟨_, (pss_cons (ps_set (i := 1) sc_law.nd rfl (.inl rfl) (pe_lst (pa_cons (pv 0) (pa_cons pe_int (pa_cons pe_int (pa_cons pe_int pa_nil))))))
      (pss_cons (ps_for PassesOwn.never rfl (pi_range1 (by rfl) T.m_range (pa_cons pe_int pa_nil)) (pg_name (i := 2) sc_law.nd rfl (.inl rfl))
        (pss_cons (ps_set (i := 8) sc_law.nd rfl (.inr rfl) (pe_call (ok_llaw_drawer T hcodeD TBD) (hr.mono (by decide)) (by rfl) T.g_llaw_drawer T.F_llaw_drawer.kp (b_llaw_drawer T) .nil pass0 (pa_cons (pv 1) (pa_cons pe_int pa_nil))))
        (pss_cons (ps_set (i := 11) sc_law.nd rfl (.inr rfl) (pe_ix ix_list (pe_lst (pa_cons pe_str (pa_cons pe_str (pa_cons pe_str (pa_cons pe_str (pa_cons pe_str pa_nil)))))) (pe_call (ok_llaw_taken T) (hr.mono (by decide)) (by rfl) T.g_llaw_taken T.F_llaw_taken.kp (b_llaw_taken T) .nil pass0 (pa_cons (pv 1) (pa_cons pe_int pa_nil))) (fun _ _ => rfl)))
        (pss_cons (ps_set (i := 10) sc_law.nd rfl (.inr rfl) (pe_ix ix_list (pe_lst (pa_cons pe_str (pa_cons pe_str (pa_cons pe_str (pa_cons pe_str (pa_cons pe_str (pa_cons pe_str pa_nil))))))) (pe_call (ok_llaw_taken T) (hr.mono (by decide)) (by rfl) T.g_llaw_taken T.F_llaw_taken.kp (b_llaw_taken T) .nil pass0 (pa_cons (pv 1) (pa_cons pe_int pa_nil))) (fun _ _ => rfl)))
        (pss_cons (ps_mid (ps_set (i := 3) sc_law.nd rfl (.inl rfl) (pe_ifExp (pt_cmpR op_in_seq (pv 11) (pe_tup (pa_cons pe_str (pa_cons pe_str pa_nil))) rfl) pe_str pe_non)))
        (pss_cons (ps_if (pt_cmpR (op_neD hr.units) (pe_lamcall (k := 10) (Ng := N_llaw_told) (a := "_law_work") (by rfl) T.g_llaw_told T.F_llaw_told.kp lkW hcgW hbW sc_llaw_told rfl (.inl rfl) (toldA_gives (i := 1) (l := [(T.c_InvalidRule, ckW "rule"), (T.c_InvalidHeading, ckW "heading"), (T.c_InvalidNumber, ckW "number"), (T.c_InvalidTally, ckF T.c_InvalidTally "tally" "index")]) sc_llaw_told.nd rfl rfl (.word rfl T.g_InvalidRule (by decide) (.word rfl T.g_InvalidHeading (by decide) (.word rfl T.g_InvalidNumber (by decide) (.fld rfl T.g_InvalidTally (by decide) T.xf_InvalidTally T.nf_InvalidTally_index .nil)))) (fun _ => rfl)) TB hcode hmT huT (hr.mono (by decide)) (lamS_by (sc := defScope s_law) (by decide +kernel)) rfl (by intros; rfl) (fun A outer s H E f c' hrL => (pe_call (okx_still_found T) (hrL.mono (by decide)) (by rfl) T.g_still_found T.F_still_found.kp (b_still_found T) .nil (passX (fun _ _ _ h => h) rfl rfl rfl rfl) (pa_cons (pv 8) (pa_cons (pe_make T.Mk_Drawer (ok_Drawer_init T) (hrL.mono (by decide)) (by rfl) T.g_Drawer (b_Drawer_init T) .nil pass0 (pa_cons (pe_tup pa_nil) pa_nil)) (pa_cons (pv 11) pa_nil)))))) (pv 3) (nomark _)) (pss_one (ps_ret pe_bl)) pss_nil)
        (pss_cons (ps_if (pt_cmpR (op_neD hr.units) (pe_lamcall (k := 10) (Ng := N_llaw_told) (a := "_law_work") (by rfl) T.g_llaw_told T.F_llaw_told.kp lkW hcgW hbW sc_llaw_told rfl (.inl rfl) (toldA_gives (i := 1) (l := [(T.c_InvalidRule, ckW "rule"), (T.c_InvalidHeading, ckW "heading"), (T.c_InvalidNumber, ckW "number"), (T.c_InvalidTally, ckF T.c_InvalidTally "tally" "index")]) sc_llaw_told.nd rfl rfl (.word rfl T.g_InvalidRule (by decide) (.word rfl T.g_InvalidHeading (by decide) (.word rfl T.g_InvalidNumber (by decide) (.fld rfl T.g_InvalidTally (by decide) T.xf_InvalidTally T.nf_InvalidTally_index .nil)))) (fun _ => rfl)) TB hcode hmT huT (hr.mono (by decide)) (lamS_by (sc := defScope s_law) (by decide +kernel)) rfl (by intros; rfl) (fun A outer s H E f c' hrL => (pe_call (okx_best_split T) (hrL.mono (by decide)) (by rfl) T.g_best_split T.F_best_split.kp (b_best_split T) .nil (passX (fun _ _ _ h => h) rfl rfl rfl rfl) (pa_cons (pv 8) (pa_cons (pv 11) pa_nil))))) (pv 3) (nomark _)) (pss_one (ps_ret pe_bl)) pss_nil)
        (pss_cons (ps_mid (ps_set (i := 4) sc_law.nd rfl (.inl rfl) (pe_ifExp (pt_cmpR op_notIn_seq (pv 10) (pe_tup (pa_cons pe_str (pa_cons pe_str pa_nil))) rfl) pe_str pe_non)))
        (pss_cons (ps_if (pt_cmpR (op_neD hr.units) (pe_lamcall (k := 10) (Ng := N_llaw_told) (a := "_law_work") (by rfl) T.g_llaw_told T.F_llaw_told.kp lkW hcgW hbW sc_llaw_told rfl (.inl rfl) (toldA_gives (i := 1) (l := [(T.c_InvalidRule, ckW "rule"), (T.c_InvalidHeading, ckW "heading"), (T.c_InvalidNumber, ckW "number"), (T.c_InvalidTally, ckF T.c_InvalidTally "tally" "index")]) sc_llaw_told.nd rfl rfl (.word rfl T.g_InvalidRule (by decide) (.word rfl T.g_InvalidHeading (by decide) (.word rfl T.g_InvalidNumber (by decide) (.fld rfl T.g_InvalidTally (by decide) T.xf_InvalidTally T.nf_InvalidTally_index .nil)))) (fun _ => rfl)) TB hcode hmT huT (hr.mono (by decide)) (lamS_by (sc := defScope s_law) (by decide +kernel)) rfl (by intros; rfl) (fun A outer s H E f c' hrL => (pe_call (okx_split T) (hrL.mono (by decide)) (by rfl) T.g_split T.F_split.kp (b_split T) .nil (passX (fun _ _ _ h => h) rfl rfl rfl rfl) (pa_cons (pv 8) (pa_cons (pv 10) pa_nil))))) (pv 4) (nomark _)) (pss_one (ps_ret pe_bl)) pss_nil)
        (pss_cons (ps_if (pt_cmpR (op_neD hr.units) (pe_lamcall (k := 10) (Ng := N_llaw_told) (a := "_law_work") (by rfl) T.g_llaw_told T.F_llaw_told.kp lkW hcgW hbW sc_llaw_told rfl (.inl rfl) (toldA_gives (i := 1) (l := [(T.c_InvalidRule, ckW "rule"), (T.c_InvalidHeading, ckW "heading"), (T.c_InvalidNumber, ckW "number"), (T.c_InvalidTally, ckF T.c_InvalidTally "tally" "index")]) sc_llaw_told.nd rfl rfl (.word rfl T.g_InvalidRule (by decide) (.word rfl T.g_InvalidHeading (by decide) (.word rfl T.g_InvalidNumber (by decide) (.fld rfl T.g_InvalidTally (by decide) T.xf_InvalidTally T.nf_InvalidTally_index .nil)))) (fun _ => rfl)) TB hcode hmT huT (hr.mono (by decide)) (lamS_by (sc := defScope s_law) (by decide +kernel)) rfl (by intros; rfl) (fun A outer s H E f c' hrL => (pe_call (okx_lost_by_split T) (hrL.mono (by decide)) (by rfl) T.g_lost_by_split T.F_lost_by_split.kp (b_lost_by_split T) .nil (passX (fun _ _ _ h => h) rfl rfl rfl rfl) (pa_cons (pv 8) (pa_cons (pv 11) (pa_cons (pv 10) pa_nil)))))) (pe_ifExp (pt_cmpR op_notN (pv 3) pe_non (nomark _)) (pv 3) (pv 4)) (nomark _)) (pss_one (ps_ret pe_bl)) pss_nil)
        (pss_cons (ps_asg (pe_tup (pa_cons (pe_lst pa_nil) (pa_cons (pe_lst pa_nil) pa_nil))) (pg_tup rfl (pgs_cons (pg_name (i := 12) sc_law.nd rfl (.inr rfl)) (pgs_cons (pg_name (i := 5) sc_law.nd rfl (.inl rfl)) pgs_nil))))
        (pss_cons (ps_for PassesOwn.never rfl (pi_range1 (by rfl) T.m_range (pa_cons pe_int pa_nil)) (pg_name (i := 6) sc_law.nd rfl (.inl rfl))
          (pss_cons (ps_set (i := 7) sc_law.nd rfl (.inl rfl) (pe_ix ix_list (pe_lst (pa_cons pe_str (pa_cons pe_str (pa_cons pe_str (pa_cons pe_str (pa_cons pe_str pa_nil)))))) (pe_call (ok_llaw_taken T) (hr.mono (by decide)) (by rfl) T.g_llaw_taken T.F_llaw_taken.kp (b_llaw_taken T) .nil pass0 (pa_cons (pv 1) (pa_cons pe_int pa_nil))) (fun _ _ => rfl)))
          (pss_cons (ps_set (i := 5) sc_law.nd rfl (.inl rfl) (pe_op op_cat (pv 5) (pe_op op_rep (pe_lst (pa_cons (pv 6) pa_nil)) (pe_callTy call_int1 (by rfl) T.m_int (by decide +kernel) (pa_cons (pe_cmpR op_eq (pv 7) pe_str (nomark _)) pa_nil)))))
          (pss_one (ps_expr (pe_bm PySem.F.plainAttrs_list PySem.F.slot_list_append PySem.F.type_list_append mt_append (pv 12) (pa_cons (pe_tup (pa_cons (pv 7) (pa_cons (pe_op op_add (pe_callB (call_lenOwn T.M_Drawer_len (ok_Drawer_len T) (hr.mono (by decide)) (b_Drawer_len T) pass0) (by rfl) T.m_len (by decide +kernel) (pa_cons (pv 8) pa_nil)) pe_int) pa_nil))) pa_nil)))))))
        (pss_cons (ps_set (i := 9) sc_law.nd rfl (.inr rfl) (pe_ix ix_list (pe_lst (pa_cons pe_int (pa_cons pe_int (pa_cons pe_int (pa_cons pe_int (pa_cons (pe_op op_sub pe_int pe_int) (pa_cons pe_bl pa_nil))))))) (pe_call (ok_llaw_taken T) (hr.mono (by decide)) (by rfl) T.g_llaw_taken T.F_llaw_taken.kp (b_llaw_taken T) .nil pass0 (pa_cons (pv 1) (pa_cons pe_int pa_nil))) (fun _ _ => rfl)))
        (pss_cons (ps_mid (ps_if (PW.pt (pw_and (pt_cmpR op_isN (pv 3) pe_non (nomark _)) (pw_and1 (pt_cmpR (op_neD hr.units) (pv 5) (pe_lst pa_nil) (nomark _))))) (pss_one (ps_set (i := 3) sc_law.nd rfl (.inl rfl) (pe_tup (pa_cons pe_str (pa_cons (pe_ix ix_list (pv 5) pe_int (fun _ _ => rfl)) pa_nil))))) pss_nil))
        (pss_cons (ps_mid (ps_if (PW.pt (pw_and (pt_cmpR op_isN (pv 3) pe_non (nomark _)) (pw_and1 (PW.pt (pw_or (pt_cmpR op_notIn_seq (pv 9) (pe_tup (pa_cons pe_int (pa_cons pe_int (pa_cons pe_int pa_nil)))) rfl) (pw_or1 (pt_val (pe_callB call_isi (by rfl) T.m_isinstance (by decide +kernel) (pa_cons (pv 9) (pa_cons (pe_bltn (v := .ty "bool") (by rfl) T.m_bool (by decide +kernel) rfl) pa_nil)))))))))) (pss_one (ps_set (i := 3) sc_law.nd rfl (.inl rfl) pe_str)) pss_nil))
        (pss_cons (ps_if (pt_cmpR (op_neD hr.units) (pe_lamcall (k := 10) (Ng := N_llaw_told) (a := "_law_work") (by rfl) T.g_llaw_told T.F_llaw_told.kp lkW hcgW hbW sc_llaw_told rfl (.inl rfl) (toldA_gives (i := 1) (l := [(T.c_InvalidRule, ckW "rule"), (T.c_InvalidHeading, ckW "heading"), (T.c_InvalidNumber, ckW "number"), (T.c_InvalidTally, ckF T.c_InvalidTally "tally" "index")]) sc_llaw_told.nd rfl rfl (.word rfl T.g_InvalidRule (by decide) (.word rfl T.g_InvalidHeading (by decide) (.word rfl T.g_InvalidNumber (by decide) (.fld rfl T.g_InvalidTally (by decide) T.xf_InvalidTally T.nf_InvalidTally_index .nil)))) (fun _ => rfl)) TB hcode hmT huT (hr.mono (by decide)) (lamS_by (sc := defScope s_law) (by decide +kernel)) rfl (by intros; rfl) (fun A outer s H E f c' hrL => (pe_call (okx_possible_orders T hcodeF TBF) (hrL.mono (by decide)) (by rfl) T.g_possible_orders T.F_possible_orders.kp (b_possible_orders T) .nil (passX (fun _ _ _ h => h) rfl rfl rfl rfl) (pa_cons (pv 8) (pa_cons (pv 11) (pa_cons (pv 12) (pa_cons (pv 9) pa_nil))))))) (pv 3) (nomark _)) (pss_one (ps_ret pe_bl)) pss_nil)
        (pss_one (ps_if (PW.pt (pw_and (pt_cmpR op_notN (pv 3) pe_non (nomark _)) (pw_and1 (pt_cmpR (op_neD hr.units) (pe_lamcall (k := 10) (Ng := N_llaw_told) (a := "_law_work") (by rfl) T.g_llaw_told T.F_llaw_told.kp lkW hcgW hbW sc_llaw_told rfl (.inl rfl) (toldA_gives (i := 1) (l := [(T.c_InvalidRule, ckW "rule"), (T.c_InvalidHeading, ckW "heading"), (T.c_InvalidNumber, ckW "number"), (T.c_InvalidTally, ckF T.c_InvalidTally "tally" "index")]) sc_llaw_told.nd rfl rfl (.word rfl T.g_InvalidRule (by decide) (.word rfl T.g_InvalidHeading (by decide) (.word rfl T.g_InvalidNumber (by decide) (.fld rfl T.g_InvalidTally (by decide) T.xf_InvalidTally T.nf_InvalidTally_index .nil)))) (fun _ => rfl)) TB hcode hmT huT (hr.mono (by decide)) (lamS_by (sc := defScope s_law) (by decide +kernel)) rfl (by intros; rfl) (fun A outer s H E f c' hrL => (pe_call (okx_misplaced T hcodeF TBF) (hrL.mono (by decide)) (by rfl) T.g_misplaced T.F_misplaced.kp (b_misplaced T) .nil (passX (fun _ _ _ h => h) rfl rfl rfl rfl) (pa_cons (pv 8) (pa_cons (pv 11) (pa_cons (pv 12) (pa_cons (pv 9) pa_nil))))))) (pv 3) (nomark _))))) (pss_one (ps_ret pe_bl)) pss_nil))))))))))))))))))
      (pss_one (ps_ret pe_bl)))), ?_⟩
    refine ⟨_, rfl, by show 4 ≤ sizeLine; decide, fun rw hrw => ?_⟩
    have R1 : RowAt K (upd H rw (.lst [.ref a, .int 0, .int 0, .int 0])) rw a ns := ⟨0, 0, 0, upd_same, Scr.new hS hrw, by decide, by decide⟩
    have T1 : Tabs TS (upd H rw (.lst [.ref a, .int 0, .int 0, .int 0])) := fun p hp => by
      rw [← hTS] at hp
      simp only [List.mem_cons, List.not_mem_nil, or_false] at hp
      rcases hp with rfl | rfl | rfl
      · exact TabS.nil (kp hPF hrw)
      · exact TabS.nil (kp hPD hrw)
      · exact TabS.nil (kp hPL hrw)
    generalize upd H rw (.lst [.ref a, .int 0, .int 0, .int 0]) = H1 at *
    clear hrw hS hPF hPD hPL hTS
    refine ⟨_, rfl, by decide, by decide, for_range (lo := 0) (n := 6) (fun i σ H2 => ∃ y2 y3 y4 y5 y6 y7 y8 y9 y10 y11 y12, σ = [some (.ref a), some (.ref rw), y2, y3, y4, y5, y6, y7, y8, y9, y10, y11, y12] ∧ RowAt K H2 rw a ns ∧ Tabs TS H2)
      ⟨_, _, _, _, _, _, _, _, _, _, _, rfl, R1, T1⟩ (fun ti σ H2 _ hP => ?_) (fun σ H2 hP => ?_)⟩
    · clear R1 T1 H1
      obtain ⟨y2, y3, y4, y5, y6, y7, y8, y9, y10, y11, y12, rfl, R2, T2⟩ := hP
      refine ⟨_, rfl, rw, a, ns, 4, TS, rfl, by decide, R2, mD, uD, T2, fun d H3 ps cs hcl bN3 T3 R3 F3 C3 hG hdr => ?_⟩
      have E3 : En K T.c_Drawer T.c_Card TS rw a ns d ps cs H3 := ⟨R3, T3, F3, C3⟩
      clear R2 T2 bN3 R3 T3 F3 C3 H2
      refine ⟨by show 5 ≤ sizeLine; decide, fun l5 hl5 => ?_⟩
      have E4 := E3.same (same_new (o := .lst (rl5.map V.str)) hl5)
      have nl : l5 ≠ rw := (E3.R.new hl5).1
      have e4 : (upd H3 l5 (.lst (rl5.map V.str))) l5 = some (.lst (rl5.map V.str)) := upd_same
      refine ⟨_, rfl, rw, a, ns, 5, rfl, by decide, by decide, E4.R, fun n H5 hn b5 R5 => ?_⟩
      have E5 := E4.but b5 R5
      have e5 := b5 _ _ e4 nl
      have hn5 : n < rl5.length := by show n < 5; omega
      have hrn : rl5[n]? = some rl5[n] := List.getElem?_eq_getElem hn5
      have hrm : rl5[n] ∈ rl5 := List.getElem_mem hn5
      refine ⟨l5, _, (n : Nat), .str rl5[n], rfl, rfl, SqL.of e5, atI_nat (by rw [List.getElem?_map, hrn]; rfl), ?_⟩
      generalize rl5[n] = r at *
      clear e4 e5 nl hrn hn5 E3 E4 b5 R5 hl5
      refine ⟨by show 6 ≤ sizeLine; decide, fun l6 hl6 => ?_⟩
      have E6 := E5.same (same_new (o := .lst (nm6.map V.str)) hl6)
      have nl : l6 ≠ rw := (E5.R.new hl6).1
      have e6 : (upd H5 l6 (.lst (nm6.map V.str))) l6 = some (.lst (nm6.map V.str)) := upd_same
      refine ⟨_, rfl, rw, a, ns, 6, rfl, by decide, by decide, E6.R, fun n2 H7 hn2 b7 R7 => ?_⟩
      have E7 := E6.but b7 R7
      have e7 := b7 _ _ e6 nl
      have hn6 : n2 < nm6.length := by show n2 < 6; omega
      have hbn : nm6[n2]? = some nm6[n2] := List.getElem?_eq_getElem hn6
      have hbm : nm6[n2] ∈ nm6 := List.getElem_mem hn6
      refine ⟨l6, _, (n2 : Nat), .str nm6[n2], rfl, rfl, SqL.of e7, atI_nat (by rw [List.getElem?_map, hbn]; rfl), ?_⟩
      generalize nm6[n2] = b at *
      clear e6 e7 nl hbn hn6 E5 E6 b7 R7 hl6
      have hbl := nm_len b hbm
      refine ⟨fun σ H' => ∃ v3, σ = [some (.ref a), some (.ref rw), some (.int (0 + ((ti : Nat) : Int))), some v3, y4, y5, y6, y7, some (.ref d), y9, some (.str b), some (.str r), y12] ∧ Same H7 H' ∧ DueV K H' v3 (dueR r), ?_, fun σ H8 hP8 => ?_⟩
      · refine ⟨_, rfl, by show 2 ≤ sizeLine; decide, fun t ht => ⟨t, _, rfl, .inr (SqT.of upd_same), rfl, flat_strs ["halves", ""], ?_⟩⟩
        have s8 := same_new (o := .tup [.str "halves", .str ""]) ht
        refine ⟨_, rfl, ?_⟩
        show if (if false = true then !inV (V.str r) ((["halves", ""] : List Str).map V.str) else inV (V.str r) ((["halves", ""] : List Str).map V.str)) = true then _ else _
        rw [if_neg Bool.false_ne_true, mem_dec]
        have hrr := rl_rule r hrm
        by_cases hm : r ∈ (["halves", ""] : List Str)
        · rw [decide_eq_true hm] at hrr ⊢
          have h3 : r ∉ rules3 := of_decide_eq_false hrr
          refine iteT ⟨_, rfl, s8, ?_⟩
          unfold dueR
          rw [if_neg h3]
          exact ⟨rfl, ok_rule⟩
        · rw [decide_eq_false hm] at hrr ⊢
          have h3 : r ∈ rules3 := of_decide_eq_true hrr
          refine iteF ⟨_, rfl, s8, ?_⟩
          unfold dueR
          rw [if_pos h3]
          rfl
      obtain ⟨v3, rfl, s8, h3⟩ := hP8
      have E8 := E7.same s8
      clear E7 s8 H7
      have hcl16 : cs.length ≤ 16 := by omega
      -- still_found
      refine ⟨E8.T, fun H9 x9 T9 => ?_⟩
      have E9 := E8.ext x9 T9
      have h39 := h3.imm (extN_imm x9)
      clear E8 h3 x9 T9 H8
      refine toldA_to (fun v H' => DueV K H' v (dueR r) ∧ Same H9 H') (fun Q hQ => ?_) (fun v H10 hv => ?_)
      · refine ⟨_, rfl, Nat.zero_le _, fun u38 hu38 => ?_⟩
        intro x38 dx38 hx38 hdx38 hne38
        have s38 := same_new (o := .tup []) hu38
        have sN : Same (upd H9 u38 (.tup [])) (upd (upd (upd H9 u38 (.tup [])) dx38 (.own x38)) x38 (.ins T.c_Drawer dx38 [])) := fun q o e => by
          rw [upd_ne (ne_of_none e hx38), upd_ne (ne_of_none e hdx38)]
          exact e
        refine ⟨x38, dx38, u38, [], rfl, upd_same, sN.seqT (SqT.of upd_same), by show 0 ≤ 16; decide, fun H39 b39 h39' => ⟨rfl, ?_⟩⟩
        have s39 : Same (upd H9 u38 (.tup [])) H39 := fun q o e => b39 q o (sN q o e) (ne_of_none e hx38)
        have N39 : DrawerAt K T.c_Drawer T.c_Card H39 x38 [] := ⟨dx38, u38, [], h39', s39.seqT (SqT.of upd_same), ⟨rfl, fun i q c h _ => nomatch h⟩⟩
        have s939 := s38.trans s39
        refine ⟨_, rfl, d, x38, cs, [], r, rfl, (E9.same s939).D, N39, by show cs.length + 0 ≤ 16; omega, hG, (fun _ h => nomatch h), fun hn H' s' => ?_, fun hy l H' s' => ?_⟩
        · refine ⟨true, T.ex_InvalidRule_InvalidRule, fun _ => hQ _ _ ⟨?_, s939.trans s'⟩, nofun⟩
          unfold dueR
          rw [if_neg hn]
          exact ⟨rfl, ok_rule⟩
        · refine hQ _ _ ⟨?_, s939.trans s'⟩
          unfold dueR
          rw [if_pos hy]
          rfl
      obtain ⟨hv, s10⟩ := hv
      refine ⟨_, rfl, due_ne hv (h39.imm s10.imm) ⟨_, rfl, iteF ?_⟩⟩
      have E10 := E9.same s10
      have h310 := h39.imm s10.imm
      clear E9 h39 hv s10 H9
      -- best_split
      refine ⟨E10.T, fun H9 x9 T9 => ?_⟩
      have E9 := E10.ext x9 T9
      have h39 := h310.imm (extN_imm x9)
      clear E10 h310 x9 T9 H10
      refine toldA_to (fun v H' => DueV K H' v (dueR r) ∧ Same H9 H') (fun Q hQ => ?_) (fun v H10 hv => ?_)
      · refine ⟨_, rfl, _, rfl, d, ps, cs, r, rfl, E9.F.p, E9.C, hcl16, hG, fun hn H' s' => ?_, fun hy v' H' s' => ?_⟩
        · refine ⟨true, T.ex_InvalidRule_InvalidRule, fun _ => hQ _ _ ⟨?_, s'⟩, nofun⟩
          unfold dueR
          rw [if_neg hn]
          exact ⟨rfl, ok_rule⟩
        · refine hQ _ _ ⟨?_, s'⟩
          unfold dueR
          rw [if_pos hy]
          rfl
      obtain ⟨hv, s10⟩ := hv
      refine ⟨_, rfl, due_ne hv (h39.imm s10.imm) ⟨_, rfl, iteF ?_⟩⟩
      have E10 := E9.same s10
      have h310 := h39.imm s10.imm
      clear E9 h39 hv s10 H9
      -- the heading
      refine ⟨fun σ H' => ∃ v4, σ = [some (.ref a), some (.ref rw), some (.int (0 + ((ti : Nat) : Int))), some v3, some v4, y5, y6, y7, some (.ref d), y9, some (.str b), some (.str r), y12] ∧ Same H10 H' ∧ DueV K H' v4 (dueH b), ?_, fun σ H11 hP11 => ?_⟩
      · refine ⟨_, rfl, by show 2 ≤ sizeLine; decide, fun t ht => ⟨t, _, rfl, .inr (SqT.of upd_same), rfl, flat_strs ["ant", "zoo"], ?_⟩⟩
        have s8 := same_new (o := .tup [.str "ant", .str "zoo"]) ht
        refine ⟨_, rfl, ?_⟩
        show if (!inV (V.str b) ((["ant", "zoo"] : List Str).map V.str)) = true then _ else _
        rw [mem_dec]
        have hrr := nm_word b hbm
        by_cases hm : b ∈ (["ant", "zoo"] : List Str)
        · rw [decide_eq_true hm] at hrr ⊢
          refine iteF ⟨_, rfl, s8, ?_⟩
          unfold dueH
          rw [if_pos hrr]
          rfl
        · rw [decide_eq_false hm] at hrr ⊢
          refine iteT ⟨_, rfl, s8, ?_⟩
          unfold dueH
          rw [if_neg (by rw [hrr]; decide)]
          exact ⟨rfl, ok_heading⟩
      obtain ⟨v4, rfl, s11, h4⟩ := hP11
      have E11 := E10.same s11
      have h311 := h310.imm s11.imm
      clear E10 h310 s11 H10
      -- split
      refine ⟨E11.T, fun H9 x9 T9 => ?_⟩
      have E9 := E11.ext x9 T9
      have h39 := h311.imm (extN_imm x9)
      have h49 := h4.imm (extN_imm x9)
      clear E11 h311 h4 x9 T9 H11
      refine toldA_to (fun v H' => DueV K H' v (dueH b) ∧ Same H9 H') (fun Q hQ => ?_) (fun v H10 hv => ?_)
      · refine ⟨_, rfl, _, rfl, d, ps, cs, b, rfl, hbl, E9.F.p, E9.C, hcl16, fun hn H' s' => ?_, fun hy v' H' s' => ?_⟩
        · refine ⟨false, T.ex_InvalidHeading_InvalidRule, nofun, fun _ => ⟨true, T.ex_InvalidHeading_InvalidHeading, fun _ => hQ _ _ ⟨?_, s'⟩, nofun⟩⟩
          unfold dueH
          rw [if_neg (by rw [hn]; decide)]
          exact ⟨rfl, ok_heading⟩
        · refine hQ _ _ ⟨?_, s'⟩
          unfold dueH
          rw [if_pos hy]
          rfl
      obtain ⟨hv, s10⟩ := hv
      refine ⟨_, rfl, due_ne hv (h49.imm s10.imm) ⟨_, rfl, iteF ?_⟩⟩
      have E10 := E9.same s10
      have h310 := h39.imm s10.imm
      have h410 := h49.imm s10.imm
      clear E9 h39 h49 hv s10 H9
      -- lost_by_split
      refine ⟨E10.T, fun H9 x9 T9 => ?_⟩
      have E9 := E10.ext x9 T9
      have h39 := h310.imm (extN_imm x9)
      have h49 := h410.imm (extN_imm x9)
      clear E10 h310 h410 x9 T9 H10
      refine toldA_to (fun v H' => DueV K H' v (dueL r b) ∧ Same H9 H') (fun Q hQ => ?_) (fun v H10 hv => ?_)
      · refine ⟨_, rfl, _, rfl, _, rfl, d, ps, cs, r, b, rfl, hbl, E9.F.p, E9.C, hcl16, hG, fun hn H' s' => ?_, fun hy hn H' s' => ?_, fun hy hy2 v' H' s' => ?_⟩
        · refine ⟨true, T.ex_InvalidRule_InvalidRule, fun _ => hQ _ _ ⟨?_, s'⟩, nofun⟩
          unfold dueL
          rw [if_neg hn]
          exact ⟨rfl, ok_rule⟩
        · refine ⟨false, T.ex_InvalidHeading_InvalidRule, nofun, fun _ => ⟨true, T.ex_InvalidHeading_InvalidHeading, fun _ => hQ _ _ ⟨?_, s'⟩, nofun⟩⟩
          unfold dueL dueH
          rw [if_pos hy, if_neg (by rw [hn]; decide)]
          exact ⟨rfl, ok_heading⟩
        · refine hQ _ _ ⟨?_, s'⟩
          unfold dueL dueH
          rw [if_pos hy, if_pos hy2]
          rfl
      obtain ⟨hv, s10⟩ := hv
      have E10 := E9.same s10
      have h310 := h39.imm s10.imm
      have h410 := h49.imm s10.imm
      clear E9 h39 h49 s10 H9
      obtain ⟨g1, g2⟩ := due_pick h310 h410
      refine ⟨_, rfl, rfl, _, rfl, ifM2 (fun y H' => H' = H10 ∧ DueV K H' y (dueL r b)) (fun y H' hy => ?_) (fun e m => ?_) (fun e m => ?_)⟩
      rotate_left
      · exact ⟨_, rfl, m _ _ ⟨rfl, g1 fun z => by rw [z] at e; exact absurd e (by decide)⟩⟩
      · refine ⟨_, rfl, m _ _ ⟨rfl, g2 ?_⟩⟩
        refine Classical.byContradiction fun z => e ?_
        rw [decide_eq_false z]
        rfl
      obtain ⟨rfl, hy⟩ := hy
      refine due_ne hv hy ⟨_, rfl, iteF ?_⟩
      clear g1 g2 hv hy h410
      -- the tally
      refine ⟨Nat.zero_le _, fun lt hlt => ?_⟩
      refine ⟨Nat.zero_le _, fun lw hlw => ?_⟩
      refine ⟨by show 2 ≤ sizeLine; decide, fun t3 ht3 => ?_⟩
      refine ⟨t3, _, rfl, SqT.of upd_same, rfl, _, _, rfl, _, _, rfl, rfl, ?_⟩
      have f11 := E10.R.new hlt
      have s1 := same_new (o := .lst []) hlt
      have e1 : (upd H' lt (.lst [])) lt = some (.lst []) := upd_same
      have nwt : lw ≠ lt := (ne_of_none e1 hlw).symm
      have s2 := same_new (o := .lst []) hlw
      have e2 : (upd (upd H' lt (.lst [])) lw (.lst [])) lw = some (.lst []) := upd_same
      have s3 := same_new (o := .tup [.ref lt, .ref lw]) ht3
      have E12 := E10.same (s1.trans (s2.trans s3))
      have h12 := h310.imm (s1.trans (s2.trans s3)).imm
      have l12 := s3 _ _ (s2 _ _ e1)
      have w12 := s3 _ _ e2
      generalize upd (upd (upd H' lt (.lst [])) lw (.lst [])) t3 (.tup [.ref lt, .ref lw]) = H12 at *
      clear s1 s2 s3 e1 e2 hlt hlw ht3 E10 h310
      refine ⟨_, rfl, by decide, by decide, for_range (lo := 0) (n := 4) (fun i σ H13 => ∃ (y6 y7 : Option V) (lw : Addr) (ws : List Int) (tp : List (Str × Int)), σ = [some (.ref a), some (.ref rw), some (.int (0 + ((ti : Nat) : Int))), some v3, some v4, some (.ref lw), y6, y7, some (.ref d), y9, some (.str b), some (.str r), some (.ref lt)] ∧ En K T.c_Drawer T.c_Card TS rw a ns d ps cs H13 ∧ DueV K H13 v3 (dueR r) ∧ TalW K H13 lt tp ∧ tp.length = i ∧ H13 lw = some (.lst (ws.map V.int)) ∧ ws.length ≤ i ∧ ws.head? = (firstBad tp).map fun (n : Nat) => (n : Int))
        ⟨_, _, lw, [], [], rfl, E12, h12, ⟨[], l12, rfl, (fun p h => nomatch h), fun i q p h => nomatch h⟩, rfl, w12, Nat.le_refl _, rfl⟩ (fun i σ H13 hi4 hP => ?_) (fun σ H13 hP => ?_)⟩
      · clear E12 h12 l12 w12 nwt H12
        obtain ⟨y6, y7, lw, ws, tp, rfl, E13, h13, tal, htl, hw13, hwl, hwh⟩ := hP
        refine ⟨by show 5 ≤ sizeLine; decide, fun l5 hl5 => ?_⟩
        have s14 := same_new (o := .lst (tw5.map V.str)) hl5
        have E14 := E13.same s14
        have nl : l5 ≠ rw := (E13.R.new hl5).1
        have e14 : (upd H13 l5 (.lst (tw5.map V.str))) l5 = some (.lst (tw5.map V.str)) := upd_same
        refine ⟨_, rfl, rw, a, ns, 5, rfl, by decide, by decide, E14.R, fun n H15 hn b15 R15 => ?_⟩
        have E15 := E14.but b15 R15
        have e15 := b15 _ _ e14 nl
        obtain ⟨o14, ho14, hi14⟩ := E14.R.at
        have im15 := b15.imm ho14 hi14
        have h15 := h13.imm (s14.imm.trans im15)
        have nlw : lw ≠ rw := fun e => by
          obtain ⟨n1, n2, n3, hr, _⟩ := E13.R
          rw [e, hr] at hw13
          injection hw13 with z
          injection z with z
          cases ws with
          | nil => cases z
          | cons w ws => injection z with z _; cases z
        have w15 := b15 _ _ (s14 _ _ hw13) nlw
        have tal15 := (tal.ext (ExtN.of s14)).but b15 f11.1 ho14 hi14
        have hn5 : n < tw5.length := by show n < 5; omega
        have hwn : tw5[n]? = some tw5[n] := List.getElem?_eq_getElem hn5
        have hwm : tw5[n] ∈ tw5 := List.getElem_mem hn5
        refine ⟨l5, _, (n : Nat), .str tw5[n], rfl, rfl, SqL.of e15, atI_nat (by rw [List.getElem?_map, hwn]; rfl), ?_⟩
        generalize tw5[n] = x at *
        clear hwn hn5 E13 E14 s14 b15 R15 e14 e15 nl hl5 ho14 hi14 im15 h13 tal hw13
        refine ⟨_, rfl, _, rfl, by show 1 ≤ sizeLine; decide, fun lk hlk => ?_⟩
        have s16 := same_new (o := .lst [.int (0 + ((i : Nat) : Int))]) hlk
        have e16 : (upd H15 lk (.lst [.int (0 + ((i : Nat) : Int))])) lk = some (.lst [.int (0 + ((i : Nat) : Int))]) := upd_same
        have E16 := E15.same s16
        have h16 := h15.imm s16.imm
        have w16 := s16 _ _ w15
        have tal16 := tal15.ext (ExtN.of s16)
        generalize upd H15 lk (.lst [.int (0 + ((i : Nat) : Int))]) = H16 at *
        clear E15 h15 w15 tal15 s16 hlk H15
        refine ⟨_, rfl, tC_to (rEq_to (b := decide (x = "Ant")) rfl (by rw [str_dec]) ?_)⟩
        refine .inr ⟨_, rfl, ?_⟩
        have hiw := tw_word x hwm
        obtain ⟨m, hm1, hkk, hfl⟩ : ∃ m : Nat, m ≤ 1 ∧ (if decide (x = "Ant") = true then (1 : Int) else 0) = (m : Nat) ∧ (List.replicate m [V.int (0 + ((i : Nat) : Int))]).flatten = (if isWord x = true then ([] : List Int) else [((i : Nat) : Int)]).map V.int := by
          by_cases hx : x = "Ant"
          · rw [decide_eq_true hx] at hiw ⊢
            refine ⟨1, Nat.le_refl _, rfl, ?_⟩
            rw [hiw, Int.zero_add]
            rfl
          · rw [decide_eq_false hx] at hiw ⊢
            refine ⟨0, Nat.zero_le _, rfl, ?_⟩
            rw [hiw]
            rfl
        rw [hkk]
        refine ⟨lk, (m : Nat), _, rfl, rfl, e16, by omega, by omega, by rw [Int.toNat_natCast]; show 1 * m ≤ sizeLine; exact Nat.le_trans (by omega) (show 1 ≤ sizeLine by decide), fun p hp => ?_⟩
        rw [Int.toNat_natCast, hfl]
        generalize hadd : (if isWord x = true then ([] : List Int) else [((i : Nat) : Int)]) = adds at *
        have hal : adds.length ≤ 1 := by rw [← hadd]; split <;> simp
        refine ⟨lw, p, _, _, rfl, rfl, kp w16 hp, upd_same, Nat.le_of_lt (sizeLine_of (by rw [List.length_map, List.length_map]; omega)), fun q hq => ?_⟩
        have nq : q ≠ lt := by
          obtain ⟨qs, l1, _⟩ := tal16
          exact (ne_of_none (kp l1 hp) hq).symm
        have s17 := (same_new (o := .lst (adds.map V.int)) hp).trans (same_new (o := .lst (ws.map V.int ++ adds.map V.int)) hq)
        have w17 : (upd (upd H16 p (.lst (adds.map V.int))) q (.lst (ws.map V.int ++ adds.map V.int))) q = some (.lst ((ws ++ adds).map V.int)) := by rw [upd_same, List.map_append]
        have E17 := E16.same s17
        have h17 := h16.imm s17.imm
        have tal17 := tal16.ext (ExtN.of s17)
        generalize upd (upd H16 p (.lst (adds.map V.int))) q (.lst (ws.map V.int ++ adds.map V.int)) = H17 at *
        clear s17 hp hq E16 h16 w16 tal16 hkk hfl e16 H16
        obtain ⟨qs, l1, l2, l3, l5⟩ := id tal17
        obtain ⟨dx, td, hd, htd⟩ := id E17.F
        refine ⟨_, rfl, .inl ⟨rfl, _, SqL.of l1⟩, _, rfl, _, rfl, d, dx, _, rfl, hd, d, cs, rfl, E17.D, by omega, _, rfl, by omega, by omega, _, _, rfl, rfl, by show 2 ≤ sizeLine; decide, fun pt hpt => ?_⟩
        have s18 := same_new (o := .tup [.str x, .int (((cs.length : Nat) : Int) + 9)]) hpt
        have p18 : SqT K (upd H17 pt (.tup [.str x, .int (((cs.length : Nat) : Int) + 9)])) pt [.str x, .int (((cs.length : Nat) : Int) + 9)] := SqT.of upd_same
        have E18 := E17.same s18
        have h18 := h17.imm s18.imm
        have l18 := s18 _ _ l1
        have w18 := s18 _ _ w17
        have l58 := fun i q p g1 g2 => s18.seqT (l5 i q p g1 g2)
        generalize upd H17 pt (.tup [.str x, .int (((cs.length : Nat) : Int) + 9)]) = H18 at *
        clear s18 hpt E17 h17 l1 w17 l5 hd htd tal17 H17
        have hql : qs.length ≤ 4 := by omega
        refine ⟨lt, _, .ref pt, rfl, rfl, l18, sizeLine_of (by rw [List.length_map]; omega), ?_⟩
        have im : Imm H18 (upd H18 lt (.lst (qs.map V.ref ++ [.ref pt]))) := Imm.refl.mut l18 rfl
        refine ⟨_, _, q, ws ++ adds, tp ++ [(x, ((cs.length : Nat) : Int) + 9)], rfl, E18.mut f11 l18, h18.imm im, TalW.snoc l18 l2 l3 l58 p18 hwm, by rw [List.length_append, htl]; rfl, by rw [upd_ne nq]; exact w18, by rw [List.length_append]; omega, ?_⟩
        rw [first_snoc, List.head?_append, hwh, htl, ← hadd]
        show _ = ((firstBad tp).or (if isWord x = true then none else some i)).map _
        cases firstBad tp with
        | none =>
          cases isWord x with
          | true => rfl
          | false => rfl
        | some z => rfl
      · clear E12 h12 l12 w12 nwt H12
        obtain ⟨y6, y7, lw, ws, tp, rfl, E13, h13, tal, htl, hw13, hwl, hwh⟩ := hP
        replace htl : tp.length = 4 := htl
        have htw : ∀ p ∈ tp, p.1.length ≤ 1000 := fun p hp => by
          obtain ⟨_, _, _, h, _⟩ := tal
          exact tw_len _ (h p hp)
        generalize hfb : firstBad tp = fb at *
        refine ⟨_, _, rfl, rfl, by show 6 ≤ sizeLine; decide, fun lm hlm => ?_⟩
        have s14 := same_new (o := .lst ms6) hlm
        have E14 := E13.same s14
        have nl : lm ≠ rw := (E13.R.new hlm).1
        have e14 : (upd H13 lm (.lst ms6)) lm = some (.lst ms6) := upd_same
        refine ⟨_, rfl, rw, a, ns, 6, rfl, by decide, by decide, E14.R, fun n H15 hn b15 R15 => ?_⟩
        have E15 := E14.but b15 R15
        have e15 := b15 _ _ e14 nl
        obtain ⟨o14, ho14, hi14⟩ := E14.R.at
        have im15 := b15.imm ho14 hi14
        have h15 := h13.imm (s14.imm.trans im15)
        have nlw : lw ≠ rw := fun e => by
          obtain ⟨n1, n2, n3, hr, _⟩ := E13.R
          rw [e, hr] at hw13
          injection hw13 with z
          injection z with z
          cases ws with
          | nil => cases z
          | cons w ws => injection z with z _; cases z
        have w15 := b15 _ _ (s14 _ _ hw13) nlw
        have tal15 := (tal.ext (ExtN.of s14)).but b15 f11.1 ho14 hi14
        have hn6 : n < ms6.length := by show n < 6; omega
        have hvn : ms6[n]? = some ms6[n] := List.getElem?_eq_getElem hn6
        have hvm : ms6[n] ∈ ms6 := List.getElem_mem hn6
        refine ⟨lm, _, (n : Nat), ms6[n], rfl, rfl, SqL.of e15, atI_nat hvn, ?_⟩
        generalize ms6[n] = v at *
        have hvi := ms_item v hvm
        clear hvn hn6 E13 E14 s14 b15 R15 e14 e15 nl hlm ho14 hi14 im15 h13 tal hw13 nlw
        -- a tally that cannot be
        refine ⟨fun σ H' => ∃ v3, σ = [some (.ref a), some (.ref rw), some (.int (0 + ((ti : Nat) : Int))), some v3, some v4, some (.ref lw), y6, y7, some (.ref d), some v, some (.str b), some (.str r), some (.ref lt)] ∧ Same H15 H' ∧ DueV K H' v3 (dueT r fb), ?_, fun σ H16 hP16 => ?_⟩
        · refine ⟨_, rfl, rfl, _, rfl, ?_⟩
          by_cases hr3 : r ∈ rules3
          · have e3 : v3 = .non := by
              unfold dueR at h15
              rw [if_pos hr3] at h15
              exact h15
            subst e3
            refine iteT ?_
            refine ⟨_, rfl, Nat.zero_le _, fun le hle => ?_⟩
            have s16 := same_new (o := .lst []) hle
            cases fb with
            | none =>
              have hws : ws = [] := by
                cases ws with
                | nil => rfl
                | cons w ws => cases hwh
              subst hws
              refine rNeD_self (dp_lInts (ns := []) (SqL.of (s16 _ _ w15))) (dp_lInts (ns := []) (SqL.of upd_same)) (sh_lInts _) ?_
              refine ⟨_, rfl, iteF ⟨_, rfl, s16, ?_⟩⟩
              unfold dueT
              rw [if_pos hr3]
              rfl
            | some z =>
              obtain ⟨rest, hws⟩ : ∃ rest, ws = ((z : Nat) : Int) :: rest := by
                cases ws with
                | nil => cases hwh
                | cons w ws => exact ⟨ws, by rw [Option.some.inj (show some w = some ((z : Nat) : Int) from hwh)]⟩
              subst hws
              refine rNeD_to (b := true) (dp_lInts (SqL.of (s16 _ _ w15))) (dp_lInts (ns := []) (SqL.of upd_same)) (sh_lInts _) (sh_lInts _) ?_ ?_
              · show (!PyData.eqvAll _ _) = true
                rw [eqv_ints]
                rfl
              refine ⟨_, rfl, iteT ?_⟩
              refine ⟨_, rfl, lw, _, ((0 : Nat) : Int), .int ((z : Nat) : Int), rfl, rfl, SqL.of (s16 _ _ w15), atI_nat rfl, by show 2 ≤ sizeLine; decide, fun t ht => ?_⟩
              refine ⟨_, rfl, s16.trans (same_new ht), ?_⟩
              unfold dueT
              rw [if_pos hr3]
              exact ⟨t, rfl, SqT.of upd_same⟩
          · have e3 : v3 = .str "rule" := by
              unfold dueR at h15
              rw [if_neg hr3] at h15
              exact h15.1
            subst e3
            refine iteF ⟨_, rfl, Same.refl _, ?_⟩
            unfold dueT
            rw [if_neg hr3]
            exact ⟨rfl, ok_rule⟩
        obtain ⟨v3, rfl, s16, h16⟩ := hP16
        have E16 := E15.same s16
        have tal16 := tal15.ext (ExtN.of s16)
        clear E15 h15 w15 tal15 s16 H15 hwh hwl
        -- a number that cannot be
        refine ⟨fun σ H' => ∃ v3, σ = [some (.ref a), some (.ref rw), some (.int (0 + ((ti : Nat) : Int))), some v3, some v4, some (.ref lw), y6, y7, some (.ref d), some v, some (.str b), some (.str r), some (.ref lt)] ∧ Same H16 H' ∧ DueV K H' v3 (dueN r fb v), ?_, fun σ H17 hP17 => ?_⟩
        · refine ⟨_, rfl, rfl, _, rfl, ?_⟩
          by_cases hd : dueT r fb = none
          · rw [hd] at h16
            obtain rfl : v3 = .non := h16
            have hr3 : r ∈ rules3 := Classical.byContradiction fun z => by
              unfold dueT at hd
              rw [if_neg z] at hd
              cases hd
            have hf0 : fb = none := by
              unfold dueT at hd
              rw [if_pos hr3] at hd
              cases fb with
              | none => rfl
              | some z => cases hd
            subst hf0
            have hN : dueN r none v = if isNumV v 0 2 = true then none else some (.inl "number") := by
              unfold dueN
              rw [if_pos hr3]
            rw [hN]
            refine iteT ?_
            have sT : ∀ {t : Addr}, H16 t = none → Same H16 (upd H16 t (.tup [.int 0, .int 1, .int 2])) := fun ht => same_new ht
            have yes : DueV K H16 V.non (if true = true then none else some (.inl "number")) := rfl
            unfold ms6 at hvm
            simp only [List.mem_cons, List.not_mem_nil, or_false] at hvm
            rcases hvm with rfl | rfl | rfl | rfl | rfl | rfl
            · refine ⟨_, rfl, by show 3 ≤ sizeLine; decide, fun t ht => ⟨t, _, rfl, .inr (SqT.of upd_same), rfl, rfl, ?_⟩⟩
              refine ⟨_, rfl, ?_⟩
              show if false = true then _ else _
              refine iteF ⟨_, rfl, .int 0, .ty "bool", .type "int", .type "bool", false, rfl, .ty _, .base (.int 0), kit_ty (by decide +kernel), ?_⟩
              refine ⟨_, rfl, iteF ⟨_, rfl, sT ht, rfl⟩⟩
            · refine ⟨_, rfl, by show 3 ≤ sizeLine; decide, fun t ht => ⟨t, _, rfl, .inr (SqT.of upd_same), rfl, rfl, ?_⟩⟩
              refine ⟨_, rfl, ?_⟩
              show if false = true then _ else _
              refine iteF ⟨_, rfl, .int 1, .ty "bool", .type "int", .type "bool", false, rfl, .ty _, .base (.int 1), kit_ty (by decide +kernel), ?_⟩
              refine ⟨_, rfl, iteF ⟨_, rfl, sT ht, rfl⟩⟩
            · refine ⟨_, rfl, by show 3 ≤ sizeLine; decide, fun t ht => ⟨t, _, rfl, .inr (SqT.of upd_same), rfl, rfl, ?_⟩⟩
              refine ⟨_, rfl, ?_⟩
              show if false = true then _ else _
              refine iteF ⟨_, rfl, .int 2, .ty "bool", .type "int", .type "bool", false, rfl, .ty _, .base (.int 2), kit_ty (by decide +kernel), ?_⟩
              refine ⟨_, rfl, iteF ⟨_, rfl, sT ht, rfl⟩⟩
            · refine ⟨_, rfl, by show 3 ≤ sizeLine; decide, fun t ht => ⟨t, _, rfl, .inr (SqT.of upd_same), rfl, rfl, ?_⟩⟩
              refine ⟨_, rfl, ?_⟩
              show if true = true then _ else _
              exact iteT ⟨_, rfl, sT ht, rfl, ok_number⟩
            · refine ⟨_, rfl, by show 3 ≤ sizeLine; decide, fun t ht => ⟨t, _, rfl, .inr (SqT.of upd_same), rfl, rfl, ?_⟩⟩
              refine ⟨_, rfl, ?_⟩
              show if true = true then _ else _
              exact iteT ⟨_, rfl, sT ht, rfl, ok_number⟩
            · refine ⟨_, rfl, by show 3 ≤ sizeLine; decide, fun t ht => ⟨t, _, rfl, .inr (SqT.of upd_same), rfl, rfl, ?_⟩⟩
              refine ⟨_, rfl, ?_⟩
              show if false = true then _ else _
              refine iteF ⟨_, rfl, .bl true, .ty "bool", .type "bool", .type "bool", true, rfl, .ty _, .base (.bl true), kit_ty (by decide +kernel), ?_⟩
              refine ⟨_, rfl, iteT ⟨_, rfl, sT ht, rfl, ok_number⟩⟩
          · have e3 : v3 ≠ .non := fun e => by
              rw [e] at h16
              cases hz : dueT r fb with
              | none => exact hd hz
              | some z =>
                rw [hz] at h16
                cases z with
                | inl x => exact nomatch h16.1
                | inr i =>
                  obtain ⟨t, e, _⟩ := h16
                  cases e
            rw [decide_eq_false e3]
            refine iteF ⟨_, rfl, Same.refl _, ?_⟩
            have e : dueN r fb v = dueT r fb := by
              unfold dueN dueT at *
              by_cases hr3 : r ∈ rules3
              · rw [if_pos hr3] at hd ⊢
                rw [if_pos hr3]
                cases fb with
                | none => exact absurd rfl hd
                | some z => rfl
              · rw [if_neg hr3, if_neg hr3]
            rw [e]
            exact h16
        obtain ⟨v3, rfl, s17, h17⟩ := hP17
        have E17 := E16.same s17
        have tal17 := tal16.ext (ExtN.of s17)
        clear E16 h16 tal16 s17 H16
        -- possible_orders
        refine ⟨E17.T, fun H9 x9 T9 => ?_⟩
        have E9 := E17.ext x9 T9
        have h39 := h17.imm (extN_imm x9)
        have tal9 := tal17.ext x9
        clear E17 h17 tal17 x9 T9 H17
        refine toldA_to (fun v' H' => DueV K H' v' (dueN r fb v) ∧ ExtN H9 H' ∧ Tabs TS H') (fun Q hQ => ?_) (fun v' H10 hv => ?_)
        · refine ⟨_, rfl, _, rfl, _, rfl, _, rfl, d, lt, cs, r, tp, v, TS, rfl, E9.D, by omega, tal9.counts, by omega, htw, hvi, mF, uF, E9.T, fun hn => ?_, fun hy i hf H' dd s' hdd => ?_, fun hy hf hn H' s' => ?_, fun hy hf hn q H' x' T' => ?_⟩
          · refine ⟨true, T.ex_InvalidRule_InvalidRule, fun _ => hQ _ _ ⟨?_, ExtN.of (Same.refl _), E9.T⟩, nofun⟩
            unfold dueN
            rw [if_neg hn]
            exact ⟨rfl, ok_rule⟩
          · refine ⟨false, T.ex_InvalidTally_InvalidRule, nofun, fun _ => ⟨false, T.ex_InvalidTally_InvalidHeading, nofun, fun _ => ⟨false, T.ex_InvalidTally_InvalidNumber, nofun, fun _ => ⟨true, T.ex_InvalidTally_InvalidTally, fun _ => ⟨.int ((i : Nat) : Int), ⟨rfl, dd, _, rfl, hdd, rfl⟩, fun t ht => ?_⟩, nofun⟩⟩⟩⟩
            have sN := s'.trans (same_new (o := .tup [.str "tally", .int ((i : Nat) : Int)]) ht)
            refine hQ _ _ ⟨?_, ExtN.of sN, E9.T.ext sN⟩
            rw [hfb] at hf
            unfold dueN
            rw [if_pos hy, hf]
            exact ⟨t, rfl, SqT.of upd_same⟩
          · refine ⟨false, T.ex_InvalidNumber_InvalidRule, nofun, fun _ => ⟨false, T.ex_InvalidNumber_InvalidHeading, nofun, fun _ => ⟨true, T.ex_InvalidNumber_InvalidNumber, fun _ => hQ _ _ ⟨?_, ExtN.of s', E9.T.ext s'⟩, nofun⟩⟩⟩
            rw [hfb] at hf
            unfold dueN
            rw [if_pos hy, hf]
            show DueV K H' _ (if isNumV v 0 2 = true then none else some (.inl "number"))
            rw [hn]
            exact ⟨rfl, ok_number⟩
          · refine hQ _ _ ⟨?_, x', T'⟩
            rw [hfb] at hf
            unfold dueN
            rw [if_pos hy, hf]
            show DueV K H' _ (if isNumV v 0 2 = true then none else some (.inl "number"))
            rw [hn]
            rfl
        obtain ⟨hv, x10, T10⟩ := hv
        have h310 := h39.imm (extN_imm x10)
        refine ⟨_, rfl, due_ne hv h310 ⟨_, rfl, iteF ?_⟩⟩
        have E10 := E9.ext x10 T10
        have tal10 := tal9.ext x10
        clear E9 h39 tal9 hv x10 T10 H9
        -- misplaced
        refine ⟨_, rfl, rfl, _, rfl, ?_⟩
        by_cases hd : v3 = .non
        · rw [decide_eq_true hd]
          exact iteF (iteF ⟨_, _, _, _, _, _, _, _, _, _, _, rfl, E10.R, E10.T⟩)
        rw [decide_eq_false hd]
        refine iteT ?_
        have hnd : dueN r fb v ≠ none := fun e => hd (by
          rw [e] at h310
          exact h310)
        refine ⟨E10.T, fun H9 x9 T9 => ?_⟩
        have E9 := E10.ext x9 T9
        have h39 := h310.imm (extN_imm x9)
        have tal9 := tal10.ext x9
        clear E10 h310 tal10 x9 T9 H10
        refine toldA_to (fun v' H' => DueV K H' v' (dueN r fb v) ∧ ExtN H9 H' ∧ Tabs TS H') (fun Q hQ => ?_) (fun v' H10 hv => ?_)
        · refine ⟨_, rfl, _, rfl, _, rfl, _, rfl, d, lt, cs, r, tp, v, TS, rfl, E9.D, by omega, tal9.counts, by omega, htw, hvi, mF, uF, E9.T, fun hn => ?_, fun hy i hf H' dd s' hdd => ?_, fun hy hf hn H' s' => ?_, fun z => hnd ?_⟩
          · refine ⟨true, T.ex_InvalidRule_InvalidRule, fun _ => hQ _ _ ⟨?_, ExtN.of (Same.refl _), E9.T⟩, nofun⟩
            unfold dueN
            rw [if_neg hn]
            exact ⟨rfl, ok_rule⟩
          · refine ⟨false, T.ex_InvalidTally_InvalidRule, nofun, fun _ => ⟨false, T.ex_InvalidTally_InvalidHeading, nofun, fun _ => ⟨false, T.ex_InvalidTally_InvalidNumber, nofun, fun _ => ⟨true, T.ex_InvalidTally_InvalidTally, fun _ => ⟨.int ((i : Nat) : Int), ⟨rfl, dd, _, rfl, hdd, rfl⟩, fun t ht => ?_⟩, nofun⟩⟩⟩⟩
            have sN := s'.trans (same_new (o := .tup [.str "tally", .int ((i : Nat) : Int)]) ht)
            refine hQ _ _ ⟨?_, ExtN.of sN, E9.T.ext sN⟩
            rw [hfb] at hf
            unfold dueN
            rw [if_pos hy, hf]
            exact ⟨t, rfl, SqT.of upd_same⟩
          · refine ⟨false, T.ex_InvalidNumber_InvalidRule, nofun, fun _ => ⟨false, T.ex_InvalidNumber_InvalidHeading, nofun, fun _ => ⟨true, T.ex_InvalidNumber_InvalidNumber, fun _ => hQ _ _ ⟨?_, ExtN.of s', E9.T.ext s'⟩, nofun⟩⟩⟩
            rw [hfb] at hf
            unfold dueN
            rw [if_pos hy, hf]
            show DueV K H' _ (if isNumV v 0 2 = true then none else some (.inl "number"))
            rw [hn]
            exact ⟨rfl, ok_number⟩
          · obtain ⟨z1, z2, z3⟩ := z
            rw [hfb] at z2
            unfold dueN
            rw [if_pos z1, z2]
            show (if isNumV v 0 2 = true then (none : Due) else some (.inl "number")) = none
            rw [if_pos z3]
        obtain ⟨hv, x10, T10⟩ := hv
        refine ⟨_, rfl, due_ne hv (h39.imm (extN_imm x10)) ⟨_, rfl, iteF ?_⟩⟩
        have E10 := E9.ext x10 T10
        exact ⟨_, _, _, _, _, _, _, _, _, _, _, rfl, E10.R, E10.T⟩
    · obtain ⟨y2, y3, y4, y5, y6, y7, y8, y9, y10, y11, y12, rfl, _, _⟩ := hP
      exact k H2
end
end
end My
namespace My
open PySem L2
open LamX in
theorem all_mk {l : PySem.W.OpenLaw} {w : World} {K : PySem.W.Frag} {h : Heap} {mg : Str → Option Value} {fa : Addr}
    {t_LETTERS : Tok} {t_LONGEST_WORD : Tok} {t_MOST_CARDS : Tok} {t_MOST_BOOKS : Tok} {t_LAST_BOOK : Tok} {t_MOST_ALSO : Tok} {t_MOST_MOVES : Tok} {at_RULES : Addr} {od_RULES : Option Addr} {on_RULES : Nat} {os_RULES : Array (Option Value)} {ok_RULES_0 : Tok} {ok_RULES_1 : Tok} {ok_RULES_2 : Tok} {f_InvalidTally_init : Addr} {oc_InvalidTally_init : Value} {od_InvalidTally_init : Option Addr} {an_InvalidTally_init : Option Addr} {sl_InvalidTally_init : Array (Option Value)} {kV_InvalidTally_init : Value} {dc_InvalidTally_init : Value} {pm_InvalidTally_init : Value} {cd_InvalidTally_init : Value} {ct_InvalidTally_init : Value} {f_is_word : Addr} {oc_is_word : Value} {od_is_word : Option Addr} {an_is_word : Option Addr} {sl_is_word : Array (Option Value)} {kV_is_word : Value} {dc_is_word : Value} {pm_is_word : Value} {cd_is_word : Value} {ct_is_word : Value} {f_is_number : Addr} {oc_is_number : Value} {od_is_number : Option Addr} {an_is_number : Option Addr} {sl_is_number : Array (Option Value)} {kV_is_number : Value} {dc_is_number : Value} {pm_is_number : Value} {cd_is_number : Value} {ct_is_number : Value} {f_check_rule : Addr} {oc_check_rule : Value} {od_check_rule : Option Addr} {an_check_rule : Option Addr} {sl_check_rule : Array (Option Value)} {kV_check_rule : Value} {dc_check_rule : Value} {pm_check_rule : Value} {cd_check_rule : Value} {ct_check_rule : Value} {f_check_heading : Addr} {oc_check_heading : Value} {od_check_heading : Option Addr} {an_check_heading : Option Addr} {sl_check_heading : Array (Option Value)} {kV_check_heading : Value} {dc_check_heading : Value} {pm_check_heading : Value} {cd_check_heading : Value} {ct_check_heading : Value} {f_check_number : Addr} {oc_check_number : Value} {od_check_number : Option Addr} {an_check_number : Option Addr} {sl_check_number : Array (Option Value)} {kV_check_number : Value} {dc_check_number : Value} {pm_check_number : Value} {cd_check_number : Value} {ct_check_number : Value} {f_check_place : Addr} {oc_check_place : Value} {od_check_place : Option Addr} {an_check_place : Option Addr} {sl_check_place : Array (Option Value)} {kV_check_place : Value} {dc_check_place : Value} {pm_check_place : Value} {cd_check_place : Value} {ct_check_place : Value} {f_first_without_word : Addr} {oc_first_without_word : Value} {od_first_without_word : Option Addr} {an_first_without_word : Option Addr} {sl_first_without_word : Array (Option Value)} {kV_first_without_word : Value} {dc_first_without_word : Value} {pm_first_without_word : Value} {cd_first_without_word : Value} {ct_first_without_word : Value} {f_check_tally : Addr} {oc_check_tally : Value} {od_check_tally : Option Addr} {an_check_tally : Option Addr} {sl_check_tally : Array (Option Value)} {kV_check_tally : Value} {dc_check_tally : Value} {pm_check_tally : Value} {cd_check_tally : Value} {ct_check_tally : Value} {f_Drawer_init : Addr} {oc_Drawer_init : Value} {od_Drawer_init : Option Addr} {an_Drawer_init : Option Addr} {sl_Drawer_init : Array (Option Value)} {kV_Drawer_init : Value} {dc_Drawer_init : Value} {pm_Drawer_init : Value} {cd_Drawer_init : Value} {ct_Drawer_init : Value} {f_Drawer_cards : Addr} {oc_Drawer_cards : Value} {od_Drawer_cards : Option Addr} {an_Drawer_cards : Option Addr} {sl_Drawer_cards : Array (Option Value)} {kV_Drawer_cards : Value} {dc_Drawer_cards : Value} {pm_Drawer_cards : Value} {cd_Drawer_cards : Value} {ct_Drawer_cards : Value} {f_Drawer_headings : Addr} {oc_Drawer_headings : Value} {od_Drawer_headings : Option Addr} {an_Drawer_headings : Option Addr} {sl_Drawer_headings : Array (Option Value)} {kV_Drawer_headings : Value} {dc_Drawer_headings : Value} {pm_Drawer_headings : Value} {cd_Drawer_headings : Value} {ct_Drawer_headings : Value} {f_Drawer_getitem : Addr} {oc_Drawer_getitem : Value} {od_Drawer_getitem : Option Addr} {an_Drawer_getitem : Option Addr} {sl_Drawer_getitem : Array (Option Value)} {kV_Drawer_getitem : Value} {dc_Drawer_getitem : Value} {pm_Drawer_getitem : Value} {cd_Drawer_getitem : Value} {ct_Drawer_getitem : Value} {f_Drawer_len : Addr} {oc_Drawer_len : Value} {od_Drawer_len : Option Addr} {an_Drawer_len : Option Addr} {sl_Drawer_len : Array (Option Value)} {kV_Drawer_len : Value} {dc_Drawer_len : Value} {pm_Drawer_len : Value} {cd_Drawer_len : Value} {ct_Drawer_len : Value} {f_headings_along : Addr} {oc_headings_along : Value} {od_headings_along : Option Addr} {an_headings_along : Option Addr} {sl_headings_along : Array (Option Value)} {kV_headings_along : Value} {dc_headings_along : Value} {pm_headings_along : Value} {cd_headings_along : Value} {ct_headings_along : Value} {f_filed : Addr} {oc_filed : Value} {od_filed : Option Addr} {an_filed : Option Addr} {sl_filed : Array (Option Value)} {kV_filed : Value} {dc_filed : Value} {pm_filed : Value} {cd_filed : Value} {ct_filed : Value} {f_seek_along : Addr} {oc_seek_along : Value} {od_seek_along : Option Addr} {an_seek_along : Option Addr} {sl_seek_along : Array (Option Value)} {kV_seek_along : Value} {dc_seek_along : Value} {pm_seek_along : Value} {cd_seek_along : Value} {ct_seek_along : Value} {f_seek_by_halves : Addr} {oc_seek_by_halves : Value} {od_seek_by_halves : Option Addr} {an_seek_by_halves : Option Addr} {sl_seek_by_halves : Array (Option Value)} {kV_seek_by_halves : Value} {dc_seek_by_halves : Value} {pm_seek_by_halves : Value} {cd_seek_by_halves : Value} {ct_seek_by_halves : Value} {f_seek : Addr} {oc_seek : Value} {od_seek : Option Addr} {an_seek : Option Addr} {sl_seek : Array (Option Value)} {kV_seek : Value} {dc_seek : Value} {pm_seek : Value} {cd_seek : Value} {ct_seek : Value} {f_Trip_init : Addr} {oc_Trip_init : Value} {od_Trip_init : Option Addr} {an_Trip_init : Option Addr} {sl_Trip_init : Array (Option Value)} {kV_Trip_init : Value} {dc_Trip_init : Value} {pm_Trip_init : Value} {cd_Trip_init : Value} {ct_Trip_init : Value} {f_travel : Addr} {oc_travel : Value} {od_travel : Option Addr} {an_travel : Option Addr} {sl_travel : Array (Option Value)} {kV_travel : Value} {dc_travel : Value} {pm_travel : Value} {cd_travel : Value} {ct_travel : Value} {f_known_headings : Addr} {oc_known_headings : Value} {od_known_headings : Option Addr} {an_known_headings : Option Addr} {sl_known_headings : Array (Option Value)} {kV_known_headings : Value} {dc_known_headings : Value} {pm_known_headings : Value} {cd_known_headings : Value} {ct_known_headings : Value} {f_joined : Addr} {oc_joined : Value} {od_joined : Option Addr} {an_joined : Option Addr} {sl_joined : Array (Option Value)} {kV_joined : Value} {dc_joined : Value} {pm_joined : Value} {cd_joined : Value} {ct_joined : Value} {f_card_at_end : Addr} {oc_card_at_end : Value} {od_card_at_end : Option Addr} {an_card_at_end : Option Addr} {sl_card_at_end : Array (Option Value)} {kV_card_at_end : Value} {dc_card_at_end : Value} {pm_card_at_end : Value} {cd_card_at_end : Value} {ct_card_at_end : Value} {f_still_found : Addr} {oc_still_found : Value} {od_still_found : Option Addr} {an_still_found : Option Addr} {sl_still_found : Array (Option Value)} {kV_still_found : Value} {dc_still_found : Value} {pm_still_found : Value} {cd_still_found : Value} {ct_still_found : Value} {f_parts_at : Addr} {oc_parts_at : Value} {od_parts_at : Option Addr} {an_parts_at : Option Addr} {sl_parts_at : Array (Option Value)} {kV_parts_at : Value} {dc_parts_at : Value} {pm_parts_at : Value} {cd_parts_at : Value} {ct_parts_at : Value} {f_split : Addr} {oc_split : Value} {od_split : Option Addr} {an_split : Option Addr} {sl_split : Array (Option Value)} {kV_split : Value} {dc_split : Value} {pm_split : Value} {cd_split : Value} {ct_split : Value} {f_card_behind_split : Addr} {oc_card_behind_split : Value} {od_card_behind_split : Option Addr} {an_card_behind_split : Option Addr} {sl_card_behind_split : Array (Option Value)} {kV_card_behind_split : Value} {dc_card_behind_split : Value} {pm_card_behind_split : Value} {cd_card_behind_split : Value} {ct_card_behind_split : Value} {f_lost_at : Addr} {oc_lost_at : Value} {od_lost_at : Option Addr} {an_lost_at : Option Addr} {sl_lost_at : Array (Option Value)} {kV_lost_at : Value} {dc_lost_at : Value} {pm_lost_at : Value} {cd_lost_at : Value} {ct_lost_at : Value} {f_lost_by_split : Addr} {oc_lost_by_split : Value} {od_lost_by_split : Option Addr} {an_lost_by_split : Option Addr} {sl_lost_by_split : Array (Option Value)} {kV_lost_by_split : Value} {dc_lost_by_split : Value} {pm_lost_by_split : Value} {cd_lost_by_split : Value} {ct_lost_by_split : Value} {f_best_split : Addr} {oc_best_split : Value} {od_best_split : Option Addr} {an_best_split : Option Addr} {sl_best_split : Array (Option Value)} {kV_best_split : Value} {dc_best_split : Value} {pm_best_split : Value} {cd_best_split : Value} {ct_best_split : Value} {f_are_books : Addr} {oc_are_books : Value} {od_are_books : Option Addr} {an_are_books : Option Addr} {sl_are_books : Array (Option Value)} {kV_are_books : Value} {dc_are_books : Value} {pm_are_books : Value} {cd_are_books : Value} {ct_are_books : Value} {f_is_target : Addr} {oc_is_target : Value} {od_is_target : Option Addr} {an_is_target : Option Addr} {sl_is_target : Array (Option Value)} {kV_is_target : Value} {dc_is_target : Value} {pm_is_target : Value} {cd_is_target : Value} {ct_is_target : Value} {f_are_further : Addr} {oc_are_further : Value} {od_are_further : Option Addr} {an_are_further : Option Addr} {sl_are_further : Array (Option Value)} {kV_are_further : Value} {dc_are_further : Value} {pm_are_further : Value} {cd_are_further : Value} {ct_are_further : Value} {f_wrong_part : Addr} {oc_wrong_part : Value} {od_wrong_part : Option Addr} {an_wrong_part : Option Addr} {sl_wrong_part : Array (Option Value)} {kV_wrong_part : Value} {dc_wrong_part : Value} {pm_wrong_part : Value} {cd_wrong_part : Value} {ct_wrong_part : Value} {f_Card_init : Addr} {de_Card_init_0 : Addr} {de_Card_init_2 : Addr} {do_e_Card_init_2 : Option Addr} {dm_e_Card_init_2 : Nat} {dl_e_Card_init_2 : Array (Option Value)} {oc_Card_init : Value} {od_Card_init : Option Addr} {an_Card_init : Option Addr} {sl_Card_init : Array (Option Value)} {kV_Card_init : Value} {dc_Card_init : Value} {pm_Card_init : Value} {cd_Card_init : Value} {ct_Card_init : Value} {dT_Card_init : Addr} {dc0_Card_init : Value} {dd_Card_init : Option Addr} {dn_Card_init : Nat} {ds_Card_init : Array (Option Value)} {du_Card_init_1 : Tok} {f_Card_heading : Addr} {oc_Card_heading : Value} {od_Card_heading : Option Addr} {an_Card_heading : Option Addr} {sl_Card_heading : Array (Option Value)} {kV_Card_heading : Value} {dc_Card_heading : Value} {pm_Card_heading : Value} {cd_Card_heading : Value} {ct_Card_heading : Value} {f_Card_see : Addr} {oc_Card_see : Value} {od_Card_see : Option Addr} {an_Card_see : Option Addr} {sl_Card_see : Array (Option Value)} {kV_Card_see : Value} {dc_Card_see : Value} {pm_Card_see : Value} {cd_Card_see : Value} {ct_Card_see : Value} {f_Card_also : Addr} {oc_Card_also : Value} {od_Card_also : Option Addr} {an_Card_also : Option Addr} {sl_Card_also : Array (Option Value)} {kV_Card_also : Value} {dc_Card_also : Value} {pm_Card_also : Value} {cd_Card_also : Value} {ct_Card_also : Value} {f_Card_leads : Addr} {oc_Card_leads : Value} {od_Card_leads : Option Addr} {an_Card_leads : Option Addr} {sl_Card_leads : Array (Option Value)} {kV_Card_leads : Value} {dc_Card_leads : Value} {pm_Card_leads : Value} {cd_Card_leads : Value} {ct_Card_leads : Value} {f_Card_eq : Addr} {oc_Card_eq : Value} {od_Card_eq : Option Addr} {an_Card_eq : Option Addr} {sl_Card_eq : Array (Option Value)} {kV_Card_eq : Value} {dc_Card_eq : Value} {pm_Card_eq : Value} {cd_Card_eq : Value} {ct_Card_eq : Value} {f_moves_of : Addr} {oc_moves_of : Value} {od_moves_of : Option Addr} {an_moves_of : Option Addr} {sl_moves_of : Array (Option Value)} {kV_moves_of : Value} {dc_moves_of : Value} {pm_moves_of : Value} {cd_moves_of : Value} {ct_moves_of : Value} {f_orders_after : Addr} {oc_orders_after : Value} {od_orders_after : Option Addr} {an_orders_after : Option Addr} {sl_orders_after : Array (Option Value)} {kV_orders_after : Value} {dc_orders_after : Value} {pm_orders_after : Value} {cd_orders_after : Value} {ct_orders_after : Value} {f_fits_tally : Addr} {oc_fits_tally : Value} {od_fits_tally : Option Addr} {an_fits_tally : Option Addr} {sl_fits_tally : Array (Option Value)} {kV_fits_tally : Value} {dc_fits_tally : Value} {pm_fits_tally : Value} {cd_fits_tally : Value} {ct_fits_tally : Value} {f_orders_by : Addr} {oc_orders_by : Value} {od_orders_by : Option Addr} {an_orders_by : Option Addr} {sl_orders_by : Array (Option Value)} {kV_orders_by : Value} {dc_orders_by : Value} {pm_orders_by : Value} {cd_orders_by : Value} {ct_orders_by : Value} {f_possible_orders : Addr} {oc_possible_orders : Value} {od_possible_orders : Option Addr} {an_possible_orders : Option Addr} {sl_possible_orders : Array (Option Value)} {kV_possible_orders : Value} {dc_possible_orders : Value} {pm_possible_orders : Value} {cd_possible_orders : Value} {ct_possible_orders : Value} {f_misplaced : Addr} {oc_misplaced : Value} {od_misplaced : Option Addr} {an_misplaced : Option Addr} {sl_misplaced : Array (Option Value)} {kV_misplaced : Value} {dc_misplaced : Value} {pm_misplaced : Value} {cd_misplaced : Value} {ct_misplaced : Value} {f_llaw_taken : Addr} {oc_llaw_taken : Value} {od_llaw_taken : Option Addr} {an_llaw_taken : Option Addr} {sl_llaw_taken : Array (Option Value)} {kV_llaw_taken : Value} {dc_llaw_taken : Value} {pm_llaw_taken : Value} {cd_llaw_taken : Value} {ct_llaw_taken : Value} {f_llaw_card : Addr} {oc_llaw_card : Value} {od_llaw_card : Option Addr} {an_llaw_card : Option Addr} {sl_llaw_card : Array (Option Value)} {kV_llaw_card : Value} {dc_llaw_card : Value} {pm_llaw_card : Value} {cd_llaw_card : Value} {ct_llaw_card : Value} {f_llaw_drawer : Addr} {oc_llaw_drawer : Value} {od_llaw_drawer : Option Addr} {an_llaw_drawer : Option Addr} {sl_llaw_drawer : Array (Option Value)} {kV_llaw_drawer : Value} {dc_llaw_drawer : Value} {pm_llaw_drawer : Value} {cd_llaw_drawer : Value} {ct_llaw_drawer : Value} {f_llaw_told : Addr} {oc_llaw_told : Value} {od_llaw_told : Option Addr} {an_llaw_told : Option Addr} {sl_llaw_told : Array (Option Value)} {kV_llaw_told : Value} {dc_llaw_told : Value} {pm_llaw_told : Value} {cd_llaw_told : Value} {ct_llaw_told : Value} {f_law : Addr} {oc_law : Value} {od_law : Option Addr} {an_law : Option Addr} {sl_law : Array (Option Value)} {kV_law : Value} {dc_law : Value} {pm_law : Value} {cd_law : Value} {ct_law : Value} {C_SeeError : Addr} {C_InvalidRule : Addr} {C_InvalidHeading : Addr} {C_InvalidNumber : Addr} {C_InvalidTally : Addr} {on_InvalidTally : Str} {oq_InvalidTally : Str} {oN_InvalidTally : Addr} {obs_InvalidTally : List Value} {obm_InvalidTally : List Value} {osn_InvalidTally : List Str} {osu_InvalidTally : List Value} {oab_InvalidTally : Bool} {oco_InvalidTally : Option Bool} {odd_InvalidTally : Option Addr} {ok0_InvalidTally : Option Value} {ok1_InvalidTally : Option Value} {ok2_InvalidTally : Option Value} {ok3_InvalidTally : Option Value} {ok5_InvalidTally : Option Value} {C_NoOrder : Addr} {C_Drawer : Addr} {pr_Drawer_cards : Addr} {ps_Drawer_cards : List Value} {pr_Drawer_headings : Addr} {ps_Drawer_headings : List Value} {C_Trip : Addr} {C_Card : Addr} {pr_Card_heading : Addr} {ps_Card_heading : List Value} {pr_Card_see : Addr} {ps_Card_see : List Value} {pr_Card_also : Addr} {ps_Card_also : List Value} {pr_Card_leads : Addr} {ps_Card_leads : List Value} {tc_filed : Addr} {tP_filed : Addr} {te_filed : Value} {tdd_filed : Option Addr} {tvs_filed : Array Value} {tsl_filed : Array (Option Value)} {tc_llaw_drawer : Addr} {tP_llaw_drawer : Addr} {te_llaw_drawer : Value} {tdd_llaw_drawer : Option Addr} {tvs_llaw_drawer : Array Value} {tsl_llaw_drawer : Array (Option Value)} {tc_law : Addr} {tP_law : Addr} {te_law : Value} {tdd_law : Option Addr} {tvs_law : Array Value} {tsl_law : Array (Option Value)}
    (X : K.In h) (G : h.Ns mainGlobals mg) (hfa : mg "law" = some (.ref fa))
    (tab_filed : h.get? tP_filed = some { cls := .none, data := .fields #[] })
    (tab_llaw_drawer : h.get? tP_llaw_drawer = some { cls := .none, data := .fields #[] })
    (tab_law : h.get? tP_law = some { cls := .none, data := .fields #[] })
    (z_all : PySem.W.nsIn K mainGlobals "all" = some none)
    (z_bool : PySem.W.nsIn K mainGlobals "bool" = some none)
    (z_enumerate : PySem.W.nsIn K mainGlobals "enumerate" = some none)
    (z_int : PySem.W.nsIn K mainGlobals "int" = some none)
    (z_isinstance : PySem.W.nsIn K mainGlobals "isinstance" = some none)
    (z_len : PySem.W.nsIn K mainGlobals "len" = some none)
    (z_list : PySem.W.nsIn K mainGlobals "list" = some none)
    (z_min : PySem.W.nsIn K mainGlobals "min" = some none)
    (z_range : PySem.W.nsIn K mainGlobals "range" = some none)
    (z_set : PySem.W.nsIn K mainGlobals "set" = some none)
    (z_sorted : PySem.W.nsIn K mainGlobals "sorted" = some none)
    (z_str : PySem.W.nsIn K mainGlobals "str" = some none)
    (z_tuple : PySem.W.nsIn K mainGlobals "tuple" = some none)
    (z_zip : PySem.W.nsIn K mainGlobals "zip" = some none)
    (zc_LETTERS : PySem.W.nsIn K mainGlobals "LETTERS" = some (some (.str "abcdefghijklmnopqrstuvwxyz" t_LETTERS)))
    (zc_LONGEST_WORD : PySem.W.nsIn K mainGlobals "LONGEST_WORD" = some (some (.int (8) t_LONGEST_WORD)))
    (zc_MOST_CARDS : PySem.W.nsIn K mainGlobals "MOST_CARDS" = some (some (.int (16) t_MOST_CARDS)))
    (zc_MOST_BOOKS : PySem.W.nsIn K mainGlobals "MOST_BOOKS" = some (some (.int (6) t_MOST_BOOKS)))
    (zc_LAST_BOOK : PySem.W.nsIn K mainGlobals "LAST_BOOK" = some (some (.int (999) t_LAST_BOOK)))
    (zc_MOST_ALSO : PySem.W.nsIn K mainGlobals "MOST_ALSO" = some (some (.int (4) t_MOST_ALSO)))
    (zc_MOST_MOVES : PySem.W.nsIn K mainGlobals "MOST_MOVES" = some (some (.int (2) t_MOST_MOVES)))
    (zc_RULES : PySem.W.nsIn K mainGlobals "RULES" = some (some (.ref at_RULES)))
    (ht_RULES : K.lookup at_RULES = some ⟨.type "tuple", od_RULES, .seq #[.str "all" ok_RULES_0, .str "leaf" ok_RULES_1, .str "half" ok_RULES_2] on_RULES, os_RULES⟩)
    (l_InvalidTally_init : K.lookup f_InvalidTally_init = some ⟨oc_InvalidTally_init, od_InvalidTally_init, .func (PySem.W.fnOf "__init__" "InvalidTally.__init__" (defArgs s_InvalidTally_init) (defBody s_InvalidTally_init) (defScope s_InvalidTally_init) .none kV_InvalidTally_init dc_InvalidTally_init pm_InvalidTally_init an_InvalidTally_init cd_InvalidTally_init ct_InvalidTally_init), sl_InvalidTally_init⟩)
    (c_InvalidTally_init : PySem.W.codeIn K cd_InvalidTally_init "InvalidTally.__init__" = true)
    (k_InvalidTally_init : PySem.W.keepIn K (.ref f_InvalidTally_init) = true)
    (l_is_word : K.lookup f_is_word = some ⟨oc_is_word, od_is_word, .func (PySem.W.fnOf "is_word" "is_word" (defArgs s_is_word) (defBody s_is_word) (defScope s_is_word) .none kV_is_word dc_is_word pm_is_word an_is_word cd_is_word ct_is_word), sl_is_word⟩)
    (c_is_word : PySem.W.codeIn K cd_is_word "is_word" = true)
    (k_is_word : PySem.W.keepIn K (.ref f_is_word) = true)
    (n_is_word : PySem.W.nsIn K mainGlobals "is_word" = some (some (.ref f_is_word)))
    (l_is_number : K.lookup f_is_number = some ⟨oc_is_number, od_is_number, .func (PySem.W.fnOf "is_number" "is_number" (defArgs s_is_number) (defBody s_is_number) (defScope s_is_number) .none kV_is_number dc_is_number pm_is_number an_is_number cd_is_number ct_is_number), sl_is_number⟩)
    (c_is_number : PySem.W.codeIn K cd_is_number "is_number" = true)
    (k_is_number : PySem.W.keepIn K (.ref f_is_number) = true)
    (n_is_number : PySem.W.nsIn K mainGlobals "is_number" = some (some (.ref f_is_number)))
    (l_check_rule : K.lookup f_check_rule = some ⟨oc_check_rule, od_check_rule, .func (PySem.W.fnOf "check_rule" "check_rule" (defArgs s_check_rule) (defBody s_check_rule) (defScope s_check_rule) .none kV_check_rule dc_check_rule pm_check_rule an_check_rule cd_check_rule ct_check_rule), sl_check_rule⟩)
    (c_check_rule : PySem.W.codeIn K cd_check_rule "check_rule" = true)
    (k_check_rule : PySem.W.keepIn K (.ref f_check_rule) = true)
    (n_check_rule : PySem.W.nsIn K mainGlobals "check_rule" = some (some (.ref f_check_rule)))
    (l_check_heading : K.lookup f_check_heading = some ⟨oc_check_heading, od_check_heading, .func (PySem.W.fnOf "check_heading" "check_heading" (defArgs s_check_heading) (defBody s_check_heading) (defScope s_check_heading) .none kV_check_heading dc_check_heading pm_check_heading an_check_heading cd_check_heading ct_check_heading), sl_check_heading⟩)
    (c_check_heading : PySem.W.codeIn K cd_check_heading "check_heading" = true)
    (k_check_heading : PySem.W.keepIn K (.ref f_check_heading) = true)
    (n_check_heading : PySem.W.nsIn K mainGlobals "check_heading" = some (some (.ref f_check_heading)))
    (l_check_number : K.lookup f_check_number = some ⟨oc_check_number, od_check_number, .func (PySem.W.fnOf "check_number" "check_number" (defArgs s_check_number) (defBody s_check_number) (defScope s_check_number) .none kV_check_number dc_check_number pm_check_number an_check_number cd_check_number ct_check_number), sl_check_number⟩)
    (c_check_number : PySem.W.codeIn K cd_check_number "check_number" = true)
    (k_check_number : PySem.W.keepIn K (.ref f_check_number) = true)
    (n_check_number : PySem.W.nsIn K mainGlobals "check_number" = some (some (.ref f_check_number)))
    (l_check_place : K.lookup f_check_place = some ⟨oc_check_place, od_check_place, .func (PySem.W.fnOf "check_place" "check_place" (defArgs s_check_place) (defBody s_check_place) (defScope s_check_place) .none kV_check_place dc_check_place pm_check_place an_check_place cd_check_place ct_check_place), sl_check_place⟩)
    (c_check_place : PySem.W.codeIn K cd_check_place "check_place" = true)
    (k_check_place : PySem.W.keepIn K (.ref f_check_place) = true)
    (n_check_place : PySem.W.nsIn K mainGlobals "check_place" = some (some (.ref f_check_place)))
    (l_first_without_word : K.lookup f_first_without_word = some ⟨oc_first_without_word, od_first_without_word, .func (PySem.W.fnOf "first_without_word" "first_without_word" (defArgs s_first_without_word) (defBody s_first_without_word) (defScope s_first_without_word) .none kV_first_without_word dc_first_without_word pm_first_without_word an_first_without_word cd_first_without_word ct_first_without_word), sl_first_without_word⟩)
    (c_first_without_word : PySem.W.codeIn K cd_first_without_word "first_without_word" = true)
    (k_first_without_word : PySem.W.keepIn K (.ref f_first_without_word) = true)
    (n_first_without_word : PySem.W.nsIn K mainGlobals "first_without_word" = some (some (.ref f_first_without_word)))
    (l_check_tally : K.lookup f_check_tally = some ⟨oc_check_tally, od_check_tally, .func (PySem.W.fnOf "check_tally" "check_tally" (defArgs s_check_tally) (defBody s_check_tally) (defScope s_check_tally) .none kV_check_tally dc_check_tally pm_check_tally an_check_tally cd_check_tally ct_check_tally), sl_check_tally⟩)
    (c_check_tally : PySem.W.codeIn K cd_check_tally "check_tally" = true)
    (k_check_tally : PySem.W.keepIn K (.ref f_check_tally) = true)
    (n_check_tally : PySem.W.nsIn K mainGlobals "check_tally" = some (some (.ref f_check_tally)))
    (l_Drawer_init : K.lookup f_Drawer_init = some ⟨oc_Drawer_init, od_Drawer_init, .func (PySem.W.fnOf "__init__" "Drawer.__init__" (defArgs s_Drawer_init) (defBody s_Drawer_init) (defScope s_Drawer_init) .none kV_Drawer_init dc_Drawer_init pm_Drawer_init an_Drawer_init cd_Drawer_init ct_Drawer_init), sl_Drawer_init⟩)
    (c_Drawer_init : PySem.W.codeIn K cd_Drawer_init "Drawer.__init__" = true)
    (k_Drawer_init : PySem.W.keepIn K (.ref f_Drawer_init) = true)
    (l_Drawer_cards : K.lookup f_Drawer_cards = some ⟨oc_Drawer_cards, od_Drawer_cards, .func (PySem.W.fnOf "cards" "Drawer.cards" (defArgs s_Drawer_cards) (defBody s_Drawer_cards) (defScope s_Drawer_cards) .none kV_Drawer_cards dc_Drawer_cards pm_Drawer_cards an_Drawer_cards cd_Drawer_cards ct_Drawer_cards), sl_Drawer_cards⟩)
    (c_Drawer_cards : PySem.W.codeIn K cd_Drawer_cards "Drawer.cards" = true)
    (k_Drawer_cards : PySem.W.keepIn K (.ref f_Drawer_cards) = true)
    (l_Drawer_headings : K.lookup f_Drawer_headings = some ⟨oc_Drawer_headings, od_Drawer_headings, .func (PySem.W.fnOf "headings" "Drawer.headings" (defArgs s_Drawer_headings) (defBody s_Drawer_headings) (defScope s_Drawer_headings) .none kV_Drawer_headings dc_Drawer_headings pm_Drawer_headings an_Drawer_headings cd_Drawer_headings ct_Drawer_headings), sl_Drawer_headings⟩)
    (c_Drawer_headings : PySem.W.codeIn K cd_Drawer_headings "Drawer.headings" = true)
    (k_Drawer_headings : PySem.W.keepIn K (.ref f_Drawer_headings) = true)
    (l_Drawer_getitem : K.lookup f_Drawer_getitem = some ⟨oc_Drawer_getitem, od_Drawer_getitem, .func (PySem.W.fnOf "__getitem__" "Drawer.__getitem__" (defArgs s_Drawer_getitem) (defBody s_Drawer_getitem) (defScope s_Drawer_getitem) .none kV_Drawer_getitem dc_Drawer_getitem pm_Drawer_getitem an_Drawer_getitem cd_Drawer_getitem ct_Drawer_getitem), sl_Drawer_getitem⟩)
    (c_Drawer_getitem : PySem.W.codeIn K cd_Drawer_getitem "Drawer.__getitem__" = true)
    (k_Drawer_getitem : PySem.W.keepIn K (.ref f_Drawer_getitem) = true)
    (l_Drawer_len : K.lookup f_Drawer_len = some ⟨oc_Drawer_len, od_Drawer_len, .func (PySem.W.fnOf "__len__" "Drawer.__len__" (defArgs s_Drawer_len) (defBody s_Drawer_len) (defScope s_Drawer_len) .none kV_Drawer_len dc_Drawer_len pm_Drawer_len an_Drawer_len cd_Drawer_len ct_Drawer_len), sl_Drawer_len⟩)
    (c_Drawer_len : PySem.W.codeIn K cd_Drawer_len "Drawer.__len__" = true)
    (k_Drawer_len : PySem.W.keepIn K (.ref f_Drawer_len) = true)
    (l_headings_along : K.lookup f_headings_along = some ⟨oc_headings_along, od_headings_along, .func (PySem.W.fnOf "headings_along" "headings_along" (defArgs s_headings_along) (defBody s_headings_along) (defScope s_headings_along) .none kV_headings_along dc_headings_along pm_headings_along an_headings_along cd_headings_along ct_headings_along), sl_headings_along⟩)
    (c_headings_along : PySem.W.codeIn K cd_headings_along "headings_along" = true)
    (k_headings_along : PySem.W.keepIn K (.ref f_headings_along) = true)
    (n_headings_along : PySem.W.nsIn K mainGlobals "headings_along" = some (some (.ref f_headings_along)))
    (l_filed : K.lookup f_filed = some ⟨oc_filed, od_filed, .func (PySem.W.fnOf "filed" "filed" (defArgs s_filed) (defBody s_filed) (defScope s_filed) .none kV_filed dc_filed pm_filed an_filed cd_filed ct_filed), sl_filed⟩)
    (c_filed : PySem.W.codeIn K cd_filed "filed" = true)
    (k_filed : PySem.W.keepIn K (.ref f_filed) = true)
    (n_filed : PySem.W.nsIn K mainGlobals "filed" = some (some (.ref f_filed)))
    (l_seek_along : K.lookup f_seek_along = some ⟨oc_seek_along, od_seek_along, .func (PySem.W.fnOf "seek_along" "seek_along" (defArgs s_seek_along) (defBody s_seek_along) (defScope s_seek_along) .none kV_seek_along dc_seek_along pm_seek_along an_seek_along cd_seek_along ct_seek_along), sl_seek_along⟩)
    (c_seek_along : PySem.W.codeIn K cd_seek_along "seek_along" = true)
    (k_seek_along : PySem.W.keepIn K (.ref f_seek_along) = true)
    (n_seek_along : PySem.W.nsIn K mainGlobals "seek_along" = some (some (.ref f_seek_along)))
    (l_seek_by_halves : K.lookup f_seek_by_halves = some ⟨oc_seek_by_halves, od_seek_by_halves, .func (PySem.W.fnOf "seek_by_halves" "seek_by_halves" (defArgs s_seek_by_halves) (defBody s_seek_by_halves) (defScope s_seek_by_halves) .none kV_seek_by_halves dc_seek_by_halves pm_seek_by_halves an_seek_by_halves cd_seek_by_halves ct_seek_by_halves), sl_seek_by_halves⟩)
    (c_seek_by_halves : PySem.W.codeIn K cd_seek_by_halves "seek_by_halves" = true)
    (k_seek_by_halves : PySem.W.keepIn K (.ref f_seek_by_halves) = true)
    (n_seek_by_halves : PySem.W.nsIn K mainGlobals "seek_by_halves" = some (some (.ref f_seek_by_halves)))
    (l_seek : K.lookup f_seek = some ⟨oc_seek, od_seek, .func (PySem.W.fnOf "seek" "seek" (defArgs s_seek) (defBody s_seek) (defScope s_seek) .none kV_seek dc_seek pm_seek an_seek cd_seek ct_seek), sl_seek⟩)
    (c_seek : PySem.W.codeIn K cd_seek "seek" = true)
    (k_seek : PySem.W.keepIn K (.ref f_seek) = true)
    (n_seek : PySem.W.nsIn K mainGlobals "seek" = some (some (.ref f_seek)))
    (l_Trip_init : K.lookup f_Trip_init = some ⟨oc_Trip_init, od_Trip_init, .func (PySem.W.fnOf "__init__" "Trip.__init__" (defArgs s_Trip_init) (defBody s_Trip_init) (defScope s_Trip_init) .none kV_Trip_init dc_Trip_init pm_Trip_init an_Trip_init cd_Trip_init ct_Trip_init), sl_Trip_init⟩)
    (c_Trip_init : PySem.W.codeIn K cd_Trip_init "Trip.__init__" = true)
    (k_Trip_init : PySem.W.keepIn K (.ref f_Trip_init) = true)
    (l_travel : K.lookup f_travel = some ⟨oc_travel, od_travel, .func (PySem.W.fnOf "travel" "travel" (defArgs s_travel) (defBody s_travel) (defScope s_travel) .none kV_travel dc_travel pm_travel an_travel cd_travel ct_travel), sl_travel⟩)
    (c_travel : PySem.W.codeIn K cd_travel "travel" = true)
    (k_travel : PySem.W.keepIn K (.ref f_travel) = true)
    (n_travel : PySem.W.nsIn K mainGlobals "travel" = some (some (.ref f_travel)))
    (l_known_headings : K.lookup f_known_headings = some ⟨oc_known_headings, od_known_headings, .func (PySem.W.fnOf "known_headings" "known_headings" (defArgs s_known_headings) (defBody s_known_headings) (defScope s_known_headings) .none kV_known_headings dc_known_headings pm_known_headings an_known_headings cd_known_headings ct_known_headings), sl_known_headings⟩)
    (c_known_headings : PySem.W.codeIn K cd_known_headings "known_headings" = true)
    (k_known_headings : PySem.W.keepIn K (.ref f_known_headings) = true)
    (n_known_headings : PySem.W.nsIn K mainGlobals "known_headings" = some (some (.ref f_known_headings)))
    (l_joined : K.lookup f_joined = some ⟨oc_joined, od_joined, .func (PySem.W.fnOf "joined" "joined" (defArgs s_joined) (defBody s_joined) (defScope s_joined) .none kV_joined dc_joined pm_joined an_joined cd_joined ct_joined), sl_joined⟩)
    (c_joined : PySem.W.codeIn K cd_joined "joined" = true)
    (k_joined : PySem.W.keepIn K (.ref f_joined) = true)
    (n_joined : PySem.W.nsIn K mainGlobals "joined" = some (some (.ref f_joined)))
    (l_card_at_end : K.lookup f_card_at_end = some ⟨oc_card_at_end, od_card_at_end, .func (PySem.W.fnOf "card_at_end" "card_at_end" (defArgs s_card_at_end) (defBody s_card_at_end) (defScope s_card_at_end) .none kV_card_at_end dc_card_at_end pm_card_at_end an_card_at_end cd_card_at_end ct_card_at_end), sl_card_at_end⟩)
    (c_card_at_end : PySem.W.codeIn K cd_card_at_end "card_at_end" = true)
    (k_card_at_end : PySem.W.keepIn K (.ref f_card_at_end) = true)
    (n_card_at_end : PySem.W.nsIn K mainGlobals "card_at_end" = some (some (.ref f_card_at_end)))
    (l_still_found : K.lookup f_still_found = some ⟨oc_still_found, od_still_found, .func (PySem.W.fnOf "still_found" "still_found" (defArgs s_still_found) (defBody s_still_found) (defScope s_still_found) .none kV_still_found dc_still_found pm_still_found an_still_found cd_still_found ct_still_found), sl_still_found⟩)
    (c_still_found : PySem.W.codeIn K cd_still_found "still_found" = true)
    (k_still_found : PySem.W.keepIn K (.ref f_still_found) = true)
    (n_still_found : PySem.W.nsIn K mainGlobals "still_found" = some (some (.ref f_still_found)))
    (l_parts_at : K.lookup f_parts_at = some ⟨oc_parts_at, od_parts_at, .func (PySem.W.fnOf "parts_at" "parts_at" (defArgs s_parts_at) (defBody s_parts_at) (defScope s_parts_at) .none kV_parts_at dc_parts_at pm_parts_at an_parts_at cd_parts_at ct_parts_at), sl_parts_at⟩)
    (c_parts_at : PySem.W.codeIn K cd_parts_at "parts_at" = true)
    (k_parts_at : PySem.W.keepIn K (.ref f_parts_at) = true)
    (n_parts_at : PySem.W.nsIn K mainGlobals "parts_at" = some (some (.ref f_parts_at)))
    (l_split : K.lookup f_split = some ⟨oc_split, od_split, .func (PySem.W.fnOf "split" "split" (defArgs s_split) (defBody s_split) (defScope s_split) .none kV_split dc_split pm_split an_split cd_split ct_split), sl_split⟩)
    (c_split : PySem.W.codeIn K cd_split "split" = true)
    (k_split : PySem.W.keepIn K (.ref f_split) = true)
    (n_split : PySem.W.nsIn K mainGlobals "split" = some (some (.ref f_split)))
    (l_card_behind_split : K.lookup f_card_behind_split = some ⟨oc_card_behind_split, od_card_behind_split, .func (PySem.W.fnOf "card_behind_split" "card_behind_split" (defArgs s_card_behind_split) (defBody s_card_behind_split) (defScope s_card_behind_split) .none kV_card_behind_split dc_card_behind_split pm_card_behind_split an_card_behind_split cd_card_behind_split ct_card_behind_split), sl_card_behind_split⟩)
    (c_card_behind_split : PySem.W.codeIn K cd_card_behind_split "card_behind_split" = true)
    (k_card_behind_split : PySem.W.keepIn K (.ref f_card_behind_split) = true)
    (n_card_behind_split : PySem.W.nsIn K mainGlobals "card_behind_split" = some (some (.ref f_card_behind_split)))
    (l_lost_at : K.lookup f_lost_at = some ⟨oc_lost_at, od_lost_at, .func (PySem.W.fnOf "lost_at" "lost_at" (defArgs s_lost_at) (defBody s_lost_at) (defScope s_lost_at) .none kV_lost_at dc_lost_at pm_lost_at an_lost_at cd_lost_at ct_lost_at), sl_lost_at⟩)
    (c_lost_at : PySem.W.codeIn K cd_lost_at "lost_at" = true)
    (k_lost_at : PySem.W.keepIn K (.ref f_lost_at) = true)
    (n_lost_at : PySem.W.nsIn K mainGlobals "lost_at" = some (some (.ref f_lost_at)))
    (l_lost_by_split : K.lookup f_lost_by_split = some ⟨oc_lost_by_split, od_lost_by_split, .func (PySem.W.fnOf "lost_by_split" "lost_by_split" (defArgs s_lost_by_split) (defBody s_lost_by_split) (defScope s_lost_by_split) .none kV_lost_by_split dc_lost_by_split pm_lost_by_split an_lost_by_split cd_lost_by_split ct_lost_by_split), sl_lost_by_split⟩)
    (c_lost_by_split : PySem.W.codeIn K cd_lost_by_split "lost_by_split" = true)
    (k_lost_by_split : PySem.W.keepIn K (.ref f_lost_by_split) = true)
    (n_lost_by_split : PySem.W.nsIn K mainGlobals "lost_by_split" = some (some (.ref f_lost_by_split)))
    (l_best_split : K.lookup f_best_split = some ⟨oc_best_split, od_best_split, .func (PySem.W.fnOf "best_split" "best_split" (defArgs s_best_split) (defBody s_best_split) (defScope s_best_split) .none kV_best_split dc_best_split pm_best_split an_best_split cd_best_split ct_best_split), sl_best_split⟩)
    (c_best_split : PySem.W.codeIn K cd_best_split "best_split" = true)
    (k_best_split : PySem.W.keepIn K (.ref f_best_split) = true)
    (n_best_split : PySem.W.nsIn K mainGlobals "best_split" = some (some (.ref f_best_split)))
    (l_are_books : K.lookup f_are_books = some ⟨oc_are_books, od_are_books, .func (PySem.W.fnOf "are_books" "are_books" (defArgs s_are_books) (defBody s_are_books) (defScope s_are_books) .none kV_are_books dc_are_books pm_are_books an_are_books cd_are_books ct_are_books), sl_are_books⟩)
    (c_are_books : PySem.W.codeIn K cd_are_books "are_books" = true)
    (k_are_books : PySem.W.keepIn K (.ref f_are_books) = true)
    (n_are_books : PySem.W.nsIn K mainGlobals "are_books" = some (some (.ref f_are_books)))
    (l_is_target : K.lookup f_is_target = some ⟨oc_is_target, od_is_target, .func (PySem.W.fnOf "is_target" "is_target" (defArgs s_is_target) (defBody s_is_target) (defScope s_is_target) .none kV_is_target dc_is_target pm_is_target an_is_target cd_is_target ct_is_target), sl_is_target⟩)
    (c_is_target : PySem.W.codeIn K cd_is_target "is_target" = true)
    (k_is_target : PySem.W.keepIn K (.ref f_is_target) = true)
    (n_is_target : PySem.W.nsIn K mainGlobals "is_target" = some (some (.ref f_is_target)))
    (l_are_further : K.lookup f_are_further = some ⟨oc_are_further, od_are_further, .func (PySem.W.fnOf "are_further" "are_further" (defArgs s_are_further) (defBody s_are_further) (defScope s_are_further) .none kV_are_further dc_are_further pm_are_further an_are_further cd_are_further ct_are_further), sl_are_further⟩)
    (c_are_further : PySem.W.codeIn K cd_are_further "are_further" = true)
    (k_are_further : PySem.W.keepIn K (.ref f_are_further) = true)
    (n_are_further : PySem.W.nsIn K mainGlobals "are_further" = some (some (.ref f_are_further)))
    (l_wrong_part : K.lookup f_wrong_part = some ⟨oc_wrong_part, od_wrong_part, .func (PySem.W.fnOf "wrong_part" "wrong_part" (defArgs s_wrong_part) (defBody s_wrong_part) (defScope s_wrong_part) .none kV_wrong_part dc_wrong_part pm_wrong_part an_wrong_part cd_wrong_part ct_wrong_part), sl_wrong_part⟩)
    (c_wrong_part : PySem.W.codeIn K cd_wrong_part "wrong_part" = true)
    (k_wrong_part : PySem.W.keepIn K (.ref f_wrong_part) = true)
    (n_wrong_part : PySem.W.nsIn K mainGlobals "wrong_part" = some (some (.ref f_wrong_part)))
    (hk_Card_init_2 : K.lookup de_Card_init_2 = some ⟨.type "tuple", do_e_Card_init_2, .seq #[] dm_e_Card_init_2, dl_e_Card_init_2⟩)
    (l_Card_init : K.lookup f_Card_init = some ⟨oc_Card_init, od_Card_init, .func (PySem.W.fnOf "__init__" "Card.__init__" (defArgs s_Card_init) (defBody s_Card_init) (defScope s_Card_init) (.ref dT_Card_init) kV_Card_init dc_Card_init pm_Card_init an_Card_init cd_Card_init ct_Card_init), sl_Card_init⟩)
    (c_Card_init : PySem.W.codeIn K cd_Card_init "Card.__init__" = true)
    (k_Card_init : PySem.W.keepIn K (.ref f_Card_init) = true)
    (dk_Card_init : K.lookup dT_Card_init = some ⟨dc0_Card_init, dd_Card_init, .seq #[.ref de_Card_init_0, .str "" du_Card_init_1, .ref de_Card_init_2] dn_Card_init, ds_Card_init⟩)
    (l_Card_heading : K.lookup f_Card_heading = some ⟨oc_Card_heading, od_Card_heading, .func (PySem.W.fnOf "heading" "Card.heading" (defArgs s_Card_heading) (defBody s_Card_heading) (defScope s_Card_heading) .none kV_Card_heading dc_Card_heading pm_Card_heading an_Card_heading cd_Card_heading ct_Card_heading), sl_Card_heading⟩)
    (c_Card_heading : PySem.W.codeIn K cd_Card_heading "Card.heading" = true)
    (k_Card_heading : PySem.W.keepIn K (.ref f_Card_heading) = true)
    (l_Card_see : K.lookup f_Card_see = some ⟨oc_Card_see, od_Card_see, .func (PySem.W.fnOf "see" "Card.see" (defArgs s_Card_see) (defBody s_Card_see) (defScope s_Card_see) .none kV_Card_see dc_Card_see pm_Card_see an_Card_see cd_Card_see ct_Card_see), sl_Card_see⟩)
    (c_Card_see : PySem.W.codeIn K cd_Card_see "Card.see" = true)
    (k_Card_see : PySem.W.keepIn K (.ref f_Card_see) = true)
    (l_Card_also : K.lookup f_Card_also = some ⟨oc_Card_also, od_Card_also, .func (PySem.W.fnOf "also" "Card.also" (defArgs s_Card_also) (defBody s_Card_also) (defScope s_Card_also) .none kV_Card_also dc_Card_also pm_Card_also an_Card_also cd_Card_also ct_Card_also), sl_Card_also⟩)
    (c_Card_also : PySem.W.codeIn K cd_Card_also "Card.also" = true)
    (k_Card_also : PySem.W.keepIn K (.ref f_Card_also) = true)
    (l_Card_leads : K.lookup f_Card_leads = some ⟨oc_Card_leads, od_Card_leads, .func (PySem.W.fnOf "leads" "Card.leads" (defArgs s_Card_leads) (defBody s_Card_leads) (defScope s_Card_leads) .none kV_Card_leads dc_Card_leads pm_Card_leads an_Card_leads cd_Card_leads ct_Card_leads), sl_Card_leads⟩)
    (c_Card_leads : PySem.W.codeIn K cd_Card_leads "Card.leads" = true)
    (k_Card_leads : PySem.W.keepIn K (.ref f_Card_leads) = true)
    (l_Card_eq : K.lookup f_Card_eq = some ⟨oc_Card_eq, od_Card_eq, .func (PySem.W.fnOf "__eq__" "Card.__eq__" (defArgs s_Card_eq) (defBody s_Card_eq) (defScope s_Card_eq) .none kV_Card_eq dc_Card_eq pm_Card_eq an_Card_eq cd_Card_eq ct_Card_eq), sl_Card_eq⟩)
    (c_Card_eq : PySem.W.codeIn K cd_Card_eq "Card.__eq__" = true)
    (k_Card_eq : PySem.W.keepIn K (.ref f_Card_eq) = true)
    (l_moves_of : K.lookup f_moves_of = some ⟨oc_moves_of, od_moves_of, .func (PySem.W.fnOf "moves_of" "moves_of" (defArgs s_moves_of) (defBody s_moves_of) (defScope s_moves_of) .none kV_moves_of dc_moves_of pm_moves_of an_moves_of cd_moves_of ct_moves_of), sl_moves_of⟩)
    (c_moves_of : PySem.W.codeIn K cd_moves_of "moves_of" = true)
    (k_moves_of : PySem.W.keepIn K (.ref f_moves_of) = true)
    (n_moves_of : PySem.W.nsIn K mainGlobals "moves_of" = some (some (.ref f_moves_of)))
    (l_orders_after : K.lookup f_orders_after = some ⟨oc_orders_after, od_orders_after, .func (PySem.W.fnOf "orders_after" "orders_after" (defArgs s_orders_after) (defBody s_orders_after) (defScope s_orders_after) .none kV_orders_after dc_orders_after pm_orders_after an_orders_after cd_orders_after ct_orders_after), sl_orders_after⟩)
    (c_orders_after : PySem.W.codeIn K cd_orders_after "orders_after" = true)
    (k_orders_after : PySem.W.keepIn K (.ref f_orders_after) = true)
    (n_orders_after : PySem.W.nsIn K mainGlobals "orders_after" = some (some (.ref f_orders_after)))
    (l_fits_tally : K.lookup f_fits_tally = some ⟨oc_fits_tally, od_fits_tally, .func (PySem.W.fnOf "fits_tally" "fits_tally" (defArgs s_fits_tally) (defBody s_fits_tally) (defScope s_fits_tally) .none kV_fits_tally dc_fits_tally pm_fits_tally an_fits_tally cd_fits_tally ct_fits_tally), sl_fits_tally⟩)
    (c_fits_tally : PySem.W.codeIn K cd_fits_tally "fits_tally" = true)
    (k_fits_tally : PySem.W.keepIn K (.ref f_fits_tally) = true)
    (n_fits_tally : PySem.W.nsIn K mainGlobals "fits_tally" = some (some (.ref f_fits_tally)))
    (l_orders_by : K.lookup f_orders_by = some ⟨oc_orders_by, od_orders_by, .func (PySem.W.fnOf "orders_by" "orders_by" (defArgs s_orders_by) (defBody s_orders_by) (defScope s_orders_by) .none kV_orders_by dc_orders_by pm_orders_by an_orders_by cd_orders_by ct_orders_by), sl_orders_by⟩)
    (c_orders_by : PySem.W.codeIn K cd_orders_by "orders_by" = true)
    (k_orders_by : PySem.W.keepIn K (.ref f_orders_by) = true)
    (n_orders_by : PySem.W.nsIn K mainGlobals "orders_by" = some (some (.ref f_orders_by)))
    (l_possible_orders : K.lookup f_possible_orders = some ⟨oc_possible_orders, od_possible_orders, .func (PySem.W.fnOf "possible_orders" "possible_orders" (defArgs s_possible_orders) (defBody s_possible_orders) (defScope s_possible_orders) .none kV_possible_orders dc_possible_orders pm_possible_orders an_possible_orders cd_possible_orders ct_possible_orders), sl_possible_orders⟩)
    (c_possible_orders : PySem.W.codeIn K cd_possible_orders "possible_orders" = true)
    (k_possible_orders : PySem.W.keepIn K (.ref f_possible_orders) = true)
    (n_possible_orders : PySem.W.nsIn K mainGlobals "possible_orders" = some (some (.ref f_possible_orders)))
    (l_misplaced : K.lookup f_misplaced = some ⟨oc_misplaced, od_misplaced, .func (PySem.W.fnOf "misplaced" "misplaced" (defArgs s_misplaced) (defBody s_misplaced) (defScope s_misplaced) .none kV_misplaced dc_misplaced pm_misplaced an_misplaced cd_misplaced ct_misplaced), sl_misplaced⟩)
    (c_misplaced : PySem.W.codeIn K cd_misplaced "misplaced" = true)
    (k_misplaced : PySem.W.keepIn K (.ref f_misplaced) = true)
    (n_misplaced : PySem.W.nsIn K mainGlobals "misplaced" = some (some (.ref f_misplaced)))
    (l_llaw_taken : K.lookup f_llaw_taken = some ⟨oc_llaw_taken, od_llaw_taken, .func (PySem.W.fnOf "_law_taken" "_law_taken" (defArgs s_llaw_taken) (defBody s_llaw_taken) (defScope s_llaw_taken) .none kV_llaw_taken dc_llaw_taken pm_llaw_taken an_llaw_taken cd_llaw_taken ct_llaw_taken), sl_llaw_taken⟩)
    (c_llaw_taken : PySem.W.codeIn K cd_llaw_taken "_law_taken" = true)
    (k_llaw_taken : PySem.W.keepIn K (.ref f_llaw_taken) = true)
    (n_llaw_taken : PySem.W.nsIn K mainGlobals "_law_taken" = some (some (.ref f_llaw_taken)))
    (l_llaw_card : K.lookup f_llaw_card = some ⟨oc_llaw_card, od_llaw_card, .func (PySem.W.fnOf "_law_card" "_law_card" (defArgs s_llaw_card) (defBody s_llaw_card) (defScope s_llaw_card) .none kV_llaw_card dc_llaw_card pm_llaw_card an_llaw_card cd_llaw_card ct_llaw_card), sl_llaw_card⟩)
    (c_llaw_card : PySem.W.codeIn K cd_llaw_card "_law_card" = true)
    (k_llaw_card : PySem.W.keepIn K (.ref f_llaw_card) = true)
    (n_llaw_card : PySem.W.nsIn K mainGlobals "_law_card" = some (some (.ref f_llaw_card)))
    (l_llaw_drawer : K.lookup f_llaw_drawer = some ⟨oc_llaw_drawer, od_llaw_drawer, .func (PySem.W.fnOf "_law_drawer" "_law_drawer" (defArgs s_llaw_drawer) (defBody s_llaw_drawer) (defScope s_llaw_drawer) .none kV_llaw_drawer dc_llaw_drawer pm_llaw_drawer an_llaw_drawer cd_llaw_drawer ct_llaw_drawer), sl_llaw_drawer⟩)
    (c_llaw_drawer : PySem.W.codeIn K cd_llaw_drawer "_law_drawer" = true)
    (k_llaw_drawer : PySem.W.keepIn K (.ref f_llaw_drawer) = true)
    (n_llaw_drawer : PySem.W.nsIn K mainGlobals "_law_drawer" = some (some (.ref f_llaw_drawer)))
    (l_llaw_told : K.lookup f_llaw_told = some ⟨oc_llaw_told, od_llaw_told, .func (PySem.W.fnOf "_law_told" "_law_told" (defArgs s_llaw_told) (defBody s_llaw_told) (defScope s_llaw_told) .none kV_llaw_told dc_llaw_told pm_llaw_told an_llaw_told cd_llaw_told ct_llaw_told), sl_llaw_told⟩)
    (c_llaw_told : PySem.W.codeIn K cd_llaw_told "_law_told" = true)
    (k_llaw_told : PySem.W.keepIn K (.ref f_llaw_told) = true)
    (n_llaw_told : PySem.W.nsIn K mainGlobals "_law_told" = some (some (.ref f_llaw_told)))
    (l_law : K.lookup f_law = some ⟨oc_law, od_law, .func (PySem.W.fnOf "law" "law" (defArgs s_law) (defBody s_law) (defScope s_law) .none kV_law dc_law pm_law an_law cd_law ct_law), sl_law⟩)
    (c_law : PySem.W.codeIn K cd_law "law" = true)
    (k_law : PySem.W.keepIn K (.ref f_law) = true)
    (n_law : PySem.W.nsIn K mainGlobals "law" = some (some (.ref f_law)))
    (n_SeeError : PySem.W.nsIn K mainGlobals "SeeError" = some (some (.ref C_SeeError)))
    (zbbg_SeeError : PySem.W.specialIn K (.ref C_SeeError) "__getattribute__" = some (some (.builtin "type.__getattribute__")))
    (zbbr_SeeError : PySem.W.readsIn K C_SeeError (.type "type") = true)
    (zbbv_SeeError : PySem.W.findCls K (.ref C_SeeError) (.type "type") "__init__" = some (.val (.builtin "ValueError.__init__")))
    (n_InvalidRule : PySem.W.nsIn K mainGlobals "InvalidRule" = some (some (.ref C_InvalidRule)))
    (zxe_InvalidRule : PySem.W.excIn K C_InvalidRule [.type "ValueError", .type "Exception", .type "BaseException", .type "object"] "ValueError.__new__" = true)
    (zxk_InvalidRule : PySem.W.keepIn K (.ref C_InvalidRule) = true)
    (zxs_InvalidRule : PySem.W.subIn K (.ref C_InvalidRule) (.type "BaseException") = some true)
    (zxt_InvalidRule : PySem.W.typeIn K (.ref C_InvalidRule) = some (.type "type"))
    (n_InvalidHeading : PySem.W.nsIn K mainGlobals "InvalidHeading" = some (some (.ref C_InvalidHeading)))
    (zxe_InvalidHeading : PySem.W.excIn K C_InvalidHeading [.type "ValueError", .type "Exception", .type "BaseException", .type "object"] "ValueError.__new__" = true)
    (zxk_InvalidHeading : PySem.W.keepIn K (.ref C_InvalidHeading) = true)
    (zxs_InvalidHeading : PySem.W.subIn K (.ref C_InvalidHeading) (.type "BaseException") = some true)
    (zxt_InvalidHeading : PySem.W.typeIn K (.ref C_InvalidHeading) = some (.type "type"))
    (n_InvalidNumber : PySem.W.nsIn K mainGlobals "InvalidNumber" = some (some (.ref C_InvalidNumber)))
    (zxe_InvalidNumber : PySem.W.excIn K C_InvalidNumber [.type "ValueError", .type "Exception", .type "BaseException", .type "object"] "ValueError.__new__" = true)
    (zxk_InvalidNumber : PySem.W.keepIn K (.ref C_InvalidNumber) = true)
    (zxs_InvalidNumber : PySem.W.subIn K (.ref C_InvalidNumber) (.type "BaseException") = some true)
    (zxt_InvalidNumber : PySem.W.typeIn K (.ref C_InvalidNumber) = some (.type "type"))
    (n_InvalidTally : PySem.W.nsIn K mainGlobals "InvalidTally" = some (some (.ref C_InvalidTally)))
    (zox1_InvalidTally : K.lookup C_InvalidTally = some (PySem.excClassObj on_InvalidTally oq_InvalidTally C_InvalidTally oN_InvalidTally obs_InvalidTally obm_InvalidTally true osn_InvalidTally osu_InvalidTally oab_InvalidTally oco_InvalidTally odd_InvalidTally ok0_InvalidTally ok1_InvalidTally ok2_InvalidTally ok3_InvalidTally ok5_InvalidTally "ValueError.__new__"))
    (zq_ox2_InvalidTally : PySem.HandSPX.refsVE obm_InvalidTally = true)
    (zox3_InvalidTally : PySem.W.findIn K (.ref C_InvalidTally) "__setattr__" = some (some (.builtin "object.__setattr__")))
    (zox4_InvalidTally : PySem.W.subIn K (.ref C_InvalidTally) (.type "BaseException") = some true)
    (zox5_InvalidTally : PySem.W.typeIn K (.ref C_InvalidTally) = some (.type "type"))
    (zox6_InvalidTally : PySem.W.keepIn K (.ref C_InvalidTally) = true)
    (zoi_InvalidTally : PySem.W.findIn K (.ref C_InvalidTally) "__init__" = some (some (.ref f_InvalidTally_init)))
    (zot_InvalidTally : PySem.W.typeIn K (.ref f_InvalidTally_init) = some (.type "function"))
    (znf_InvalidTally_index : PySem.W.findIn K (.ref C_InvalidTally) "index" = some none)
    (zxg_InvalidTally : PySem.W.findIn K (.ref C_InvalidTally) "__getattribute__" = some (some (.builtin "BaseException.__getattribute__")))
    (zxa_InvalidTally : PySem.W.findIn K (.ref C_InvalidTally) "__getattr__" = some none)
    (zxb_InvalidTally : PySem.W.subIn K (.ref C_InvalidTally) (.type "BaseException") = some true)
    (zxd_InvalidTally : PySem.W.hasDictIn K C_InvalidTally = true)
    (n_NoOrder : PySem.W.nsIn K mainGlobals "NoOrder" = some (some (.ref C_NoOrder)))
    (zxe_NoOrder : PySem.W.excIn K C_NoOrder [.type "ValueError", .type "Exception", .type "BaseException", .type "object"] "ValueError.__new__" = true)
    (zxk_NoOrder : PySem.W.keepIn K (.ref C_NoOrder) = true)
    (zxs_NoOrder : PySem.W.subIn K (.ref C_NoOrder) (.type "BaseException") = some true)
    (zxt_NoOrder : PySem.W.typeIn K (.ref C_NoOrder) = some (.type "type"))
    (n_Drawer : PySem.W.nsIn K mainGlobals "Drawer" = some (some (.ref C_Drawer)))
    (cg_Drawer : PySem.W.plainGet K C_Drawer Str.empty = true)
    (ch_Drawer : PySem.W.hasDictIn K C_Drawer = true)
    (cp_Drawer : PySem.W.plainOver K C_Drawer = true)
    (cs_Drawer : PySem.W.findIn K (.ref C_Drawer) "__setattr__" = some (some (.builtin "object.__setattr__")))
    (na_Drawer__cards : PySem.W.findIn K (.ref C_Drawer) "_cards" = some none)
    (mk1_Drawer : PySem.W.makesIn K C_Drawer = true)
    (mk2_Drawer : PySem.W.findIn K (.ref C_Drawer) "__init__" = some (some (.ref f_Drawer_init)))
    (mk3_Drawer : PySem.W.isFn K (.ref f_Drawer_init) = true)
    (mk4_Drawer : PySem.W.keepIn K (.ref C_Drawer) = true)
    (p1_Drawer_cards : PySem.W.findIn K (.ref C_Drawer) "cards" = some (some (.ref pr_Drawer_cards)))
    (p2_Drawer_cards : PySem.W.specialIn K (.ref pr_Drawer_cards) "__get__" = some (some (.builtin "property.__get__")))
    (p3_Drawer_cards : PySem.W.takesIn K (.ref pr_Drawer_cards) = some true)
    (p4_Drawer_cards : PySem.W.recIn K pr_Drawer_cards "property" = some (.ref f_Drawer_cards :: ps_Drawer_cards))
    (p1_Drawer_headings : PySem.W.findIn K (.ref C_Drawer) "headings" = some (some (.ref pr_Drawer_headings)))
    (p2_Drawer_headings : PySem.W.specialIn K (.ref pr_Drawer_headings) "__get__" = some (some (.builtin "property.__get__")))
    (p3_Drawer_headings : PySem.W.takesIn K (.ref pr_Drawer_headings) = some true)
    (p4_Drawer_headings : PySem.W.recIn K pr_Drawer_headings "property" = some (.ref f_Drawer_headings :: ps_Drawer_headings))
    (me1_Drawer_getitem : PySem.W.findIn K (.ref C_Drawer) "__getitem__" = some (some (.ref f_Drawer_getitem)))
    (me2_Drawer_getitem : PySem.W.isFn K (.ref f_Drawer_getitem) = true)
    (me3_Drawer_getitem : PySem.W.keepIn K (.ref f_Drawer_getitem) = true)
    (fi_Drawer_getitem : PySem.W.fnIn K f_Drawer_getitem = true)
    (me1_Drawer_len : PySem.W.findIn K (.ref C_Drawer) "__len__" = some (some (.ref f_Drawer_len)))
    (me2_Drawer_len : PySem.W.isFn K (.ref f_Drawer_len) = true)
    (me3_Drawer_len : PySem.W.keepIn K (.ref f_Drawer_len) = true)
    (n_Trip : PySem.W.nsIn K mainGlobals "Trip" = some (some (.ref C_Trip)))
    (cg_Trip : PySem.W.plainGet K C_Trip Str.empty = true)
    (ch_Trip : PySem.W.hasDictIn K C_Trip = true)
    (cp_Trip : PySem.W.plainOver K C_Trip = true)
    (cs_Trip : PySem.W.findIn K (.ref C_Trip) "__setattr__" = some (some (.builtin "object.__setattr__")))
    (na_Trip_word : PySem.W.findIn K (.ref C_Trip) "word" = some none)
    (na_Trip_asked : PySem.W.findIn K (.ref C_Trip) "asked" = some none)
    (na_Trip_found : PySem.W.findIn K (.ref C_Trip) "found" = some none)
    (na_Trip_total : PySem.W.findIn K (.ref C_Trip) "total" = some none)
    (na_Trip_end : PySem.W.findIn K (.ref C_Trip) "end" = some none)
    (mk1_Trip : PySem.W.makesIn K C_Trip = true)
    (mk2_Trip : PySem.W.findIn K (.ref C_Trip) "__init__" = some (some (.ref f_Trip_init)))
    (mk3_Trip : PySem.W.isFn K (.ref f_Trip_init) = true)
    (mk4_Trip : PySem.W.keepIn K (.ref C_Trip) = true)
    (n_Card : PySem.W.nsIn K mainGlobals "Card" = some (some (.ref C_Card)))
    (cg_Card : PySem.W.plainGet K C_Card Str.empty = true)
    (ch_Card : PySem.W.hasDictIn K C_Card = true)
    (cp_Card : PySem.W.plainOver K C_Card = true)
    (cs_Card : PySem.W.findIn K (.ref C_Card) "__setattr__" = some (some (.builtin "object.__setattr__")))
    (na_Card__heading : PySem.W.findIn K (.ref C_Card) "_heading" = some none)
    (na_Card__books : PySem.W.findIn K (.ref C_Card) "_books" = some none)
    (na_Card__see : PySem.W.findIn K (.ref C_Card) "_see" = some none)
    (na_Card__also : PySem.W.findIn K (.ref C_Card) "_also" = some none)
    (zqn_Card : PySem.W.findIn K (.ref C_Card) "__ne__" = some (some (.builtin "object.__ne__")))
    (zqo_Card : PySem.W.subIn K (.ref C_Card) (.type "object") = some true)
    (zqu_Card : PySem.W.subIn K (.type "NoneType") (.ref C_Card) = some false)
    (zqi_Card : PySem.W.isClsIn K C_Card = true)
    (zqt_Card : PySem.W.typeIn K (.ref C_Card) = some (.type "type"))
    (zqc_Card : PySem.W.findIn K (.ref C_Card) "__class__" = some (some (.builtin "object.__class__")))
    (zqm_Card : PySem.W.mroIn K C_Card (.type "object") = some true)
    (zqg_Card : PySem.W.specialIn K (.builtin "object.__class__") "__get__" = some (some (.builtin "getset_descriptor.__get__")))
    (zqk_Card : PySem.W.takesIn K (.builtin "object.__class__") = some true)
    (mk1_Card : PySem.W.makesIn K C_Card = true)
    (mk2_Card : PySem.W.findIn K (.ref C_Card) "__init__" = some (some (.ref f_Card_init)))
    (mk3_Card : PySem.W.isFn K (.ref f_Card_init) = true)
    (mk4_Card : PySem.W.keepIn K (.ref C_Card) = true)
    (p1_Card_heading : PySem.W.findIn K (.ref C_Card) "heading" = some (some (.ref pr_Card_heading)))
    (p2_Card_heading : PySem.W.specialIn K (.ref pr_Card_heading) "__get__" = some (some (.builtin "property.__get__")))
    (p3_Card_heading : PySem.W.takesIn K (.ref pr_Card_heading) = some true)
    (p4_Card_heading : PySem.W.recIn K pr_Card_heading "property" = some (.ref f_Card_heading :: ps_Card_heading))
    (p1_Card_see : PySem.W.findIn K (.ref C_Card) "see" = some (some (.ref pr_Card_see)))
    (p2_Card_see : PySem.W.specialIn K (.ref pr_Card_see) "__get__" = some (some (.builtin "property.__get__")))
    (p3_Card_see : PySem.W.takesIn K (.ref pr_Card_see) = some true)
    (p4_Card_see : PySem.W.recIn K pr_Card_see "property" = some (.ref f_Card_see :: ps_Card_see))
    (p1_Card_also : PySem.W.findIn K (.ref C_Card) "also" = some (some (.ref pr_Card_also)))
    (p2_Card_also : PySem.W.specialIn K (.ref pr_Card_also) "__get__" = some (some (.builtin "property.__get__")))
    (p3_Card_also : PySem.W.takesIn K (.ref pr_Card_also) = some true)
    (p4_Card_also : PySem.W.recIn K pr_Card_also "property" = some (.ref f_Card_also :: ps_Card_also))
    (p1_Card_leads : PySem.W.findIn K (.ref C_Card) "leads" = some (some (.ref pr_Card_leads)))
    (p2_Card_leads : PySem.W.specialIn K (.ref pr_Card_leads) "__get__" = some (some (.builtin "property.__get__")))
    (p3_Card_leads : PySem.W.takesIn K (.ref pr_Card_leads) = some true)
    (p4_Card_leads : PySem.W.recIn K pr_Card_leads "property" = some (.ref f_Card_leads :: ps_Card_leads))
    (me1_Card_eq : PySem.W.findIn K (.ref C_Card) "__eq__" = some (some (.ref f_Card_eq)))
    (me2_Card_eq : PySem.W.isFn K (.ref f_Card_eq) = true)
    (me3_Card_eq : PySem.W.keepIn K (.ref f_Card_eq) = true)
    (zs_InvalidRule_InvalidRule : PySem.W.subIn K (.ref C_InvalidRule) (.type "BaseException") = some true)
    (zi_InvalidRule_InvalidRule : PySem.W.isClsIn K C_InvalidRule = true)
    (zt_InvalidRule_InvalidRule : PySem.W.typeIn K (.ref C_InvalidRule) = some (.type "type"))
    (zq_InvalidRule_InvalidRule : PySem.W.subIn K (.ref C_InvalidRule) (.ref C_InvalidRule) = some true)
    (zs_InvalidHeading_InvalidHeading : PySem.W.subIn K (.ref C_InvalidHeading) (.type "BaseException") = some true)
    (zi_InvalidHeading_InvalidHeading : PySem.W.isClsIn K C_InvalidHeading = true)
    (zt_InvalidHeading_InvalidHeading : PySem.W.typeIn K (.ref C_InvalidHeading) = some (.type "type"))
    (zq_InvalidHeading_InvalidHeading : PySem.W.subIn K (.ref C_InvalidHeading) (.ref C_InvalidHeading) = some true)
    (zs_InvalidHeading_InvalidRule : PySem.W.subIn K (.ref C_InvalidRule) (.type "BaseException") = some true)
    (zi_InvalidHeading_InvalidRule : PySem.W.isClsIn K C_InvalidRule = true)
    (zt_InvalidHeading_InvalidRule : PySem.W.typeIn K (.ref C_InvalidRule) = some (.type "type"))
    (zq_InvalidHeading_InvalidRule : PySem.W.subIn K (.ref C_InvalidHeading) (.ref C_InvalidRule) = some false)
    (zs_InvalidNumber_InvalidHeading : PySem.W.subIn K (.ref C_InvalidHeading) (.type "BaseException") = some true)
    (zi_InvalidNumber_InvalidHeading : PySem.W.isClsIn K C_InvalidHeading = true)
    (zt_InvalidNumber_InvalidHeading : PySem.W.typeIn K (.ref C_InvalidHeading) = some (.type "type"))
    (zq_InvalidNumber_InvalidHeading : PySem.W.subIn K (.ref C_InvalidNumber) (.ref C_InvalidHeading) = some false)
    (zs_InvalidNumber_InvalidNumber : PySem.W.subIn K (.ref C_InvalidNumber) (.type "BaseException") = some true)
    (zi_InvalidNumber_InvalidNumber : PySem.W.isClsIn K C_InvalidNumber = true)
    (zt_InvalidNumber_InvalidNumber : PySem.W.typeIn K (.ref C_InvalidNumber) = some (.type "type"))
    (zq_InvalidNumber_InvalidNumber : PySem.W.subIn K (.ref C_InvalidNumber) (.ref C_InvalidNumber) = some true)
    (zs_InvalidNumber_InvalidRule : PySem.W.subIn K (.ref C_InvalidRule) (.type "BaseException") = some true)
    (zi_InvalidNumber_InvalidRule : PySem.W.isClsIn K C_InvalidRule = true)
    (zt_InvalidNumber_InvalidRule : PySem.W.typeIn K (.ref C_InvalidRule) = some (.type "type"))
    (zq_InvalidNumber_InvalidRule : PySem.W.subIn K (.ref C_InvalidNumber) (.ref C_InvalidRule) = some false)
    (zs_InvalidTally_InvalidHeading : PySem.W.subIn K (.ref C_InvalidHeading) (.type "BaseException") = some true)
    (zi_InvalidTally_InvalidHeading : PySem.W.isClsIn K C_InvalidHeading = true)
    (zt_InvalidTally_InvalidHeading : PySem.W.typeIn K (.ref C_InvalidHeading) = some (.type "type"))
    (zq_InvalidTally_InvalidHeading : PySem.W.subIn K (.ref C_InvalidTally) (.ref C_InvalidHeading) = some false)
    (zs_InvalidTally_InvalidNumber : PySem.W.subIn K (.ref C_InvalidNumber) (.type "BaseException") = some true)
    (zi_InvalidTally_InvalidNumber : PySem.W.isClsIn K C_InvalidNumber = true)
    (zt_InvalidTally_InvalidNumber : PySem.W.typeIn K (.ref C_InvalidNumber) = some (.type "type"))
    (zq_InvalidTally_InvalidNumber : PySem.W.subIn K (.ref C_InvalidTally) (.ref C_InvalidNumber) = some false)
    (zs_InvalidTally_InvalidRule : PySem.W.subIn K (.ref C_InvalidRule) (.type "BaseException") = some true)
    (zi_InvalidTally_InvalidRule : PySem.W.isClsIn K C_InvalidRule = true)
    (zt_InvalidTally_InvalidRule : PySem.W.typeIn K (.ref C_InvalidRule) = some (.type "type"))
    (zq_InvalidTally_InvalidRule : PySem.W.subIn K (.ref C_InvalidTally) (.ref C_InvalidRule) = some false)
    (zs_InvalidTally_InvalidTally : PySem.W.subIn K (.ref C_InvalidTally) (.type "BaseException") = some true)
    (zi_InvalidTally_InvalidTally : PySem.W.isClsIn K C_InvalidTally = true)
    (zt_InvalidTally_InvalidTally : PySem.W.typeIn K (.ref C_InvalidTally) = some (.type "type"))
    (zq_InvalidTally_InvalidTally : PySem.W.subIn K (.ref C_InvalidTally) (.ref C_InvalidTally) = some true)
    (tcq_filed : cd_filed = .ref tc_filed)
    (tck_filed : K.lookup tc_filed = some ⟨te_filed, tdd_filed, .fields tvs_filed, tsl_filed⟩)
    (tcv_filed : tvs_filed[11]? = some (.ref tP_filed))
    (tcn_filed : K.lookup tP_filed = none)
    (tch_filed : PySem.W.codeHdIn K tc_filed tP_filed = true)
    (tcq_llaw_drawer : cd_llaw_drawer = .ref tc_llaw_drawer)
    (tck_llaw_drawer : K.lookup tc_llaw_drawer = some ⟨te_llaw_drawer, tdd_llaw_drawer, .fields tvs_llaw_drawer, tsl_llaw_drawer⟩)
    (tcv_llaw_drawer : tvs_llaw_drawer[11]? = some (.ref tP_llaw_drawer))
    (tcn_llaw_drawer : K.lookup tP_llaw_drawer = none)
    (tch_llaw_drawer : PySem.W.codeHdIn K tc_llaw_drawer tP_llaw_drawer = true)
    (tcq_law : cd_law = .ref tc_law)
    (tck_law : K.lookup tc_law = some ⟨te_law, tdd_law, .fields tvs_law, tsl_law⟩)
    (tcv_law : tvs_law[11]? = some (.ref tP_law))
    (tcn_law : K.lookup tP_law = none)
    (tch_law : PySem.W.codeHdIn K tc_law tP_law = true)
    (tne_filed_llaw_drawer : tP_filed ≠ tP_llaw_drawer)
    (tne_filed_law : tP_filed ≠ tP_law)
    (tne_llaw_drawer_law : tP_llaw_drawer ≠ tP_law)
    : LawAtS l w K CX0 14 63 "_law_script" mg fa h := by
  have e : fa = f_law := by
    have z := hfa.symm.trans (PySem.W.mg_of X G n_law)
    cases z
    rfl
  have T : ∃ T : Top K mg, T.a_law = f_law ∧ T.fd_law = PySem.W.fnOf "law" "law" (defArgs s_law) (defBody s_law) (defScope s_law) .none kV_law dc_law pm_law an_law cd_law ct_law ∧ T.fd_filed = PySem.W.fnOf "filed" "filed" (defArgs s_filed) (defBody s_filed) (defScope s_filed) .none kV_filed dc_filed pm_filed an_filed cd_filed ct_filed ∧ T.fd_llaw_drawer = PySem.W.fnOf "_law_drawer" "_law_drawer" (defArgs s_llaw_drawer) (defBody s_llaw_drawer) (defScope s_llaw_drawer) .none kV_llaw_drawer dc_llaw_drawer pm_llaw_drawer an_llaw_drawer cd_llaw_drawer ct_llaw_drawer ∧ T.fd_law = PySem.W.fnOf "law" "law" (defArgs s_law) (defBody s_law) (defScope s_law) .none kV_law dc_law pm_law an_law cd_law ct_law := ⟨{
    m_all := PySem.W.mg_none_of X G z_all
    m_bool := PySem.W.mg_none_of X G z_bool
    m_enumerate := PySem.W.mg_none_of X G z_enumerate
    m_int := PySem.W.mg_none_of X G z_int
    m_isinstance := PySem.W.mg_none_of X G z_isinstance
    m_len := PySem.W.mg_none_of X G z_len
    m_list := PySem.W.mg_none_of X G z_list
    m_min := PySem.W.mg_none_of X G z_min
    m_range := PySem.W.mg_none_of X G z_range
    m_set := PySem.W.mg_none_of X G z_set
    m_sorted := PySem.W.mg_none_of X G z_sorted
    m_str := PySem.W.mg_none_of X G z_str
    m_tuple := PySem.W.mg_none_of X G z_tuple
    m_zip := PySem.W.mg_none_of X G z_zip
    v_LETTERS := .str "abcdefghijklmnopqrstuvwxyz" t_LETTERS
    g_LETTERS := PySem.W.mg_of X G zc_LETTERS
    r_LETTERS := ⟨_, rfl⟩
    v_LONGEST_WORD := .int (8) t_LONGEST_WORD
    g_LONGEST_WORD := PySem.W.mg_of X G zc_LONGEST_WORD
    r_LONGEST_WORD := ⟨_, rfl⟩
    v_MOST_CARDS := .int (16) t_MOST_CARDS
    g_MOST_CARDS := PySem.W.mg_of X G zc_MOST_CARDS
    r_MOST_CARDS := ⟨_, rfl⟩
    v_MOST_BOOKS := .int (6) t_MOST_BOOKS
    g_MOST_BOOKS := PySem.W.mg_of X G zc_MOST_BOOKS
    r_MOST_BOOKS := ⟨_, rfl⟩
    v_LAST_BOOK := .int (999) t_LAST_BOOK
    g_LAST_BOOK := PySem.W.mg_of X G zc_LAST_BOOK
    r_LAST_BOOK := ⟨_, rfl⟩
    v_MOST_ALSO := .int (4) t_MOST_ALSO
    g_MOST_ALSO := PySem.W.mg_of X G zc_MOST_ALSO
    r_MOST_ALSO := ⟨_, rfl⟩
    v_MOST_MOVES := .int (2) t_MOST_MOVES
    g_MOST_MOVES := PySem.W.mg_of X G zc_MOST_MOVES
    r_MOST_MOVES := ⟨_, rfl⟩
    a_RULES := at_RULES
    g_RULES := PySem.W.mg_of X G zc_RULES
    r_RULES := rfl
    t_RULES := fun H => .inr ⟨_, #[.str "all" ok_RULES_0, .str "leaf" ok_RULES_1, .str "half" ok_RULES_2], _, ht_RULES, rfl, rfl, by show 3 ≤ sizeLine; decide, .cons ⟨_, rfl⟩ (.cons ⟨_, rfl⟩ (.cons ⟨_, rfl⟩ (.nil)))⟩
    a_InvalidTally_init := f_InvalidTally_init
    fd_InvalidTally_init := PySem.W.fnOf "__init__" "InvalidTally.__init__" (defArgs s_InvalidTally_init) (defBody s_InvalidTally_init) (defScope s_InvalidTally_init) .none kV_InvalidTally_init dc_InvalidTally_init pm_InvalidTally_init an_InvalidTally_init cd_InvalidTally_init ct_InvalidTally_init
    F_InvalidTally_init := fun_mk (st := s_InvalidTally_init) l_InvalidTally_init c_InvalidTally_init k_InvalidTally_init
    a_is_word := f_is_word
    fd_is_word := PySem.W.fnOf "is_word" "is_word" (defArgs s_is_word) (defBody s_is_word) (defScope s_is_word) .none kV_is_word dc_is_word pm_is_word an_is_word cd_is_word ct_is_word
    F_is_word := fun_mk (st := s_is_word) l_is_word c_is_word k_is_word
    g_is_word := PySem.W.mg_of X G n_is_word
    a_is_number := f_is_number
    fd_is_number := PySem.W.fnOf "is_number" "is_number" (defArgs s_is_number) (defBody s_is_number) (defScope s_is_number) .none kV_is_number dc_is_number pm_is_number an_is_number cd_is_number ct_is_number
    F_is_number := fun_mk (st := s_is_number) l_is_number c_is_number k_is_number
    g_is_number := PySem.W.mg_of X G n_is_number
    a_check_rule := f_check_rule
    fd_check_rule := PySem.W.fnOf "check_rule" "check_rule" (defArgs s_check_rule) (defBody s_check_rule) (defScope s_check_rule) .none kV_check_rule dc_check_rule pm_check_rule an_check_rule cd_check_rule ct_check_rule
    F_check_rule := fun_mk (st := s_check_rule) l_check_rule c_check_rule k_check_rule
    g_check_rule := PySem.W.mg_of X G n_check_rule
    a_check_heading := f_check_heading
    fd_check_heading := PySem.W.fnOf "check_heading" "check_heading" (defArgs s_check_heading) (defBody s_check_heading) (defScope s_check_heading) .none kV_check_heading dc_check_heading pm_check_heading an_check_heading cd_check_heading ct_check_heading
    F_check_heading := fun_mk (st := s_check_heading) l_check_heading c_check_heading k_check_heading
    g_check_heading := PySem.W.mg_of X G n_check_heading
    a_check_number := f_check_number
    fd_check_number := PySem.W.fnOf "check_number" "check_number" (defArgs s_check_number) (defBody s_check_number) (defScope s_check_number) .none kV_check_number dc_check_number pm_check_number an_check_number cd_check_number ct_check_number
    F_check_number := fun_mk (st := s_check_number) l_check_number c_check_number k_check_number
    g_check_number := PySem.W.mg_of X G n_check_number
    a_check_place := f_check_place
    fd_check_place := PySem.W.fnOf "check_place" "check_place" (defArgs s_check_place) (defBody s_check_place) (defScope s_check_place) .none kV_check_place dc_check_place pm_check_place an_check_place cd_check_place ct_check_place
    F_check_place := fun_mk (st := s_check_place) l_check_place c_check_place k_check_place
    g_check_place := PySem.W.mg_of X G n_check_place
    a_first_without_word := f_first_without_word
    fd_first_without_word := PySem.W.fnOf "first_without_word" "first_without_word" (defArgs s_first_without_word) (defBody s_first_without_word) (defScope s_first_without_word) .none kV_first_without_word dc_first_without_word pm_first_without_word an_first_without_word cd_first_without_word ct_first_without_word
    F_first_without_word := fun_mk (st := s_first_without_word) l_first_without_word c_first_without_word k_first_without_word
    g_first_without_word := PySem.W.mg_of X G n_first_without_word
    a_check_tally := f_check_tally
    fd_check_tally := PySem.W.fnOf "check_tally" "check_tally" (defArgs s_check_tally) (defBody s_check_tally) (defScope s_check_tally) .none kV_check_tally dc_check_tally pm_check_tally an_check_tally cd_check_tally ct_check_tally
    F_check_tally := fun_mk (st := s_check_tally) l_check_tally c_check_tally k_check_tally
    g_check_tally := PySem.W.mg_of X G n_check_tally
    a_Drawer_init := f_Drawer_init
    fd_Drawer_init := PySem.W.fnOf "__init__" "Drawer.__init__" (defArgs s_Drawer_init) (defBody s_Drawer_init) (defScope s_Drawer_init) .none kV_Drawer_init dc_Drawer_init pm_Drawer_init an_Drawer_init cd_Drawer_init ct_Drawer_init
    F_Drawer_init := fun_mk (st := s_Drawer_init) l_Drawer_init c_Drawer_init k_Drawer_init
    a_Drawer_cards := f_Drawer_cards
    fd_Drawer_cards := PySem.W.fnOf "cards" "Drawer.cards" (defArgs s_Drawer_cards) (defBody s_Drawer_cards) (defScope s_Drawer_cards) .none kV_Drawer_cards dc_Drawer_cards pm_Drawer_cards an_Drawer_cards cd_Drawer_cards ct_Drawer_cards
    F_Drawer_cards := fun_mk (st := s_Drawer_cards) l_Drawer_cards c_Drawer_cards k_Drawer_cards
    a_Drawer_headings := f_Drawer_headings
    fd_Drawer_headings := PySem.W.fnOf "headings" "Drawer.headings" (defArgs s_Drawer_headings) (defBody s_Drawer_headings) (defScope s_Drawer_headings) .none kV_Drawer_headings dc_Drawer_headings pm_Drawer_headings an_Drawer_headings cd_Drawer_headings ct_Drawer_headings
    F_Drawer_headings := fun_mk (st := s_Drawer_headings) l_Drawer_headings c_Drawer_headings k_Drawer_headings
    a_Drawer_getitem := f_Drawer_getitem
    fd_Drawer_getitem := PySem.W.fnOf "__getitem__" "Drawer.__getitem__" (defArgs s_Drawer_getitem) (defBody s_Drawer_getitem) (defScope s_Drawer_getitem) .none kV_Drawer_getitem dc_Drawer_getitem pm_Drawer_getitem an_Drawer_getitem cd_Drawer_getitem ct_Drawer_getitem
    F_Drawer_getitem := fun_mk (st := s_Drawer_getitem) l_Drawer_getitem c_Drawer_getitem k_Drawer_getitem
    a_Drawer_len := f_Drawer_len
    fd_Drawer_len := PySem.W.fnOf "__len__" "Drawer.__len__" (defArgs s_Drawer_len) (defBody s_Drawer_len) (defScope s_Drawer_len) .none kV_Drawer_len dc_Drawer_len pm_Drawer_len an_Drawer_len cd_Drawer_len ct_Drawer_len
    F_Drawer_len := fun_mk (st := s_Drawer_len) l_Drawer_len c_Drawer_len k_Drawer_len
    a_headings_along := f_headings_along
    fd_headings_along := PySem.W.fnOf "headings_along" "headings_along" (defArgs s_headings_along) (defBody s_headings_along) (defScope s_headings_along) .none kV_headings_along dc_headings_along pm_headings_along an_headings_along cd_headings_along ct_headings_along
    F_headings_along := fun_mk (st := s_headings_along) l_headings_along c_headings_along k_headings_along
    g_headings_along := PySem.W.mg_of X G n_headings_along
    a_filed := f_filed
    fd_filed := PySem.W.fnOf "filed" "filed" (defArgs s_filed) (defBody s_filed) (defScope s_filed) .none kV_filed dc_filed pm_filed an_filed cd_filed ct_filed
    F_filed := fun_mk (st := s_filed) l_filed c_filed k_filed
    g_filed := PySem.W.mg_of X G n_filed
    a_seek_along := f_seek_along
    fd_seek_along := PySem.W.fnOf "seek_along" "seek_along" (defArgs s_seek_along) (defBody s_seek_along) (defScope s_seek_along) .none kV_seek_along dc_seek_along pm_seek_along an_seek_along cd_seek_along ct_seek_along
    F_seek_along := fun_mk (st := s_seek_along) l_seek_along c_seek_along k_seek_along
    g_seek_along := PySem.W.mg_of X G n_seek_along
    a_seek_by_halves := f_seek_by_halves
    fd_seek_by_halves := PySem.W.fnOf "seek_by_halves" "seek_by_halves" (defArgs s_seek_by_halves) (defBody s_seek_by_halves) (defScope s_seek_by_halves) .none kV_seek_by_halves dc_seek_by_halves pm_seek_by_halves an_seek_by_halves cd_seek_by_halves ct_seek_by_halves
    F_seek_by_halves := fun_mk (st := s_seek_by_halves) l_seek_by_halves c_seek_by_halves k_seek_by_halves
    g_seek_by_halves := PySem.W.mg_of X G n_seek_by_halves
    a_seek := f_seek
    fd_seek := PySem.W.fnOf "seek" "seek" (defArgs s_seek) (defBody s_seek) (defScope s_seek) .none kV_seek dc_seek pm_seek an_seek cd_seek ct_seek
    F_seek := fun_mk (st := s_seek) l_seek c_seek k_seek
    g_seek := PySem.W.mg_of X G n_seek
    a_Trip_init := f_Trip_init
    fd_Trip_init := PySem.W.fnOf "__init__" "Trip.__init__" (defArgs s_Trip_init) (defBody s_Trip_init) (defScope s_Trip_init) .none kV_Trip_init dc_Trip_init pm_Trip_init an_Trip_init cd_Trip_init ct_Trip_init
    F_Trip_init := fun_mk (st := s_Trip_init) l_Trip_init c_Trip_init k_Trip_init
    a_travel := f_travel
    fd_travel := PySem.W.fnOf "travel" "travel" (defArgs s_travel) (defBody s_travel) (defScope s_travel) .none kV_travel dc_travel pm_travel an_travel cd_travel ct_travel
    F_travel := fun_mk (st := s_travel) l_travel c_travel k_travel
    g_travel := PySem.W.mg_of X G n_travel
    a_known_headings := f_known_headings
    fd_known_headings := PySem.W.fnOf "known_headings" "known_headings" (defArgs s_known_headings) (defBody s_known_headings) (defScope s_known_headings) .none kV_known_headings dc_known_headings pm_known_headings an_known_headings cd_known_headings ct_known_headings
    F_known_headings := fun_mk (st := s_known_headings) l_known_headings c_known_headings k_known_headings
    g_known_headings := PySem.W.mg_of X G n_known_headings
    a_joined := f_joined
    fd_joined := PySem.W.fnOf "joined" "joined" (defArgs s_joined) (defBody s_joined) (defScope s_joined) .none kV_joined dc_joined pm_joined an_joined cd_joined ct_joined
    F_joined := fun_mk (st := s_joined) l_joined c_joined k_joined
    g_joined := PySem.W.mg_of X G n_joined
    a_card_at_end := f_card_at_end
    fd_card_at_end := PySem.W.fnOf "card_at_end" "card_at_end" (defArgs s_card_at_end) (defBody s_card_at_end) (defScope s_card_at_end) .none kV_card_at_end dc_card_at_end pm_card_at_end an_card_at_end cd_card_at_end ct_card_at_end
    F_card_at_end := fun_mk (st := s_card_at_end) l_card_at_end c_card_at_end k_card_at_end
    g_card_at_end := PySem.W.mg_of X G n_card_at_end
    a_still_found := f_still_found
    fd_still_found := PySem.W.fnOf "still_found" "still_found" (defArgs s_still_found) (defBody s_still_found) (defScope s_still_found) .none kV_still_found dc_still_found pm_still_found an_still_found cd_still_found ct_still_found
    F_still_found := fun_mk (st := s_still_found) l_still_found c_still_found k_still_found
    g_still_found := PySem.W.mg_of X G n_still_found
    a_parts_at := f_parts_at
    fd_parts_at := PySem.W.fnOf "parts_at" "parts_at" (defArgs s_parts_at) (defBody s_parts_at) (defScope s_parts_at) .none kV_parts_at dc_parts_at pm_parts_at an_parts_at cd_parts_at ct_parts_at
    F_parts_at := fun_mk (st := s_parts_at) l_parts_at c_parts_at k_parts_at
    g_parts_at := PySem.W.mg_of X G n_parts_at
    a_split := f_split
    fd_split := PySem.W.fnOf "split" "split" (defArgs s_split) (defBody s_split) (defScope s_split) .none kV_split dc_split pm_split an_split cd_split ct_split
    F_split := fun_mk (st := s_split) l_split c_split k_split
    g_split := PySem.W.mg_of X G n_split
    a_card_behind_split := f_card_behind_split
    fd_card_behind_split := PySem.W.fnOf "card_behind_split" "card_behind_split" (defArgs s_card_behind_split) (defBody s_card_behind_split) (defScope s_card_behind_split) .none kV_card_behind_split dc_card_behind_split pm_card_behind_split an_card_behind_split cd_card_behind_split ct_card_behind_split
    F_card_behind_split := fun_mk (st := s_card_behind_split) l_card_behind_split c_card_behind_split k_card_behind_split
    g_card_behind_split := PySem.W.mg_of X G n_card_behind_split
    a_lost_at := f_lost_at
    fd_lost_at := PySem.W.fnOf "lost_at" "lost_at" (defArgs s_lost_at) (defBody s_lost_at) (defScope s_lost_at) .none kV_lost_at dc_lost_at pm_lost_at an_lost_at cd_lost_at ct_lost_at
    F_lost_at := fun_mk (st := s_lost_at) l_lost_at c_lost_at k_lost_at
    g_lost_at := PySem.W.mg_of X G n_lost_at
    a_lost_by_split := f_lost_by_split
    fd_lost_by_split := PySem.W.fnOf "lost_by_split" "lost_by_split" (defArgs s_lost_by_split) (defBody s_lost_by_split) (defScope s_lost_by_split) .none kV_lost_by_split dc_lost_by_split pm_lost_by_split an_lost_by_split cd_lost_by_split ct_lost_by_split
    F_lost_by_split := fun_mk (st := s_lost_by_split) l_lost_by_split c_lost_by_split k_lost_by_split
    g_lost_by_split := PySem.W.mg_of X G n_lost_by_split
    a_best_split := f_best_split
    fd_best_split := PySem.W.fnOf "best_split" "best_split" (defArgs s_best_split) (defBody s_best_split) (defScope s_best_split) .none kV_best_split dc_best_split pm_best_split an_best_split cd_best_split ct_best_split
    F_best_split := fun_mk (st := s_best_split) l_best_split c_best_split k_best_split
    g_best_split := PySem.W.mg_of X G n_best_split
    a_are_books := f_are_books
    fd_are_books := PySem.W.fnOf "are_books" "are_books" (defArgs s_are_books) (defBody s_are_books) (defScope s_are_books) .none kV_are_books dc_are_books pm_are_books an_are_books cd_are_books ct_are_books
    F_are_books := fun_mk (st := s_are_books) l_are_books c_are_books k_are_books
    g_are_books := PySem.W.mg_of X G n_are_books
    a_is_target := f_is_target
    fd_is_target := PySem.W.fnOf "is_target" "is_target" (defArgs s_is_target) (defBody s_is_target) (defScope s_is_target) .none kV_is_target dc_is_target pm_is_target an_is_target cd_is_target ct_is_target
    F_is_target := fun_mk (st := s_is_target) l_is_target c_is_target k_is_target
    g_is_target := PySem.W.mg_of X G n_is_target
    a_are_further := f_are_further
    fd_are_further := PySem.W.fnOf "are_further" "are_further" (defArgs s_are_further) (defBody s_are_further) (defScope s_are_further) .none kV_are_further dc_are_further pm_are_further an_are_further cd_are_further ct_are_further
    F_are_further := fun_mk (st := s_are_further) l_are_further c_are_further k_are_further
    g_are_further := PySem.W.mg_of X G n_are_further
    a_wrong_part := f_wrong_part
    fd_wrong_part := PySem.W.fnOf "wrong_part" "wrong_part" (defArgs s_wrong_part) (defBody s_wrong_part) (defScope s_wrong_part) .none kV_wrong_part dc_wrong_part pm_wrong_part an_wrong_part cd_wrong_part ct_wrong_part
    F_wrong_part := fun_mk (st := s_wrong_part) l_wrong_part c_wrong_part k_wrong_part
    g_wrong_part := PySem.W.mg_of X G n_wrong_part
    a_Card_init := f_Card_init
    e_Card_init_0 := de_Card_init_0
    e_Card_init_2 := de_Card_init_2
    ek_Card_init_2 := fun H => .inr ⟨_, #[], _, hk_Card_init_2, rfl, rfl, Nat.zero_le _, .nil⟩
    fd_Card_init := PySem.W.fnOf "__init__" "Card.__init__" (defArgs s_Card_init) (defBody s_Card_init) (defScope s_Card_init) (.ref dT_Card_init) kV_Card_init dc_Card_init pm_Card_init an_Card_init cd_Card_init ct_Card_init
    F_Card_init := ⟨⟨_, _, _, _, _, _, _, _, _, _, rfl, l_Card_init, c_Card_init, .inr ⟨by simp, _, _, [.ref de_Card_init_0, .str "" du_Card_init_1, .ref de_Card_init_2], _, rfl, dk_Card_init, rfl, .cons rfl (.cons ⟨_, rfl⟩ (.cons rfl (.nil)))⟩, .inl rfl⟩, k_Card_init⟩
    a_Card_heading := f_Card_heading
    fd_Card_heading := PySem.W.fnOf "heading" "Card.heading" (defArgs s_Card_heading) (defBody s_Card_heading) (defScope s_Card_heading) .none kV_Card_heading dc_Card_heading pm_Card_heading an_Card_heading cd_Card_heading ct_Card_heading
    F_Card_heading := fun_mk (st := s_Card_heading) l_Card_heading c_Card_heading k_Card_heading
    a_Card_see := f_Card_see
    fd_Card_see := PySem.W.fnOf "see" "Card.see" (defArgs s_Card_see) (defBody s_Card_see) (defScope s_Card_see) .none kV_Card_see dc_Card_see pm_Card_see an_Card_see cd_Card_see ct_Card_see
    F_Card_see := fun_mk (st := s_Card_see) l_Card_see c_Card_see k_Card_see
    a_Card_also := f_Card_also
    fd_Card_also := PySem.W.fnOf "also" "Card.also" (defArgs s_Card_also) (defBody s_Card_also) (defScope s_Card_also) .none kV_Card_also dc_Card_also pm_Card_also an_Card_also cd_Card_also ct_Card_also
    F_Card_also := fun_mk (st := s_Card_also) l_Card_also c_Card_also k_Card_also
    a_Card_leads := f_Card_leads
    fd_Card_leads := PySem.W.fnOf "leads" "Card.leads" (defArgs s_Card_leads) (defBody s_Card_leads) (defScope s_Card_leads) .none kV_Card_leads dc_Card_leads pm_Card_leads an_Card_leads cd_Card_leads ct_Card_leads
    F_Card_leads := fun_mk (st := s_Card_leads) l_Card_leads c_Card_leads k_Card_leads
    a_Card_eq := f_Card_eq
    fd_Card_eq := PySem.W.fnOf "__eq__" "Card.__eq__" (defArgs s_Card_eq) (defBody s_Card_eq) (defScope s_Card_eq) .none kV_Card_eq dc_Card_eq pm_Card_eq an_Card_eq cd_Card_eq ct_Card_eq
    F_Card_eq := fun_mk (st := s_Card_eq) l_Card_eq c_Card_eq k_Card_eq
    a_moves_of := f_moves_of
    fd_moves_of := PySem.W.fnOf "moves_of" "moves_of" (defArgs s_moves_of) (defBody s_moves_of) (defScope s_moves_of) .none kV_moves_of dc_moves_of pm_moves_of an_moves_of cd_moves_of ct_moves_of
    F_moves_of := fun_mk (st := s_moves_of) l_moves_of c_moves_of k_moves_of
    g_moves_of := PySem.W.mg_of X G n_moves_of
    a_orders_after := f_orders_after
    fd_orders_after := PySem.W.fnOf "orders_after" "orders_after" (defArgs s_orders_after) (defBody s_orders_after) (defScope s_orders_after) .none kV_orders_after dc_orders_after pm_orders_after an_orders_after cd_orders_after ct_orders_after
    F_orders_after := fun_mk (st := s_orders_after) l_orders_after c_orders_after k_orders_after
    g_orders_after := PySem.W.mg_of X G n_orders_after
    a_fits_tally := f_fits_tally
    fd_fits_tally := PySem.W.fnOf "fits_tally" "fits_tally" (defArgs s_fits_tally) (defBody s_fits_tally) (defScope s_fits_tally) .none kV_fits_tally dc_fits_tally pm_fits_tally an_fits_tally cd_fits_tally ct_fits_tally
    F_fits_tally := fun_mk (st := s_fits_tally) l_fits_tally c_fits_tally k_fits_tally
    g_fits_tally := PySem.W.mg_of X G n_fits_tally
    a_orders_by := f_orders_by
    fd_orders_by := PySem.W.fnOf "orders_by" "orders_by" (defArgs s_orders_by) (defBody s_orders_by) (defScope s_orders_by) .none kV_orders_by dc_orders_by pm_orders_by an_orders_by cd_orders_by ct_orders_by
    F_orders_by := fun_mk (st := s_orders_by) l_orders_by c_orders_by k_orders_by
    g_orders_by := PySem.W.mg_of X G n_orders_by
    a_possible_orders := f_possible_orders
    fd_possible_orders := PySem.W.fnOf "possible_orders" "possible_orders" (defArgs s_possible_orders) (defBody s_possible_orders) (defScope s_possible_orders) .none kV_possible_orders dc_possible_orders pm_possible_orders an_possible_orders cd_possible_orders ct_possible_orders
    F_possible_orders := fun_mk (st := s_possible_orders) l_possible_orders c_possible_orders k_possible_orders
    g_possible_orders := PySem.W.mg_of X G n_possible_orders
    a_misplaced := f_misplaced
    fd_misplaced := PySem.W.fnOf "misplaced" "misplaced" (defArgs s_misplaced) (defBody s_misplaced) (defScope s_misplaced) .none kV_misplaced dc_misplaced pm_misplaced an_misplaced cd_misplaced ct_misplaced
    F_misplaced := fun_mk (st := s_misplaced) l_misplaced c_misplaced k_misplaced
    g_misplaced := PySem.W.mg_of X G n_misplaced
    a_llaw_taken := f_llaw_taken
    fd_llaw_taken := PySem.W.fnOf "_law_taken" "_law_taken" (defArgs s_llaw_taken) (defBody s_llaw_taken) (defScope s_llaw_taken) .none kV_llaw_taken dc_llaw_taken pm_llaw_taken an_llaw_taken cd_llaw_taken ct_llaw_taken
    F_llaw_taken := fun_mk (st := s_llaw_taken) l_llaw_taken c_llaw_taken k_llaw_taken
    g_llaw_taken := PySem.W.mg_of X G n_llaw_taken
    a_llaw_card := f_llaw_card
    fd_llaw_card := PySem.W.fnOf "_law_card" "_law_card" (defArgs s_llaw_card) (defBody s_llaw_card) (defScope s_llaw_card) .none kV_llaw_card dc_llaw_card pm_llaw_card an_llaw_card cd_llaw_card ct_llaw_card
    F_llaw_card := fun_mk (st := s_llaw_card) l_llaw_card c_llaw_card k_llaw_card
    g_llaw_card := PySem.W.mg_of X G n_llaw_card
    a_llaw_drawer := f_llaw_drawer
    fd_llaw_drawer := PySem.W.fnOf "_law_drawer" "_law_drawer" (defArgs s_llaw_drawer) (defBody s_llaw_drawer) (defScope s_llaw_drawer) .none kV_llaw_drawer dc_llaw_drawer pm_llaw_drawer an_llaw_drawer cd_llaw_drawer ct_llaw_drawer
    F_llaw_drawer := fun_mk (st := s_llaw_drawer) l_llaw_drawer c_llaw_drawer k_llaw_drawer
    g_llaw_drawer := PySem.W.mg_of X G n_llaw_drawer
    a_llaw_told := f_llaw_told
    fd_llaw_told := PySem.W.fnOf "_law_told" "_law_told" (defArgs s_llaw_told) (defBody s_llaw_told) (defScope s_llaw_told) .none kV_llaw_told dc_llaw_told pm_llaw_told an_llaw_told cd_llaw_told ct_llaw_told
    F_llaw_told := fun_mk (st := s_llaw_told) l_llaw_told c_llaw_told k_llaw_told
    g_llaw_told := PySem.W.mg_of X G n_llaw_told
    a_law := f_law
    fd_law := PySem.W.fnOf "law" "law" (defArgs s_law) (defBody s_law) (defScope s_law) .none kV_law dc_law pm_law an_law cd_law ct_law
    F_law := fun_mk (st := s_law) l_law c_law k_law
    g_law := PySem.W.mg_of X G n_law
    c_SeeError := C_SeeError
    g_SeeError := PySem.W.mg_of X G n_SeeError
    bg_SeeError := zbbg_SeeError
    br_SeeError := zbbr_SeeError
    bv_SeeError := zbbv_SeeError
    c_InvalidRule := C_InvalidRule
    g_InvalidRule := PySem.W.mg_of X G n_InvalidRule
    xe_InvalidRule := zxe_InvalidRule
    xk_InvalidRule := zxk_InvalidRule
    xs_InvalidRule := zxs_InvalidRule
    xt_InvalidRule := zxt_InvalidRule
    c_InvalidHeading := C_InvalidHeading
    g_InvalidHeading := PySem.W.mg_of X G n_InvalidHeading
    xe_InvalidHeading := zxe_InvalidHeading
    xk_InvalidHeading := zxk_InvalidHeading
    xs_InvalidHeading := zxs_InvalidHeading
    xt_InvalidHeading := zxt_InvalidHeading
    c_InvalidNumber := C_InvalidNumber
    g_InvalidNumber := PySem.W.mg_of X G n_InvalidNumber
    xe_InvalidNumber := zxe_InvalidNumber
    xk_InvalidNumber := zxk_InvalidNumber
    xs_InvalidNumber := zxs_InvalidNumber
    xt_InvalidNumber := zxt_InvalidNumber
    c_InvalidTally := C_InvalidTally
    g_InvalidTally := PySem.W.mg_of X G n_InvalidTally
    ox_InvalidTally := ⟨⟨_, _, _, _, _, _, _, _, _, _, _, _, _, _, _, zox1_InvalidTally, zq_ox2_InvalidTally⟩, zox3_InvalidTally, zox4_InvalidTally, zox5_InvalidTally, zox6_InvalidTally⟩
    oi_InvalidTally := zoi_InvalidTally
    ot_InvalidTally := zot_InvalidTally
    nf_InvalidTally_index := znf_InvalidTally_index
    xf_InvalidTally := ⟨zxg_InvalidTally, zxa_InvalidTally, zxb_InvalidTally, zxd_InvalidTally⟩
    c_NoOrder := C_NoOrder
    g_NoOrder := PySem.W.mg_of X G n_NoOrder
    xe_NoOrder := zxe_NoOrder
    xk_NoOrder := zxk_NoOrder
    xs_NoOrder := zxs_NoOrder
    xt_NoOrder := zxt_NoOrder
    c_Drawer := C_Drawer
    g_Drawer := PySem.W.mg_of X G n_Drawer
    cl_Drawer := ⟨cg_Drawer, ch_Drawer, cp_Drawer, cs_Drawer⟩
    n_Drawer__cards := na_Drawer__cards
    Mk_Drawer := ⟨mk1_Drawer, mk2_Drawer, mk3_Drawer, mk4_Drawer⟩
    p_Drawer_cards := pr_Drawer_cards
    P_Drawer_cards := ⟨p1_Drawer_cards, p2_Drawer_cards, p3_Drawer_cards, _, p4_Drawer_cards⟩
    p_Drawer_headings := pr_Drawer_headings
    P_Drawer_headings := ⟨p1_Drawer_headings, p2_Drawer_headings, p3_Drawer_headings, _, p4_Drawer_headings⟩
    M_Drawer_getitem := ⟨me1_Drawer_getitem, me2_Drawer_getitem, me3_Drawer_getitem⟩
    I_Drawer_getitem := fi_Drawer_getitem
    M_Drawer_len := ⟨me1_Drawer_len, me2_Drawer_len, me3_Drawer_len⟩
    c_Trip := C_Trip
    g_Trip := PySem.W.mg_of X G n_Trip
    cl_Trip := ⟨cg_Trip, ch_Trip, cp_Trip, cs_Trip⟩
    n_Trip_word := na_Trip_word
    n_Trip_asked := na_Trip_asked
    n_Trip_found := na_Trip_found
    n_Trip_total := na_Trip_total
    n_Trip_end := na_Trip_end
    Mk_Trip := ⟨mk1_Trip, mk2_Trip, mk3_Trip, mk4_Trip⟩
    c_Card := C_Card
    g_Card := PySem.W.mg_of X G n_Card
    cl_Card := ⟨cg_Card, ch_Card, cp_Card, cs_Card⟩
    n_Card__heading := na_Card__heading
    n_Card__books := na_Card__books
    n_Card__see := na_Card__see
    n_Card__also := na_Card__also
    qn_Card := zqn_Card
    qo_Card := zqo_Card
    qu_Card := zqu_Card
    qi_Card := zqi_Card
    qt_Card := zqt_Card
    qc_Card := zqc_Card
    qm_Card := zqm_Card
    qg_Card := zqg_Card
    qk_Card := zqk_Card
    Mk_Card := ⟨mk1_Card, mk2_Card, mk3_Card, mk4_Card⟩
    p_Card_heading := pr_Card_heading
    P_Card_heading := ⟨p1_Card_heading, p2_Card_heading, p3_Card_heading, _, p4_Card_heading⟩
    p_Card_see := pr_Card_see
    P_Card_see := ⟨p1_Card_see, p2_Card_see, p3_Card_see, _, p4_Card_see⟩
    p_Card_also := pr_Card_also
    P_Card_also := ⟨p1_Card_also, p2_Card_also, p3_Card_also, _, p4_Card_also⟩
    p_Card_leads := pr_Card_leads
    P_Card_leads := ⟨p1_Card_leads, p2_Card_leads, p3_Card_leads, _, p4_Card_leads⟩
    M_Card_eq := ⟨me1_Card_eq, me2_Card_eq, me3_Card_eq⟩
    ex_InvalidRule_InvalidRule := exm_by zs_InvalidRule_InvalidRule zi_InvalidRule_InvalidRule zt_InvalidRule_InvalidRule zq_InvalidRule_InvalidRule
    ex_InvalidHeading_InvalidHeading := exm_by zs_InvalidHeading_InvalidHeading zi_InvalidHeading_InvalidHeading zt_InvalidHeading_InvalidHeading zq_InvalidHeading_InvalidHeading
    ex_InvalidHeading_InvalidRule := exm_by zs_InvalidHeading_InvalidRule zi_InvalidHeading_InvalidRule zt_InvalidHeading_InvalidRule zq_InvalidHeading_InvalidRule
    ex_InvalidNumber_InvalidHeading := exm_by zs_InvalidNumber_InvalidHeading zi_InvalidNumber_InvalidHeading zt_InvalidNumber_InvalidHeading zq_InvalidNumber_InvalidHeading
    ex_InvalidNumber_InvalidNumber := exm_by zs_InvalidNumber_InvalidNumber zi_InvalidNumber_InvalidNumber zt_InvalidNumber_InvalidNumber zq_InvalidNumber_InvalidNumber
    ex_InvalidNumber_InvalidRule := exm_by zs_InvalidNumber_InvalidRule zi_InvalidNumber_InvalidRule zt_InvalidNumber_InvalidRule zq_InvalidNumber_InvalidRule
    ex_InvalidTally_InvalidHeading := exm_by zs_InvalidTally_InvalidHeading zi_InvalidTally_InvalidHeading zt_InvalidTally_InvalidHeading zq_InvalidTally_InvalidHeading
    ex_InvalidTally_InvalidNumber := exm_by zs_InvalidTally_InvalidNumber zi_InvalidTally_InvalidNumber zt_InvalidTally_InvalidNumber zq_InvalidTally_InvalidNumber
    ex_InvalidTally_InvalidRule := exm_by zs_InvalidTally_InvalidRule zi_InvalidTally_InvalidRule zt_InvalidTally_InvalidRule zq_InvalidTally_InvalidRule
    ex_InvalidTally_InvalidTally := exm_by zs_InvalidTally_InvalidTally zi_InvalidTally_InvalidTally zt_InvalidTally_InvalidTally zq_InvalidTally_InvalidTally
    }, rfl, rfl, rfl, rfl, rfl⟩
  obtain ⟨T, e1, e2, q_filed, q_llaw_drawer, q_law⟩ := T
  refine ⟨T.fd_law, [(tc_filed, tP_filed), (tc_llaw_drawer, tP_llaw_drawer), (tc_law, tP_law)], spLaw K tP_filed tP_llaw_drawer tP_law, (List.forall_mem_cons.mpr ⟨tab_filed, (List.forall_mem_cons.mpr ⟨tab_llaw_drawer, (List.forall_mem_cons.mpr ⟨tab_law, (List.forall_mem_nil _)⟩)⟩)⟩), (List.forall_mem_cons.mpr ⟨tcn_filed, (List.forall_mem_cons.mpr ⟨tcn_llaw_drawer, (List.forall_mem_cons.mpr ⟨tcn_law, (List.forall_mem_nil _)⟩)⟩)⟩), (List.forall_mem_cons.mpr ⟨(PySem.W.codeHd_of_K X tch_filed), (List.forall_mem_cons.mpr ⟨(PySem.W.codeHd_of_K X tch_llaw_drawer), (List.forall_mem_cons.mpr ⟨(PySem.W.codeHd_of_K X tch_law), (List.forall_mem_nil _)⟩)⟩)⟩), fun s v => ?_, fun H a ns hl _ hH hS => ⟨a, ns, rfl, hS, hl, hH _ (.head _), hH _ (.tail _ (.head _)), hH _ (.tail _ (.tail _ (.head _))), fun _ => rfl⟩, fun base _ _ tb => ?_⟩
  · rw [e2]
    exact .of_eq rfl
  · rw [e, ← e1]
    exact ok_law T (by rw [q_filed]; exact tcq_filed) (tb _ (.head _)) (by rw [q_llaw_drawer]; exact tcq_llaw_drawer) (tb _ (.tail _ (.head _))) (by rw [q_law]; exact tcq_law) (tb _ (.tail _ (.tail _ (.head _)))) tne_filed_llaw_drawer tne_filed_law tne_llaw_drawer_law
end My
open PySem PySem.W PyProof.Rows
set_option maxRecDepth 100000 in
set_option maxHeartbeats 0 in
theorem PySem.Challenge.cw_seerings_k34_misfiling_and_splitting_rej_holds : PySem.Challenge.rw_seerings_k34_misfiling_and_splitting_rej.Holds := by
  w_on; o_law; k_head; (case hw => w_witness2)
  k_fill
  refine LamX.walk_ofTs (l := PySem.Challenge.rw_seerings_k34_misfiling_and_splitting_rej) (n := 63) (k := 14) (x := "_law_script") (CX := fun _ => L2.CX0) rfl (by decide) rfl ⟨rfl, by decide, by decide⟩ (fun w h Y => PySem.W.km_in_of Y) ?F (fun _ _ _ _ _ h => h)
  case F =>
    intro w mg fa h Y KX G hmg
    have tb := PySem.W.km_tabs_of Y
    refine' My.all_mk KX G hmg ?tab_filed ?tab_llaw_drawer ?tab_law ?z_all ?z_bool ?z_enumerate ?z_int ?z_isinstance ?z_len ?z_list ?z_min ?z_range ?z_set ?z_sorted ?z_str ?z_tuple ?z_zip ?zc_LETTERS ?zc_LONGEST_WORD ?zc_MOST_CARDS ?zc_MOST_BOOKS ?zc_LAST_BOOK ?zc_MOST_ALSO ?zc_MOST_MOVES ?zc_RULES ?ht_RULES ?l_InvalidTally_init ?c_InvalidTally_init ?k_InvalidTally_init ?l_is_word ?c_is_word ?k_is_word ?n_is_word ?l_is_number ?c_is_number ?k_is_number ?n_is_number ?l_check_rule ?c_check_rule ?k_check_rule ?n_check_rule ?l_check_heading ?c_check_heading ?k_check_heading ?n_check_heading ?l_check_number ?c_check_number ?k_check_number ?n_check_number ?l_check_place ?c_check_place ?k_check_place ?n_check_place ?l_first_without_word ?c_first_without_word ?k_first_without_word ?n_first_without_word ?l_check_tally ?c_check_tally ?k_check_tally ?n_check_tally ?l_Drawer_init ?c_Drawer_init ?k_Drawer_init ?l_Drawer_cards ?c_Drawer_cards ?k_Drawer_cards ?l_Drawer_headings ?c_Drawer_headings ?k_Drawer_headings ?l_Drawer_getitem ?c_Drawer_getitem ?k_Drawer_getitem ?l_Drawer_len ?c_Drawer_len ?k_Drawer_len ?l_headings_along ?c_headings_along ?k_headings_along ?n_headings_along ?l_filed ?c_filed ?k_filed ?n_filed ?l_seek_along ?c_seek_along ?k_seek_along ?n_seek_along ?l_seek_by_halves ?c_seek_by_halves ?k_seek_by_halves ?n_seek_by_halves ?l_seek ?c_seek ?k_seek ?n_seek ?l_Trip_init ?c_Trip_init ?k_Trip_init ?l_travel ?c_travel ?k_travel ?n_travel ?l_known_headings ?c_known_headings ?k_known_headings ?n_known_headings ?l_joined ?c_joined ?k_joined ?n_joined ?l_card_at_end ?c_card_at_end ?k_card_at_end ?n_card_at_end ?l_still_found ?c_still_found ?k_still_found ?n_still_found ?l_parts_at ?c_parts_at ?k_parts_at ?n_parts_at ?l_split ?c_split ?k_split ?n_split ?l_card_behind_split ?c_card_behind_split ?k_card_behind_split ?n_card_behind_split ?l_lost_at ?c_lost_at ?k_lost_at ?n_lost_at ?l_lost_by_split ?c_lost_by_split ?k_lost_by_split ?n_lost_by_split ?l_best_split ?c_best_split ?k_best_split ?n_best_split ?l_are_books ?c_are_books ?k_are_books ?n_are_books ?l_is_target ?c_is_target ?k_is_target ?n_is_target ?l_are_further ?c_are_further ?k_are_further ?n_are_further ?l_wrong_part ?c_wrong_part ?k_wrong_part ?n_wrong_part ?hk_Card_init_2 ?l_Card_init ?c_Card_init ?k_Card_init ?dk_Card_init ?l_Card_heading ?c_Card_heading ?k_Card_heading ?l_Card_see ?c_Card_see ?k_Card_see ?l_Card_also ?c_Card_also ?k_Card_also ?l_Card_leads ?c_Card_leads ?k_Card_leads ?l_Card_eq ?c_Card_eq ?k_Card_eq ?l_moves_of ?c_moves_of ?k_moves_of ?n_moves_of ?l_orders_after ?c_orders_after ?k_orders_after ?n_orders_after ?l_fits_tally ?c_fits_tally ?k_fits_tally ?n_fits_tally ?l_orders_by ?c_orders_by ?k_orders_by ?n_orders_by ?l_possible_orders ?c_possible_orders ?k_possible_orders ?n_possible_orders ?l_misplaced ?c_misplaced ?k_misplaced ?n_misplaced ?l_llaw_taken ?c_llaw_taken ?k_llaw_taken ?n_llaw_taken ?l_llaw_card ?c_llaw_card ?k_llaw_card ?n_llaw_card ?l_llaw_drawer ?c_llaw_drawer ?k_llaw_drawer ?n_llaw_drawer ?l_llaw_told ?c_llaw_told ?k_llaw_told ?n_llaw_told ?l_law ?c_law ?k_law ?n_law ?n_SeeError ?zbbg_SeeError ?zbbr_SeeError ?zbbv_SeeError ?n_InvalidRule ?zxe_InvalidRule ?zxk_InvalidRule ?zxs_InvalidRule ?zxt_InvalidRule ?n_InvalidHeading ?zxe_InvalidHeading ?zxk_InvalidHeading ?zxs_InvalidHeading ?zxt_InvalidHeading ?n_InvalidNumber ?zxe_InvalidNumber ?zxk_InvalidNumber ?zxs_InvalidNumber ?zxt_InvalidNumber ?n_InvalidTally ?zox1_InvalidTally ?zq_ox2_InvalidTally ?zox3_InvalidTally ?zox4_InvalidTally ?zox5_InvalidTally ?zox6_InvalidTally ?zoi_InvalidTally ?zot_InvalidTally ?znf_InvalidTally_index ?zxg_InvalidTally ?zxa_InvalidTally ?zxb_InvalidTally ?zxd_InvalidTally ?n_NoOrder ?zxe_NoOrder ?zxk_NoOrder ?zxs_NoOrder ?zxt_NoOrder ?n_Drawer ?cg_Drawer ?ch_Drawer ?cp_Drawer ?cs_Drawer ?na_Drawer__cards ?mk1_Drawer ?mk2_Drawer ?mk3_Drawer ?mk4_Drawer ?p1_Drawer_cards ?p2_Drawer_cards ?p3_Drawer_cards ?p4_Drawer_cards ?p1_Drawer_headings ?p2_Drawer_headings ?p3_Drawer_headings ?p4_Drawer_headings ?me1_Drawer_getitem ?me2_Drawer_getitem ?me3_Drawer_getitem ?fi_Drawer_getitem ?me1_Drawer_len ?me2_Drawer_len ?me3_Drawer_len ?n_Trip ?cg_Trip ?ch_Trip ?cp_Trip ?cs_Trip ?na_Trip_word ?na_Trip_asked ?na_Trip_found ?na_Trip_total ?na_Trip_end ?mk1_Trip ?mk2_Trip ?mk3_Trip ?mk4_Trip ?n_Card ?cg_Card ?ch_Card ?cp_Card ?cs_Card ?na_Card__heading ?na_Card__books ?na_Card__see ?na_Card__also ?zqn_Card ?zqo_Card ?zqu_Card ?zqi_Card ?zqt_Card ?zqc_Card ?zqm_Card ?zqg_Card ?zqk_Card ?mk1_Card ?mk2_Card ?mk3_Card ?mk4_Card ?p1_Card_heading ?p2_Card_heading ?p3_Card_heading ?p4_Card_heading ?p1_Card_see ?p2_Card_see ?p3_Card_see ?p4_Card_see ?p1_Card_also ?p2_Card_also ?p3_Card_also ?p4_Card_also ?p1_Card_leads ?p2_Card_leads ?p3_Card_leads ?p4_Card_leads ?me1_Card_eq ?me2_Card_eq ?me3_Card_eq ?zs_InvalidRule_InvalidRule ?zi_InvalidRule_InvalidRule ?zt_InvalidRule_InvalidRule ?zq_InvalidRule_InvalidRule ?zs_InvalidHeading_InvalidHeading ?zi_InvalidHeading_InvalidHeading ?zt_InvalidHeading_InvalidHeading ?zq_InvalidHeading_InvalidHeading ?zs_InvalidHeading_InvalidRule ?zi_InvalidHeading_InvalidRule ?zt_InvalidHeading_InvalidRule ?zq_InvalidHeading_InvalidRule ?zs_InvalidNumber_InvalidHeading ?zi_InvalidNumber_InvalidHeading ?zt_InvalidNumber_InvalidHeading ?zq_InvalidNumber_InvalidHeading ?zs_InvalidNumber_InvalidNumber ?zi_InvalidNumber_InvalidNumber ?zt_InvalidNumber_InvalidNumber ?zq_InvalidNumber_InvalidNumber ?zs_InvalidNumber_InvalidRule ?zi_InvalidNumber_InvalidRule ?zt_InvalidNumber_InvalidRule ?zq_InvalidNumber_InvalidRule ?zs_InvalidTally_InvalidHeading ?zi_InvalidTally_InvalidHeading ?zt_InvalidTally_InvalidHeading ?zq_InvalidTally_InvalidHeading ?zs_InvalidTally_InvalidNumber ?zi_InvalidTally_InvalidNumber ?zt_InvalidTally_InvalidNumber ?zq_InvalidTally_InvalidNumber ?zs_InvalidTally_InvalidRule ?zi_InvalidTally_InvalidRule ?zt_InvalidTally_InvalidRule ?zq_InvalidTally_InvalidRule ?zs_InvalidTally_InvalidTally ?zi_InvalidTally_InvalidTally ?zt_InvalidTally_InvalidTally ?zq_InvalidTally_InvalidTally ?tcq_filed ?tck_filed ?tcv_filed ?tcn_filed ?tch_filed ?tcq_llaw_drawer ?tck_llaw_drawer ?tcv_llaw_drawer ?tcn_llaw_drawer ?tch_llaw_drawer ?tcq_law ?tck_law ?tcv_law ?tcn_law ?tch_law ?tne_filed_llaw_drawer ?tne_filed_law ?tne_llaw_drawer_law
    (case z_all => k_is)
    (case z_bool => k_is)
    (case z_enumerate => k_is)
    (case z_int => k_is)
    (case z_isinstance => k_is)
    (case z_len => k_is)
    (case z_list => k_is)
    (case z_min => k_is)
    (case z_range => k_is)
    (case z_set => k_is)
    (case z_sorted => k_is)
    (case z_str => k_is)
    (case z_tuple => k_is)
    (case z_zip => k_is)
    (case zc_LETTERS => k_is)
    (case zc_LONGEST_WORD => k_is)
    (case zc_MOST_CARDS => k_is)
    (case zc_MOST_BOOKS => k_is)
    (case zc_LAST_BOOK => k_is)
    (case zc_MOST_ALSO => k_is)
    (case zc_MOST_MOVES => k_is)
    (case zc_RULES => k_is)
    (case n_is_word => k_is)
    (case n_is_number => k_is)
    (case n_check_rule => k_is)
    (case n_check_heading => k_is)
    (case n_check_number => k_is)
    (case n_check_place => k_is)
    (case n_first_without_word => k_is)
    (case n_check_tally => k_is)
    (case n_headings_along => k_is)
    (case n_filed => k_is)
    (case n_seek_along => k_is)
    (case n_seek_by_halves => k_is)
    (case n_seek => k_is)
    (case n_travel => k_is)
    (case n_known_headings => k_is)
    (case n_joined => k_is)
    (case n_card_at_end => k_is)
    (case n_still_found => k_is)
    (case n_parts_at => k_is)
    (case n_split => k_is)
    (case n_card_behind_split => k_is)
    (case n_lost_at => k_is)
    (case n_lost_by_split => k_is)
    (case n_best_split => k_is)
    (case n_are_books => k_is)
    (case n_is_target => k_is)
    (case n_are_further => k_is)
    (case n_wrong_part => k_is)
    (case n_moves_of => k_is)
    (case n_orders_after => k_is)
    (case n_fits_tally => k_is)
    (case n_orders_by => k_is)
    (case n_possible_orders => k_is)
    (case n_misplaced => k_is)
    (case n_llaw_taken => k_is)
    (case n_llaw_card => k_is)
    (case n_llaw_drawer => k_is)
    (case n_llaw_told => k_is)
    (case n_law => k_is)
    (case n_SeeError => k_is)
    (case n_InvalidRule => k_is)
    (case n_InvalidHeading => k_is)
    (case n_InvalidNumber => k_is)
    (case n_InvalidTally => k_is)
    (case n_NoOrder => k_is)
    (case n_Drawer => k_is)
    (case n_Trip => k_is)
    (case n_Card => k_is)
    (case mk2_Drawer => k_is)
    (case mk2_Trip => k_is)
    (case mk2_Card => k_is)
    (case zoi_InvalidTally => k_is)
    (case me1_Drawer_getitem => k_is)
    (case me1_Drawer_len => k_is)
    (case me1_Card_eq => k_is)
    (case p1_Drawer_cards => k_is)
    (case p1_Drawer_headings => k_is)
    (case p1_Card_heading => k_is)
    (case p1_Card_see => k_is)
    (case p1_Card_also => k_is)
    (case p1_Card_leads => k_is)
    (case p4_Drawer_cards => k_is)
    (case p4_Drawer_headings => k_is)
    (case p4_Card_heading => k_is)
    (case p4_Card_see => k_is)
    (case p4_Card_also => k_is)
    (case p4_Card_leads => k_is)
    (case l_InvalidTally_init => k_is)
    (case l_is_word => k_is)
    (case l_is_number => k_is)
    (case l_check_rule => k_is)
    (case l_check_heading => k_is)
    (case l_check_number => k_is)
    (case l_check_place => k_is)
    (case l_first_without_word => k_is)
    (case l_check_tally => k_is)
    (case l_Drawer_init => k_is)
    (case l_Drawer_cards => k_is)
    (case l_Drawer_headings => k_is)
    (case l_Drawer_getitem => k_is)
    (case l_Drawer_len => k_is)
    (case l_headings_along => k_is)
    (case l_filed => k_is)
    (case l_seek_along => k_is)
    (case l_seek_by_halves => k_is)
    (case l_seek => k_is)
    (case l_Trip_init => k_is)
    (case l_travel => k_is)
    (case l_known_headings => k_is)
    (case l_joined => k_is)
    (case l_card_at_end => k_is)
    (case l_still_found => k_is)
    (case l_parts_at => k_is)
    (case l_split => k_is)
    (case l_card_behind_split => k_is)
    (case l_lost_at => k_is)
    (case l_lost_by_split => k_is)
    (case l_best_split => k_is)
    (case l_are_books => k_is)
    (case l_is_target => k_is)
    (case l_are_further => k_is)
    (case l_wrong_part => k_is)
    (case l_Card_init => k_is)
    (case l_Card_heading => k_is)
    (case l_Card_see => k_is)
    (case l_Card_also => k_is)
    (case l_Card_leads => k_is)
    (case l_Card_eq => k_is)
    (case l_moves_of => k_is)
    (case l_orders_after => k_is)
    (case l_fits_tally => k_is)
    (case l_orders_by => k_is)
    (case l_possible_orders => k_is)
    (case l_misplaced => k_is)
    (case l_llaw_taken => k_is)
    (case l_llaw_card => k_is)
    (case l_llaw_drawer => k_is)
    (case l_llaw_told => k_is)
    (case l_law => k_is)
    (case dk_Card_init => k_is)
    (case ht_RULES => k_is)
    (case tcq_filed => exact rfl)
    (case tcq_llaw_drawer => exact rfl)
    (case tcq_law => exact rfl)
    (case tck_filed => k_is)
    (case tck_llaw_drawer => k_is)
    (case tck_law => k_is)
    (case tcv_filed => exact rfl)
    (case tcv_llaw_drawer => exact rfl)
    (case tcv_law => exact rfl)
    (case c_InvalidTally_init => k_is)
    (case k_InvalidTally_init => k_is)
    (case c_is_word => k_is)
    (case k_is_word => k_is)
    (case c_is_number => k_is)
    (case k_is_number => k_is)
    (case c_check_rule => k_is)
    (case k_check_rule => k_is)
    (case c_check_heading => k_is)
    (case k_check_heading => k_is)
    (case c_check_number => k_is)
    (case k_check_number => k_is)
    (case c_check_place => k_is)
    (case k_check_place => k_is)
    (case c_first_without_word => k_is)
    (case k_first_without_word => k_is)
    (case c_check_tally => k_is)
    (case k_check_tally => k_is)
    (case c_Drawer_init => k_is)
    (case k_Drawer_init => k_is)
    (case c_Drawer_cards => k_is)
    (case k_Drawer_cards => k_is)
    (case c_Drawer_headings => k_is)
    (case k_Drawer_headings => k_is)
    (case c_Drawer_getitem => k_is)
    (case k_Drawer_getitem => k_is)
    (case c_Drawer_len => k_is)
    (case k_Drawer_len => k_is)
    (case c_headings_along => k_is)
    (case k_headings_along => k_is)
    (case c_filed => k_is)
    (case k_filed => k_is)
    (case c_seek_along => k_is)
    (case k_seek_along => k_is)
    (case c_seek_by_halves => k_is)
    (case k_seek_by_halves => k_is)
    (case c_seek => k_is)
    (case k_seek => k_is)
    (case c_Trip_init => k_is)
    (case k_Trip_init => k_is)
    (case c_travel => k_is)
    (case k_travel => k_is)
    (case c_known_headings => k_is)
    (case k_known_headings => k_is)
    (case c_joined => k_is)
    (case k_joined => k_is)
    (case c_card_at_end => k_is)
    (case k_card_at_end => k_is)
    (case c_still_found => k_is)
    (case k_still_found => k_is)
    (case c_parts_at => k_is)
    (case k_parts_at => k_is)
    (case c_split => k_is)
    (case k_split => k_is)
    (case c_card_behind_split => k_is)
    (case k_card_behind_split => k_is)
    (case c_lost_at => k_is)
    (case k_lost_at => k_is)
    (case c_lost_by_split => k_is)
    (case k_lost_by_split => k_is)
    (case c_best_split => k_is)
    (case k_best_split => k_is)
    (case c_are_books => k_is)
    (case k_are_books => k_is)
    (case c_is_target => k_is)
    (case k_is_target => k_is)
    (case c_are_further => k_is)
    (case k_are_further => k_is)
    (case c_wrong_part => k_is)
    (case k_wrong_part => k_is)
    (case hk_Card_init_2 => k_is)
    (case c_Card_init => k_is)
    (case k_Card_init => k_is)
    (case c_Card_heading => k_is)
    (case k_Card_heading => k_is)
    (case c_Card_see => k_is)
    (case k_Card_see => k_is)
    (case c_Card_also => k_is)
    (case k_Card_also => k_is)
    (case c_Card_leads => k_is)
    (case k_Card_leads => k_is)
    (case c_Card_eq => k_is)
    (case k_Card_eq => k_is)
    (case c_moves_of => k_is)
    (case k_moves_of => k_is)
    (case c_orders_after => k_is)
    (case k_orders_after => k_is)
    (case c_fits_tally => k_is)
    (case k_fits_tally => k_is)
    (case c_orders_by => k_is)
    (case k_orders_by => k_is)
    (case c_possible_orders => k_is)
    (case k_possible_orders => k_is)
    (case c_misplaced => k_is)
    (case k_misplaced => k_is)
    (case c_llaw_taken => k_is)
    (case k_llaw_taken => k_is)
    (case c_llaw_card => k_is)
    (case k_llaw_card => k_is)
    (case c_llaw_drawer => k_is)
    (case k_llaw_drawer => k_is)
    (case c_llaw_told => k_is)
    (case k_llaw_told => k_is)
    (case c_law => k_is)
    (case k_law => k_is)
    (case zbbg_SeeError => k_is)
    (case zbbr_SeeError => k_is)
    (case zbbv_SeeError => k_is)
    (case zxe_InvalidRule => k_exc)
    (case zxk_InvalidRule => k_is)
    (case zxs_InvalidRule => k_is)
    (case zxt_InvalidRule => k_is)
    (case zxe_InvalidHeading => k_exc)
    (case zxk_InvalidHeading => k_is)
    (case zxs_InvalidHeading => k_is)
    (case zxt_InvalidHeading => k_is)
    (case zxe_InvalidNumber => k_exc)
    (case zxk_InvalidNumber => k_is)
    (case zxs_InvalidNumber => k_is)
    (case zxt_InvalidNumber => k_is)
    (case zox1_InvalidTally => k_is)
    (case zq_ox2_InvalidTally => (first | rfl | k_is))
    (case zox3_InvalidTally => k_is)
    (case zox4_InvalidTally => k_is)
    (case zox5_InvalidTally => k_is)
    (case zox6_InvalidTally => k_is)
    (case zot_InvalidTally => k_is)
    (case znf_InvalidTally_index => k_is)
    (case zxg_InvalidTally => k_is)
    (case zxa_InvalidTally => k_is)
    (case zxb_InvalidTally => k_is)
    (case zxd_InvalidTally => k_is)
    (case zxe_NoOrder => k_exc)
    (case zxk_NoOrder => k_is)
    (case zxs_NoOrder => k_is)
    (case zxt_NoOrder => k_is)
    (case cg_Drawer => k_is)
    (case ch_Drawer => k_is)
    (case cp_Drawer => k_is)
    (case cs_Drawer => k_is)
    (case na_Drawer__cards => k_is)
    (case mk1_Drawer => k_is)
    (case mk3_Drawer => k_is)
    (case mk4_Drawer => k_is)
    (case p2_Drawer_cards => k_is)
    (case p3_Drawer_cards => k_is)
    (case p2_Drawer_headings => k_is)
    (case p3_Drawer_headings => k_is)
    (case me2_Drawer_getitem => k_is)
    (case me3_Drawer_getitem => k_is)
    (case fi_Drawer_getitem => k_is)
    (case me2_Drawer_len => k_is)
    (case me3_Drawer_len => k_is)
    (case cg_Trip => k_is)
    (case ch_Trip => k_is)
    (case cp_Trip => k_is)
    (case cs_Trip => k_is)
    (case na_Trip_word => k_is)
    (case na_Trip_asked => k_is)
    (case na_Trip_found => k_is)
    (case na_Trip_total => k_is)
    (case na_Trip_end => k_is)
    (case mk1_Trip => k_is)
    (case mk3_Trip => k_is)
    (case mk4_Trip => k_is)
    (case cg_Card => k_is)
    (case ch_Card => k_is)
    (case cp_Card => k_is)
    (case cs_Card => k_is)
    (case na_Card__heading => k_is)
    (case na_Card__books => k_is)
    (case na_Card__see => k_is)
    (case na_Card__also => k_is)
    (case zqn_Card => k_is)
    (case zqo_Card => k_is)
    (case zqu_Card => k_is)
    (case zqi_Card => k_is)
    (case zqt_Card => k_is)
    (case zqc_Card => k_is)
    (case zqm_Card => k_is)
    (case zqg_Card => k_is)
    (case zqk_Card => k_is)
    (case mk1_Card => k_is)
    (case mk3_Card => k_is)
    (case mk4_Card => k_is)
    (case p2_Card_heading => k_is)
    (case p3_Card_heading => k_is)
    (case p2_Card_see => k_is)
    (case p3_Card_see => k_is)
    (case p2_Card_also => k_is)
    (case p3_Card_also => k_is)
    (case p2_Card_leads => k_is)
    (case p3_Card_leads => k_is)
    (case me2_Card_eq => k_is)
    (case me3_Card_eq => k_is)
    (case zs_InvalidRule_InvalidRule => k_is)
    (case zi_InvalidRule_InvalidRule => k_is)
    (case zt_InvalidRule_InvalidRule => k_is)
    (case zq_InvalidRule_InvalidRule => (first | rfl | k_is))
    (case zs_InvalidHeading_InvalidHeading => k_is)
    (case zi_InvalidHeading_InvalidHeading => k_is)
    (case zt_InvalidHeading_InvalidHeading => k_is)
    (case zq_InvalidHeading_InvalidHeading => (first | rfl | k_is))
    (case zs_InvalidHeading_InvalidRule => k_is)
    (case zi_InvalidHeading_InvalidRule => k_is)
    (case zt_InvalidHeading_InvalidRule => k_is)
    (case zq_InvalidHeading_InvalidRule => (first | rfl | k_is))
    (case zs_InvalidNumber_InvalidHeading => k_is)
    (case zi_InvalidNumber_InvalidHeading => k_is)
    (case zt_InvalidNumber_InvalidHeading => k_is)
    (case zq_InvalidNumber_InvalidHeading => (first | rfl | k_is))
    (case zs_InvalidNumber_InvalidNumber => k_is)
    (case zi_InvalidNumber_InvalidNumber => k_is)
    (case zt_InvalidNumber_InvalidNumber => k_is)
    (case zq_InvalidNumber_InvalidNumber => (first | rfl | k_is))
    (case zs_InvalidNumber_InvalidRule => k_is)
    (case zi_InvalidNumber_InvalidRule => k_is)
    (case zt_InvalidNumber_InvalidRule => k_is)
    (case zq_InvalidNumber_InvalidRule => (first | rfl | k_is))
    (case zs_InvalidTally_InvalidHeading => k_is)
    (case zi_InvalidTally_InvalidHeading => k_is)
    (case zt_InvalidTally_InvalidHeading => k_is)
    (case zq_InvalidTally_InvalidHeading => (first | rfl | k_is))
    (case zs_InvalidTally_InvalidNumber => k_is)
    (case zi_InvalidTally_InvalidNumber => k_is)
    (case zt_InvalidTally_InvalidNumber => k_is)
    (case zq_InvalidTally_InvalidNumber => (first | rfl | k_is))
    (case zs_InvalidTally_InvalidRule => k_is)
    (case zi_InvalidTally_InvalidRule => k_is)
    (case zt_InvalidTally_InvalidRule => k_is)
    (case zq_InvalidTally_InvalidRule => (first | rfl | k_is))
    (case zs_InvalidTally_InvalidTally => k_is)
    (case zi_InvalidTally_InvalidTally => k_is)
    (case zt_InvalidTally_InvalidTally => k_is)
    (case zq_InvalidTally_InvalidTally => (first | rfl | k_is))
    (case tcn_filed => (first | kernel_rfl | rfl | decide +kernel))
    (case tch_filed => (first | kernel_rfl | rfl | decide +kernel))
    (case tcn_llaw_drawer => (first | kernel_rfl | rfl | decide +kernel))
    (case tch_llaw_drawer => (first | kernel_rfl | rfl | decide +kernel))
    (case tcn_law => (first | kernel_rfl | rfl | decide +kernel))
    (case tch_law => (first | kernel_rfl | rfl | decide +kernel))
    (case tne_filed_llaw_drawer => (first | decide | (intro z; cases z)))
    (case tne_filed_law => (first | decide | (intro z; cases z)))
    (case tne_llaw_drawer_law => (first | decide | (intro z; cases z)))
    (case tab_filed => exact tb _ (by simp))
    (case tab_llaw_drawer => exact tb _ (by simp))
    (case tab_law => exact tb _ (by simp))
