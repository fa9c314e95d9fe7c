import PyProof.Rows.All
import Wide.All
import OpenK.AllK
import Wide.FinOn
import HandS.ForMost
import HandS.Wide
import HandS.Property
import HandS.ExcInit
import HandS.ExcField
import HandS.IsInst
import HandS.Defaults
import HandS.MakeKw
import HandS.Style
import HandS.TupAny
import HandS.Zip
import HandS.Strs
import HandS.SortKw
import HandS.Conv
import PySem.Challenge.RW_seerings_k60_whole_wear_by_strengths
import HandS.Walk
import HandS.Iter
import KE.GoesMore
import KE.GoesEnum
import PyProof.P3Eq
import KE.DataMinMax
import HandS.SetFor
import HandS.OwnEq
import HandS.More
import HandS.SetKeys
import HandS.Sort
import HandS.Lambda
import KE.SortKeyHeap
import HandS.SetBool
import HandS.DictComp
import KE.DataEq
import HandS.Words
import HandS.Text
import HandS.FStr
import HandS.ExcOwn
import HandS.TryMany
import HandS.WordsExc
import HandS.Comp
import HandS.Replace
import HandS.TupLen
import HandS.Deep
import HandS.DictTup
import KE.KDictDisplayH
import PyProof.Rows.TupDisplay
import KE.SortData
import HandS.EndTab
set_option Elab.async false
set_option linter.all false
set_option maxRecDepth 100000
set_option maxHeartbeats 4000000
namespace My
open PySem L2
def top (i : Nat) : Stmt := PySem.Challenge.pw_seerings_k60_whole_wear_by_strengths.main.body.getD i (.Pass ⟨0, 0, 0, 0⟩)
abbrev s_is_word : Stmt := top 15
abbrev N_is_word : List Str := ["text", "letter"]
theorem sc_is_word : FnScope N_is_word ["text"] (defScope s_is_word) := ⟨rfl, rfl, rfl, by decide +kernel, rfl, by decide +kernel, by decide +kernel⟩
abbrev s_is_number : Stmt := top 16
abbrev N_is_number : List Str := ["number", "least", "greatest"]
theorem sc_is_number : FnScope N_is_number ["number", "least", "greatest"] (defScope s_is_number) := ⟨rfl, rfl, rfl, by decide +kernel, rfl, by decide +kernel, by decide +kernel⟩
abbrev s_check_rule : Stmt := top 17
abbrev N_check_rule : List Str := ["rule"]
theorem sc_check_rule : FnScope N_check_rule ["rule"] (defScope s_check_rule) := ⟨rfl, rfl, rfl, by decide +kernel, rfl, by decide +kernel, by decide +kernel⟩
abbrev s_check_heading : Stmt := top 18
abbrev N_check_heading : List Str := ["heading"]
theorem sc_check_heading : FnScope N_check_heading ["heading"] (defScope s_check_heading) := ⟨rfl, rfl, rfl, by decide +kernel, rfl, by decide +kernel, by decide +kernel⟩
abbrev s_check_number : Stmt := top 19
abbrev N_check_number : List Str := ["number", "least", "greatest"]
theorem sc_check_number : FnScope N_check_number ["number", "least", "greatest"] (defScope s_check_number) := ⟨rfl, rfl, rfl, by decide +kernel, rfl, by decide +kernel, by decide +kernel⟩
abbrev s_first_wrong_request : Stmt := top 21
abbrev N_first_wrong_request : List Str := ["requests", "most", "index", "heading"]
theorem sc_first_wrong_request : FnScope N_first_wrong_request ["requests", "most"] (defScope s_first_wrong_request) := ⟨rfl, rfl, rfl, by decide +kernel, rfl, by decide +kernel, by decide +kernel⟩
abbrev s_check_requests : Stmt := top 22
abbrev N_check_requests : List Str := ["requests", "index"]
theorem sc_check_requests : FnScope N_check_requests ["requests"] (defScope s_check_requests) := ⟨rfl, rfl, rfl, by decide +kernel, rfl, by decide +kernel, by decide +kernel⟩
abbrev s_Drawer_init : Stmt := inClass (top 25) 0
abbrev N_Drawer_init : List Str := ["self", "cards"]
theorem sc_Drawer_init : FnScope N_Drawer_init ["self", "cards"] (defScope s_Drawer_init) := ⟨rfl, rfl, rfl, by decide +kernel, rfl, by decide +kernel, by decide +kernel⟩
abbrev s_Drawer_cards : Stmt := inClass (top 25) 1
abbrev N_Drawer_cards : List Str := ["self"]
theorem sc_Drawer_cards : FnScope N_Drawer_cards ["self"] (defScope s_Drawer_cards) := ⟨rfl, rfl, rfl, by decide +kernel, rfl, by decide +kernel, by decide +kernel⟩
abbrev s_Drawer_len : Stmt := inClass (top 25) 7
abbrev N_Drawer_len : List Str := ["self"]
theorem sc_Drawer_len : FnScope N_Drawer_len ["self"] (defScope s_Drawer_len) := ⟨rfl, rfl, rfl, by decide +kernel, rfl, by decide +kernel, by decide +kernel⟩
abbrev s_headings_along : Stmt := top 26
abbrev N_headings_along : List Str := ["drawer", "card"]
theorem sc_headings_along : FnScope N_headings_along ["drawer"] (defScope s_headings_along) := ⟨rfl, rfl, rfl, by decide +kernel, rfl, by decide +kernel, by decide +kernel⟩
abbrev s_seek_along : Stmt := top 28
abbrev N_seek_along : List Str := ["row", "heading", "gives_up", "place", "there"]
theorem sc_seek_along : FnScope N_seek_along ["row", "heading", "gives_up"] (defScope s_seek_along) := ⟨rfl, rfl, rfl, by decide +kernel, rfl, by decide +kernel, by decide +kernel⟩
abbrev s_seek_by_halves : Stmt := top 29
abbrev N_seek_by_halves : List Str := ["row", "heading", "places", "first", "last", "middle"]
theorem sc_seek_by_halves : FnScope N_seek_by_halves ["row", "heading"] (defScope s_seek_by_halves) := ⟨rfl, rfl, rfl, by decide +kernel, rfl, by decide +kernel, by decide +kernel⟩
abbrev s_seek : Stmt := top 30
abbrev N_seek : List Str := ["row", "rule", "heading"]
theorem sc_seek : FnScope N_seek ["row", "rule", "heading"] (defScope s_seek) := ⟨rfl, rfl, rfl, by decide +kernel, rfl, by decide +kernel, by decide +kernel⟩
abbrev s_look_up : Stmt := top 31
abbrev N_look_up : List Str := ["drawer", "rule", "heading"]
theorem sc_look_up : FnScope N_look_up ["drawer", "rule", "heading"] (defScope s_look_up) := ⟨rfl, rfl, rfl, by decide +kernel, rfl, by decide +kernel, by decide +kernel⟩
abbrev s_finds_all : Stmt := top 33
abbrev N_finds_all : List Str := ["row", "rule", "headings", "heading"]
theorem sc_finds_all : FnScope N_finds_all ["row", "rule", "headings"] (defScope s_finds_all) := ⟨rfl, rfl, rfl, by decide +kernel, rfl, by decide +kernel, by decide +kernel⟩
abbrev s_check_wear : Stmt := top 36
abbrev N_check_wear : List Str := ["rule", "requests", "strength"]
theorem sc_check_wear : FnScope N_check_wear ["rule", "requests", "strength"] (defScope s_check_wear) := ⟨rfl, rfl, rfl, by decide +kernel, rfl, by decide +kernel, by decide +kernel⟩
abbrev s_headings_left : Stmt := top 37
abbrev N_headings_left : List Str := ["row", "left", "place"]
theorem sc_headings_left : FnScope N_headings_left ["row", "left"] (defScope s_headings_left) := ⟨rfl, rfl, rfl, by decide +kernel, rfl, by decide +kernel, by decide +kernel⟩
abbrev s_request_worn : Stmt := top 38
abbrev N_request_worn : List Str := ["row", "rule", "heading", "left", "there", "found", "seen", "looked", "later", "place", "many", "rest", "index"]
theorem sc_request_worn : FnScope N_request_worn ["row", "rule", "heading", "left"] (defScope s_request_worn) := ⟨rfl, rfl, rfl, by decide +kernel, rfl, by decide +kernel, by decide +kernel⟩
abbrev s_wear_of_round : Stmt := top 39
abbrev N_wear_of_round : List Str := ["row", "rule", "requests", "left", "there", "worn", "heading", "index", "place"]
theorem sc_wear_of_round : FnScope N_wear_of_round ["row", "rule", "requests", "left"] (defScope s_wear_of_round) := ⟨rfl, rfl, rfl, by decide +kernel, rfl, by decide +kernel, by decide +kernel⟩
abbrev s_rounds_ahead : Stmt := top 40
abbrev N_rounds_ahead : List Str := ["row", "rule", "requests", "left", "worn", "rounds", "place", "many"]
theorem sc_rounds_ahead : FnScope N_rounds_ahead ["row", "rule", "requests", "left"] (defScope s_rounds_ahead) := ⟨rfl, rfl, rfl, by decide +kernel, rfl, by decide +kernel, by decide +kernel⟩
abbrev s_served : Stmt := top 41
abbrev N_served : List Str := ["drawer", "rule", "requests", "strength", "row", "left", "made", "rounds", "heading", "found", "place"]
theorem sc_served : FnScope N_served ["drawer", "rule", "requests", "strength"] (defScope s_served) := ⟨rfl, rfl, rfl, by decide +kernel, rfl, by decide +kernel, by decide +kernel⟩
abbrev s_first_fallen : Stmt := top 42
abbrev N_first_fallen : List Str := ["drawer", "rule", "requests", "strength", "row", "rounds", "left", "made", "heading", "_", "later", "fallen", "place"]
theorem sc_first_fallen : FnScope N_first_fallen ["drawer", "rule", "requests", "strength"] (defScope s_first_fallen) := ⟨rfl, rfl, rfl, by decide +kernel, rfl, by decide +kernel, by decide +kernel⟩
abbrev s_are_books : Stmt := top 47
abbrev N_are_books : List Str := ["books", "book", "later"]
theorem sc_are_books : FnScope N_are_books ["books"] (defScope s_are_books) := ⟨rfl, rfl, rfl, by decide +kernel, rfl, by decide +kernel, by decide +kernel⟩
abbrev s_is_target : Stmt := top 48
abbrev N_is_target : List Str := ["see", "heading"]
theorem sc_is_target : FnScope N_is_target ["see", "heading"] (defScope s_is_target) := ⟨rfl, rfl, rfl, by decide +kernel, rfl, by decide +kernel, by decide +kernel⟩
abbrev s_are_further : Stmt := top 49
abbrev N_are_further : List Str := ["also", "heading", "word"]
theorem sc_are_further : FnScope N_are_further ["also", "heading"] (defScope s_are_further) := ⟨rfl, rfl, rfl, by decide +kernel, rfl, by decide +kernel, by decide +kernel⟩
abbrev s_wrong_part : Stmt := top 50
abbrev N_wrong_part : List Str := ["heading", "books", "see", "also"]
theorem sc_wrong_part : FnScope N_wrong_part ["heading", "books", "see", "also"] (defScope s_wrong_part) := ⟨rfl, rfl, rfl, by decide +kernel, rfl, by decide +kernel, by decide +kernel⟩
abbrev s_Card_init : Stmt := inClass (top 51) 0
abbrev N_Card_init : List Str := ["self", "heading", "books", "see", "also", "part"]
theorem sc_Card_init : FnScope N_Card_init ["self", "heading", "books", "see", "also"] (defScope s_Card_init) := ⟨rfl, rfl, rfl, by decide +kernel, rfl, by decide +kernel, by decide +kernel⟩
abbrev s_Card_heading : Stmt := inClass (top 51) 1
abbrev N_Card_heading : List Str := ["self"]
theorem sc_Card_heading : FnScope N_Card_heading ["self"] (defScope s_Card_heading) := ⟨rfl, rfl, rfl, by decide +kernel, rfl, by decide +kernel, by decide +kernel⟩
abbrev s_llaw_taken : Stmt := top 53
abbrev N_llaw_taken : List Str := ["_law_row", "_law_many", "_law_found", "_law_cell"]
theorem sc_llaw_taken : FnScope N_llaw_taken ["_law_row", "_law_many"] (defScope s_llaw_taken) := ⟨rfl, rfl, rfl, by decide +kernel, rfl, by decide +kernel, by decide +kernel⟩
abbrev s_llaw_card : Stmt := top 54
abbrev N_llaw_card : List Str := ["_law_row", "_law_names", "_law_name", "_law_pick", "_law_others", "_law_more", "_law_other", "_law_one"]
theorem sc_llaw_card : FnScope N_llaw_card ["_law_row"] (defScope s_llaw_card) := ⟨rfl, rfl, rfl, by decide +kernel, rfl, by decide +kernel, by decide +kernel⟩
abbrev s_llaw_drawer : Stmt := top 55
abbrev N_llaw_drawer : List Str := ["_law_row", "_law_most", "_law_found", "_law_k"]
theorem sc_llaw_drawer : FnScope N_llaw_drawer ["_law_row", "_law_most"] (defScope s_llaw_drawer) := ⟨rfl, rfl, rfl, by decide +kernel, rfl, by decide +kernel, by decide +kernel⟩
abbrev s_llaw_rule : Stmt := top 56
abbrev N_llaw_rule : List Str := ["_law_row"]
theorem sc_llaw_rule : FnScope N_llaw_rule ["_law_row"] (defScope s_llaw_rule) := ⟨rfl, rfl, rfl, by decide +kernel, rfl, by decide +kernel, by decide +kernel⟩
abbrev s_llaw_words : Stmt := top 57
abbrev N_llaw_words : List Str := ["_law_row", "_law_most", "_law_names", "_law_k"]
theorem sc_llaw_words : FnScope N_llaw_words ["_law_row", "_law_most"] (defScope s_llaw_words) := ⟨rfl, rfl, rfl, by decide +kernel, rfl, by decide +kernel, by decide +kernel⟩
abbrev s_llaw_are_right : Stmt := top 58
abbrev N_llaw_are_right : List Str := ["_law_drawer_here", "_law_rule_here", "_law_some", "_law_first", "_law_strength", "_law_told", "_law_fallen", "_law_made", "_law_places", "_law_bigger"]
theorem sc_llaw_are_right : FnScope N_llaw_are_right ["_law_drawer_here", "_law_rule_here", "_law_some", "_law_first"] (defScope s_llaw_are_right) := ⟨rfl, rfl, rfl, by decide +kernel, rfl, by decide +kernel, by decide +kernel⟩
abbrev s_law : Stmt := top 59
abbrev N_law : List Str := ["_law_script", "_law_row", "_law_turn", "_law_drawer_here", "_law_rule_here", "_law_some", "_law_found", "_law_k", "_law_first", "_law_seen", "_law_place", "_law_places", "_law_due", "_law_made", "_law_name"]
theorem sc_law : FnScope N_law ["_law_script"] (defScope s_law) := ⟨rfl, rfl, rfl, by decide +kernel, rfl, by decide +kernel, by decide +kernel⟩
structure Top (K : PySem.W.Frag) (mg : Str → Option Value) where
  m_all : mg "all" = none
  m_bool : mg "bool" = none
  m_enumerate : mg "enumerate" = none
  m_int : mg "int" = none
  m_isinstance : mg "isinstance" = none
  m_len : mg "len" = none
  m_list : mg "list" = none
  m_max : mg "max" = none
  m_min : mg "min" = none
  m_range : mg "range" = none
  m_set : mg "set" = none
  m_sorted : mg "sorted" = none
  m_str : mg "str" = none
  m_tuple : mg "tuple" = none
  m_zip : mg "zip" = none
  v_LETTERS : Value
  g_LETTERS : mg "LETTERS" = some v_LETTERS
  r_LETTERS : RelV (.str "abcdefghijklmnopqrstuvwxyz") v_LETTERS
  v_LONGEST_WORD : Value
  g_LONGEST_WORD : mg "LONGEST_WORD" = some v_LONGEST_WORD
  r_LONGEST_WORD : RelV (.int 8) v_LONGEST_WORD
  v_MOST_REQUESTS : Value
  g_MOST_REQUESTS : mg "MOST_REQUESTS" = some v_MOST_REQUESTS
  r_MOST_REQUESTS : RelV (.int 12) v_MOST_REQUESTS
  v_MOST_CARDS : Value
  g_MOST_CARDS : mg "MOST_CARDS" = some v_MOST_CARDS
  r_MOST_CARDS : RelV (.int 16) v_MOST_CARDS
  v_MOST_STRENGTH : Value
  g_MOST_STRENGTH : mg "MOST_STRENGTH" = some v_MOST_STRENGTH
  r_MOST_STRENGTH : RelV (.int 1000000000000000000) v_MOST_STRENGTH
  v_MOST_BOOKS : Value
  g_MOST_BOOKS : mg "MOST_BOOKS" = some v_MOST_BOOKS
  r_MOST_BOOKS : RelV (.int 6) v_MOST_BOOKS
  v_LAST_BOOK : Value
  g_LAST_BOOK : mg "LAST_BOOK" = some v_LAST_BOOK
  r_LAST_BOOK : RelV (.int 999) v_LAST_BOOK
  v_MOST_ALSO : Value
  g_MOST_ALSO : mg "MOST_ALSO" = some v_MOST_ALSO
  r_MOST_ALSO : RelV (.int 4) v_MOST_ALSO
  a_RULES : Addr
  g_RULES : mg "RULES" = some (.ref a_RULES)
  r_RULES : RelV (.ref a_RULES) (.ref a_RULES)
  t_RULES : ∀ H : Hp, SqT K H a_RULES [.str "all", .str "leaf", .str "half"]
  a_is_word : Addr
  fd_is_word : FuncData
  F_is_word : Fun K "is_word" "is_word" s_is_word a_is_word fd_is_word
  g_is_word : mg "is_word" = some (.ref a_is_word)
  a_is_number : Addr
  fd_is_number : FuncData
  F_is_number : Fun K "is_number" "is_number" s_is_number a_is_number fd_is_number
  g_is_number : mg "is_number" = some (.ref a_is_number)
  a_check_rule : Addr
  fd_check_rule : FuncData
  F_check_rule : Fun K "check_rule" "check_rule" s_check_rule a_check_rule fd_check_rule
  g_check_rule : mg "check_rule" = some (.ref a_check_rule)
  a_check_heading : Addr
  fd_check_heading : FuncData
  F_check_heading : Fun K "check_heading" "check_heading" s_check_heading a_check_heading fd_check_heading
  g_check_heading : mg "check_heading" = some (.ref a_check_heading)
  a_check_number : Addr
  fd_check_number : FuncData
  F_check_number : Fun K "check_number" "check_number" s_check_number a_check_number fd_check_number
  g_check_number : mg "check_number" = some (.ref a_check_number)
  a_first_wrong_request : Addr
  fd_first_wrong_request : FuncData
  F_first_wrong_request : Fun K "first_wrong_request" "first_wrong_request" s_first_wrong_request a_first_wrong_request fd_first_wrong_request
  g_first_wrong_request : mg "first_wrong_request" = some (.ref a_first_wrong_request)
  a_check_requests : Addr
  fd_check_requests : FuncData
  F_check_requests : Fun K "check_requests" "check_requests" s_check_requests a_check_requests fd_check_requests
  g_check_requests : mg "check_requests" = some (.ref a_check_requests)
  a_Drawer_init : Addr
  fd_Drawer_init : FuncData
  F_Drawer_init : Fun K "__init__" "Drawer.__init__" s_Drawer_init a_Drawer_init fd_Drawer_init
  a_Drawer_cards : Addr
  fd_Drawer_cards : FuncData
  F_Drawer_cards : Fun K "cards" "Drawer.cards" s_Drawer_cards a_Drawer_cards fd_Drawer_cards
  a_Drawer_len : Addr
  fd_Drawer_len : FuncData
  F_Drawer_len : Fun K "__len__" "Drawer.__len__" s_Drawer_len a_Drawer_len fd_Drawer_len
  a_headings_along : Addr
  fd_headings_along : FuncData
  F_headings_along : Fun K "headings_along" "headings_along" s_headings_along a_headings_along fd_headings_along
  g_headings_along : mg "headings_along" = some (.ref a_headings_along)
  a_seek_along : Addr
  fd_seek_along : FuncData
  F_seek_along : Fun K "seek_along" "seek_along" s_seek_along a_seek_along fd_seek_along
  g_seek_along : mg "seek_along" = some (.ref a_seek_along)
  a_seek_by_halves : Addr
  fd_seek_by_halves : FuncData
  F_seek_by_halves : Fun K "seek_by_halves" "seek_by_halves" s_seek_by_halves a_seek_by_halves fd_seek_by_halves
  g_seek_by_halves : mg "seek_by_halves" = some (.ref a_seek_by_halves)
  a_seek : Addr
  fd_seek : FuncData
  F_seek : Fun K "seek" "seek" s_seek a_seek fd_seek
  g_seek : mg "seek" = some (.ref a_seek)
  a_look_up : Addr
  fd_look_up : FuncData
  F_look_up : Fun K "look_up" "look_up" s_look_up a_look_up fd_look_up
  g_look_up : mg "look_up" = some (.ref a_look_up)
  a_finds_all : Addr
  fd_finds_all : FuncData
  F_finds_all : Fun K "finds_all" "finds_all" s_finds_all a_finds_all fd_finds_all
  g_finds_all : mg "finds_all" = some (.ref a_finds_all)
  a_check_wear : Addr
  fd_check_wear : FuncData
  F_check_wear : Fun K "check_wear" "check_wear" s_check_wear a_check_wear fd_check_wear
  g_check_wear : mg "check_wear" = some (.ref a_check_wear)
  a_headings_left : Addr
  fd_headings_left : FuncData
  F_headings_left : Fun K "headings_left" "headings_left" s_headings_left a_headings_left fd_headings_left
  g_headings_left : mg "headings_left" = some (.ref a_headings_left)
  a_request_worn : Addr
  fd_request_worn : FuncData
  F_request_worn : Fun K "request_worn" "request_worn" s_request_worn a_request_worn fd_request_worn
  g_request_worn : mg "request_worn" = some (.ref a_request_worn)
  a_wear_of_round : Addr
  fd_wear_of_round : FuncData
  F_wear_of_round : Fun K "wear_of_round" "wear_of_round" s_wear_of_round a_wear_of_round fd_wear_of_round
  g_wear_of_round : mg "wear_of_round" = some (.ref a_wear_of_round)
  a_rounds_ahead : Addr
  fd_rounds_ahead : FuncData
  F_rounds_ahead : Fun K "rounds_ahead" "rounds_ahead" s_rounds_ahead a_rounds_ahead fd_rounds_ahead
  g_rounds_ahead : mg "rounds_ahead" = some (.ref a_rounds_ahead)
  a_served : Addr
  fd_served : FuncData
  F_served : Fun K "served" "served" s_served a_served fd_served
  g_served : mg "served" = some (.ref a_served)
  a_first_fallen : Addr
  fd_first_fallen : FuncData
  F_first_fallen : Fun K "first_fallen" "first_fallen" s_first_fallen a_first_fallen fd_first_fallen
  g_first_fallen : mg "first_fallen" = some (.ref a_first_fallen)
  a_are_books : Addr
  fd_are_books : FuncData
  F_are_books : Fun K "are_books" "are_books" s_are_books a_are_books fd_are_books
  g_are_books : mg "are_books" = some (.ref a_are_books)
  a_is_target : Addr
  fd_is_target : FuncData
  F_is_target : Fun K "is_target" "is_target" s_is_target a_is_target fd_is_target
  g_is_target : mg "is_target" = some (.ref a_is_target)
  a_are_further : Addr
  fd_are_further : FuncData
  F_are_further : Fun K "are_further" "are_further" s_are_further a_are_further fd_are_further
  g_are_further : mg "are_further" = some (.ref a_are_further)
  a_wrong_part : Addr
  fd_wrong_part : FuncData
  F_wrong_part : Fun K "wrong_part" "wrong_part" s_wrong_part a_wrong_part fd_wrong_part
  g_wrong_part : mg "wrong_part" = some (.ref a_wrong_part)
  a_Card_init : Addr
  e_Card_init_0 : Addr
  e_Card_init_2 : Addr
  ek_Card_init_2 : ∀ H : Hp, SqT K H e_Card_init_2 []
  fd_Card_init : FuncData
  F_Card_init : FunD K "__init__" "Card.__init__" (defArgs s_Card_init) (defBody s_Card_init) (defScope s_Card_init) [.ref e_Card_init_0, .str "", .ref e_Card_init_2] [] a_Card_init fd_Card_init
  a_Card_heading : Addr
  fd_Card_heading : FuncData
  F_Card_heading : Fun K "heading" "Card.heading" s_Card_heading a_Card_heading fd_Card_heading
  a_llaw_taken : Addr
  fd_llaw_taken : FuncData
  F_llaw_taken : Fun K "_law_taken" "_law_taken" s_llaw_taken a_llaw_taken fd_llaw_taken
  g_llaw_taken : mg "_law_taken" = some (.ref a_llaw_taken)
  a_llaw_card : Addr
  fd_llaw_card : FuncData
  F_llaw_card : Fun K "_law_card" "_law_card" s_llaw_card a_llaw_card fd_llaw_card
  g_llaw_card : mg "_law_card" = some (.ref a_llaw_card)
  a_llaw_drawer : Addr
  fd_llaw_drawer : FuncData
  F_llaw_drawer : Fun K "_law_drawer" "_law_drawer" s_llaw_drawer a_llaw_drawer fd_llaw_drawer
  g_llaw_drawer : mg "_law_drawer" = some (.ref a_llaw_drawer)
  a_llaw_rule : Addr
  fd_llaw_rule : FuncData
  F_llaw_rule : Fun K "_law_rule" "_law_rule" s_llaw_rule a_llaw_rule fd_llaw_rule
  g_llaw_rule : mg "_law_rule" = some (.ref a_llaw_rule)
  a_llaw_words : Addr
  fd_llaw_words : FuncData
  F_llaw_words : Fun K "_law_words" "_law_words" s_llaw_words a_llaw_words fd_llaw_words
  g_llaw_words : mg "_law_words" = some (.ref a_llaw_words)
  a_llaw_are_right : Addr
  fd_llaw_are_right : FuncData
  F_llaw_are_right : Fun K "_law_are_right" "_law_are_right" s_llaw_are_right a_llaw_are_right fd_llaw_are_right
  g_llaw_are_right : mg "_law_are_right" = some (.ref a_llaw_are_right)
  a_law : Addr
  fd_law : FuncData
  F_law : Fun K "law" "law" s_law a_law fd_law
  g_law : mg "law" = some (.ref a_law)
  c_Drawer : Addr
  g_Drawer : mg "Drawer" = some (.ref c_Drawer)
  cl_Drawer : Cls K c_Drawer
  n_Drawer__cards : NoAttr K c_Drawer "_cards"
  Mk_Drawer : Mk K c_Drawer a_Drawer_init
  p_Drawer_cards : Addr
  P_Drawer_cards : PropOf K c_Drawer "cards" p_Drawer_cards a_Drawer_cards
  M_Drawer_len : Meth K c_Drawer "__len__" a_Drawer_len
  c_Card : Addr
  g_Card : mg "Card" = some (.ref c_Card)
  cl_Card : Cls K c_Card
  n_Card__heading : NoAttr K c_Card "_heading"
  n_Card__books : NoAttr K c_Card "_books"
  n_Card__see : NoAttr K c_Card "_see"
  n_Card__also : NoAttr K c_Card "_also"
  Mk_Card : Mk K c_Card a_Card_init
  p_Card_heading : Addr
  P_Card_heading : PropOf K c_Card "heading" p_Card_heading a_Card_heading
theorem b_is_word {K : PySem.W.Frag} {mg : Str → Option Value} (T : Top K mg) : Binds K T.fd_is_word ["text"] [] := T.F_is_word.binds (ps := ["text"]) fun _ _ _ _ _ _ us hl => match us, hl with | [_], _ => rfl
theorem b_is_number {K : PySem.W.Frag} {mg : Str → Option Value} (T : Top K mg) : Binds K T.fd_is_number ["number", "least", "greatest"] [] := T.F_is_number.binds (ps := ["number", "least", "greatest"]) fun _ _ _ _ _ _ us hl => match us, hl with | [_, _, _], _ => rfl
theorem b_check_rule {K : PySem.W.Frag} {mg : Str → Option Value} (T : Top K mg) : Binds K T.fd_check_rule ["rule"] [] := T.F_check_rule.binds (ps := ["rule"]) fun _ _ _ _ _ _ us hl => match us, hl with | [_], _ => rfl
theorem b_check_heading {K : PySem.W.Frag} {mg : Str → Option Value} (T : Top K mg) : Binds K T.fd_check_heading ["heading"] [] := T.F_check_heading.binds (ps := ["heading"]) fun _ _ _ _ _ _ us hl => match us, hl with | [_], _ => rfl
theorem b_check_number {K : PySem.W.Frag} {mg : Str → Option Value} (T : Top K mg) : Binds K T.fd_check_number ["number", "least", "greatest"] [] := T.F_check_number.binds (ps := ["number", "least", "greatest"]) fun _ _ _ _ _ _ us hl => match us, hl with | [_, _, _], _ => rfl
theorem b_first_wrong_request {K : PySem.W.Frag} {mg : Str → Option Value} (T : Top K mg) : Binds K T.fd_first_wrong_request ["requests", "most"] [] := T.F_first_wrong_request.binds (ps := ["requests", "most"]) fun _ _ _ _ _ _ us hl => match us, hl with | [_, _], _ => rfl
theorem b_check_requests {K : PySem.W.Frag} {mg : Str → Option Value} (T : Top K mg) : Binds K T.fd_check_requests ["requests"] [] := T.F_check_requests.binds (ps := ["requests"]) fun _ _ _ _ _ _ us hl => match us, hl with | [_], _ => rfl
theorem b_Drawer_init {K : PySem.W.Frag} {mg : Str → Option Value} (T : Top K mg) : Binds K T.fd_Drawer_init ["self", "cards"] [] := T.F_Drawer_init.binds (ps := ["self", "cards"]) fun _ _ _ _ _ _ us hl => match us, hl with | [_, _], _ => rfl
theorem b_Drawer_cards {K : PySem.W.Frag} {mg : Str → Option Value} (T : Top K mg) : Binds K T.fd_Drawer_cards ["self"] [] := T.F_Drawer_cards.binds (ps := ["self"]) fun _ _ _ _ _ _ us hl => match us, hl with | [_], _ => rfl
theorem b_Drawer_len {K : PySem.W.Frag} {mg : Str → Option Value} (T : Top K mg) : Binds K T.fd_Drawer_len ["self"] [] := T.F_Drawer_len.binds (ps := ["self"]) fun _ _ _ _ _ _ us hl => match us, hl with | [_], _ => rfl
theorem b_headings_along {K : PySem.W.Frag} {mg : Str → Option Value} (T : Top K mg) : Binds K T.fd_headings_along ["drawer"] [] := T.F_headings_along.binds (ps := ["drawer"]) fun _ _ _ _ _ _ us hl => match us, hl with | [_], _ => rfl
theorem b_seek_along {K : PySem.W.Frag} {mg : Str → Option Value} (T : Top K mg) : Binds K T.fd_seek_along ["row", "heading", "gives_up"] [] := T.F_seek_along.binds (ps := ["row", "heading", "gives_up"]) fun _ _ _ _ _ _ us hl => match us, hl with | [_, _, _], _ => rfl
theorem b_seek_by_halves {K : PySem.W.Frag} {mg : Str → Option Value} (T : Top K mg) : Binds K T.fd_seek_by_halves ["row", "heading"] [] := T.F_seek_by_halves.binds (ps := ["row", "heading"]) fun _ _ _ _ _ _ us hl => match us, hl with | [_, _], _ => rfl
theorem b_seek {K : PySem.W.Frag} {mg : Str → Option Value} (T : Top K mg) : Binds K T.fd_seek ["row", "rule", "heading"] [] := T.F_seek.binds (ps := ["row", "rule", "heading"]) fun _ _ _ _ _ _ us hl => match us, hl with | [_, _, _], _ => rfl
theorem b_look_up {K : PySem.W.Frag} {mg : Str → Option Value} (T : Top K mg) : Binds K T.fd_look_up ["drawer", "rule", "heading"] [] := T.F_look_up.binds (ps := ["drawer", "rule", "heading"]) fun _ _ _ _ _ _ us hl => match us, hl with | [_, _, _], _ => rfl
theorem b_finds_all {K : PySem.W.Frag} {mg : Str → Option Value} (T : Top K mg) : Binds K T.fd_finds_all ["row", "rule", "headings"] [] := T.F_finds_all.binds (ps := ["row", "rule", "headings"]) fun _ _ _ _ _ _ us hl => match us, hl with | [_, _, _], _ => rfl
theorem b_check_wear {K : PySem.W.Frag} {mg : Str → Option Value} (T : Top K mg) : Binds K T.fd_check_wear ["rule", "requests", "strength"] [] := T.F_check_wear.binds (ps := ["rule", "requests", "strength"]) fun _ _ _ _ _ _ us hl => match us, hl with | [_, _, _], _ => rfl
theorem b_headings_left {K : PySem.W.Frag} {mg : Str → Option Value} (T : Top K mg) : Binds K T.fd_headings_left ["row", "left"] [] := T.F_headings_left.binds (ps := ["row", "left"]) fun _ _ _ _ _ _ us hl => match us, hl with | [_, _], _ => rfl
theorem b_request_worn {K : PySem.W.Frag} {mg : Str → Option Value} (T : Top K mg) : Binds K T.fd_request_worn ["row", "rule", "heading", "left"] [] := T.F_request_worn.binds (ps := ["row", "rule", "heading", "left"]) fun _ _ _ _ _ _ us hl => match us, hl with | [_, _, _, _], _ => rfl
theorem b_wear_of_round {K : PySem.W.Frag} {mg : Str → Option Value} (T : Top K mg) : Binds K T.fd_wear_of_round ["row", "rule", "requests", "left"] [] := T.F_wear_of_round.binds (ps := ["row", "rule", "requests", "left"]) fun _ _ _ _ _ _ us hl => match us, hl with | [_, _, _, _], _ => rfl
theorem b_rounds_ahead {K : PySem.W.Frag} {mg : Str → Option Value} (T : Top K mg) : Binds K T.fd_rounds_ahead ["row", "rule", "requests", "left"] [] := T.F_rounds_ahead.binds (ps := ["row", "rule", "requests", "left"]) fun _ _ _ _ _ _ us hl => match us, hl with | [_, _, _, _], _ => rfl
theorem b_served {K : PySem.W.Frag} {mg : Str → Option Value} (T : Top K mg) : Binds K T.fd_served ["drawer", "rule", "requests", "strength"] [] := T.F_served.binds (ps := ["drawer", "rule", "requests", "strength"]) fun _ _ _ _ _ _ us hl => match us, hl with | [_, _, _, _], _ => rfl
theorem b_first_fallen {K : PySem.W.Frag} {mg : Str → Option Value} (T : Top K mg) : Binds K T.fd_first_fallen ["drawer", "rule", "requests", "strength"] [] := T.F_first_fallen.binds (ps := ["drawer", "rule", "requests", "strength"]) fun _ _ _ _ _ _ us hl => match us, hl with | [_, _, _, _], _ => rfl
theorem b_are_books {K : PySem.W.Frag} {mg : Str → Option Value} (T : Top K mg) : Binds K T.fd_are_books ["books"] [] := T.F_are_books.binds (ps := ["books"]) fun _ _ _ _ _ _ us hl => match us, hl with | [_], _ => rfl
theorem b_is_target {K : PySem.W.Frag} {mg : Str → Option Value} (T : Top K mg) : Binds K T.fd_is_target ["see", "heading"] [] := T.F_is_target.binds (ps := ["see", "heading"]) fun _ _ _ _ _ _ us hl => match us, hl with | [_, _], _ => rfl
theorem b_are_further {K : PySem.W.Frag} {mg : Str → Option Value} (T : Top K mg) : Binds K T.fd_are_further ["also", "heading"] [] := T.F_are_further.binds (ps := ["also", "heading"]) fun _ _ _ _ _ _ us hl => match us, hl with | [_, _], _ => rfl
theorem b_wrong_part {K : PySem.W.Frag} {mg : Str → Option Value} (T : Top K mg) : Binds K T.fd_wrong_part ["heading", "books", "see", "also"] [] := T.F_wrong_part.binds (ps := ["heading", "books", "see", "also"]) fun _ _ _ _ _ _ us hl => match us, hl with | [_, _, _, _], _ => rfl
theorem b_Card_heading {K : PySem.W.Frag} {mg : Str → Option Value} (T : Top K mg) : Binds K T.fd_Card_heading ["self"] [] := T.F_Card_heading.binds (ps := ["self"]) fun _ _ _ _ _ _ us hl => match us, hl with | [_], _ => rfl
theorem b_llaw_taken {K : PySem.W.Frag} {mg : Str → Option Value} (T : Top K mg) : Binds K T.fd_llaw_taken ["_law_row", "_law_many"] [] := T.F_llaw_taken.binds (ps := ["_law_row", "_law_many"]) fun _ _ _ _ _ _ us hl => match us, hl with | [_, _], _ => rfl
theorem b_llaw_card {K : PySem.W.Frag} {mg : Str → Option Value} (T : Top K mg) : Binds K T.fd_llaw_card ["_law_row"] [] := T.F_llaw_card.binds (ps := ["_law_row"]) fun _ _ _ _ _ _ us hl => match us, hl with | [_], _ => rfl
theorem b_llaw_drawer {K : PySem.W.Frag} {mg : Str → Option Value} (T : Top K mg) : Binds K T.fd_llaw_drawer ["_law_row", "_law_most"] [] := T.F_llaw_drawer.binds (ps := ["_law_row", "_law_most"]) fun _ _ _ _ _ _ us hl => match us, hl with | [_, _], _ => rfl
theorem b_llaw_rule {K : PySem.W.Frag} {mg : Str → Option Value} (T : Top K mg) : Binds K T.fd_llaw_rule ["_law_row"] [] := T.F_llaw_rule.binds (ps := ["_law_row"]) fun _ _ _ _ _ _ us hl => match us, hl with | [_], _ => rfl
theorem b_llaw_words {K : PySem.W.Frag} {mg : Str → Option Value} (T : Top K mg) : Binds K T.fd_llaw_words ["_law_row", "_law_most"] [] := T.F_llaw_words.binds (ps := ["_law_row", "_law_most"]) fun _ _ _ _ _ _ us hl => match us, hl with | [_, _], _ => rfl
theorem b_llaw_are_right {K : PySem.W.Frag} {mg : Str → Option Value} (T : Top K mg) : Binds K T.fd_llaw_are_right ["_law_drawer_here", "_law_rule_here", "_law_some", "_law_first"] [] := T.F_llaw_are_right.binds (ps := ["_law_drawer_here", "_law_rule_here", "_law_some", "_law_first"]) fun _ _ _ _ _ _ us hl => match us, hl with | [_, _, _, _], _ => rfl
theorem b_law {K : PySem.W.Frag} {mg : Str → Option Value} (T : Top K mg) : Binds K T.fd_law ["_law_script"] [] := T.F_law.binds (ps := ["_law_script"]) fun _ _ _ _ _ _ us hl => match us, hl with | [_], _ => rfl
end My
namespace My
open PySem L2
section
variable {K : PySem.W.Frag} {H H' H1 H2 : Hp} {a b p r : Addr} {o o' : HO} {xs ys : List V}
/-! ### what stands stays -/
theorem sql_upd (h : SqL K H a xs) (n : a ≠ p) : SqL K (upd H p o) a xs := by
  rcases h with (h | ⟨u, h⟩) | h
  · exact .inl (.inl (by rw [upd_ne n]; exact h))
  · exact .inl (.inr ⟨u, by rw [upd_ne n]; exact h⟩)
  · exact .inr h
theorem sqt_upd (h : SqT K H a xs) (n : a ≠ p) : SqT K (upd H p o) a xs := by
  rcases h with (h | ⟨u, h⟩) | h
  · exact .inl (.inl (by rw [upd_ne n]; exact h))
  · exact .inl (.inr ⟨u, by rw [upd_ne n]; exact h⟩)
  · exact .inr h
theorem _root_.L2.Same.seqT (e : Same H H') (h : SqT K H a xs) : SqT K H' a xs := by
  rcases h with (h | ⟨o, h⟩) | h
  · exact .inl (.inl (e _ _ h))
  · exact .inl (.inr ⟨o, e _ _ h⟩)
  · exact .inr h
theorem same_new (n : H p = none) : Same H (upd H p o) := fun b x e => by
  rw [upd_ne (ne_of_none e n)]
  exact e
/-- an object that H does not know may change -/
theorem same_mut (e : Same H H') (n : H p = none) : Same H (upd H' p o) := fun b x h => by
  rw [upd_ne (ne_of_none h n)]
  exact e b x h
theorem kp (h : H r = some o) (n : H p = none) : upd H p o' r = some o := by
  rw [upd_ne (ne_of_none h n)]
  exact h
theorem kn (h : H r = some o) (n : r ≠ p) : upd H p o' r = some o := by
  rw [upd_ne n]
  exact h
/-- all but one -/
def But (r : Addr) (H H' : Hp) : Prop := ∀ b o, H b = some o → b ≠ r → H' b = some o
theorem But.refl : But r H H := fun _ _ h _ => h
theorem But.trans (a : But r H H1) (b : But r H1 H2) : But r H H2 := fun c o h n => b c o (a c o h n) n
theorem But.upd (a : But r H H1) : But r H (L2.upd H1 r o) := fun c x h n => by
  rw [upd_ne n]
  exact a c x h n
theorem But.same (a : But r H H1) (b : Same H1 H2) : But r H H2 := fun c o h n => b c o (a c o h n)
theorem _root_.L2.Same.but (a : Same H H1) : But r H H1 := fun c o h _ => a c o h
theorem But.seq (e : But r H H') (n : a ≠ r) (h : SqL K H a xs) : SqL K H' a xs := by
  rcases h with (h | ⟨o, h⟩) | h
  · exact .inl (.inl (e _ _ h n))
  · exact .inl (.inr ⟨o, e _ _ h n⟩)
  · exact .inr h
theorem But.seqT (e : But r H H') (n : a ≠ r) (h : SqT K H a xs) : SqT K H' a xs := by
  rcases h with (h | ⟨o, h⟩) | h
  · exact .inl (.inl (e _ _ h n))
  · exact .inl (.inr ⟨o, e _ _ h n⟩)
  · exact .inr h
theorem But.free (e : But r H H') (hr : ∃ o, H r = some o) {l : Addr} (h : H' l = none) (hr' : ∃ o, H' r = some o) : H l = none := by
  cases q : H l with
  | none => rfl
  | some o =>
    by_cases z : l = r
    · subst z
      obtain ⟨o, ho⟩ := hr'
      rw [h] at ho
      cases ho
    · rw [e l o q z] at h
      cases h
/-- what never changes stays -/
def immO : HO → Bool
  | .tup _ => true
  | .ins _ _ _ => true
  | .frz _ _ => true
  | .own _ => true
  | _ => false
def Imm (H H' : Hp) : Prop := ∀ b o, H b = some o → immO o = true → H' b = some o
theorem Imm.refl : Imm H H := fun _ _ h _ => h
theorem Imm.trans (a : Imm H H1) (b : Imm H1 H2) : Imm H H2 := fun c o h n => b c o (a c o h n) n
theorem _root_.L2.Same.imm (a : Same H H1) : Imm H H1 := fun c o h _ => a c o h
theorem But.imm (a : But r H H1) (h : H r = some o) (n : immO o = false) : Imm H H1 := fun c u hc hu => a c u hc fun e => by
  subst e
  rw [h] at hc
  cases hc
  rw [n] at hu
  cases hu
theorem Imm.mut (a : Imm H H1) (h : H1 p = some o) (n : immO o = false) : Imm H (upd H1 p o') := fun c u hc hu => by
  have h1 := a c u hc hu
  rw [upd_ne (fun e => by
    subst e
    rw [h] at h1
    cases h1
    rw [n] at hu
    cases hu)]
  exact h1
theorem Imm.new (a : Imm H H1) (h : H1 p = none) : Imm H (upd H1 p o') := fun c u hc hu => by
  rw [upd_ne (ne_of_none (a c u hc hu) h)]
  exact a c u hc hu
theorem Imm.seqT (e : Imm H H') (h : SqT K H a xs) : SqT K H' a xs := by
  rcases h with (h | ⟨o, h⟩) | h
  · exact .inl (.inl (e _ _ h rfl))
  · exact .inl (.inr ⟨o, e _ _ h rfl⟩)
  · exact .inr h
theorem sizeLine_of {n : Nat} (h : n ≤ 1000000) : n < sizeLine := Nat.lt_of_le_of_lt h (by decide)
/-- a comprehension whose turns change nothing that stands: what it makes, turn by turn -/
theorem lc_rel {J : It} {n : Nat} {G : Hp → Prop} {Y : Nat → Hp → V → Hp → Prop} (w : Walk J n G Y) {g : TG} {tt : TT} {te : TE} {vs : List Nat} {σ : St} {D : Addr} {Qd : Hp → Prop} (hn : n ≤ 1000000) (hD : H1 D = none)
    (Rl : Nat → Option V → Hp → Prop) (mono : ∀ i z H H', Imm H H' → Rl i z H → Rl i z H') (hG : ∀ H, Same H1 H → G H)
    (hs : ∀ i x H H', i < n → Same H1 H → Y i H x H' → ∀ (R : V → Hp → Prop) (R0 : Hp → Prop), (∀ y H4, Rl i (some y) H4 → Same H H4 → R y H4) → (∀ H3, Rl i none H3 → Same H H3 → R0 H3) →
      g x (wipe σ vs) H' fun σ2 H2 => wipe σ2 vs = wipe σ vs ∧ tt σ2 H2 fun b H3 => if b = true then te σ2 H3 R else R0 H3)
    (hd : ∀ H (zs : List (Option V)), Same H1 H → zs.length = n → (∀ i z, zs[i]? = some z → Rl i z H) → H D = some (.lst (zs.filterMap id)) → Qd H) :
    ∃ W : Nat → Nat → Hp → Prop, (∃ m, W 0 m (upd H1 D (.lst []))) ∧ ∀ i m H, W i m H →
      (J.stop i H ∧ Qd H) ∨ (J.go i H ∧ ∃ Nx : Hp → Prop, (∀ H', Nx H' → ∃ m', m' < m ∧ W (i + 1) m' H') ∧ ∀ x H', J.yld i H x H' → g x (wipe σ vs) H' fun σ2 H2 => wipe σ2 vs = wipe σ vs ∧ tt σ2 H2 fun b H3 =>
        if b = true then te σ2 H3 fun y H4 => ∃ acc, H4 D = some (.lst acc) ∧ acc.length < sizeLine ∧ Nx (upd H4 D (.lst (acc ++ [y]))) else Nx H3) := by
  have fl : ∀ zs : List (Option V), (zs.filterMap id).length ≤ zs.length := fun zs => List.length_filterMap_le _ _
  have get_app : ∀ (zs : List (Option V)) (z : Option V) (j : Nat) (y : Option V), (zs ++ [z])[j]? = some y → zs[j]? = some y ∨ (j = zs.length ∧ y = z) := fun zs z j y h => by
    by_cases hj : j < zs.length
    · rw [List.getElem?_append_left hj] at h
      exact .inl h
    · rw [List.getElem?_append_right (by omega)] at h
      have hj2 : j - zs.length = 0 := by
        cases e : j - zs.length with
        | zero => rfl
        | succ k => rw [e] at h; simp at h
      rw [hj2] at h
      exact .inr ⟨by omega, (Option.some.inj h).symm⟩
  refine lc_it w (fun i H => ∃ zs : List (Option V), zs.length = i ∧ Same H1 H ∧ (∀ j z, zs[j]? = some z → Rl j z H) ∧ H D = some (.lst (zs.filterMap id)))
    ⟨[], rfl, same_new hD, fun j z h => by simp at h, upd_same⟩ (fun i H _ ⟨_, _, s, _⟩ => hG H s) ?_ (fun H ⟨zs, l, s, r, e⟩ => hd H zs s l r e)
  rintro i x H H' hi ⟨zs, l, s, r, e⟩ hy
  refine hs i x H H' hi s hy _ _ (fun y H4 hr s4 => ?_) (fun H3 hr s3 => ?_)
  · refine ⟨zs.filterMap id, s4 _ _ e, sizeLine_of (by have := fl zs; omega), zs ++ [some y], by rw [List.length_append, l]; rfl, same_mut (s.trans s4) hD, fun j z h => ?_, ?_⟩
    · have im : Imm H (upd H4 D (.lst (zs.filterMap id ++ [y]))) := s4.imm.mut (s4 _ _ e) rfl
      have im4 : Imm H4 (upd H4 D (.lst (zs.filterMap id ++ [y]))) := Imm.refl.mut (s4 _ _ e) rfl
      rcases get_app zs _ j z h with h | ⟨rfl, rfl⟩
      · exact mono j z _ _ im (r j z h)
      · rw [l]
        exact mono i _ _ _ im4 hr
    · rw [upd_same, List.filterMap_append]
      rfl
  · refine ⟨zs ++ [none], by rw [List.length_append, l]; rfl, s.trans s3, fun j z h => ?_, ?_⟩
    · rcases get_app zs _ j z h with h | ⟨rfl, rfl⟩
      · exact mono j z _ _ s3.imm (r j z h)
      · rw [l]
        exact hr
    · rw [s3 _ _ e, List.filterMap_append]
      simp
/-- .. of values that a function tells -/
theorem lc_fn {J : It} {n : Nat} {G : Hp → Prop} {Y : Nat → Hp → V → Hp → Prop} (w : Walk J n G Y) {g : TG} {tt : TT} {te : TE} {vs : List Nat} {σ : St} {D : Addr} {Qd : Hp → Prop} (hn : n ≤ 1000000) (hD : H1 D = none)
    (f : Nat → Option V) (hG : ∀ H, Same H1 H → G H)
    (hs : ∀ i x H H', i < n → Same H1 H → Y i H x H' → ∀ (R : V → Hp → Prop) (R0 : Hp → Prop), (∀ y H4, f i = some y → Same H H4 → R y H4) → (∀ H3, f i = none → Same H H3 → R0 H3) →
      g x (wipe σ vs) H' fun σ2 H2 => wipe σ2 vs = wipe σ vs ∧ tt σ2 H2 fun b H3 => if b = true then te σ2 H3 R else R0 H3)
    (hd : ∀ H, Same H1 H → H D = some (.lst ((List.range n).filterMap f)) → Qd H) :
    ∃ W : Nat → Nat → Hp → Prop, (∃ m, W 0 m (upd H1 D (.lst []))) ∧ ∀ i m H, W i m H →
      (J.stop i H ∧ Qd H) ∨ (J.go i H ∧ ∃ Nx : Hp → Prop, (∀ H', Nx H' → ∃ m', m' < m ∧ W (i + 1) m' H') ∧ ∀ x H', J.yld i H x H' → g x (wipe σ vs) H' fun σ2 H2 => wipe σ2 vs = wipe σ vs ∧ tt σ2 H2 fun b H3 =>
        if b = true then te σ2 H3 fun y H4 => ∃ acc, H4 D = some (.lst acc) ∧ acc.length < sizeLine ∧ Nx (upd H4 D (.lst (acc ++ [y]))) else Nx H3) := by
  refine lc_rel w hn hD (fun i z _ => f i = z) (fun _ _ _ _ _ h => h) hG hs fun H zs s l r e => hd H s ?_
  have ez : zs = (List.range n).map f := by
    apply List.ext_getElem?
    intro i
    rw [List.getElem?_map]
    cases h : zs[i]? with
    | none =>
      rw [List.getElem?_eq_none_iff] at h
      rw [List.getElem?_eq_none (by rw [List.length_range]; omega)]
      rfl
    | some z =>
      have hi := (List.getElem?_eq_some_iff.mp h).1
      rw [List.getElem?_range (by omega)]
      exact (congrArg some (r i z h)).symm
  rw [e, ez, List.filterMap_map]
  rfl
/-- .. without a test -/
theorem lc_map {J : It} {n : Nat} {G : Hp → Prop} {Y : Nat → Hp → V → Hp → Prop} (w : Walk J n G Y) {g : TG} {te : TE} {vs : List Nat} {σ : St} {D : Addr} {Qd : Hp → Prop} (hn : n ≤ 1000000) (hD : H1 D = none)
    (f : Nat → V) (hG : ∀ H, Same H1 H → G H)
    (hs : ∀ i x H H', i < n → Same H1 H → Y i H x H' → ∀ R : V → Hp → Prop, (∀ H4, Same H H4 → R (f i) H4) → g x (wipe σ vs) H' fun σ2 H2 => wipe σ2 vs = wipe σ vs ∧ te σ2 H2 R)
    (hd : ∀ H, Same H1 H → H D = some (.lst ((List.range n).map f)) → Qd H) (hg : ∀ x σ H (A B : St → Hp → Prop), (∀ σ2 H2, A σ2 H2 → B σ2 H2) → g x σ H A → g x σ H B) :
    ∃ W : Nat → Nat → Hp → Prop, (∃ m, W 0 m (upd H1 D (.lst []))) ∧ ∀ i m H, W i m H →
      (J.stop i H ∧ Qd H) ∨ (J.go i H ∧ ∃ Nx : Hp → Prop, (∀ H', Nx H' → ∃ m', m' < m ∧ W (i + 1) m' H') ∧ ∀ x H', J.yld i H x H' → g x (wipe σ vs) H' fun σ2 H2 => wipe σ2 vs = wipe σ vs ∧ tYes σ2 H2 fun b H3 =>
        if b = true then te σ2 H3 fun y H4 => ∃ acc, H4 D = some (.lst acc) ∧ acc.length < sizeLine ∧ Nx (upd H4 D (.lst (acc ++ [y]))) else Nx H3) := by
  refine lc_fn w hn hD (fun i => some (f i)) hG (fun i x H H' hi s hy R R0 r1 r0 => hg _ _ _ _ _ (fun σ2 H2 h => ⟨h.1, ?_⟩) (hs i x H H' hi s hy R fun H4 s4 => r1 _ _ rfl s4)) (fun H s e => hd H s (by rw [e, List.filterMap_eq_map']))
  show (if true = true then te σ2 H2 R else R0 H2)
  rw [if_pos rfl]
  exact h.2
theorem gName_mono {k : Nat} : ∀ (x : V) (σ : St) (H : Hp) (A B : St → Hp → Prop), (∀ σ2 H2, A σ2 H2 → B σ2 H2) → gName k x σ H A → gName k x σ H B := fun _ _ _ _ _ h a => h _ _ a
theorem range_get {α : Type} (l : List α) : (List.range l.length).filterMap (fun i => l[i]?) = l := by
  induction l with
  | nil => rfl
  | cons x r ih =>
    rw [List.length_cons, List.range_succ_eq_map, List.filterMap_cons]
    show x :: _ = _
    rw [List.filterMap_map]
    exact congrArg (x :: ·) ih
theorem range_map {α β : Type} (l : List α) (f : α → β) (g : Nat → β) (h : ∀ i x, l[i]? = some x → g i = f x) : (List.range l.length).map g = l.map f := by
  apply List.ext_getElem?
  intro i
  rw [List.getElem?_map, List.getElem?_map]
  cases e : l[i]? with
  | none =>
    rw [List.getElem?_eq_none_iff] at e
    rw [List.getElem?_eq_none (by rw [List.length_range]; omega)]
    rfl
  | some x =>
    rw [List.getElem?_range (List.getElem?_eq_some_iff.mp e).1]
    exact congrArg some (h i x e)
theorem range_fm {α β : Type} (l : List α) (f : α → Option β) (g : Nat → Option β) (h : ∀ i x, l[i]? = some x → g i = f x) : (List.range l.length).filterMap g = l.filterMap f := by
  have e : (List.range l.length).map g = l.map f := range_map l f g h
  have e1 : (List.range l.length).filterMap g = ((List.range l.length).map g).filterMap id := by rw [List.filterMap_map]; rfl
  have e2 : l.filterMap f = (l.map f).filterMap id := by rw [List.filterMap_map]; rfl
  rw [e1, e2, e]
end
end My
namespace My
open PySem PySem.Spec PyProof.Rows L2
/-! ### enumerate(tuple): by the library's Draws -/
def IteT (K : PySem.W.Frag) (a : Addr) : It :=
  ⟨fun i H => ∃ (xs : List V) (x : V), SqT K H a xs ∧ xs[i]? = some x,
   fun i H v H' => ∃ T x, v = .ref T ∧ H T = none ∧ H' = upd H T (.tup [.int (i : Nat), x]) ∧ ∀ xs, SqT K H a xs → xs[i]? = some x,
   fun i H => ∃ xs : List V, SqT K H a xs ∧ xs.length = i⟩
theorem turn_enumT {P : Program} {w : World} {K : PySem.W.Frag} {elts : List Expr} {kk : Nat} {tpos : Pos} (a e it : Addr) (hei : e ≠ it) (hea : e ≠ a) (hai : a ≠ it) :
    Turn P w K (.Tuple elts kk tpos) (IteT K a) [e, it] e (fun i h => (∃ old, IsEnum h e it ((i : Nat) : Int) old) ∧ h.IsTupleIter it a i) where
  mem := by simp
  obj := fun i h st b hb => by
    obtain ⟨⟨old, he⟩, ⟨o, ho, hc, hd⟩⟩ := st
    rcases (by simpa using hb : b = e ∨ b = it) with rfl | rfl
    · exact ⟨_, he, fun v q => nomatch q⟩
    · exact ⟨o, ho, fun v q => by rw [hd] at q; cases q⟩
  keep := fun i h h' st k => by
    obtain ⟨⟨old, he⟩, hi⟩ := st
    exact ⟨⟨old, k e (by simp) _ he⟩, hi.at fun o q => k it (by simp) o q⟩
  item := by
    intro X hP hw hK hc i pins s σ H E I hf st hg
    subst hP hw hK
    obtain ⟨⟨old, he⟩, hit⟩ := st
    obtain ⟨xs, x, hq, hx⟩ := hg
    obtain ⟨its, rv, p, hz⟩ := I.tuple hq
    obtain ⟨u, hu, ru⟩ := rv.get hx
    have lt_e : e < s.heap.objs.size := Heap.lt_size he
    have lt_i : it < s.heap.objs.size := by
      obtain ⟨_, q, _⟩ := hit
      exact Heap.lt_size q
    have hlt : i < its.toArray.size := by
      have := (List.getElem?_eq_some_iff.mp hu).1
      simpa using this
    have D : Draws X.prog X.w X.A.in1 it [it, a] its.toArray.size (fun i v => its.toArray[i]? = some v) (fun i h => h.IsTupleIter it a i ∧ h.IsTuple a its.toArray) :=
      Draws.tuple (show X.A.in1.handled = none from I.ok.hd hc) it a hai its.toArray
    refine wpAny_pyNext_enum_itemD D he ⟨hit, p⟩ hlt hei (by simp [hei, hea]) fun x' h' tk hx' ho hst' hT hsz hk => ?_
    obtain rfl : x' = u := by
      have e1 : its.toArray[i]? = some u := by simpa using hu
      exact Option.some.inj (hx'.symm.trans e1)
    refine ⟨_, rfl, wpAny_letOwnedTupleGo_enum (s := { s with heap := h', toks := tk + 1 }) ho fun h'' he' sb => ?_⟩
    have hT2 := (sb.2 _ (Nat.ne_of_gt lt_e)).trans hT
    have new : ObjOk X.prog X.w (upd H s.heap.objs.size (.tup [.int (i : Nat), x])) h'' s.heap.objs.size (.tup [.int (i : Nat), x]) :=
      ⟨by show 2 ≤ sizeLine; decide, [.int i tk, x'], .cons ⟨_, rfl⟩ (.cons ru .nil), ⟨_, hT2, rfl, _, rfl⟩⟩
    have I1 : Inv X pins σ (upd H s.heap.objs.size (.tup [.int (i : Nat), x])) { s with heap := h'', toks := tk + 1 } :=
      I.turnedNew (ch := [e, it]) (fun b ob hb q => (sb.2 b (fun z => hb (by simp [z]))).trans (hk b ob (fun z => hb (by simp [z])) (fun z => hb (by simp [z])) q)) hf (Nat.le_refl _) new
    refine ⟨.ref s.heap.objs.size, _, I1, rfl, ⟨_, x, rfl, I.hok.fresh (Nat.le_refl _), rfl, fun ys hy => by rw [I.tuple_inj hy hq]; exact hx⟩, ⟨⟨x', ?_⟩, ?_⟩, fun b hb => ?_⟩
    · have e1 : ((i + 1 : Nat) : Int) = (i : Int) + 1 := by omega
      rw [e1]
      exact he'
    · exact hst'.1.at fun o q => (sb.2 it (Ne.symm hei)).trans q
    · have lt_b : b < s.heap.objs.size := by
        rcases (by simpa using hb : b = e ∨ b = it) with z | z
        · rw [z]; exact lt_e
        · rw [z]; exact lt_i
      rw [upd_ne (Nat.ne_of_lt lt_b)]
      exact (hf b hb).1
  done := by
    intro X hP hw hK hc i pins s σ H E I hf st hg
    subst hP hw hK
    obtain ⟨⟨old, he⟩, hit⟩ := st
    obtain ⟨xs, hq, hx⟩ := hg
    obtain ⟨its, rv, p, hz⟩ := I.tuple hq
    obtain ⟨f0, f1, f2, f3, f4, f5⟩ := hf it (by simp)
    have hl := rv.length
    obtain rfl : i = its.toArray.size := by rw [← hx, hl, List.size_toArray]
    have D : Draws X.prog X.w X.A.in1 it [it, a] its.toArray.size (fun i v => its.toArray[i]? = some v) (fun i h => h.IsTupleIter it a i ∧ h.IsTuple a its.toArray) :=
      Draws.tuple (show X.A.in1.handled = none from I.ok.hd hc) it a hai its.toArray
    exact wpAny_pyNext_enum_endD D he ⟨hit, p⟩ fun h' eb => ⟨rfl, I.turned (t' := s.toks) (fun b o hb q => eb b o hb q) f0 f1 f3 f4 f5⟩
  self := fun A i s Q E st h => let ⟨⟨_, he⟩, _⟩ := st; wpAny_pyIter_enum he h
set_option maxHeartbeats 1000000 in
/-- enumerate(v), whatever v begins with -/
theorem meets_en1 {v : Value} {o : Obj} {H : Heap → Prop} (B : Begins v o H) :
    Meets (Builtin.«enumerate.__new__» ⟨[.type "enumerate", v], []⟩) (fun _ R s => H s.heap ∧
      R (.ok (.ret (.ref (s.heap.push o).objs.size))) { s with heap := (s.heap.push o).push { cls := .type "enumerate", data := .fields #[.none, .bool false, .ref s.heap.objs.size, rawInt 0, .none, .none] } }) :=
  .of_wp fun prog w A R s h => by
    obtain ⟨hp, g, d, tk, os⟩ := s
    obtain ⟨h1, h⟩ := h
    have hs := sub_enumerate
    have q1 : ∀ {A' : Around} {E : Value → Shared → Prop} {Q : Value → Shared → Prop}, Q (.ref hp.objs.size) ⟨hp.push o, g, d, tk, os⟩ → wpAny (model prog w) A' (pyIter v) Q E ⟨hp, g, d, tk, os⟩ :=
      fun q => B.iter prog w _ _ ⟨hp, g, d, tk, os⟩ _ h1 q
    wp_walk using q1
    refine wpAny_stack_any fun st => wpAny_pure ?_
    split
    · rename_i c _ _ _ _ _
      cases (c == Value.type "enumerate") <;> (wp_walk using q1; exact ⟨_, rfl, h⟩)
    · wp_walk using q1
      exact ⟨_, rfl, h⟩
theorem call_en1 {prog : Program} {w : World} {A : Around} {E : Value → Shared → Prop} {s : Shared} {v : Value} {o : Obj} {H : Heap → Prop} {Q : Value → Shared → Prop} (B : Begins v o H) (h1 : H s.heap)
    (h : ∀ h', IsEnum h' (s.heap.objs.size + 1) s.heap.objs.size 0 .none → h'.get? s.heap.objs.size = some o →
      (∀ b o, s.heap.get? b = some o → h'.get? b = some o) → Q (.ref (s.heap.objs.size + 1)) { s with heap := h' }) :
    wpAny (model prog w) A (call (.type "enumerate") [v]) Q E s := by
  refine callType_new F.called_enumerate (by decide) (F.typeCall_enumerate_1 _) (F.newCall_enumerate_1 _) (fun obj => F.args_object_init_2 obj _) F.entry_enumerate_new (meets_en1 B) ⟨h1, ?_⟩
  have hz : (s.heap.push o).objs.size = s.heap.objs.size + 1 := Heap.size_push ..
  show _ ∧ _
  rw [hz]
  have he : IsEnum ((s.heap.push o).push { cls := .type "enumerate", data := .fields #[.none, .bool false, .ref s.heap.objs.size, rawInt 0, .none, .none] }) (s.heap.objs.size + 1) s.heap.objs.size 0 .none := by
    have q := Heap.get?_push_size (s.heap.push o) (o := { cls := .type "enumerate", data := .fields #[.none, .bool false, .ref s.heap.objs.size, rawInt 0, .none, .none] }) rfl
    rw [hz] at q
    exact q
  exact ⟨⟨_, he, rfl⟩, h _ he (Heap.get?_push_of_some _ (Heap.get?_push_size _ B.free)) fun b o x => Heap.get?_push_of_some _ (Heap.get?_push_of_some _ x)⟩
def iEnumT (K : PySem.W.Frag) (ta : TA) : TI := fun σ H R => ta σ H fun vs H1 => ∃ a xs, vs = [.ref a] ∧ SqT K H1 a xs ∧ R (IteT K a) H1
theorem pi_enumT {X : Cx} {e : Expr} {ta : TA} {p pos tpos : Pos} {elts : List Expr} {kk : Nat} (hg : Gl X "enumerate") (hm : X.mg "enumerate" = none) (ha : PA X [e] ta) (hs : starEach [e] X.env = [(false, eval e X.env)] := by rfl) :
    PI X (.Tuple elts kk tpos) (.Call (.Name "enumerate" p) [e] [] pos) (iEnumT X.K ta) := by
  refine ⟨fun pins s σ H R I h => ?_⟩
  refine Call_ (ld_blt I hg hm boot_enumerate (PyProof.Rows.callWith_type1 (thn (ha.run pos pins s σ H _ I h) fun us s1 ⟨vs, H1, I1, r1, q1⟩ => ?_) hs rfl))
  obtain ⟨a, xs, ex, hq, q⟩ := q1
  subst ex
  cases r1 with
  | cons r rr =>
    cases rr
    cases r
    obtain ⟨its, rv, p', hz⟩ := I1.tuple hq
    have lt_a : a < s1.heap.objs.size := by
      obtain ⟨o1, ho1, _⟩ := id p'
      exact Heap.lt_size ho1
    refine call_en1 (begins_tuple a its.toArray) (show s1.heap.IsTuple a its.toArray from p') fun h' he hit hk => wpAny_pyIter_enum he ?_
    have I2 : Inv X pins σ H1 { s1 with heap := h' } := I1.kept (t' := s1.toks) hk
    refine ⟨s1.heap.objs.size + 1, [s1.heap.objs.size + 1, s1.heap.objs.size], _, _, H1, rfl, I2, turn_enumT a (s1.heap.objs.size + 1) s1.heap.objs.size (Nat.succ_ne_self _) (fun z => absurd lt_a (by rw [← z]; exact Nat.not_lt_of_le (Nat.le_succ _))) (Nat.ne_of_lt lt_a), ⟨⟨.none, he⟩, ⟨_, hit, rfl, rfl⟩⟩, fun b hb => ?_, q⟩
    have hle : s1.heap.objs.size ≤ b := by
      rcases (by simpa using hb : b = s1.heap.objs.size + 1 ∨ b = s1.heap.objs.size) with z | z
      · rw [z]; exact Nat.le_add_right _ _
      · rw [z]; exact Nat.le_refl _
    exact I1.fpOk hle (I1.hok.fresh hle)
theorem walk_enumT {K : PySem.W.Frag} {a : Addr} {xs : List V} : Walk (IteT K a) xs.length (fun H => SqT K H a xs) (YPair (fun i => some (.int (i : Nat))) (fun i => xs[i]?)) := by
  refine ⟨fun i _ hi q => ⟨xs, xs[i], q, by simp [hi]⟩, fun _ q => ⟨xs, q, rfl⟩, fun i H v H' _ q y => ?_⟩
  obtain ⟨T, x, h1, h2, h3, h4⟩ := y
  exact ⟨T, .int (i : Nat), x, h1, h2, h3, rfl, h4 xs q⟩
theorem walk_zipT {K : PySem.W.Frag} {a b : Addr} {xs ys : List V} {n : Nat} (hn : n = min xs.length ys.length) : Walk (RZ.ItzT K a b) n (fun H => SqT K H a xs ∧ SqT K H b ys) (YPair (fun i => xs[i]?) (fun i => ys[i]?)) := by
  subst hn
  refine ⟨fun i _ hi q => ?_, fun _ q => ⟨xs, ys, q.1, q.2, by omega⟩, fun i H v H' _ q y => ?_⟩
  · exact ⟨xs, ys, xs[i], ys[i], q.1, q.2, List.getElem?_eq_getElem (by omega), List.getElem?_eq_getElem (by omega)⟩
  · obtain ⟨T, x, z, h1, h2, h3, h4, h5⟩ := y
    exact ⟨T, x, z, h1, h2, h3, h4 xs q.1, h5 ys q.2⟩
/-- the class of a tuple -/
theorem ty_tup {K : PySem.W.Frag} {H : Hp} {a : Addr} {xs : List V} (h : SqT K H a xs) : TyX K H (.ref a) (.type "tuple") := by
  rcases h with (h | ⟨u, h⟩) | ⟨o, its, n, hk, hc, _⟩
  · exact .base (.tup h)
  · exact .fTuple h
  · exact .kTuple hk hc
end My
namespace My
open PySem L2
section
variable {K : PySem.W.Frag} {H H' : Hp} {a b : Addr}
/-! ### data that stands: what == asks -/
theorem dpAll_ints : ∀ ns : List Int, DpAll K H (ns.map V.int) (ns.map PyData.int)
  | [] => .nil
  | n :: r => .cons (.int n) (dpAll_ints r)
theorem dpAll_strs : ∀ ws : List Str, DpAll K H (ws.map V.str) (ws.map PyData.str)
  | [] => .nil
  | x :: r => .cons (.str x) (dpAll_strs r)
theorem dp_tInts {ns : List Int} (h : SqT K H a (ns.map V.int)) : Dp K H (.ref a) (.tuple (ns.map PyData.int)) := .tup h (dpAll_ints ns)
theorem dp_lInts {ns : List Int} (h : SqL K H a (ns.map V.int)) : Dp K H (.ref a) (.list (ns.map PyData.int)) := .lst h (dpAll_ints ns)
theorem dp_tStrs {ws : List Str} (h : SqT K H a (ws.map V.str)) : Dp K H (.ref a) (.tuple (ws.map PyData.str)) := .tup h (dpAll_strs ws)
theorem dp_lStrs {ws : List Str} (h : SqL K H a (ws.map V.str)) : Dp K H (.ref a) (.list (ws.map PyData.str)) := .lst h (dpAll_strs ws)
theorem dp_nil (h : SqT K H a []) : Dp K H (.ref a) (.tuple []) := .tup h .nil
theorem can_ints : ∀ ns : List Int, PyData.canLayAll0 (ns.map PyData.int) = true
  | [] => rfl
  | _ :: r => can_ints r
theorem dep_ints : ∀ ns : List Int, PyData.depthAll (ns.map PyData.int) = 0
  | [] => rfl
  | _ :: r => by
    show max 0 (PyData.depthAll (r.map PyData.int)) = 0
    rw [dep_ints r]
    rfl
theorem sh_tInts (ns : List Int) : SeqAt.shaped (.tuple (ns.map PyData.int)) = true := by
  show (PyData.canLayAll0 (ns.map PyData.int) && decide (PyData.depthAll (ns.map PyData.int) + 1 ≤ 64)) = true
  rw [can_ints, dep_ints]
  rfl
theorem sh_lInts (ns : List Int) : SeqAt.shaped (.list (ns.map PyData.int)) = true := by
  show (PyData.canLayAll0 (ns.map PyData.int) && decide (PyData.depthAll (ns.map PyData.int) + 1 ≤ 64)) = true
  rw [can_ints, dep_ints]
  rfl
theorem can_strs : ∀ ws : List Str, (∀ x ∈ ws, PyData.strOk x = true) → PyData.canLayAll0 (ws.map PyData.str) = true
  | [], _ => rfl
  | x :: r, h => by
    show (PyData.strOk x && PyData.canLayAll0 (r.map PyData.str)) = true
    rw [h x (List.mem_cons_self ..), can_strs r fun y hy => h y (List.mem_cons_of_mem _ hy)]
    rfl
theorem dep_strs : ∀ ws : List Str, PyData.depthAll (ws.map PyData.str) = 0
  | [] => rfl
  | _ :: r => by
    show max 0 (PyData.depthAll (r.map PyData.str)) = 0
    rw [dep_strs r]
    rfl
theorem sh_tStrs (ws : List Str) (h : ∀ x ∈ ws, PyData.strOk x = true) : SeqAt.shaped (.tuple (ws.map PyData.str)) = true := by
  show (PyData.canLayAll0 (ws.map PyData.str) && decide (PyData.depthAll (ws.map PyData.str) + 1 ≤ 64)) = true
  rw [can_strs ws h, dep_strs]
  rfl
theorem sh_lStrs (ws : List Str) (h : ∀ x ∈ ws, PyData.strOk x = true) : SeqAt.shaped (.list (ws.map PyData.str)) = true := by
  show (PyData.canLayAll0 (ws.map PyData.str) && decide (PyData.depthAll (ws.map PyData.str) + 1 ≤ 64)) = true
  rw [can_strs ws h, dep_strs]
  rfl
theorem eqv_ints : ∀ ns ms : List Int, PyData.eqvAll (ns.map PyData.int) (ms.map PyData.int) = decide (ns = ms)
  | [], [] => rfl
  | [], _ :: _ => rfl
  | _ :: _, [] => rfl
  | n :: r, m :: q => by
    show ((n == m) && PyData.eqvAll (r.map PyData.int) (q.map PyData.int)) = _
    rw [eqv_ints r q]
    by_cases e : n = m
    · subst e
      by_cases e2 : r = q
      · subst e2
        simp
      · rw [decide_eq_false e2, decide_eq_false (fun z => e2 (List.cons.inj z).2), Bool.and_false]
    · rw [decide_eq_false (fun z => e (List.cons.inj z).1), beq_eq_false_iff_ne.mpr e, Bool.false_and]
theorem eqv_strs : ∀ ns ms : List Str, PyData.eqvAll (ns.map PyData.str) (ms.map PyData.str) = decide (ns = ms)
  | [], [] => rfl
  | [], _ :: _ => rfl
  | _ :: _, [] => rfl
  | n :: r, m :: q => by
    show ((n == m) && PyData.eqvAll (r.map PyData.str) (q.map PyData.str)) = _
    rw [eqv_strs r q]
    by_cases e : n = m
    · subst e
      by_cases e2 : r = q
      · subst e2
        simp
      · rw [decide_eq_false e2, decide_eq_false (fun z => e2 (List.cons.inj z).2), Bool.and_false]
    · rw [decide_eq_false (fun z => e (List.cons.inj z).1), beq_eq_false_iff_ne.mpr e, Bool.false_and]
end
end My
namespace My
open PySem PySem.Spec PyProof.Rows L2
/-! ### max(xs, default=d) -/
def maxOr (d : Int) : List Int → Int
  | [] => d
  | x :: r => r.foldl max x
def rMaxD (K : PySem.W.Frag) : List V → List V → Hp → VK → Prop := fun vs zs H Q => ∃ (a : Addr) (ns : List Int) (d : Int), vs = [.ref a] ∧ zs = [.int d] ∧ SqL K H a (ns.map V.int) ∧ Q (.int (maxOr d ns)) H
theorem cr_maxD {X : Cx} (hc : X.calm = true) (hu : X.A.units + 64 < cLine) : CallRK X (.builtin "max") [Str.ofString "default"] (rMaxD X.K) := by
  intro pins s σ H vs zs us ws Q I r rz h
  obtain ⟨a, ns, d, rfl, rfl, hs, q⟩ := h
  obtain rfl := Vals.ref1 r
  obtain ⟨w1, rfl, t, rfl⟩ := vals1 rz
  obtain ⟨its, rv, hl, hz⟩ := I.list hs
  obtain ⟨as, hr⟩ := Dp.readsAll I (ns.map PyData.int) _ its (dpAll_ints ns) rv
  have al : PySem.W.AlikeAll (ns.map PyData.int) := by
    constructor
    · intro x hx y hy
      obtain ⟨i, _, rfl⟩ := List.mem_map.mp hx
      obtain ⟨j, _, rfl⟩ := List.mem_map.mp hy
      rfl
    · intro x hx
      obtain ⟨i, _, rfl⟩ := List.mem_map.mp hx
      intro z
      cases z
  refine PySem.W.max_list_default (I.ok.hd hc) hl.isList (by simpa using hr) al (by rw [dep_ints]; omega) (fun e h' tk hk => ?_) (fun y ys i v h' tk bs e hv hR hk => ?_)
  · have e' : ns = [] := List.map_eq_nil_iff.mp e
    subst e'
    exact ⟨.int d, H, I.kept hk, ⟨_, rfl⟩, q⟩
  · cases ns with
    | nil => cases e
    | cons n r =>
      obtain ⟨rfl, rfl⟩ := List.cons.inj e
      rw [PySem.W.maxD_ints] at hR
      cases hR with
      | int j t => exact ⟨.int _, H, I.kept hk, ⟨_, rfl⟩, q⟩
theorem maxOr_ge {d : Int} : ∀ {ns : List Int} {y : Int}, y ∈ ns → y ≤ maxOr d ns
  | x :: r, y, h => by
    have key : ∀ (r : List Int) (x y : Int), (y = x ∨ y ∈ r) → y ≤ r.foldl max x := by
      intro r
      induction r with
      | nil =>
        intro x y h
        rcases h with rfl | h
        · exact Int.le_refl _
        · cases h
      | cons z r ih =>
        intro x y h
        show y ≤ r.foldl max (max x z)
        rcases h with rfl | h
        · exact Int.le_trans (Int.le_max_left _ _) (ih _ _ (.inl rfl))
        · rcases List.mem_cons.mp h with rfl | h
          · exact Int.le_trans (Int.le_max_right _ _) (ih _ _ (.inl rfl))
          · exact ih _ _ (.inr h)
    exact key r x y (List.mem_cons.mp h)
theorem maxOr_mem {d : Int} : ∀ {ns : List Int}, ns ≠ [] → maxOr d ns ∈ ns
  | [], h => absurd rfl h
  | x :: r, _ => by
    have key : ∀ (r : List Int) (x : Int), r.foldl max x = x ∨ r.foldl max x ∈ r := by
      intro r
      induction r with
      | nil => exact fun x => .inl rfl
      | cons z r ih =>
        intro x
        show r.foldl max (max x z) = x ∨ r.foldl max (max x z) ∈ z :: r
        rcases ih (max x z) with e | e
        · rw [e]
          rcases Int.le_total x z with h | h
          · rw [Int.max_eq_right h]
            exact .inr (List.mem_cons_self ..)
          · rw [Int.max_eq_left h]
            exact .inl rfl
        · exact .inr (List.mem_cons_of_mem _ e)
    rcases key r x with e | e
    · show r.foldl max x ∈ x :: r
      rw [e]
      exact List.mem_cons_self ..
    · exact List.mem_cons_of_mem _ e
end My
namespace My
open PySem PySem.Spec PyProof.Rows L2
/-! ### rules with the written part told (for blocks of comprehensions) -/
section
variable {X : Cx} {K : PySem.W.Frag}
theorem ix_listK (h : X.K = K) : IxR X (rIxL K) := by
  subst h
  exact ix_list
theorem ix_tupK (h : X.K = K) : IxR X (rIxT K) := by
  subst h
  exact ix_tup
theorem ix_seqK (h : X.K = K) : IxR X (rIx K) := by
  subst h
  exact ix_seq
theorem op_in_seqK (h : X.K = K) : OpR X (compareOp .In) (rIn K false) := by
  subst h
  exact op_in_seq
theorem op_notIn_seqK (h : X.K = K) : OpR X (compareOp .NotIn) (rIn K true) := by
  subst h
  exact op_notIn_seq
theorem op_eqDK (h : X.K = K) (hu : X.A.units + 64 < cLine) : OpR X (compareOp .Eq) (rEqD K) := by
  subst h
  exact op_eqD hu
theorem op_neDK (h : X.K = K) (hu : X.A.units + 64 < cLine) : OpR X (compareOp .NotEq) (rNeD K) := by
  subst h
  exact op_neD hu
theorem call_len_seqK (h : X.K = K) : CallR X (.builtin "len") (fun xs H Q => ∃ p ys, xs = [.ref p] ∧ (SqL K H p ys ∨ SqT K H p ys) ∧ Q (.int ys.length) H) := by
  subst h
  exact call_len_seq
theorem call_list_ofK (h : X.K = K) : CallR X (.type "list") (fun xs H Q => ∃ p ys, xs = [.ref p] ∧ (SqL K H p ys ∨ SqT K H p ys) ∧ ∀ l, H l = none → Q (.ref l) (upd H l (.lst ys))) := by
  subst h
  exact call_list_of
theorem call_tuple_ofK (h : X.K = K) : CallR X (.type "tuple") (fun xs H Q => ∃ p ys, xs = [.ref p] ∧ ((SqL K H p ys ∧ ∀ l, H l = none → Q (.ref l) (upd H l (.tup ys))) ∨ (SqT K H p ys ∧ Q (.ref p) H))) := by
  subst h
  exact call_tuple_of
theorem sl_listK (h : X.K = K) : SlR X (rSlL K) := by
  subst h
  exact sl_list
theorem sl_tupAK (h : X.K = K) : SlR X (rSlA K) := by
  subst h
  exact sl_tupA
theorem cr_allK (h : X.K = K) (hc : X.calm = true) : CallR X (.builtin "all") (rAll K) := by
  subst h
  exact cr_all hc
theorem cr_anyK (h : X.K = K) (hc : X.calm = true) : CallR X (.builtin "any") (rAny K) := by
  subst h
  exact cr_any hc
theorem pe_fldK {ta : TE} {e : Expr} {f : Str} {pos : Pos} (h : X.K = K) (he : PE X e ta) (hb : attributeBase e f X.env (eval e X.env) = eval e X.env) : PE X (.Attribute e f pos) (tFld K ta f) := by
  subst h
  exact pe_fld he hb
end
theorem op_catAK {X : Cx} {K : PySem.W.Frag} (h : X.K = K) : OpR X (binaryOp .Add) (rCatA K) := by
  subst h
  exact op_catA
theorem tYes_of {te : TE} {σ : L2.St} {H : Hp} {R : VK} {R0 : Hp → Prop} (h : te σ H R) : tYes σ H fun b H3 => if b = true then te σ H3 R else R0 H3 := by
  show (if true = true then te σ H R else R0 H)
  rw [if_pos rfl]
  exact h
/-! ### enumerate of a list or a tuple -/
def iEnumA (K : PySem.W.Frag) (ta : TA) : TI := fun σ H R => ta σ H fun vs H1 => ∃ a xs, vs = [.ref a] ∧ ∃ H0, Same H0 H1 ∧ (SqL K H0 a xs ∨ SqT K H0 a xs) ∧
  ∀ (J : It) (G : Hp → Prop), Walk J xs.length G (YPair (fun i => some (.int (i : Nat))) (fun i => xs[i]?)) → (∀ H', Same H0 H' → G H') → R J H1
theorem pi_enumA {X : Cx} {e : Expr} {ta : TA} {p pos tpos : Pos} {elts : List Expr} {kk : Nat} (hg : Gl X "enumerate") (hm : X.mg "enumerate" = none) (ha : PA X [e] ta) (hs : starEach [e] X.env = [(false, eval e X.env)] := by rfl) :
    PI X (.Tuple elts kk tpos) (.Call (.Name "enumerate" p) [e] [] pos) (iEnumA X.K ta) := by
  refine ⟨fun pins s σ H R I h => ?_⟩
  refine Call_ (ld_blt I hg hm boot_enumerate (PyProof.Rows.callWith_type1 (thn (ha.run pos pins s σ H _ I h) fun us s1 ⟨vs, H1, I1, r1, q1⟩ => ?_) hs rfl))
  obtain ⟨a, xs, ex, q⟩ := q1
  subst ex
  cases r1 with
  | cons r rr =>
    cases rr
    cases r
    have fr : ∀ b, b ∈ [s1.heap.objs.size + 1, s1.heap.objs.size] → FpOk X pins H1 b := fun b hb => by
      have hle : s1.heap.objs.size ≤ b := by
        rcases (by simpa using hb : b = s1.heap.objs.size + 1 ∨ b = s1.heap.objs.size) with z | z
        · rw [z]; exact Nat.le_add_right _ _
        · rw [z]; exact Nat.le_refl _
      exact I1.fpOk hle (I1.hok.fresh hle)
    obtain ⟨H0, s0, hq0, q0⟩ := q
    rcases hq0 with hq0 | hq0
    · have hq := s0.seq hq0
      have q := q0 _ _ (walk_enum (K := X.K) (a := a) (xs := xs)) fun H' s' => s'.seq hq0
      obtain ⟨its, rv, p', hz⟩ := I1.list hq
      refine call_enumerate_list p'.isList fun h' he hit hsz hk => wpAny_pyIter_enum he ?_
      have I2 : Inv X pins σ H1 { s1 with heap := h' } := I1.kept (t' := s1.toks) hk
      exact ⟨s1.heap.objs.size + 1, [s1.heap.objs.size + 1, s1.heap.objs.size], _, _, H1, rfl, I2, turn_enum a (s1.heap.objs.size + 1) s1.heap.objs.size, ⟨⟨.none, he⟩, hit, Nat.succ_ne_self _⟩, fr, q⟩
    · have hq := s0.seqT hq0
      have q := q0 _ _ (walk_enumT (K := X.K) (a := a) (xs := xs)) fun H' s' => s'.seqT hq0
      obtain ⟨its, rv, p', hz⟩ := I1.tuple hq
      have lt_a : a < s1.heap.objs.size := by
        obtain ⟨o1, ho1, _⟩ := id p'
        exact Heap.lt_size ho1
      refine call_en1 (begins_tuple a its.toArray) (show s1.heap.IsTuple a its.toArray from p') fun h' he hit hk => wpAny_pyIter_enum he ?_
      have I2 : Inv X pins σ H1 { s1 with heap := h' } := I1.kept (t' := s1.toks) hk
      exact ⟨s1.heap.objs.size + 1, [s1.heap.objs.size + 1, s1.heap.objs.size], _, _, H1, rfl, I2, turn_enumT a (s1.heap.objs.size + 1) s1.heap.objs.size (Nat.succ_ne_self _) (fun z => absurd lt_a (by rw [← z]; exact Nat.not_lt_of_le (Nat.le_succ _))) (Nat.ne_of_lt lt_a), ⟨⟨.none, he⟩, ⟨_, hit, rfl, rfl⟩⟩, fr, q⟩
end My
namespace My
open PySem PySem.Spec PyProof.Rows L2
/-! ### set(t) of a tuple of ints, kept as an object -/
theorem nodup_len {α : Type} [DecidableEq α] {ks ns : List α} (h1 : ks.Nodup) (h2 : ns.Nodup) (h : ∀ k, k ∈ ks ↔ k ∈ ns) : ks.length = ns.length :=
  ((List.perm_ext_iff_of_nodup h1 h2).mpr h).length_eq
def rSetTI (K : PySem.W.Frag) (w : World) : List V → Hp → VK → Prop := fun xs H Q => ∃ (l : Addr) (ns : List Int), xs = [.ref l] ∧ SqT K H l (ns.map V.int) ∧ ns.length ≤ 1000 ∧
  ∀ (p : Addr) (ks : List Int), H p = none → ks.Nodup → (∀ k, k ∈ ks ↔ k ∈ ns) → Q (.ref p) (upd H p (SetO w p (fun j => decide (j ∈ ns)) ks.length))
section
variable {X : Cx}
theorem call_setTI (hc : X.calm = true) : CallR X (.type "set") (rSetTI X.K X.w) := by
  intro pins s σ H xs us Q I r h
  obtain ⟨l, ns, rfl, hq, hl, q⟩ := h
  obtain rfl := Vals.ref1 r
  obtain ⟨its, rv, pt, hz⟩ := I.tuple hq
  refine call_set_tupI ns (I.ok.hd hc) (show s.heap.IsTuple l its.toArray from pt) (ints_of_vals rv) (by unfold scanBound; omega) fun h' tk c R hcn k => ?_
  have hn : H s.heap.objs.size = none := I.hok.fresh (Nat.le_refl _)
  obtain ⟨ks, h1, h2, h3⟩ : ∃ ks : List Int, ks.Nodup ∧ (∀ k, k ∈ ks ↔ k ∈ ns) ∧ ks.length = c := by
    obtain ⟨o, es, ep, t, _, _, _, _, nd, hm, _, _, hn, _⟩ := R
    refine ⟨es.toList.map keyOf, nd, fun k => ?_, ?_⟩
    · rw [← hm k, decide_eq_true_eq]
    · rw [List.length_map, Array.length_toList, hn]
  subst h3
  exact ⟨.ref s.heap.objs.size, _, I.laid (t' := tk) k (Nat.le_refl _) (setO_new R), rfl, q _ ks hn h1 h2⟩
/-- len(s) of a set of ints -/
def rLenSO (w : World) : List V → Hp → VK → Prop := fun xs H Q => ∃ (a : Addr) (S : Int → Bool) (n : Nat), xs = [.ref a] ∧ H a = some (SetO w a S n) ∧ n ≤ 4000 ∧ Q (.int n) H
theorem call_lenSO : CallR X (.builtin "len") (rLenSO X.w) := by
  intro pins s σ H xs us Q I r h
  obtain ⟨a, S, n, rfl, ha, hl, q⟩ := h
  obtain rfl := Vals.ref1 r
  obtain ⟨o, es, ep, t, ho, hex, hd, _, _, _, _, hf, hn, _⟩ := setO_get I ha
  exact call_len_set ho hex hd hf (by rw [hn]; omega) ⟨.int n, H, I.tok _, ⟨_, by rw [hn]⟩, q⟩
theorem call_setTIK {K : PySem.W.Frag} {w : World} (h : X.K = K) (h2 : X.w = w) (hc : X.calm = true) : CallR X (.type "set") (rSetTI K w) := by
  subst h h2
  exact call_setTI hc
end
end My
namespace My
open PySem L2
/-! ### o[i] and len(o) by own methods -/
section
variable {X : Cx}
def inCx (X : Cx) : Cx := { X with A := X.A.in1 }
theorem ok_in (o : X.Ok) : (inCx X).Ok := ⟨o.mod, o.kind, o.glob, o.blt, o.above, o.inj, o.has, o.cab, o.hd, o.frames, o.stk, o.exf, o.bs, o.bsz, o.noex, o.exfs, o.funs, o.frf⟩
theorem ok_out (n : (inCx X).Ok) : X.Ok := ⟨n.mod, n.kind, n.glob, n.blt, n.above, n.inj, n.has, n.cab, n.hd, n.frames, n.stk, n.exf, n.bs, n.bsz, n.noex, n.exfs, n.funs, n.frf⟩
theorem inv_in {pins : List (Addr × Obj)} {σ : St} {H : Hp} {s : Shared} (I : L2.Inv X pins σ H s) : L2.Inv (inCx X) pins σ H s := ⟨ok_in I.ok, I.os, I.bare, I.base, I.loc, I.cell, I.free, I.freeC, I.pin, I.hok, I.len⟩
theorem inv_out {pins : List (Addr × Obj)} {σ : St} {H : Hp} {s : Shared} (I : L2.Inv (inCx X) pins σ H s) : L2.Inv X pins σ H s := ⟨ok_out I.ok, I.os, I.bare, I.base, I.loc, I.cell, I.free, I.freeC, I.pin, I.hok, I.len⟩
theorem passes_in {CX : CXT} {E : XK} (p : Passes CX X E) : Passes CX (inCx X) E := fun pins σ H s e s' I c => p pins σ H s e s' (inv_out I) c
def tItem (C : Addr) (sp : Sp) (E : XK) (ta tb : TE) : TE := fun σ H Q => ta σ H fun x H1 => tb σ H1 fun y H2 => ∃ (a dx : Addr) (fs : List (Str × V)), x = .ref a ∧ H2 a = some (.ins C dx fs) ∧ sp [.ref a, y] H2 Q E
theorem pe_item {CX : CXT} {k : Nat} {f C : Addr} {fd : FuncData} {ps : List Str} {sp : Sp} {E : XK} {ta tb : TE} {a b : PySem.Expr} {pos : Pos} (ha : PE X a ta) (hb : PE X b tb) (m : Meth X.K C "__getitem__" f) (fi : W.fnIn X.K f = true)
    (F : FnOk X.prog X.w X.K X.mg X.base CX k f fd ps sp) (hr : Room (k + 1) X.A) (bd : Binds X.K fd ps []) (px : Passes CX X E)
    (hs : ∀ (x : Addr) (i : Value), subscripted b true (.ref x) i = runValue (Code.builtin "lifetime.subscript" { pos := [.ref x, i] }) := by intros; with_unfolding_all rfl) : PE X (.Subscript a b pos) (tItem C sp E ta tb) := by
  refine ⟨fun pins s σ H Q I h => ?_⟩
  refine PyProof.Rows.Subscript_ (thn (ha.run pins s σ H _ I h) fun u s1 ⟨x, H1, I1, rx, q1⟩ => ?_)
  refine thn (hb.run pins s1 σ H1 _ I1 q1) fun v s2 ⟨y, H2, I2, ry, q2⟩ => ?_
  obtain ⟨p, dx, fs, rfl, hp, hsp⟩ := q2
  obtain rfl : u = .ref p := rx
  obtain ⟨mm, fr⟩ := I2.fr
  obtain ⟨mA, om, _⟩ := ins_get I2.hok hp
  obtain ⟨od, ia, _⟩ := om.look
  refine W.sub_K fr I2.ok.mod.kin ia m.at_ fi m.fn ?_ (hs p v)
  have q := run_fn (X := inCx X) F hr.in1 bd .nil (passes_in px) (inv_in I2) (vs := [.ref p, y]) (.cons rfl (.cons ry .nil)) (Q := Q) (by rw [List.append_nil]; exact hsp)
  exact thn q fun z s3 ⟨v3, H3, I3, r3, q3⟩ => ⟨v3, H3, inv_out I3, r3, q3⟩
theorem call_lenOwn {CX : CXT} {k : Nat} {f C : Addr} {fd : FuncData} {ps : List Str} {sp : Sp} {E : XK} (m : Meth X.K C "__len__" f)
    (F : FnOk X.prog X.w X.K X.mg X.base CX k f fd ps sp) (hr : Room (k + 1) X.A) (bd : Binds X.K fd ps []) (px : Passes CX X E) :
    CallR X (.builtin "len") (fun xs H Q => ∃ (a dx : Addr) (fs : List (Str × V)), xs = [.ref a] ∧ H a = some (.ins C dx fs) ∧ sp [.ref a] H (fun v H' => ∃ n : Int, v = .int n ∧ 0 ≤ n ∧ n < 2 ^ 63 ∧ Q (.int n) H') E) := by
  intro pins s σ H xs us Q I r h
  obtain ⟨p, dx, fs, rfl, hp, hsp⟩ := h
  obtain rfl := Vals.ref1 r
  obtain ⟨mm, fr⟩ := I.fr
  obtain ⟨mA, om, _⟩ := ins_get I.hok hp
  obtain ⟨od, ia, _⟩ := om.look
  refine W.len_K fr I.ok.mod.kin ia m.at_ m.fn ?_
  have q := run_fn (X := inCx X) F hr.in1 bd .nil (passes_in px) (inv_in I) (vs := [.ref p]) (.cons rfl .nil) (Q := fun v H' => ∃ n : Int, v = .int n ∧ 0 ≤ n ∧ n < 2 ^ 63 ∧ Q (.int n) H') (by rw [List.append_nil]; exact hsp)
  refine thn q fun z s3 ⟨v3, H3, I3, r3, q3⟩ => ?_
  obtain ⟨n, rfl, h0, h1, hq⟩ := q3
  obtain ⟨t, rfl⟩ := r3
  exact ⟨⟨h0, h1⟩, .int n, H3, (inv_out I3).tok _, ⟨_, rfl⟩, hq⟩
end
end My
namespace My
open PySem PySem.Spec PyProof.Rows L2
/-! ### sets of one kind, led: what they hold, that their places rise -/
section
variable {P : Program} {w : World} {κ : Type} [DecidableEq κ] {knd : KeyKind P w κ} {A : Around} {E : Value → Shared → Prop} {s : Shared} {a : Addr}
def Apart (knd : KeyKind P w κ) (e e' : Int × Value) : Prop := ∀ k, knd.is k e.snd = true → knd.is k e'.snd = true → False
def SetG (knd : KeyKind P w κ) (h : Heap) (a : Addr) (S : κ → Bool) (n : Nat) : Prop := ∃ o es ep t, h.get? a = some o ∧ o.ExactSet ∧ o.data = Data.set es ep t ∧ ElemsOf knd es.toList ∧ (∀ k, S k = true ↔ ∃ e, e ∈ es.toList ∧ knd.is k e.snd = true) ∧
  es.toList.Pairwise (Apart knd) ∧ es.size < scanBound ∧ t.fits es.size = true ∧ es.size = n ∧ Ris t.place.toList ∧ (w.params.followText "set-order" = true ∨ t.led = true)
theorem put_data {o : Obj} {es es' : Array (Int × Value)} {ep : Nat} {t t' : SetTable} (h : o.data = Data.set es ep t) (x : o.ExactSet) : (Obj.putSet es' t' o).data = Data.set es' (ep + 1) t' ∧ (Obj.putSet es' t' o).ExactSet ∧ (Obj.putSet es' t' o).isFreed = false := by
  obtain ⟨c, d, dt, sl⟩ := o
  obtain rfl : dt = Data.set es ep t := h
  exact ⟨rfl, x, rfl⟩
theorem same_put {h : Heap} {f : Obj → Obj} : Heap.SameBut a h (h.update a f) := ⟨Heap.size_update .., fun b n => Heap.get?_update_ne h b a f n⟩
theorem apart_perm {l l' : List (Int × Value)} (p : l.Perm l') (h : l'.Pairwise (Apart knd)) : l.Pairwise (Apart knd) :=
  (p.symm.pairwise_iff (fun {x y} (q : Apart knd x y) k h1 h2 => q k h2 h1)).mp h
theorem elems_perm {l l' : List (Int × Value)} (p : l.Perm l') (h : ElemsOf knd l') : ElemsOf knd l := fun e he => h e (p.mem_iff.mp he)
theorem setG_tail {g : Bool → Sem Unit} (hg : ∀ (b : Bool) (s₁ : Shared) (Q' : Unit → Shared → Prop), Q' () s₁ → wpAny (model P w) A (g b) Q' E s₁) {o : Obj} {es : Array (Int × Value)} {ep : Nat} {t : SetTable} (ho : s.heap.get? a = some o) (hx : o.ExactSet) (hd : o.data = Data.set es ep t)
    {es1 : Array (Int × Value)} {t2 : SetTable} {S' : κ → Bool} (he : ElemsOf knd es1.toList) (hS : ∀ k, S' k = true ↔ ∃ e, e ∈ es1.toList ∧ knd.is k e.snd = true) (hp : es1.toList.Pairwise (Apart knd)) (hz : es1.size < scanBound) (hf : t2.fits es1.size = true) (hr : Ris t2.place.toList) (hl : w.params.followText "set-order" = true ∨ t2.led = true)
    {wasDummy : Bool} {R : Option Bool → Shared → Prop} (k : ∀ h', Heap.SameBut a s.heap h' → SetG knd h' a S' es1.size → R (some true) { s with heap := h' }) :
    wpAny (model P w) A (do
      storeSet a es1 t2
      if (!wasDummy && t2.tooFull) = true then do
          g (relayAll t2 es1 (SetTable.grown es1.size)).snd.snd
          storeSet a (relayAll t2 es1 (SetTable.grown es1.size)).fst (relayAll t2 es1 (SetTable.grown es1.size)).snd.fst
          pure (some true)
        else pure (some true)) R E s := by
  have hb : ∀ n, n < scanBound → n ≤ sizeLine := fun n h => Nat.le_of_lt (Nat.lt_of_lt_of_le h (by decide))
  refine wpAny_bind (wpAny_storeSet_of ho hd ?_ (hb _ hz))
  obtain ⟨d1, x1, f1⟩ := put_data (es' := es1) (t' := t2) hd hx
  have h1 : (s.heap.update a (Obj.putSet es1 t2)).get? a = some (Obj.putSet es1 t2 o) := Heap.get?_update_self _ ho f1
  split
  · refine wpAny_bind (hg _ _ _ ?_)
    have pm := relayAll_perm t2 es1 (SetTable.grown es1.size)
    have ft := relayAll_fits t2 es1 (SetTable.grown es1.size)
    have rs := relayAll_ris t2 es1 (SetTable.grown es1.size)
    have ld := relayAll_led t2 es1 (SetTable.grown es1.size)
    generalize (relayAll t2 es1 (SetTable.grown es1.size)).fst = es2 at *
    generalize (relayAll t2 es1 (SetTable.grown es1.size)).snd.fst = t3 at *
    have sz : es2.size = es1.size := by
      have := pm.length_eq
      rwa [Array.length_toList, Array.length_toList] at this
    refine wpAny_bind (wpAny_storeSet_of h1 d1 ?_ (by rw [sz]; exact hb _ hz))
    refine wpAny_pure ?_
    obtain ⟨d2, x2, f2⟩ := put_data (es' := es2) (t' := t3) d1 x1
    refine k _ ⟨by rw [Heap.size_update, Heap.size_update], fun b n => by rw [Heap.get?_update_ne _ _ _ _ n, Heap.get?_update_ne _ _ _ _ n]⟩ ⟨_, es2, _, t3, Heap.get?_update_self _ h1 f2, x2, d2, elems_perm pm he, fun k => ?_, apart_perm pm hp, by rw [sz]; exact hz, ft, sz, rs, by rw [ld]; exact hl⟩
    rw [hS k]
    exact ⟨fun ⟨e, m, i⟩ => ⟨e, pm.mem_iff.mpr m, i⟩, fun ⟨e, m, i⟩ => ⟨e, pm.mem_iff.mp m, i⟩⟩
  · refine wpAny_pure ?_
    exact k _ same_put ⟨_, es1, _, t2, h1, x1, d1, he, hS, hp, hz, hf, rfl, hr, hl⟩
theorem gwAny {M : Model} {g : Bool → Sem Unit} {b : Bool} {Q : Unit → Shared → Prop} (h0 : g false = pure ()) (h1 : g true = rule "set.scan.the-table-gave-way") (q : Q () s) : wpAny M A (g b) Q E s := by
  cases b with
  | false =>
    rw [h0]
    exact wpAny_pure q
  | true =>
    rw [h1]
    exact wpAny_rule q
theorem setG_add_hashed {S : κ → Bool} {n : Nat} {k : κ} {x : Value} {Q : Bool → Shared → Prop} (hk : knd.is k x = true) (hsc : x.scannable = true) (hS : SetG knd s.heap a S n) (hn : n + 1 < scanBound)
    (c : ∀ h', Heap.SameBut a s.heap h' → SetG knd h' a (fun k' => S k' || decide (k' = k)) (if S k = true then n else n + 1) → Q (!S k) { s with heap := h' }) :
    wpAny (model P w) A (setAddHashed a x (knd.hash k)) Q E s := by
  obtain ⟨o, es, ep, t, ho, hx, hd, he, hm, hp, hz, hf, hsz, hr, hl⟩ := hS
  unfold setAddHashed
  refine wpAny_holding ?_
  unfold setAddHashedIn
  refine wpAny_bind (wpAny_setState_of ho hd hf ?_)
  have hbs := byScan_of (knd := knd) hsc hz he
  show wpAny _ _ (if byScan x es = true then _ else _) _ _ _
  rw [if_pos hbs]
  refine wpAny_bind ?_
  unfold setAddByScan
  refine wpAny_bind (wpAny_rule ?_)
  refine wpAny_bind (wpAny_setScan_of hk ho hd hf he ?_)
  cases hfi : List.findIdx? (fun e => knd.is k e.snd) es.toList with
  | some j =>
    refine wpAny_pure (wpAny_pure ?_)
    have hin : S k = true := by
      rw [hm k]
      obtain ⟨hj, hi, _⟩ := List.findIdx?_eq_some_iff_getElem.mp hfi
      exact ⟨_, List.getElem_mem hj, hi⟩
    have q := c s.heap ⟨rfl, fun _ _ => rfl⟩ ⟨o, es, ep, t, ho, hx, hd, he, fun k' => ?_, hp, hz, hf, by rw [if_pos hin]; exact hsz, hr, hl⟩
    · rw [hin] at q
      exact q
    · rw [← hm k', Bool.or_eq_true, decide_eq_true_eq]
      exact ⟨fun h => h.elim id fun e => by rw [e]; exact hin, .inl⟩
  | none =>
    have hout : S k = false := by
      cases q : S k with
      | false => rfl
      | true =>
        obtain ⟨e, em, ei⟩ := (hm k).mp q
        have := List.findIdx?_eq_none_iff.mp hfi e em
        rw [ei] at this
        cases this
    have pm := layNew_perm t es (knd.hash k) x
    have ft := layNew_fits t es (knd.hash k) x
    have ld := layNew_led t es (knd.hash k) x
    have rs := layNew_ris t es (knd.hash k) x hr
    dsimp only
    generalize layNew t es (knd.hash k) x = r at pm ft ld rs ⊢
    obtain ⟨es1, t1, wd, gv⟩ := r
    replace pm : es1.toList.Perm (es.push (knd.hash k, x)).toList := pm
    replace ft : t1.fits es1.size = true := ft
    replace ld : t1.led = t.led := ld
    replace rs : Ris t1.place.toList := rs
    have tl : (es.push (knd.hash k, x)).toList = es.toList ++ [(knd.hash k, x)] := Array.toList_push ..
    rw [tl] at pm
    have sz : es1.size = n + 1 := by
      have := pm.length_eq
      rw [Array.length_toList, List.length_append, Array.length_toList, hsz] at this
      exact this
    have he1 : ElemsOf knd es1.toList := elems_perm pm fun e hm' => by
      rcases List.mem_append.mp hm' with h | h
      · exact he e h
      · rw [List.mem_singleton.mp h]
        exact ⟨⟨k, hk, rfl⟩, hsc⟩
    have hS1 : ∀ k', (S k' || decide (k' = k)) = true ↔ ∃ e, e ∈ es1.toList ∧ knd.is k' e.snd = true := fun k' => by
      rw [Bool.or_eq_true, decide_eq_true_eq, hm k']
      constructor
      · rintro (⟨e, m, i⟩ | rfl)
        · exact ⟨e, pm.mem_iff.mpr (List.mem_append_left _ m), i⟩
        · exact ⟨_, pm.mem_iff.mpr (List.mem_append_right _ (List.mem_singleton.mpr rfl)), hk⟩
      · rintro ⟨e, m, i⟩
        rcases List.mem_append.mp (pm.mem_iff.mp m) with h | h
        · exact .inl ⟨e, h, i⟩
        · rw [List.mem_singleton.mp h] at i
          exact .inr (knd.inj _ _ _ i hk)
    have hp1 : es1.toList.Pairwise (Apart knd) := apart_perm pm (List.pairwise_append.mpr ⟨hp, List.pairwise_singleton _ _, fun e m e' m' k' h1 h2 => by
      rw [List.mem_singleton.mp m'] at h2
      have := knd.inj _ _ _ h2 hk
      subst this
      have z := (hm k').mpr ⟨e, m, h1⟩
      rw [hout] at z
      cases z⟩)
    have hz1 : es1.size < scanBound := by rw [sz]; exact hn
    have c' : ∀ h', Heap.SameBut a s.heap h' → SetG knd h' a (fun k' => S k' || decide (k' = k)) es1.size → Q true { s with heap := h' } := fun h' sb sg => by
      have q := c h' sb (by rw [hout, if_neg (by decide), ← sz]; exact sg)
      rw [hout] at q
      exact q
    dsimp only
    refine wpAny_bind (gwAny rfl rfl ?_)
    have T2 : ∀ b : Bool, (if b = true then t1 else { t1 with plain := false } : SetTable).fits es1.size = true ∧ Ris (if b = true then t1 else { t1 with plain := false } : SetTable).place.toList ∧ (w.params.followText "set-order" = true ∨ (if b = true then t1 else { t1 with plain := false } : SetTable).led = true) := fun b => by
      rw [← ld] at hl
      cases b with
      | true => exact ⟨ft, rs, hl⟩
      | false => exact ⟨ft, rs, hl⟩
    split
    · rw [hashByValue_scannable 8 hsc]
      refine wpAny_bind (wpAny_pure ?_)
      obtain ⟨q1, q2, q3⟩ := T2 (plainKind x)
      exact setG_tail (fun b s₁ Q' q => gwAny rfl rfl q) ho hx hd he1 hS1 hp1 hz1 q1 q2 q3 fun h' sb sg => wpAny_pure (c' h' sb sg)
    · refine wpAny_bind (wpAny_pure ?_)
      obtain ⟨q1, q2, q3⟩ := T2 true
      exact setG_tail (fun b s₁ Q' q => gwAny rfl rfl q) ho hx hd he1 hS1 hp1 hz1 q1 q2 q3 fun h' sb sg => wpAny_pure (c' h' sb sg)
theorem SetG.stay {h h' : Heap} {S : κ → Bool} {n : Nat} (q : SetG knd h a S n) (k : ∀ o, h.get? a = some o → h'.get? a = some o) : SetG knd h' a S n := by
  obtain ⟨o, es, ep, t, ho, r⟩ := q
  exact ⟨o, es, ep, t, k o ho, r⟩
theorem SetG.to {h : Heap} {S S' : κ → Bool} {n : Nat} (q : SetG knd h a S n) (e : ∀ k, S k = S' k) : SetG knd h a S' n := by
  rw [← funext e]
  exact q
theorem setG_update {I : Addr} {fp wr : List Addr} {G : Array GenState → Array GenState → Prop} {n : Nat} {Pv : Nat → Value → Prop} {St : Nat → Shared → Prop} {R : Result → Shared → Prop} (W : WalksS P w A.in1 I fp wr G n Pv St) (S : Addr) (hS : ¬ S ∈ fp) (ks : List κ) (hn : n = ks.length) (hb : ks.length + 1 < scanBound)
    (hv : ∀ i v, Pv i v → ∃ k, ks[i]? = some k ∧ knd.is k v = true ∧ v.scannable = true) : ∀ (d i : Nat) (s : Shared), n - i = d → i ≤ n → St i s → (∃ c, c ≤ i ∧ SetG knd s.heap S (fun j => decide (j ∈ ks.take i)) c) →
    (∀ s' c, Moved (S :: wr) G s s' → c ≤ n → SetG knd s'.heap S (fun j => decide (j ∈ ks)) c → R (Except.ok (Flow.ret Value.none)) s') → codeAny (model P w) A (Code.builtin "set.update.loop" { pos := [Value.ref S, Value.ref I] }) R s
  | 0, i, s, e, hi, hSt, ⟨c, hc, hG⟩, k => by
    obtain rfl : i = n := by omega
    refine codeAny_builtin PyProof.Rows.F.entry_set_update_loop ?_
    rw [Around.under_plain rfl (by with_unfolding_all rfl)]
    refine wpAny_bind (W.done s _ _ hSt fun s' mv => ?_)
    refine wpAny_pure ?_
    have hw : ¬ S ∈ wr := fun z => hS (W.sub S z)
    refine k s' c ⟨fun b o nb => mv.heap b o fun z => nb (List.mem_cons_of_mem _ z), mv.gens, mv.drawn, mv.os, mv.toks⟩ hc ((hG.stay fun o => mv.heap S o hw).to fun j => ?_)
    rw [List.take_of_length_le (by omega)]
  | d + 1, i, s, e, hi, hSt, ⟨c, hc, hG⟩, k => by
    refine codeAny_builtin PyProof.Rows.F.entry_set_update_loop ?_
    rw [Around.under_plain rfl (by with_unfolding_all rfl)]
    refine wpAny_bind (W.item i s _ _ (by omega) hSt fun v s' hp hSt' mv => ?_)
    obtain ⟨key, hk, his, hsc⟩ := hv i v hp
    have hw : ¬ S ∈ wr := fun z => hS (W.sub S z)
    have hG' := hG.stay (h' := s'.heap) fun o => mv.heap S o hw
    refine wpAny_bind (wpAny_holding (wpAny_holding ?_))
    refine wpAny_bind (knd.pyHash his ?_)
    refine setG_add_hashed (s := { s' with toks := s'.toks + 1 }) his hsc hG' (by omega) fun h'' sb sg => ?_
    refine wpAny_pure ?_
    refine And.intro (Code.quiet_builtin _ (by decide +kernel)) ?_
    have hil := (List.getElem?_eq_some_iff.mp hk).1
    have htk : ks.take (i + 1) = ks.take i ++ [key] := by
      rw [List.take_add_one, hk]
      rfl
    refine setG_update W S hS ks hn hb hv d (i + 1) _ (by omega) (by omega) (W.frame (i + 1) s' h'' (s'.toks + 1) hSt' (Nat.le_succ _) fun b hb o ho => ?_) ⟨_, ?_, sg.to fun j => ?_⟩ fun s3 c3 mv3 hc3 hg3 => ?_
    · rw [sb.2 b fun z => hS (z ▸ hb)]
      exact ho
    · split <;> omega
    · rw [htk]
      by_cases z : j ∈ ks.take i
      · rw [decide_eq_true z, Bool.true_or, decide_eq_true (List.mem_append_left _ z)]
      · by_cases z2 : j = key
        · rw [decide_eq_true z2, Bool.or_true, decide_eq_true (List.mem_append_right _ (List.mem_singleton.mpr z2))]
        · rw [decide_eq_false z, decide_eq_false z2, decide_eq_false (fun q => (List.mem_append.mp q).elim z fun q => z2 (List.mem_singleton.mp q))]
          rfl
    · refine k s3 c3 ⟨fun b o nb ho => ?_, W.gtrans _ _ _ mv.gens mv3.gens, mv3.drawn.trans mv.drawn, mv3.os.trans mv.os, Nat.le_trans mv.toks (Nat.le_trans (Nat.le_succ _) mv3.toks)⟩ hc3 hg3
      refine mv3.heap b o nb ?_
      rw [sb.2 b fun z => nb (by rw [z]; exact List.mem_cons_self ..)]
      exact mv.heap b o (fun z => nb (List.mem_cons_of_mem _ z)) ho
end
end My
namespace My
open PySem PySem.Spec PyProof.Rows L2
section
variable {P : Program} {w : World} {κ : Type} [DecidableEq κ] {knd : KeyKind P w κ} {A : Around} {E : Value → Shared → Prop} {s : Shared} {a : Addr}
def freshSet (w : World) : Obj := { cls := Value.type "set", data := Data.set #[] 0 (SetTable.fresh 0 0 !w.params.followText "set-order") }
theorem setG_fresh {h : Heap} {S : Addr} (hS : h.get? S = some (freshSet w)) (ks : List κ) : SetG knd h S (fun j => decide (j ∈ ks.take 0)) 0 := by
  refine ⟨freshSet w, #[], 0, _, hS, ⟨rfl, rfl, rfl⟩, rfl, (fun e (he : e ∈ ([] : List (Int × Value))) => nomatch he), fun k => ?_, List.Pairwise.nil, by decide, rfl, rfl, List.Pairwise.nil, ?_⟩
  · rw [List.take_zero]
    exact ⟨fun q => absurd (of_decide_eq_true q) (List.not_mem_nil), fun ⟨e, he, _⟩ => absurd he (List.not_mem_nil)⟩
  · cases q : w.params.followText "set-order" with
    | true => exact .inl rfl
    | false => exact .inr rfl
theorem setG_init {S l : Addr} {items : Array Value} (ks : List κ) {Φ : PySem.Fin → Shared → Prop} (hh : A.handled = none) (hS : s.heap.get? S = some (freshSet w)) (hl : s.heap.IsList l items) (hv : ∀ (i : Nat) (v : Value), items[i]? = some v → ∃ k, ks[i]? = some k ∧ knd.is k v = true ∧ v.scannable = true) (hn : items.size = ks.length) (hb : ks.length + 1 < scanBound)
    (h : ∀ (s' : Shared) (c : Nat), SetG knd s'.heap S (fun j => decide (j ∈ ks)) c → c ≤ ks.length → (∀ b o, b ≠ S → s.heap.get? b = some o → s'.heap.get? b = some o) → s'.gens = s.gens → s'.drawn = s.drawn → s'.os = s.os → Φ (Fin.done (Flow.ret .none)) s') :
    wpAny (model P w) A (Builtin.«set.__init__» { pos := [Value.ref S, Value.ref l] }) Φ E s := by
  have hT : s.TypeIs (Value.ref S) "set" := ⟨_, hS, rfl⟩
  have hl0 := hl
  obtain ⟨ol, hol, hlc, nl, hld⟩ := hl
  unfold Builtin.«set.__init__»
  refine wpAny_bind (wpAny_ite_true rfl (wpAny_pure ?_))
  refine wpAny_bind ?_
  refine wpAny_bind (wpAny_bind (wpAny_typeOf hT (wpAny_ite_false rfl (wpAny_pure (wpAny_pure ?_)))))
  unfold checkCount
  refine wpAny_bind (wpAny_ite_false rfl (wpAny_ite_false rfl (wpAny_ite_false rfl (wpAny_pure ?_))))
  refine wpAny_bind (wpAny_pure ?_)
  unfold setUsed
  refine wpAny_bind (wpAny_bind (wpAny_setState_of (es := #[]) hS rfl rfl ?_))
  refine wpAny_pure ?_
  refine wpAny_ite_false rfl ?_
  have hTl : s.TypeIs (Value.ref l) "list" := ⟨ol, hol, hlc⟩
  refine wpAny_bind ?_
  unfold Builtin.Frozenset.updateFrom Builtin.Frozenset.isAnySet
  refine wpAny_bind (wpAny_bind (wpAny_isInstance hTl F.sub_list_set ?_))
  refine wpAny_isInstance hTl F.sub_list_frozenset ?_
  refine wpAny_ite_false rfl ?_
  refine wpAny_bind (wpAny_typeOf hTl ?_)
  refine wpAny_ite_false rfl ?_
  refine wpAny_bind (wpAny_pyIter_list hl0 ?_)
  refine wpAny_bind (wpAny_runValue ?_)
  have hlt := Heap.lt_size hol
  have hSt := Heap.lt_size hS
  have hSl : S ≠ l := fun e => by
    rw [e, hol] at hS
    have z : ol.cls = Value.type "set" := by rw [Option.some.inj hS]; rfl
    exact absurd (Value.type.inj (hlc.symm.trans z)) (by decide)
  have W := Walks.toS (Walks.list (prog := P) (w := w) (A := A.in1) hh s.heap.objs.size l (Nat.ne_of_lt hlt) items)
  have pS := Heap.get?_push_of_some { cls := Value.type "list_iterator", data := Data.fields #[Value.ref l, Value.int 0 0] } hS
  have pl := Heap.get?_push_of_some { cls := Value.type "list_iterator", data := Data.fields #[Value.ref l, Value.int 0 0] } hol
  refine setG_update (knd := knd) W S (fun z => ?_) ks hn hb hv _ 0 _ rfl (Nat.zero_le _) ⟨?_, ⟨ol, pl, hlc, nl, hld⟩⟩ ⟨0, Nat.le_refl _, setG_fresh pS ks⟩ fun s' c mv hc hg => ?_
  · rcases List.mem_cons.mp z with z | z
    · exact absurd z (Nat.ne_of_lt hSt)
    · exact hSl (List.mem_singleton.mp z)
  · exact ⟨_, Heap.get?_push_size s.heap rfl, rfl, rfl⟩
  · show wpAny (model P w) A (pure ()) (fun a s' => wpAny (model P w) A ((fun __r => ret Value.none) a) Φ E s') E s'
    refine wpAny_pure ?_
    refine wpAny_pure ?_
    refine h s' c hg (by rw [← hn]; exact hc) (fun b o nb ho => ?_) mv.gens mv.drawn mv.os
    refine mv.heap b o (fun z => ?_) (Heap.get?_push_of_some _ ho)
    rcases List.mem_cons.mp z with z | z
    · exact nb z
    · rw [List.mem_singleton.mp z] at ho
      exact absurd (Heap.lt_size ho) (Nat.lt_irrefl _)
theorem call_set_listG {l : Addr} {items : Array Value} (ks : List κ) {Q : Value → Shared → Prop} (hh : A.handled = none) (hl : s.heap.IsList l items) (hv : ∀ (i : Nat) (v : Value), items[i]? = some v → ∃ k, ks[i]? = some k ∧ knd.is k v = true ∧ v.scannable = true) (hn : items.size = ks.length) (hb : ks.length + 1 < scanBound)
    (h : ∀ (h' : Heap) (tk c : Nat), SetG knd h' s.heap.objs.size (fun j => decide (j ∈ ks)) c → c ≤ ks.length → (∀ b o, s.heap.get? b = some o → h'.get? b = some o) → Q (.ref s.heap.objs.size) { s with heap := h', toks := tk }) : wpAny (model P w) A (call (.type "set") [.ref l]) Q E s := by
  obtain ⟨c, tl, hmro⟩ := F.called_set.mro
  have hmade := F.called_set.made
  have hsub := F.called_set.sub
  have h1 := F.called_set.notType
  have h2 := F.called_set.canCreate
  have hct := F.typeCall_set_1 (Value.ref l)
  refine wpAny_call (codeAny_of_tree ?_)
  refine wpAny_pure ⟨Code.quiet_builtin _ (by decide +kernel), codeAny_builtin F.entry_type_call ?_⟩
  rw [Around.under_plain (weight_type_call_type "set" [.ref l] []) (by with_unfolding_all rfl)]
  unfold Builtin.«type.__call__»
  refine wpAny_ite_false (Eq.refl _) ?_
  refine wpAny_ite_false (Eq.refl _) ?_
  refine wpAny_bind (wpAny_of_eq hct ?_)
  refine wpAny_bind (wpAny_of_eq hmro ?_)
  refine wpAny_ite_false rfl ?_
  refine wpAny_bind (wpAny_of_eq hmade ?_)
  refine wpAny_bind (wpAny_pure ?_)
  refine wpAny_bind (wpAny_holding ?_)
  refine wpAny_call (codeAny_mono (L2.code_set_led1 (E := fun _ _ => False) (Value.ref l) (Q₁ := fun v s₁ => v = .ref s.heap.objs.size ∧ s₁ = { s with heap := s.heap.push { cls := .type "set", data := Data.set #[] 0 (SetTable.fresh 0 0 !w.params.followText "set-order") } }) ⟨rfl, rfl⟩) fun r s₁ hr => ?_)
  obtain ⟨e1, e2⟩ | e3 : (∃ v, r = .ok (.ret v) ∧ v = .ref s.heap.objs.size ∧ s₁ = { s with heap := s.heap.push { cls := .type "set", data := Data.set #[] 0 (SetTable.fresh 0 0 !w.params.followText "set-order") } }) ∨ False := by
    cases r with
    | ok f =>
      cases f with
      | ret v => exact .inl ⟨v, rfl, hr⟩
      | _ => exact .inr hr
    | error e => exact .inr hr
  · obtain ⟨rfl, rfl, rfl⟩ := e2
    have hS := Heap.get?_push_size s.heap (o := { cls := .type "set", data := Data.set #[] 0 (SetTable.fresh 0 0 !w.params.followText "set-order") }) rfl
    have hT : Shared.TypeIs { s with heap := s.heap.push { cls := .type "set", data := Data.set #[] 0 (SetTable.fresh 0 0 !w.params.followText "set-order") } } (Value.ref s.heap.objs.size) "set" := ⟨_, hS, rfl⟩
    have hli := F.called_set.init.lookup
    have hbi := F.called_set.init.bind (Value.ref s.heap.objs.size)
    refine wpAny_bind (wpAny_isInstance hT hsub ?_)
    refine wpAny_ite_false rfl ?_
    refine wpAny_bind (wpAny_holding ?_)
    refine wpAny_bind (wpAny_specialOf hT hli ?_)
    refine wpAny_holding ?_
    refine wpAny_bind (wpAny_of_eq hbi ?_)
    refine wpAny_bind ?_
    refine wpAny_call (codeAny_mono (codeAny_call_builtin F.called_set.init.plain F.entry_set_init (check_set_init_1 hT ?_)) fun r s₂ hr2 => hr2)
    have hl1 : (s.heap.push (freshSet w)).IsList l items := by
      obtain ⟨ol, hol, hlc, nl, hld⟩ := hl
      exact ⟨ol, Heap.get?_push_of_some _ hol, hlc, nl, hld⟩
    refine setG_init (knd := knd) ks hh hS hl1 hv hn hb fun s' c hg hc hk hgn hdr hos => ?_
    refine wpAny_pure ?_
    refine wpAny_ite_false rfl ?_
    refine wpAny_pure ?_
    obtain ⟨hp', gn', dr', tk', os'⟩ := s'
    obtain rfl : gn' = s.gens := hgn
    obtain rfl : dr' = s.drawn := hdr
    obtain rfl : os' = s.os := hos
    refine h hp' tk' c hg hc fun b o ho => hk b o (fun z => ?_) (Heap.get?_push_of_some _ ho)
    rw [z] at ho
    exact absurd (Heap.lt_size ho) (Nat.lt_irrefl _)
  · exact e3.elim
end
end My
namespace My
open PySem PySem.Spec PyProof.Rows L2
/-! ### set(list of texts), its len, sorted of it -/
section
variable {P : Program} {w : World} {X : Cx}
theorem isStr {k : Str} {v : Value} (h : (PySem.strKind P w).is k v = true) : ∃ t, v = Value.str k t := by
  cases v with
  | str x t => exact ⟨t, by rw [eq_of_beq (show (x == k) = true from h)]⟩
  | _ => cases (show false = true from h)
theorem isStr_mk (k : Str) (t : Tok) : (PySem.strKind P w).is k (Value.str k t) = true := beq_self_eq_true k
def keyS : Value → Str
  | .str x _ => x
  | _ => Str.empty
def SetSO (P : Program) (w : World) (a : Addr) (S : Str → Bool) (n : Nat) : HO := .ext fun h => SetG (PySem.strKind P w) h a S n
theorem setS_ok {H : Hp} {h : Heap} {a : Addr} {S : Str → Bool} {n : Nat} (g : SetG (PySem.strKind P w) h a S n) : ObjOk P w H h a (SetSO P w a S n) := by
  refine ⟨g, ?_, fun h1 h2 q k => SetG.stay q k⟩
  obtain ⟨o, _, _, _, ho, _⟩ := g
  exact ⟨o, ho⟩
/-- the texts of a set, each once -/
theorem keysOf {l : List (Int × Value)} {S : Str → Bool} (he : ElemsOf (PySem.strKind P w) l) (hm : ∀ k, S k = true ↔ ∃ e, e ∈ l ∧ (PySem.strKind P w).is k e.snd = true) (hp : l.Pairwise (Apart (PySem.strKind P w))) :
    (l.map fun e => keyS e.snd).Nodup ∧ (∀ k, k ∈ (l.map fun e => keyS e.snd) ↔ S k = true) ∧ ∀ e ∈ l, ∃ t, e.snd = Value.str (keyS e.snd) t := by
  have hk : ∀ e ∈ l, ∃ t, e.snd = Value.str (keyS e.snd) t := fun e m => by
    obtain ⟨⟨k, i, _⟩, _⟩ := he e m
    obtain ⟨t, q⟩ := isStr i
    exact ⟨t, by rw [q]; rfl⟩
  refine ⟨?_, fun k => ?_, hk⟩
  · refine List.pairwise_map.mpr (hp.imp_of_mem fun {a b} ma mb q e => ?_)
    obtain ⟨t, ta⟩ := hk a ma
    obtain ⟨u, tb⟩ := hk b mb
    refine q (keyS a.snd) (by rw [ta]; exact isStr_mk _ _) ?_
    rw [e, tb]
    exact isStr_mk _ _
  · rw [hm k, List.mem_map]
    constructor
    · rintro ⟨e, m, rfl⟩
      obtain ⟨t, q⟩ := hk e m
      exact ⟨e, m, by rw [q]; exact isStr_mk _ _⟩
    · rintro ⟨e, m, i⟩
      obtain ⟨t, q⟩ := isStr i
      exact ⟨e, m, by rw [q]; rfl⟩
theorem vals_strs : ∀ {ws : List Str} {its : List Value}, Vals (ws.map V.str) its → its.length = ws.length ∧ ∀ (i : Nat) (v : Value), its[i]? = some v → ∃ k t, ws[i]? = some k ∧ v = Value.str k t
  | [], its, h => by
    cases h
    exact ⟨rfl, fun i v h => by simp at h⟩
  | x :: ws, its, h => by
    cases h with
    | cons r rr =>
      obtain ⟨t, rfl⟩ := r
      obtain ⟨l, g⟩ := vals_strs rr
      refine ⟨by rw [List.length_cons, List.length_cons, l], fun i v h => ?_⟩
      cases i with
      | zero =>
        cases h
        exact ⟨x, t, rfl, rfl⟩
      | succ i => exact g i v h
def rSetLS (K : PySem.W.Frag) (P : Program) (w : World) : List V → Hp → VK → Prop := fun xs H Q => ∃ (l : Addr) (ws : List Str), xs = [.ref l] ∧ SqL K H l (ws.map V.str) ∧ ws.length ≤ 1000 ∧
  ∀ (p : Addr) (ks : List Str), H p = none → ks.Nodup → (∀ k, k ∈ ks ↔ k ∈ ws) → Q (.ref p) (upd H p (SetSO P w p (fun j => decide (j ∈ ws)) ks.length))
theorem call_setLS (hc : X.calm = true) : CallR X (.type "set") (rSetLS X.K X.prog X.w) := by
  intro pins s σ H xs us Q I r h
  obtain ⟨l, ws, rfl, hq, hl, q⟩ := h
  obtain rfl := Vals.ref1 r
  obtain ⟨its, rv, pt, hz⟩ := I.list hq
  obtain ⟨hlen, hget⟩ := vals_strs rv
  refine call_set_listG (knd := PySem.strKind X.prog X.w) ws (I.ok.hd hc) (show s.heap.IsList l its.toArray from pt.isList) (fun i v hv => ?_) (by rw [List.size_toArray, hlen]) (by unfold scanBound; omega) fun h' tk c G hcn k => ?_
  · rw [List.getElem?_toArray] at hv
    obtain ⟨k, t, h1, rfl⟩ := hget i v hv
    exact ⟨k, h1, isStr_mk k t, rfl⟩
  · have hn : H s.heap.objs.size = none := I.hok.fresh (Nat.le_refl _)
    have G' := G
    obtain ⟨o, es, ep, t, _, _, _, he, hm, hp, _, _, hsz, _⟩ := G
    obtain ⟨h1, h2, _⟩ := keysOf he hm hp
    have h3 : (es.toList.map fun e => keyS e.snd).length = c := by rw [List.length_map, Array.length_toList, hsz]
    generalize (es.toList.map fun e => keyS e.snd) = ks at *
    subst h3
    exact ⟨.ref s.heap.objs.size, _, I.laid (t' := tk) k (Nat.le_refl _) (setS_ok G'), rfl, q _ ks hn h1 fun k => by rw [h2 k, decide_eq_true_eq]⟩
/-- len of such a set -/
def rLenSS (P : Program) (w : World) : List V → Hp → VK → Prop := fun xs H Q => ∃ (a : Addr) (S : Str → Bool) (n : Nat), xs = [.ref a] ∧ H a = some (SetSO P w a S n) ∧ n ≤ 4000 ∧ Q (.int n) H
theorem setS_get {pins : List (Addr × Obj)} {σ : L2.St} {H : Hp} {s : Shared} {a : Addr} {S : Str → Bool} {n : Nat} (I : L2.Inv X pins σ H s) (h : H a = some (SetSO X.prog X.w a S n)) : SetG (PySem.strKind X.prog X.w) s.heap a S n := (I.hok a _ h).1
theorem call_lenSS : CallR X (.builtin "len") (rLenSS X.prog X.w) := by
  intro pins s σ H xs us Q I r h
  obtain ⟨a, S, n, rfl, ha, hl, q⟩ := h
  obtain rfl := Vals.ref1 r
  obtain ⟨o, es, ep, t, ho, hex, hd, _, _, _, _, hf, hn, _⟩ := setS_get I ha
  exact call_len_set ho hex hd hf (by rw [hn]; omega) ⟨.int n, H, I.tok _, ⟨_, by rw [hn]⟩, q⟩
/-- sorted of such a set -/
def rSortedSS (P : Program) (w : World) : List V → Hp → VK → Prop := fun xs H Q => ∃ (a : Addr) (S : Str → Bool) (n : Nat), xs = [.ref a] ∧ H a = some (SetSO P w a S n) ∧ n < 64 ∧
  ∀ (ys : List Str) (p : Addr), ys.Nodup → sortedS ys = true → (∀ k, k ∈ ys ↔ S k = true) → ys.length = n → H p = none → Q (.ref p) (upd H p (.lst (ys.map V.str)))
theorem vals_of_perm {l : List (Int × Value)} {out : List Value} (hk : ∀ e ∈ l, ∃ t, e.snd = Value.str (keyS e.snd) t) (pm : out.Perm (l.map fun x => x.snd)) : ∃ zs : List Str, Vals (zs.map V.str) out ∧ zs.Perm (l.map fun e => keyS e.snd) := by
  refine ⟨out.map keyS, ?_, ?_⟩
  · have ho : ∀ v ∈ out, ∃ t, v = Value.str (keyS v) t := fun v m => by
      obtain ⟨e, me, rfl⟩ := List.mem_map.mp (pm.mem_iff.mp m)
      exact hk e me
    clear pm
    induction out with
    | nil => exact .nil
    | cons v r ih =>
      obtain ⟨t, e⟩ := ho v (List.mem_cons_self ..)
      exact .cons ⟨t, e⟩ (ih fun u m => ho u (List.mem_cons_of_mem _ m))
  · have q := pm.map keyS
    rw [List.map_map] at q
    exact q
theorem cr_sortedSS (hc : X.calm = true) : CallR X (.builtin "sorted") (rSortedSS X.prog X.w) := by
  intro pins s σ H xs us Q I r h
  obtain ⟨a, S, n, rfl, ha, hl, q⟩ := h
  obtain rfl := Vals.ref1 r
  obtain ⟨o, es, ep, t, ho, hex, hd, he, hm, hp, hz, hf, hn, hr, hled⟩ := setS_get I ha
  obtain ⟨k1, k2, k3⟩ := keysOf he hm hp
  refine Calls.call_function_entry kind_sorted plain_sorted entry_sorted (args_sorted1 _) ?_
  refine wpAny_bind (wpAny_pure ?_)
  refine wpAny_bind (collect_set (I.ok.hd hc) ⟨o, ho, hex.1, hd⟩ hf hz hr hled fun s' out keep hsz hg hos pm => ?_)
  obtain ⟨zs, vz, pz⟩ := vals_of_perm k3 pm
  have zl : zs.length = n := by
    have := pz.length_eq
    rw [List.length_map] at this
    rw [this, ← hn]
    exact Array.length_toList
  have I1 : L2.Inv X pins σ H s' := by
    have J := I.kept (t' := s'.toks) keep
    obtain ⟨hp', gn', dr', tk', os'⟩ := s'
    obtain rfl : gn' = s.gens := hg
    obtain rfl : os' = s.os := hos
    exact ⟨J.ok, J.os, J.bare, J.base, J.loc, J.cell, J.free, J.freeC, J.pin, J.hok, J.len⟩
  have ol : out.length = zs.length := (vals_strs vz).1
  have big : zs.length ≤ sizeLine := sizeLine_of (by omega) |> Nat.le_of_lt
  refine wpAny_bind (wpAny_newList ?_ (by rw [ol]; exact big))
  have I2 := I1.lnew (t' := s'.toks) vz (by rw [List.length_map]; exact big)
  have hn1 : H s'.heap.objs.size = none := I1.hok.fresh (Nat.le_refl _)
  refine wpAny_bind (wpAny_holding ?_)
  refine thn (mt_sortS (X := inCx X) pins _ σ _ (.ref s'.heap.objs.size) [] (.ref s'.heap.objs.size) [] (fun v H' => ∃ ys : List Str, ys.Perm zs ∧ sortedS ys = true ∧ H' = upd H s'.heap.objs.size (.lst (ys.map V.str))) (inv_in I2) rfl .nil ⟨_, zs, rfl, rfl, upd_same, by omega, fun ys h1 h2 => ⟨ys, h1, h2, upd_upd⟩⟩) fun v s3 ⟨x, H3, I3, _, ys, py, sy, e3⟩ => ?_
  subst e3
  refine wpAny_pure ⟨_, rfl, .ref s'.heap.objs.size, _, inv_out I3, rfl, ?_⟩
  have pk := py.trans pz
  exact q ys _ (pk.nodup_iff.mpr k1) sy (fun k => (pk.mem_iff).trans (k2 k)) (by rw [py.length_eq, zl]) hn1
end
end My
namespace My
open PySem PySem.Spec PyProof.Rows L2
section
variable {P : Program} {w : World} {X : Cx}
/-! ### set(list of ints) -/
theorem isInt {k : Int} {v : Value} (h : (intKind P w).is k v = true) : ∃ t, v = Value.int k t := by
  cases v with
  | int x t => exact ⟨t, by rw [eq_of_beq (show (x == k) = true from h)]⟩
  | _ => cases (show false = true from h)
theorem setR_of {h : Heap} {a : Addr} {S : Int → Bool} {n : Nat} (G : SetG (intKind P w) h a S n) : SetR w h a S n := by
  obtain ⟨o, es, ep, t, ho, hx, hd, he, hm, hp, hz, hf, hn, hr, hl⟩ := G
  have hk : ∀ e ∈ es.toList, ∃ t, e.snd = Value.int (keyOf e) t ∧ e.fst = hashInt (keyOf e) := fun e m => by
    obtain ⟨⟨k, i, q⟩, _⟩ := he e m
    obtain ⟨t, z⟩ := isInt i
    have kk : keyOf e = k := by
      unfold keyOf
      rw [z]
    rw [kk]
    exact ⟨t, z, q⟩
  have mk : ∀ (k : Int) (t : Tok), (intKind P w).is k (Value.int k t) = true := fun k t => beq_self_eq_true k
  refine ⟨o, es, ep, t, ho, hx, hd, fun e m => ?_, ?_, fun k => ?_, hz, hf, hn, hr, hl⟩
  · obtain ⟨t, z, q⟩ := hk e m
    exact ⟨_, t, z, q⟩
  · refine List.pairwise_map.mpr (hp.imp_of_mem fun {a b} ma mb q e => ?_)
    obtain ⟨t, ta, _⟩ := hk a ma
    obtain ⟨u, tb, _⟩ := hk b mb
    refine q (keyOf a) (by rw [ta]; exact mk _ _) ?_
    rw [e, tb]
    exact mk _ _
  · rw [hm k, List.mem_map]
    constructor
    · rintro ⟨e, m, i⟩
      obtain ⟨t, z⟩ := isInt i
      exact ⟨e, m, by unfold keyOf; rw [z]⟩
    · rintro ⟨e, m, rfl⟩
      obtain ⟨t, z, _⟩ := hk e m
      exact ⟨e, m, by rw [z]; exact mk _ _⟩
theorem vals_ints : ∀ {ns : List Int} {its : List Value}, Vals (ns.map V.int) its → its.length = ns.length ∧ ∀ (i : Nat) (v : Value), its[i]? = some v → ∃ k t, ns[i]? = some k ∧ v = Value.int k t
  | [], its, h => by
    cases h
    exact ⟨rfl, fun i v h => by simp at h⟩
  | x :: ns, its, h => by
    cases h with
    | cons r rr =>
      obtain ⟨t, rfl⟩ := r
      obtain ⟨l, g⟩ := vals_ints rr
      refine ⟨by rw [List.length_cons, List.length_cons, l], fun i v h => ?_⟩
      cases i with
      | zero =>
        cases h
        exact ⟨x, t, rfl, rfl⟩
      | succ i => exact g i v h
def rSetLI (K : PySem.W.Frag) (w : World) : List V → Hp → VK → Prop := fun xs H Q => ∃ (l : Addr) (ns : List Int), xs = [.ref l] ∧ SqL K H l (ns.map V.int) ∧ ns.length ≤ 1000 ∧
  ∀ (p : Addr) (ks : List Int), H p = none → ks.Nodup → (∀ k, k ∈ ks ↔ k ∈ ns) → Q (.ref p) (upd H p (SetO w p (fun j => decide (j ∈ ns)) ks.length))
theorem call_setLI (hc : X.calm = true) : CallR X (.type "set") (rSetLI X.K X.w) := by
  intro pins s σ H xs us Q I r h
  obtain ⟨l, ns, rfl, hq, hl, q⟩ := h
  obtain rfl := Vals.ref1 r
  obtain ⟨its, rv, pt, hz⟩ := I.list hq
  obtain ⟨hlen, hget⟩ := vals_ints rv
  refine call_set_listG (knd := intKind X.prog X.w) ns (I.ok.hd hc) (show s.heap.IsList l its.toArray from pt.isList) (fun i v hv => ?_) (by rw [List.size_toArray, hlen]) (by unfold scanBound; omega) fun h' tk c G hcn k => ?_
  · rw [List.getElem?_toArray] at hv
    obtain ⟨k, t, h1, rfl⟩ := hget i v hv
    exact ⟨k, h1, beq_self_eq_true k, rfl⟩
  · have hn : H s.heap.objs.size = none := I.hok.fresh (Nat.le_refl _)
    have R := setR_of G
    obtain ⟨ks, h1, h2, h3⟩ : ∃ ks : List Int, ks.Nodup ∧ (∀ k, k ∈ ks ↔ k ∈ ns) ∧ ks.length = c := by
      obtain ⟨o, es, ep, t, _, _, _, _, nd, hm, _, _, hn, _⟩ := R
      refine ⟨es.toList.map keyOf, nd, fun k => ?_, ?_⟩
      · rw [← hm k, decide_eq_true_eq]
      · rw [List.length_map, Array.length_toList, hn]
    subst h3
    exact ⟨.ref s.heap.objs.size, _, I.laid (t' := tk) k (Nat.le_refl _) (setO_new R), rfl, q _ ks hn h1 h2⟩
end
end My
namespace My
open PySem L2
theorem call_setLIK {X : Cx} {K : PySem.W.Frag} {w : World} (hK : X.K = K) (hw : X.w = w) (hc : X.calm = true) : CallR X (.type "set") (rSetLI K w) := by
  subst hK hw
  exact call_setLI hc
theorem cr_sortedSetK {X : Cx} {w : World} (hw : X.w = w) (hc : X.calm = true) : CallR X (.builtin "sorted") (rSortedSet w) := by
  subst hw
  exact cr_sortedSet hc
end My
namespace My
open PySem PySem.Spec PyProof.Rows L2
/-! ### set(tuple) -/
section
variable {P : Program} {w : World} {κ : Type} [DecidableEq κ] {knd : PySem.KeyKind P w κ} {A : Around} {E : Value → Shared → Prop} {s : Shared} {a : Addr}
theorem setG_initT {S l : Addr} {items : Array Value} (ks : List κ) {Φ : PySem.Fin → Shared → Prop} (hh : A.handled = none) (hS : s.heap.get? S = some (freshSet w)) (hl : s.heap.IsTuple l items) (hv : ∀ (i : Nat) (v : Value), items[i]? = some v → ∃ k, ks[i]? = some k ∧ knd.is k v = true ∧ v.scannable = true) (hn : items.size = ks.length) (hb : ks.length + 1 < scanBound)
    (h : ∀ (s' : Shared) (c : Nat), SetG knd s'.heap S (fun j => decide (j ∈ ks)) c → c ≤ ks.length → (∀ b o, b ≠ S → s.heap.get? b = some o → s'.heap.get? b = some o) → s'.gens = s.gens → s'.drawn = s.drawn → s'.os = s.os → Φ (Fin.done (Flow.ret .none)) s') :
    wpAny (model P w) A (Builtin.«set.__init__» { pos := [Value.ref S, Value.ref l] }) Φ E s := by
  have hT : s.TypeIs (Value.ref S) "set" := ⟨_, hS, rfl⟩
  have hl0 := hl
  obtain ⟨ol, hol, hlc, nl, hld⟩ := hl
  unfold Builtin.«set.__init__»
  refine wpAny_bind (wpAny_ite_true rfl (wpAny_pure ?_))
  refine wpAny_bind ?_
  refine wpAny_bind (wpAny_bind (wpAny_typeOf hT (wpAny_ite_false rfl (wpAny_pure (wpAny_pure ?_)))))
  unfold checkCount
  refine wpAny_bind (wpAny_ite_false rfl (wpAny_ite_false rfl (wpAny_ite_false rfl (wpAny_pure ?_))))
  refine wpAny_bind (wpAny_pure ?_)
  unfold setUsed
  refine wpAny_bind (wpAny_bind (wpAny_setState_of (es := #[]) hS rfl rfl ?_))
  refine wpAny_pure ?_
  refine wpAny_ite_false rfl ?_
  have hTl : s.TypeIs (Value.ref l) "tuple" := ⟨ol, hol, hlc⟩
  refine wpAny_bind ?_
  unfold Builtin.Frozenset.updateFrom Builtin.Frozenset.isAnySet
  refine wpAny_bind (wpAny_bind (wpAny_isInstance hTl F.sub_tuple_set ?_))
  refine wpAny_isInstance hTl F.sub_tuple_frozenset ?_
  refine wpAny_ite_false rfl ?_
  refine wpAny_bind (wpAny_typeOf hTl ?_)
  refine wpAny_ite_false rfl ?_
  refine wpAny_bind (wpAny_pyIter_tuple hl0 ?_)
  refine wpAny_bind (wpAny_runValue ?_)
  have hlt := Heap.lt_size hol
  have hSt := Heap.lt_size hS
  have hSl : S ≠ l := fun e => by
    rw [e, hol] at hS
    have z : ol.cls = Value.type "set" := by rw [Option.some.inj hS]; rfl
    exact absurd (Value.type.inj (hlc.symm.trans z)) (by decide)
  have W := Walks.toS (Walks.tuple (prog := P) (w := w) (A := A.in1) hh s.heap.objs.size l (Nat.ne_of_lt hlt) items)
  have pS := Heap.get?_push_of_some { cls := Value.type "tuple_iterator", data := Data.fields #[Value.ref l, Value.int 0 0] } hS
  have pl := Heap.get?_push_of_some { cls := Value.type "tuple_iterator", data := Data.fields #[Value.ref l, Value.int 0 0] } hol
  refine setG_update (knd := knd) W S (fun z => ?_) ks hn hb hv _ 0 _ rfl (Nat.zero_le _) ⟨?_, ⟨ol, pl, hlc, nl, hld⟩⟩ ⟨0, Nat.le_refl _, setG_fresh pS ks⟩ fun s' c mv hc hg => ?_
  · rcases List.mem_cons.mp z with z | z
    · exact absurd z (Nat.ne_of_lt hSt)
    · exact hSl (List.mem_singleton.mp z)
  · exact ⟨_, Heap.get?_push_size s.heap rfl, rfl, rfl⟩
  · show wpAny (model P w) A (pure ()) (fun a s' => wpAny (model P w) A ((fun __r => ret Value.none) a) Φ E s') E s'
    refine wpAny_pure ?_
    refine wpAny_pure ?_
    refine h s' c hg (by rw [← hn]; exact hc) (fun b o nb ho => ?_) mv.gens mv.drawn mv.os
    refine mv.heap b o (fun z => ?_) (Heap.get?_push_of_some _ ho)
    rcases List.mem_cons.mp z with z | z
    · exact nb z
    · rw [List.mem_singleton.mp z] at ho
      exact absurd (Heap.lt_size ho) (Nat.lt_irrefl _)
theorem call_set_tupG {l : Addr} {items : Array Value} (ks : List κ) {Q : Value → Shared → Prop} (hh : A.handled = none) (hl : s.heap.IsTuple l items) (hv : ∀ (i : Nat) (v : Value), items[i]? = some v → ∃ k, ks[i]? = some k ∧ knd.is k v = true ∧ v.scannable = true) (hn : items.size = ks.length) (hb : ks.length + 1 < scanBound)
    (h : ∀ (h' : Heap) (tk c : Nat), SetG knd h' s.heap.objs.size (fun j => decide (j ∈ ks)) c → c ≤ ks.length → (∀ b o, s.heap.get? b = some o → h'.get? b = some o) → Q (.ref s.heap.objs.size) { s with heap := h', toks := tk }) : wpAny (model P w) A (call (.type "set") [.ref l]) Q E s := by
  obtain ⟨c, tl, hmro⟩ := F.called_set.mro
  have hmade := F.called_set.made
  have hsub := F.called_set.sub
  have h1 := F.called_set.notType
  have h2 := F.called_set.canCreate
  have hct := F.typeCall_set_1 (Value.ref l)
  refine wpAny_call (codeAny_of_tree ?_)
  refine wpAny_pure ⟨Code.quiet_builtin _ (by decide +kernel), codeAny_builtin F.entry_type_call ?_⟩
  rw [Around.under_plain (weight_type_call_type "set" [.ref l] []) (by with_unfolding_all rfl)]
  unfold Builtin.«type.__call__»
  refine wpAny_ite_false (Eq.refl _) ?_
  refine wpAny_ite_false (Eq.refl _) ?_
  refine wpAny_bind (wpAny_of_eq hct ?_)
  refine wpAny_bind (wpAny_of_eq hmro ?_)
  refine wpAny_ite_false rfl ?_
  refine wpAny_bind (wpAny_of_eq hmade ?_)
  refine wpAny_bind (wpAny_pure ?_)
  refine wpAny_bind (wpAny_holding ?_)
  refine wpAny_call (codeAny_mono (L2.code_set_led1 (E := fun _ _ => False) (Value.ref l) (Q₁ := fun v s₁ => v = .ref s.heap.objs.size ∧ s₁ = { s with heap := s.heap.push { cls := .type "set", data := Data.set #[] 0 (SetTable.fresh 0 0 !w.params.followText "set-order") } }) ⟨rfl, rfl⟩) fun r s₁ hr => ?_)
  obtain ⟨e1, e2⟩ | e3 : (∃ v, r = .ok (.ret v) ∧ v = .ref s.heap.objs.size ∧ s₁ = { s with heap := s.heap.push { cls := .type "set", data := Data.set #[] 0 (SetTable.fresh 0 0 !w.params.followText "set-order") } }) ∨ False := by
    cases r with
    | ok f =>
      cases f with
      | ret v => exact .inl ⟨v, rfl, hr⟩
      | _ => exact .inr hr
    | error e => exact .inr hr
  · obtain ⟨rfl, rfl, rfl⟩ := e2
    have hS := Heap.get?_push_size s.heap (o := { cls := .type "set", data := Data.set #[] 0 (SetTable.fresh 0 0 !w.params.followText "set-order") }) rfl
    have hT : Shared.TypeIs { s with heap := s.heap.push { cls := .type "set", data := Data.set #[] 0 (SetTable.fresh 0 0 !w.params.followText "set-order") } } (Value.ref s.heap.objs.size) "set" := ⟨_, hS, rfl⟩
    have hli := F.called_set.init.lookup
    have hbi := F.called_set.init.bind (Value.ref s.heap.objs.size)
    refine wpAny_bind (wpAny_isInstance hT hsub ?_)
    refine wpAny_ite_false rfl ?_
    refine wpAny_bind (wpAny_holding ?_)
    refine wpAny_bind (wpAny_specialOf hT hli ?_)
    refine wpAny_holding ?_
    refine wpAny_bind (wpAny_of_eq hbi ?_)
    refine wpAny_bind ?_
    refine wpAny_call (codeAny_mono (codeAny_call_builtin F.called_set.init.plain F.entry_set_init (check_set_init_1 hT ?_)) fun r s₂ hr2 => hr2)
    have hl1 : (s.heap.push (freshSet w)).IsTuple l items := by
      obtain ⟨ol, hol, hlc, nl, hld⟩ := hl
      exact ⟨ol, Heap.get?_push_of_some _ hol, hlc, nl, hld⟩
    refine setG_initT (knd := knd) ks hh hS hl1 hv hn hb fun s' c hg hc hk hgn hdr hos => ?_
    refine wpAny_pure ?_
    refine wpAny_ite_false rfl ?_
    refine wpAny_pure ?_
    obtain ⟨hp', gn', dr', tk', os'⟩ := s'
    obtain rfl : gn' = s.gens := hgn
    obtain rfl : dr' = s.drawn := hdr
    obtain rfl : os' = s.os := hos
    refine h hp' tk' c hg hc fun b o ho => hk b o (fun z => ?_) (Heap.get?_push_of_some _ ho)
    rw [z] at ho
    exact absurd (Heap.lt_size ho) (Nat.lt_irrefl _)
  · exact e3.elim
end
section
variable {X : Cx}
def rSetTS (K : PySem.W.Frag) (P : Program) (w : World) : List V → Hp → VK → Prop := fun xs H Q => ∃ (l : Addr) (ws : List Str), xs = [.ref l] ∧ SqT K H l (ws.map V.str) ∧ ws.length ≤ 1000 ∧
  ∀ (p : Addr) (ks : List Str), H p = none → ks.Nodup → (∀ k, k ∈ ks ↔ k ∈ ws) → Q (.ref p) (upd H p (SetSO P w p (fun j => decide (j ∈ ws)) ks.length))
theorem call_setTS (hc : X.calm = true) : CallR X (.type "set") (rSetTS X.K X.prog X.w) := by
  intro pins s σ H xs us Q I r h
  obtain ⟨l, ws, rfl, hq, hl, q⟩ := h
  obtain rfl := Vals.ref1 r
  obtain ⟨its, rv, pt, hz⟩ := I.tuple hq
  obtain ⟨hlen, hget⟩ := vals_strs rv
  refine call_set_tupG (knd := PySem.strKind X.prog X.w) ws (I.ok.hd hc) (show s.heap.IsTuple l its.toArray from pt) (fun i v hv => ?_) (by rw [List.size_toArray, hlen]) (by unfold scanBound; omega) fun h' tk c G hcn k => ?_
  · rw [List.getElem?_toArray] at hv
    obtain ⟨k, t, h1, rfl⟩ := hget i v hv
    exact ⟨k, h1, isStr_mk k t, rfl⟩
  · have hn : H s.heap.objs.size = none := I.hok.fresh (Nat.le_refl _)
    have G' := G
    obtain ⟨o, es, ep, t, _, _, _, he, hm, hp, _, _, hsz, _⟩ := G
    obtain ⟨h1, h2, _⟩ := keysOf he hm hp
    have h3 : (es.toList.map fun e => keyS e.snd).length = c := by rw [List.length_map, Array.length_toList, hsz]
    generalize (es.toList.map fun e => keyS e.snd) = ks at *
    subst h3
    exact ⟨.ref s.heap.objs.size, _, I.laid (t' := tk) k (Nat.le_refl _) (setS_ok G'), rfl, q _ ks hn h1 fun k => by rw [h2 k, decide_eq_true_eq]⟩
theorem call_setTSK {K : PySem.W.Frag} {P : Program} {w : World} (hK : X.K = K) (hP : X.prog = P) (hw : X.w = w) (hc : X.calm = true) : CallR X (.type "set") (rSetTS K P w) := by
  subst hK hP hw
  exact call_setTS hc
end
end My
/-! sorted(xs, key=lambda one: ..), the keys texts: a lambda of one parameter that captures nothing -/
namespace My
open PySem L2 LamX PyProof.Rows
/-- what a key's expression makes of the item v: the text k; nothing that stood is changed -/
def KeyE (prog : Program) (w : World) (scope : Scope) (x : Str) (body : Expr) (R : Heap → Value → Str → Prop) : Prop :=
  ∀ (cenv : Env) (A' : Around) (E' : Value → Shared → Prop) (v : Value) (k : Str) (s₂ : Shared) (m₂ : Str → Option Value), cenv.scope = scope → s₂.heap.Ns cenv.locals m₂ → m₂ x = some v → R s₂.heap v k →
    wpAny (model prog w) A' (eval body cenv) (fun y s₃ => (∃ t, y = .str k t) ∧ Keeps s₂ s₃) E' s₂
/-- the tuple's first is the text -/
def TupK (h : Heap) (v : Value) (k : Str) : Prop := ∃ (t : Addr) (u : Tok) (its : List Value), v = .ref t ∧ IsTup h t (Value.str k u :: its).toArray
theorem tupK_keep {h h' : Heap} {v : Value} {k : Str} (e : ∀ b o, h.get? b = some o → h'.get? b = some o) (r : TupK h v k) : TupK h' v k := by
  obtain ⟨t, u, its, rfl, o, ho, r⟩ := r
  exact ⟨t, u, its, rfl, o, e _ _ ho, r⟩
theorem keeps_tok (s : Shared) (n : Nat) : Keeps s { s with toks := n } := ⟨s.heap, n, rfl, fun _ _ e => e⟩
/-- x[0] -/
theorem key_first {prog : Program} {w : World} {scope : Scope} {x : Str} {j : Nat} {p1 p2 p3 : Pos} (hk : scope.kind = .function) (hl : scope.names.lookup x = some .local) (hd : (x == ("__debug__" : Str)) = false := by decide) :
    KeyE prog w scope x (.Subscript (.Name x p1) (.Constant (.int 0) j p2) p3) TupK := by
  intro cenv A' E' v k s₂ m₂ hs hn hm r
  obtain ⟨t, u, its, rfl, pl⟩ := r
  refine Subscript_ (wpAny_Name (wpAny_loadName_local (by rw [hs]; exact hk) (show cenv.scope.names.lookup x = some .local by rw [hs]; exact hl) hn hm ?_) hd)
  refine wpAny_Constant_int ?_
  refine subscriptTail_builtinR (x := .str k u) (IsTup.typeIs (s := { s₂ with toks := _ }) pl) slot_tuple_getitem.lookup ?_ rfl
  refine getItem_tuple (k := 0) (j := 0) pl (by decide) (by decide) (by show seqIndex? 0 _ = some 0; unfold seqIndex?; simp) (by simp) ⟨rfl, ⟨u, rfl⟩, keeps_tok s₂ _⟩
/-- all but the tables of code objects -/
theorem extN_sql {K : PySem.W.Frag} {H H' : Hp} {a : Addr} {xs : List V} (e : ExtN H H') (h : SqL K H a xs) : SqL K H' a xs := by
  rcases h with (h | ⟨o, h⟩) | h
  · exact .inl (.inl (e _ _ h fun _ z => nomatch z))
  · exact .inl (.inr ⟨o, e _ _ h fun _ z => nomatch z⟩)
  · exact .inr h
theorem extN_imm {H H' : Hp} (e : ExtN H H') : Imm H H' := fun b o h i => e b o h fun ps z => by
  subst z
  cases i
theorem extN_same {H H' : Hp} (e : Same H H') : ExtN H H' := fun b o h _ => e b o h
def keyD (b : V × Str) : PyData := .str b.2
/-- sorted by the keys, equal ones as they stood -/
def sortBy (bs : List (V × Str)) : List (V × Str) := bs.mergeSort (PySem.W.dataLe false keyD)
theorem sortBy_perm (bs : List (V × Str)) : (sortBy bs).Perm bs := List.mergeSort_perm _ _
def tSortLam (K : PySem.W.Frag) (T : List (Addr × Str)) (RK : Hp → V → Str → Prop) (te : TE) : TE := fun σ H Q => te σ H fun v H1 => Tabs T H1 ∧ ∃ (a : Addr) (bs : List (V × Str)), v = .ref a ∧ SqL K H1 a (bs.map (·.1)) ∧ (∀ b ∈ bs, RK H1 b.1 b.2) ∧
  ∀ (p : Addr) (H2 : Hp), ExtN H1 H2 → Tabs T H2 → H2 p = none → Q (.ref p) (upd H2 p (.lst ((sortBy bs).map (·.1))))
section
variable {X : Cx}
theorem pe_sortLam {T : List (Addr × Str)} {te : TE} {c P : Addr} {k : Nat} {e : Expr} {params : Arguments} {body : Expr} {scope : Scope} {x : Str} {p lpos kpos pos : Pos} {R : Heap → Value → Str → Prop} {RK : Hp → V → Str → Prop}
    (hkey : KeyE X.prog X.w scope x body R) (hR : ∀ pins s σ H b u v, Inv X pins σ H s → RK H b u → RelV b v → R s.heap v u) (hRk : ∀ (h h' : Heap) v u, (∀ b o, h.get? b = some o → h'.get? b = some o) → R h v u → R h' v u) (hRe : ∀ H H' b u, ExtN H H' → RK H b u → RK H' b u)
    (hg : Gl X "sorted") (hm : X.mg "sorted" = none) (ha : PE X e te) (TB : TabB X.base X.mg c P) (hcode : X.env.code = .ref c) (hmT : (P, X.env.qual ++ "<lambda>") ∈ T) (hu : ∀ p ∈ T, p.1 = P → p.2 = X.env.qual ++ "<lambda>") (hr : Room k X.A)
    (hdef : defaultsOf params X.env = ([], [])) (hkind : scope.kind = .function) (hco : scope.isCoroutine = false) (hgen : scope.isGenerator = false) (hnames : ∀ y ∈ scope.names, y.2 ≠ .free ∧ y.2 ≠ .cell) (hx : scope.names.lookup x = some .local)
    (hbind : ∀ (q : Str) (cl : List (Str × Addr)) (pm cv ctv v : Value), bindArgs (PySem.W.kla_fn "<lambda>" q params body scope cl pm cv ctv) ⟨[v], []⟩ = pure [(x, v)])
    (hst : starEach [e] X.env = (false, eval e X.env) :: starEach [] X.env := by rfl) (he : backTo pos (starEach [e] X.env) = (false, eval e X.env) :: backTo pos (starEach [] X.env) := by rfl) (hpl : (backTo pos (starEach [e] X.env)).any (·.1) = false := by rfl) :
    PE X (.Call (.Name "sorted" p) [e] [⟨some "key", .Lambda params body scope lpos, kpos⟩] pos) (tSortLam X.K T RK te) := by
  refine ⟨fun pins s σ H Q I h => ?_⟩
  refine wpAny_Call_Name_kw (ld_blt (u := .builtin "sorted") I hg hm (by decide +kernel) ?_ (by decide) (by decide))
  refine PyProof.Rows.callWith_kw (thn ((pa_cons ha pa_nil hst).run pos pins s σ H (fun vs H1 => match vs with | [v] => Tabs T H1 ∧ ∃ (a : Addr) (bs : List (V × Str)), v = .ref a ∧ SqL X.K H1 a (bs.map (·.1)) ∧ (∀ b ∈ bs, RK H1 b.1 b.2) ∧ ∀ (p : Addr) (H2 : Hp), ExtN H1 H2 → Tabs T H2 → H2 p = none → Q (.ref p) (upd H2 p (.lst ((sortBy bs).map (·.1)))) | _ => False) I h) fun us s1 ⟨vs, H1, I1, r1, q1⟩ => ?_) he hpl rfl rfl
  obtain ⟨v, rfl⟩ : ∃ v, vs = [v] := by
    match vs, q1 with
    | [v], _ => exact ⟨v, rfl⟩
  obtain ⟨hT, a, bs, rfl, hL, hK, q⟩ := q1
  obtain rfl := Vals.ref1 r1
  show wpAny _ _ (evalAll [do let v ← eval (.Lambda params body scope lpos) X.env; standAt pos; pure v]) _ _ s1
  refine wpAny_evalAll_cons (wpAny_bind (lam_make2 I1 TB hcode hmT hu hT hdef (fun y hy z => absurd z (hnames y hy).1) fun f c' pm ctv H2 s2 I2 eN T2 hf hfn hfr hco' => wpAny_bind (wpAny_standAt (wpAny_pure (wpAny_evalAll_nil ?_)))))
  show wpAny (model X.prog X.w) X.A (call (.builtin "sorted") [.ref a] [("key", .ref f)]) _ _ s2
  have hL2 := extN_sql eN hL
  obtain ⟨its, rv, hl, hz⟩ := I2.list hL2
  obtain ⟨⟨oc, cvs, ct, hoc, hdc, hvc⟩, _, _⟩ := I2.hok c' _ hco'
  have hbs : ∀ (l : List (V × Str)) (us : List Value), Vals (l.map (·.1)) us → (∀ b ∈ l, b ∈ bs) → PySem.W.EachIs (fun (v : Value) (b : V × Str) => RelV b.1 v ∧ R s2.heap v b.2) us l := by
    intro l
    induction l with
    | nil =>
      intro us r _
      cases r
      exact .nil
    | cons b l ih =>
      intro us r m
      cases r with
      | cons r1 r2 => exact .cons ⟨r1, hR pins s2 σ H2 b.1 b.2 _ I2 (hRe _ _ _ _ eN (hK b (m b (.head _)))) r1⟩ (ih _ r2 fun b' h' => m b' (.tail _ h'))
  have e := hbs bs its rv fun _ h => h
  refine PySem.W.sorted_key_data (R := fun (v : Value) (b : V × Str) => RelV b.1 v ∧ R s2.heap v b.2) (b := false) keyD hl.isList e ?_ ?_ ?_ ?_ (PyProof.Rows.ksk_s1 _ _) (fun _ => PyProof.Rows.ksk_l1 _ _) (fun x => PyProof.Rows.ksk_t1 f x) (fun v b hb hm' g tk kp => ?_) fun out cc h' tk kp hn hD hlen hout => ?_
  · intro d hd d' hd'
    obtain ⟨b, _, rfl⟩ := List.mem_map.mp hd
    obtain ⟨b', _, rfl⟩ := List.mem_map.mp hd'
    rfl
  · refine .inr fun d hd => ?_
    obtain ⟨b, _, rfl⟩ := List.mem_map.mp hd
    exact ⟨nofun, fun _ => nofun⟩
  · rw [List.length_map] at hz
    exact hz
  · intro b _
    have := hr.units
    show X.A.units + 2 + (PyData.str b.2).depth < _
    have z : (PyData.str b.2).depth ≤ 1 := by show _ ≤ 1; simp [PyData.depth]
    omega
  · have of1 := kp _ _ hf
    refine wpAny_call ?_
    refine PySem.W.kla_callFunE (by have := hr.dp; show X.A.depth < _; omega) of1 rfl hco hgen rfl ⟨c', oc, cvs, ct, rfl, kp _ _ hoc, hdc, hvc⟩ ?_
    rw [hbind]
    refine wpAny_pure (wpAny_newFunctionEnv (fun y hy => (hnames y hy).2) (fun y hy => ?_) (fun h₁ hns hsb => ⟨(I2.nolimit.keeps kp).fresh _ hsb, ?_⟩) hkind)
    · obtain rfl := List.mem_singleton.mp hy
      exact hx
    · have kp1 : ∀ b o, g.get? b = some o → h₁.get? b = some o := fun b o e => hsb.extBut b o (Nat.ne_of_lt (Heap.lt_size e)) (Heap.get?_push_of_some _ e)
      refine PySem.W.kla_codeExpr (wpAny_mono (hkey _ _ (fun _ _ => False) v b.2 _ _ rfl hns (by simp) (hRk _ _ _ _ kp1 (hRk _ _ _ _ kp hb.2))) (fun y s3 hq => ?_) fun _ _ z => z.elim)
      obtain ⟨⟨t, rfl⟩, h3, tk3, rfl, kp3⟩ := hq
      exact ⟨h3, tk3, rfl, fun b o e => kp3 b o (kp1 b o e), .str _ _⟩
  · have hv : ∀ (l : List (V × Str)) (us : List Value), PySem.W.EachIs (fun (v : Value) (b : V × Str) => RelV b.1 v ∧ R s2.heap v b.2) us l → Vals (l.map (·.1)) us := by
      intro l us e
      induction e with
      | nil => exact .nil
      | cons r _ ih => exact .cons r.1 ih
    refine ⟨.ref _, upd H2 (s2.heap.objs.size + 1) (.lst ((sortBy bs).map (·.1))), I2.laid (t' := tk) kp (Nat.le_succ _) ⟨?_, out, cc, hv _ _ hout, hD⟩, rfl, q _ H2 eN T2 (I2.hok.fresh (Nat.le_succ _))⟩
    rw [List.length_map, (sortBy_perm bs).length_eq]
    rw [List.length_map] at hz
    exact hz
end
/-- the item is a tuple whose first is the text -/
def RKt (K : PySem.W.Frag) (H : Hp) (x : V) (k : Str) : Prop := ∃ (t : Addr) (xs : List V), x = .ref t ∧ SqT K H t (.str k :: xs)
section
variable {X : Cx}
/-- sorted(xs, key=lambda x: x[0]), the items tuples whose first is a text -/
theorem pe_sortFirst {te : TE} {c P : Addr} {k : Nat} {e : Expr} {params : Arguments} {scope : Scope} {x : Str} {j : Nat} {p p1 p2 p3 lpos kpos pos : Pos}
    (hg : Gl X "sorted") (hm : X.mg "sorted" = none) (ha : PE X e te) (TB : TabB X.base X.mg c P) (hcode : X.env.code = .ref c) (hr : Room k X.A)
    (hdef : defaultsOf params X.env = ([], []) := by rfl) (hkind : scope.kind = .function := by rfl) (hco : scope.isCoroutine = false := by rfl) (hgen : scope.isGenerator = false := by rfl) (hnames : ∀ y ∈ scope.names, y.2 ≠ .free ∧ y.2 ≠ .cell := by decide +kernel) (hx : scope.names.lookup x = some .local := by rfl)
    (hbind : ∀ (q : Str) (cl : List (Str × Addr)) (pm cv ctv v : Value), bindArgs (PySem.W.kla_fn "<lambda>" q params (.Subscript (.Name x p1) (.Constant (.int 0) j p2) p3) scope cl pm cv ctv) ⟨[v], []⟩ = pure [(x, v)] := by intros; rfl)
    (hd : (x == ("__debug__" : Str)) = false := by decide) (hst : starEach [e] X.env = (false, eval e X.env) :: starEach [] X.env := by rfl) (he : backTo pos (starEach [e] X.env) = (false, eval e X.env) :: backTo pos (starEach [] X.env) := by rfl) (hpl : (backTo pos (starEach [e] X.env)).any (·.1) = false := by rfl) :
    PE X (.Call (.Name "sorted" p) [e] [⟨some "key", .Lambda params (.Subscript (.Name x p1) (.Constant (.int 0) j p2) p3) scope lpos, kpos⟩] pos) (tSortLam X.K [(P, X.env.qual ++ "<lambda>")] (RKt X.K) te) := by
  refine pe_sortLam (x := x) (R := TupK) (RK := RKt X.K) (key_first hkind hx hd) (fun pins s σ H b u v I r rv => ?_) (fun h h' v u e r => tupK_keep e r) (fun H H' b u e r => ?_) hg hm ha TB hcode (.head _) (fun q hq _ => by rw [List.mem_singleton.mp hq]) hr hdef hkind hco hgen hnames hx hbind hst he hpl
  · obtain ⟨t, xs, rfl, hT⟩ := r
    obtain rfl : v = .ref t := rv
    obtain ⟨its, vs, pl, _⟩ := I.tuple hT
    cases vs with
    | cons r1 r2 =>
      obtain ⟨tk, rfl⟩ := r1
      exact ⟨t, tk, _, rfl, pl⟩
  · obtain ⟨t, xs, rfl, hT⟩ := r
    exact ⟨t, xs, rfl, (extN_imm e).seqT hT⟩
end
end My
namespace My
open PySem L2 LamX PyProof.Rows
/-- the rule for a def, its own code told -/
theorem _root_.L2.Fun.okC {P : Program} {w : World} {K : PySem.W.Frag} {mg : Str → Option Value} {base : Heap} {x qual : Str} {st : Stmt} {f : Addr} {fd : FuncData} {N ps : List Str} {k : Nat} {sp : Sp} (F : L2.Fun K x qual st f fd) (S : FnScope N ps (defScope st)) (len : ∀ vs H Q E, sp vs H Q E → vs.length = ps.length)
    (hbody : ∀ (A : Around) (outer : List Env) (s : Shared) (H : Hp) (vs : List V) (Q : VK) (E : XK), Room k (A.deeper (envOfC qual (defScope st) s.heap.objs.size f fd.code)) → sp vs H Q E →
      ∃ t, PSs (cxOf CX0 P w K mg base N qual (defScope st) f fd.code A outer s H E).nox (defBody st) t ∧ t { nx := fun _ H' => Q .non H', rt := Q } (start N vs) H) : FnOk P w K mg base CX0 (k + 1) f fd ps sp := by
  obtain ⟨oc, od, kV, doc, pm, an, cdv, ct, osl, rfl, lk, hcd⟩ := F.ex
  refine fn_of lk hcd S len fun A outer s H vs Q E hr hsp => ?_
  obtain ⟨t, h, q⟩ := hbody A outer s H vs Q E hr hsp
  exact ⟨t, h.nox, q⟩
/-- all but r and the tables -/
def ButN (r : Addr) (H H' : Hp) : Prop := ∀ b o, H b = some o → b ≠ r → (∀ ps, o ≠ .tbl ps) → H' b = some o
theorem ButN.of {r : Addr} {H H' : Hp} (b : But r H H') : ButN r H H' := fun c o h n _ => b c o h n
theorem ButN.ext {r : Addr} {H H1 H' : Hp} (b : But r H H1) (e : ExtN H1 H') : ButN r H H' := fun c o h n m => e c o (b c o h n) m
end My
namespace My
open PySem L2 LamX PyProof.Rows
theorem cut_take (xs : List V) (n : Nat) : cutV xs none (some (n : Int)) = xs.take n := by
  unfold cutV
  rw [show HT.sIx xs.length xs.length (some (n : Int)) = min n xs.length from HT.sIx_nat xs.length xs.length n, HT.sIx_none]
  show (xs.drop 0).take (min n xs.length - 0) = xs.take n
  rw [List.drop_zero, Nat.sub_zero]
  by_cases h : n ≤ xs.length
  · rw [Nat.min_eq_left h]
  · rw [Nat.min_eq_right (by omega), List.take_of_length_le (Nat.le_refl _), List.take_of_length_le (by omega)]
end My
namespace My
open PySem L2
section
variable {K : PySem.W.Frag} {H : Hp} {x y : V} {d : PyData} {Q : VK}
/-! ### equal data -/
theorem eqv_self (s : SeqAt.shaped d = true) : d.eqv d = true := by
  unfold SeqAt.shaped at s
  rw [Bool.and_eq_true] at s
  exact PySem.SeqAt.eqv_refl d s.1
theorem rNeD_self (h1 : Dp K H x d) (h2 : Dp K H y d) (s : SeqAt.shaped d = true) (q : Q (.bl false) H) : rNeD K x y H Q := ⟨d, d, h1, h2, s, s, by rw [eqv_self s]; exact q⟩
theorem rEqD_self (h1 : Dp K H x d) (h2 : Dp K H y d) (s : SeqAt.shaped d = true) (q : Q (.bl true) H) : rEqD K x y H Q := ⟨d, d, h1, h2, s, s, by rw [eqv_self s]; exact q⟩
/-- data of depth two: a tuple of scalars and tuples of ints -/
theorem can_app : ∀ a b : List PyData, PyData.canLayAll0 (a ++ b) = (PyData.canLayAll0 a && PyData.canLayAll0 b)
  | [], _ => (Bool.true_and _).symm
  | x :: r, b => by
    show (x.canLay0 && PyData.canLayAll0 (r ++ b)) = _
    rw [can_app r b]
    exact (Bool.and_assoc _ _ _).symm
end
end My
namespace My
open PySem PySem.Spec PyProof.Rows L2
/-! ### sets that grow: s.add(e), {e for ..}; of any kind of keys -/
/-- a kind of keys, as values -/
structure ZK (κ : Type) [DecidableEq κ] where
  kd : ∀ (P : Program) (w : World), KeyKind P w κ
  val : κ → V
  ok : ∀ (P : Program) (w : World) (k : κ) (v : Value), RelV (val k) v → (kd P w).is k v = true ∧ v.scannable = true
section
variable {κ : Type} [DecidableEq κ] (Z : ZK κ) {P : Program} {w : World} {X : Cx}
/-- the set at a: its members, how many -/
def SetZ (P : Program) (w : World) (a : Addr) (S : κ → Bool) (n : Nat) : HO := .ext fun h => SetG (Z.kd P w) h a S n
theorem setZ_ok {H : Hp} {h : Heap} {a : Addr} {S : κ → Bool} {n : Nat} (g : SetG (Z.kd P w) h a S n) : ObjOk P w H h a (SetZ Z P w a S n) := by
  have g' := g
  obtain ⟨o, _, _, _, ho, _⟩ := g'
  exact ⟨g, ⟨o, ho⟩, fun _ _ q k => q.stay k⟩
/-- with one more -/
def more (S : κ → Bool) (k : κ) : κ → Bool := fun j => S j || decide (j = k)
def moreN (S : κ → Bool) (k : κ) (n : Nat) : Nat := if S k = true then n else n + 1
/-- set.add: the object grows, nothing else does -/
theorem setZ_add {A : Around} {E : Value → Shared → Prop} {s : Shared} {a : Addr} {S : κ → Bool} {n : Nat} {k : κ} {v : Value} {Q : Value → Shared → Prop} (hv : RelV (Z.val k) v) (G : SetG (Z.kd P w) s.heap a S n) (hn : n + 1 < scanBound)
    (c : ∀ h', Heap.SameBut a s.heap h' → SetG (Z.kd P w) h' a (more S k) (moreN S k n) → Q .none { s with heap := h', toks := s.toks + 1 }) : wpAny (model P w) A (call (.builtin "set.add") [.ref a, v]) Q E s := by
  obtain ⟨his, hsc⟩ := Z.ok P w k v hv
  have hT : s.TypeIs (.ref a) "set" := by
    obtain ⟨o, _, _, _, ho, hx, _⟩ := G
    exact ⟨o, ho, hx.1⟩
  refine wpAny_call_entry F.slot_set_add hT F.entry_set_add ?_ (F.args_set_add_2 _ _)
  unfold Builtin.«set.add» Builtin.Frozenset.oneOther Builtin.Frozenset.addrOf setAdd
  simp only [List.isEmpty_nil, bind_assoc]
  refine wpAny_bind (wpAny_pure (wpAny_bind (wpAny_pure (wpAny_bind (wpAny_holding (wpAny_bind ((Z.kd P w).pyHash his ?_)))))))
  exact setG_add_hashed (s := { s with toks := s.toks + 1 }) his hsc G hn fun h' sb g => wpAny_pure ⟨_, rfl, c h' sb g⟩
/-- .. where the set is tracked -/
theorem setZ_grows {pins : List (Addr × Obj)} {σ : L2.St} {H : Hp} {s : Shared} {E : Value → Shared → Prop} {a : Addr} {S : κ → Bool} {n : Nat} {k : κ} {v : Value} {Q : Value → Shared → Prop} (I : Inv X pins σ H s) (ha : H a = some (SetZ Z X.prog X.w a S n)) (hv : RelV (Z.val k) v) (hn : n + 1 < scanBound)
    (c : ∀ s', Inv X pins σ (upd H a (SetZ Z X.prog X.w a (more S k) (moreN S k n))) s' → Q .none s') : wpAny (model X.prog X.w) X.A (call (.builtin "set.add") [.ref a, v]) Q E s := by
  have G : SetG (Z.kd X.prog X.w) s.heap a S n := (I.hok a _ ha).1
  refine setZ_add Z hv G hn fun h' sb g => c _ ?_
  have g' := g
  obtain ⟨o, _, _, _, ho, _⟩ := g'
  refine I.write (x := a) (e := a) (t' := s.toks + 1) (by rw [ha]; exact True.intro) (Or.inl rfl) (fun b u hb hu => ?_) ⟨o, ho⟩ (setZ_ok Z g)
  rw [sb.2 b hb]
  exact hu
/-- a.add(e) -/
def tGrow (P : Program) (w : World) (to te : TE) : TE := fun σ H Q => to σ H fun x H1 => ∃ a : Addr, x = .ref a ∧ (∃ S n, H1 a = some (SetZ Z P w a S n)) ∧ te σ H1 fun y H2 => ∃ (k : κ) (S : κ → Bool) (n : Nat), y = Z.val k ∧ H2 a = some (SetZ Z P w a S n) ∧ n ≤ 2000 ∧ Q .non (upd H2 a (SetZ Z P w a (more S k) (moreN S k n)))
theorem pe_grow {o e : Expr} {to te : TE} {apos cpos : Pos} (ho : PE X o to) (ha : PE X e te) (hbase : attributeBase o "add" X.env (eval o X.env) = eval o X.env := by rfl)
    (hfew : ((backTo cpos (starEach [e] X.env)).all (fun x => !x.1) && (backToKw cpos (keywordEach [] X.env)).all (fun x => x.1.isSome) && decide ([e].length + ([] : List Keyword).length + (if ([] : List Keyword).isEmpty then 0 else 1) < 30)) = true := by rfl)
    (hline : (apos.endLine == cpos.line) = true := by rfl) (hs : starEach [e] X.env = (false, eval e X.env) :: starEach [] X.env := by rfl) : PE X (.Call (.Attribute o "add" apos) [e] [] cpos) (tGrow Z X.prog X.w to te) := by
  refine ⟨fun pins s σ H Q I h => wpAny_Call_method_late hbase hfew hline rfl (thn (ho.run pins s σ H _ I h) fun v s1 ⟨x, H1, I1, r1, a, ex, ⟨S0, n0, h0⟩, q1⟩ => ?_)⟩
  subst ex
  obtain rfl : v = .ref a := r1
  have G0 : SetG (Z.kd X.prog X.w) s1.heap a S0 n0 := (I1.hok a _ h0).1
  obtain ⟨o0, es0, ep0, t0, ho0, hx0, _⟩ := G0
  refine ⟨"set", "set.add", F.plainAttrs_set, F.slot_set_add, F.type_set_add, ⟨o0, ho0, hx0.1⟩, fun b hb => ⟨o0, by cases hb; exact ho0, hx0.2.1⟩, ?_⟩
  rw [hs]
  refine Calls.callWith_builtin (by rfl) (Calls.evalArgs_plain ?_)
  refine Calls.spliced_cons (thn (ha.run pins s1 σ H1 _ I1 q1) fun u s2 ⟨y, H2, I2, r2, k, S, n, ey, h2, hn, q2⟩ => Calls.spliced_nil ?_)
  subst ey
  exact setZ_grows Z I2 h2 r2 (by unfold scanBound; omega) fun s' I' => ⟨.non, _, I', rfl, q2⟩
/-- an empty set, just made -/
theorem setZ_zero {h : Heap} : SetG (Z.kd P w) (h.push (freshSet w)) h.objs.size (fun _ => false) 0 :=
  (setG_fresh (knd := Z.kd P w) (Heap.get?_push_size h rfl) []).to fun k => by rw [List.take_nil]; exact decide_eq_false List.not_mem_nil
/-- {e for t in i if c ..}: J the thing walked over, D the new set, W what holds between the turns -/
def tSetZ (P : Program) (w : World) (wi : TI) (g : TG) (tt : TT) (te : TE) (vs : List Nat) : TE := fun σ H Q => wi σ H fun J H1 => ∀ D, H1 D = none → ∃ W : Nat → Nat → Hp → Prop, (∃ m, W 0 m (upd H1 D (SetZ Z P w D (fun _ => false) 0))) ∧ ∀ i m H, W i m H →
  (J.stop i H ∧ Q (.ref D) H) ∨ (J.go i H ∧ ∃ Nx : Hp → Prop, (∀ H', Nx H' → ∃ m', m' < m ∧ W (i + 1) m' H') ∧ ∀ x H', J.yld i H x H' → g x (wipe σ vs) H' fun σ2 H2 => wipe σ2 vs = wipe σ vs ∧ tt σ2 H2 fun b H3 =>
    if b = true then te σ2 H3 fun y H4 => ∃ (k : κ) (S : κ → Bool) (n : Nat), y = Z.val k ∧ H4 D = some (SetZ Z P w D S n) ∧ n ≤ 2000 ∧ Nx (upd H4 D (SetZ Z P w D (more S k) (moreN S k n))) else Nx H3)
theorem pe_setZ {elt tg iter : Expr} {ifs : List Expr} {scope : Scope} {own : List (Str × Nat)} {pos : Pos} {wi : TI} {g : TG} {tt : TT} {te : TE} (calm : X.calm = true) (nd : X.N.Nodup) (walks : PI X tg iter wi) (ok : BlkOk X.N X.env.scope scope own)
    (target : ∀ s H C cl fp, PG (X.blk s H scope (compEnvC scope cl C X.env) fp) tg g) (tests : ∀ s H C cl fp, PTs (X.blk s H scope (compEnvC scope cl C X.env) fp) ifs tt) (elem : ∀ s H C cl fp, PE (X.blk s H scope (compEnvC scope cl C X.env) fp) elt te)
    (hs : ∀ x, foldedSetIterable iter X.env x = pure x := by intro _; rfl) : PE X (.SetComp elt [⟨tg, iter, ifs, 0⟩] scope pos) (tSetZ Z X.prog X.w wi g tt te (own.map (·.2))) := by
  refine ⟨fun pins s σ H Q I spec => ?_⟩
  rw [PpSet.eval_SetComp]
  have caught : ∀ y ∈ scope.names, y.2 = .free → ∃ c, X.env.cells.lookup y.1 = some c := fun y hy e => (ok.free y hy e).elim (fun k => I.ok.has _ (.inl k)) fun k => I.ok.has _ (.inr k)
  refine wpAny_comprehension_free rfl hs (closure_ok caught) ok.kind (fun y hy e => by rw [ok.uniq y hy, e]) (thn (walks.run pins s σ H _ I spec) fun v0 s1 at1 => thn at1 fun v1 s2 at2 => ?_)
  obtain ⟨it, fp, tn, J, H2, rfl, I2, T, tn2, apart, spec2⟩ := at2
  refine PpSet.newSet_ok (newEnv_comp ?_)
  have free2 : H2 s2.heap.objs.size = none := I2.hok.fresh (Nat.le_refl _)
  have inside : ∀ b ∈ fp, b < s2.heap.objs.size := fun b hb => let ⟨_, e, _⟩ := T.obj _ _ tn2 b hb; Heap.lt_size e
  obtain ⟨W, ⟨m0, w0⟩, turn⟩ := spec2 _ free2
  -- the state with the new set
  have I3 := I2.laid (t' := s2.toks) (o := SetZ Z X.prog X.w s2.heap.objs.size (fun _ => false) 0) (h' := s2.heap.push (freshSet X.w)) (fun _ _ e => Heap.get?_push_of_some _ e) (Nat.le_refl _) (setZ_ok Z (setZ_zero Z))
  have apart3 : ∀ b ∈ fp, FpOk X pins (upd H2 s2.heap.objs.size (SetZ Z X.prog X.w s2.heap.objs.size (fun _ => false) 0)) b ∧ b < (s2.heap.push (freshSet X.w)).objs.size := fun b hb => by
    have lt := inside b hb
    have ne : b ≠ s2.heap.objs.size := Nat.ne_of_lt lt
    exact ⟨⟨(upd_ne ne).trans (apart b hb).1, (apart b hb).2⟩, by rw [Heap.size_push]; exact Nat.lt_succ_of_lt lt⟩
  have tn3 : tn 0 (s2.heap.push (freshSet X.w)) := T.keep _ _ _ tn2 fun b _ o e => Heap.get?_push_of_some _ e
  have I4 := block_start I3 ok nd apart3
  have tn4 : tn 0 (pushCells ((s2.heap.push (freshSet X.w)).push { cls := .type "dict", data := .dict #[] }) scope.names) := T.keep _ _ _ tn3 fun b _ o e => pushCells_keeps _ _ _ _ (Heap.get?_push_of_some _ e)
  have none3 : ∀ b ∈ fp, (upd H2 s2.heap.objs.size (SetZ Z X.prog X.w s2.heap.objs.size (fun _ => false) 0)) b = none := fun b hb => (apart3 b hb).1.1
  generalize s2.heap.objs.size = D at *
  generalize upd H2 D (SetZ Z X.prog X.w D (fun _ => false) 0) = H3 at *
  show codeAny (model X.prog X.w) X.A (.compStart (.SetComp elt [⟨tg, iter, ifs, 0⟩] scope pos) 0 (.ref it) (.ref D) (compEnvC scope (cellsFrom ((s2.heap.push (freshSet X.w)).objs.size + 1) scope.names (cloFrom X.env.cells scope.names [])) (s2.heap.push (freshSet X.w)).objs.size X.env)) _ _
  generalize hs3 : ({ s2 with heap := s2.heap.push (freshSet X.w) } : Shared) = s3 at I3 I4
  have e3 : s2.heap.push (freshSet X.w) = s3.heap := by rw [← hs3]
  rw [e3] at tn4 ⊢
  generalize hce : compEnvC scope (cellsFrom (s3.heap.objs.size + 1) scope.names (cloFrom X.env.cells scope.names [])) s3.heap.objs.size X.env = ce
  have T1 := target s3 H3 s3.heap.objs.size (cellsFrom (s3.heap.objs.size + 1) scope.names (cloFrom X.env.cells scope.names [])) fp
  have T2 := tests s3 H3 s3.heap.objs.size (cellsFrom (s3.heap.objs.size + 1) scope.names (cloFrom X.env.cells scope.names [])) fp
  have T3 := elem s3 H3 s3.heap.objs.size (cellsFrom (s3.heap.objs.size + 1) scope.names (cloFrom X.env.cells scope.names [])) fp
  rw [hce] at T1 T2 T3 I4
  have own_ : ce.locals = s3.heap.objs.size := by rw [← hce]; rfl
  have aside : ∀ {σ' : L2.St} {H' : Hp} {s' : Shared}, Inv (X.blk s3 H3 scope ce fp) [] σ' H' s' → (∀ b ∈ fp, H' b = none) → ∀ b ∈ fp, FpOk (X.blk s3 H3 scope ce fp) [] H' b := fun J' n b hb =>
    ⟨n b hb, (J'.ok.exf b hb).1, J'.ok.exfs b hb, Or.inl hb, fun x c e => (J'.ok.exf b hb).2 x c e, fun p hp => absurd (show p ∈ ([] : List (Addr × Obj)) ++ [] from hp) List.not_mem_nil⟩
  have whole : codeAny (model X.prog X.w) X.A (.compLoop (.SetComp elt [⟨tg, iter, ifs, 0⟩] scope pos) 0 (.ref it) (.ref D) ce) (compPost (model X.prog X.w) X.A X.xe none (EP X pins σ Q) (.ref D) s3.heap.objs.size) { s2 with heap := pushCells (s3.heap.push { cls := .type "dict", data := .dict #[] }) scope.names } := by
    refine PpSet.compLoopS_any (fun m s' => ∃ i H', Inv (X.blk s3 H3 scope ce fp) [] (wipe σ (own.map (·.2))) H' s' ∧ tn i s'.heap ∧ (∀ b ∈ fp, H' b = none) ∧ W i m H') (fun m s' ⟨i, H', J', tn', none', w'⟩ => ?_) m0 ⟨0, H3, by subst hs3; exact I4, tn4, none3, w0⟩
    rcases turn i m H' w' with ⟨stop, q⟩ | ⟨go, Nx, next, step⟩
    · refine thnF (T.done (X.blk s3 H3 scope ce fp) rfl rfl rfl calm i [] s' _ H' (fun _ _ => False) J' (aside J' none') tn' stop) fun r s'' ⟨er, J''⟩ => ?_
      subst er
      have back : Inv X pins σ H' s'' := I3.call' (ch := fp) J''.os J''.base J''.hok J''.bare fun b hb => ⟨(apart3 b hb).1.2.2.2.1, (apart3 b hb).1.2.1, (apart3 b hb).1.2.2.2.2.1, (apart3 b hb).1.2.2.2.2.2⟩
      have none'' : H' s3.heap.objs.size = none := by
        rw [← own_]
        exact J''.free
      obtain ⟨names, at_, _⟩ := J''.loc
      have at' : s''.heap.Ns s3.heap.objs.size names := by
        rw [← own_]
        exact at_
      obtain ⟨f0, f1, f2, f3, f4, f5⟩ := I3.fpOk (b := s3.heap.objs.size) (Nat.le_refl _) none''
      exact ⟨names, at', fun h2 sb => ⟨.ref D, H', back.turned (t' := s''.toks) (fun b o hb e => (sb.2 b hb).trans e) f0 f1 f3 f4 f5, rfl, q⟩⟩
    · refine thnF (T.item (X.blk s3 H3 scope ce fp) rfl rfl rfl calm i [] s' _ H' (fun _ _ => False) J' (aside J' none') tn' go) fun r s'' ⟨u, er, item⟩ => ?_
      subst er
      refine thnF item fun _ s5 ⟨x, H5, J5, rx, yx, tn5, none5⟩ => ?_
      have J5p := J5.pinned (aside J5 none5) (T.obj _ _ tn5)
      refine thnF (T1.run _ s5 _ H5 x u _ J5p rx (step x H5 yx)) fun _ s6 ⟨σ6, H6, J6, wiped, q6⟩ => ?_
      refine thnF (T2.run _ s6 σ6 H6 _ J6 q6) fun b s7 ⟨H7, J7, q7⟩ => ?_
      have ends : ∀ {s8 : Shared} {H8 : Hp}, Inv (X.blk s3 H3 scope ce fp) ([] ++ pinsAt fp s5.heap) σ6 H8 s8 → Nx H8 → ∃ m', m' < m ∧ ∃ i H', Inv (X.blk s3 H3 scope ce fp) [] (wipe σ (own.map (·.2))) H' s8 ∧ tn i s8.heap ∧ (∀ b ∈ fp, H' b = none) ∧ W i m' H' := fun {s8 H8} J8 nx => by
        obtain ⟨m', less, w8⟩ := next H8 nx
        have stays : ∀ b ∈ fp, ∀ o, s5.heap.get? b = some o → s8.heap.get? b = some o ∧ H8 b = none := fun b hb o e => by
          obtain ⟨a1, a2, _⟩ := J8.pin (b, o) (List.mem_append_right _ (List.mem_append_right _ (mem_pinsAt hb e)))
          exact ⟨a1, a2⟩
        refine ⟨m', less, i + 1, H8, (J8.unpinned (pins := [])).weak (by rw [← wiped, wipe_length]) (fun j v e => (wipe_some (by rw [wiped]; exact e)).1), T.keep _ _ _ tn5 fun b hb o e => (stays b hb o e).1, fun b hb => ?_, w8⟩
        obtain ⟨o, e, _⟩ := T.obj _ _ tn5 b hb
        exact (stays b hb o e).2
      cases b with
      | false => exact ends J7 q7
      | true =>
        refine thnF (T3.run _ s7 σ6 H7 _ J7 q7) fun z s8 ⟨yv, H8, J8, ry, k, S, n, ey, hD, hn, nx⟩ => ?_
        subst ey
        exact setZ_grows Z (X := X.blk s3 H3 scope ce fp) J8 hD ry (by unfold scanBound; omega) fun s9 J9 => ends J9 nx
  have r := PpSet.codeAny_compStart_set whole (T.self X.A 0 _ _ _ tn4 whole)
  subst hs3
  exact r
/-- .. where the elements are told by a function, and nothing that stands is changed -/
theorem sz_fn {J : It} {n : Nat} {G : Hp → Prop} {Y : Nat → Hp → V → Hp → Prop} (wk : Walk J n G Y) {g : TG} {tt : TT} {te : TE} {vs : List Nat} {σ : L2.St} {H1 : Hp} {D : Addr} {Qd : Hp → Prop} (hn : n ≤ 1000) (hD : H1 D = none) (f : Nat → Option κ) (hG : ∀ H, Same H1 H → G H)
    (hs : ∀ i x H H', i < n → Same H1 H → Y i H x H' → ∀ (R : V → Hp → Prop) (R0 : Hp → Prop), (∀ k H4, f i = some k → Same H H4 → R (Z.val k) H4) → (∀ H3, f i = none → Same H H3 → R0 H3) →
      g x (wipe σ vs) H' fun σ2 H2 => wipe σ2 vs = wipe σ vs ∧ tt σ2 H2 fun b H3 => if b = true then te σ2 H3 R else R0 H3)
    (hd : ∀ (H : Hp) (S : κ → Bool) (c : Nat), Same H1 H → (∀ k, S k = true ↔ k ∈ (List.range n).filterMap f) → c ≤ n → H D = some (SetZ Z P w D S c) → Qd H) :
    ∃ W : Nat → Nat → Hp → Prop, (∃ m, W 0 m (upd H1 D (SetZ Z P w D (fun _ => false) 0))) ∧ ∀ i m H, W i m H →
      (J.stop i H ∧ Qd H) ∨ (J.go i H ∧ ∃ Nx : Hp → Prop, (∀ H', Nx H' → ∃ m', m' < m ∧ W (i + 1) m' H') ∧ ∀ x H', J.yld i H x H' → g x (wipe σ vs) H' fun σ2 H2 => wipe σ2 vs = wipe σ vs ∧ tt σ2 H2 fun b H3 =>
        if b = true then te σ2 H3 fun y H4 => ∃ (k : κ) (S : κ → Bool) (n : Nat), y = Z.val k ∧ H4 D = some (SetZ Z P w D S n) ∧ n ≤ 2000 ∧ Nx (upd H4 D (SetZ Z P w D (more S k) (moreN S k n))) else Nx H3) := by
  refine ⟨fun i m H => m = n - i ∧ i ≤ n ∧ Same H1 H ∧ ∃ (S : κ → Bool) (c : Nat), (∀ k, S k = true ↔ k ∈ (List.range i).filterMap f) ∧ c ≤ i ∧ H D = some (SetZ Z P w D S c), ⟨n, rfl, Nat.zero_le _, same_new hD, fun _ => false, 0, fun k => by simp, Nat.le_refl _, upd_same⟩, ?_⟩
  rintro i m H ⟨rfl, hi, s, S, c, hS, hc, eD⟩
  by_cases hlt : i < n
  · refine .inr ⟨wk.goes i H hlt (hG H s), fun H' => i + 1 ≤ n ∧ Same H1 H' ∧ ∃ (S : κ → Bool) (c : Nat), (∀ k, S k = true ↔ k ∈ (List.range (i + 1)).filterMap f) ∧ c ≤ i + 1 ∧ H' D = some (SetZ Z P w D S c), fun H' p' => ⟨n - (i + 1), by omega, rfl, p'⟩, fun x H' y => ?_⟩
    have rg : (List.range (i + 1)).filterMap f = (List.range i).filterMap f ++ (f i).toList := by
      rw [List.range_succ, List.filterMap_append]
      cases q : f i <;> simp [q]
    refine hs i x H H' hlt s (wk.yields i H x H' hlt (hG H s) y) _ _ (fun k H4 hk s4 => ?_) (fun H3 hk s3 => ?_)
    · refine ⟨k, S, c, rfl, s4 _ _ eD, by omega, hlt, same_mut (s.trans s4) hD, _, _, fun j => ?_, ?_, upd_same⟩
      · rw [rg, hk]
        show (S j || decide (j = k)) = true ↔ _
        rw [Bool.or_eq_true, decide_eq_true_eq, hS j, List.mem_append]
        exact or_congr Iff.rfl ⟨fun z => List.mem_singleton.mpr z, fun z => List.mem_singleton.mp z⟩
      · unfold moreN
        split <;> omega
    · exact ⟨hlt, s.trans s3, S, c, fun j => by rw [rg, hk, hS j]; simp, by omega, s3 _ _ eD⟩
  · obtain rfl : i = n := by omega
    exact .inl ⟨wk.stops H (hG H s), hd H S c s hS hc eD⟩
end
def zStr : ZK Str := ⟨fun P w => PySem.strKind P w, V.str, fun P w k v r => by
  obtain ⟨t, rfl⟩ := r
  exact ⟨isStr_mk k t, rfl⟩⟩
def zInt : ZK Int := ⟨fun P w => intKind P w, V.int, fun P w k v r => by
  obtain ⟨t, rfl⟩ := r
  exact ⟨beq_self_eq_true k, rfl⟩⟩
end My
namespace My
open PySem PySem.Spec PyProof.Rows L2
/-! ### d != e, == : dicts whose values are equal data -/
def EqKV (K : PySem.W.Frag) (H : Hp) (x y : V) : Prop := ∃ (a b : Addr) (ks ls : List (Key × V)), x = .ref a ∧ y = .ref b ∧ H a = some (.dK ks) ∧ H b = some (.dK ls) ∧ ks.length = ls.length ∧
  ∀ p ∈ ks, ∃ (u : V) (d : PyData), valV ls p.1 = some u ∧ Dp K H p.2 d ∧ Dp K H u d ∧ SeqAt.shaped d = true
def rNeKV (K : PySem.W.Frag) : R2 := fun x y H Q => EqKV K H x y ∧ Q (.bl false) H
section
variable {X : Cx} {pins : List (Addr × Obj)} {σ : L2.St} {H : Hp} {s : Shared}
theorem kv_hits (I : Inv X pins σ H s) {A : Around} (hu : A.units + 64 < cLine) {ls : List (Key × V)} {vb : List (Key × Value)} (rb : KV ls vb) : ∀ {ks : List (Key × V)} {va : List (Key × Value)}, KV ks va →
    (∀ p ∈ ks, ∃ (u : V) (d : PyData), valV ls p.1 = some u ∧ Dp X.K H p.2 d ∧ Dp X.K H u d ∧ SeqAt.shaped d = true) → PySem.W.KeqHits A s vb va true := by
  intro ks va ra
  unfold KV at ra
  induction ra with
  | nil => exact fun _ => .nil
  | @cons p q ps qs h t ih =>
    intro hp
    obtain ⟨kq, vq⟩ := q
    obtain ⟨kp, vp⟩ := p
    obtain ⟨h1, h2⟩ := h
    obtain rfl : kp = kq := h1
    obtain ⟨u, d, e, d1, d2, sh⟩ := hp (kp, vp) (.head _)
    obtain ⟨y, hy, ry⟩ := (show RelO (some u) (valueAt vb kp) by rw [← e]; exact rb.val kp).some_of
    obtain ⟨as, r1⟩ := Dp.reads I d vp vq d1 h2
    obtain ⟨bs, r2⟩ := Dp.reads I d u y d2 ry
    have pl := PySem.PyData.plain_of_canLay0 d (SeqAt.canLay_of_shaped sh)
    have dp := SeqAt.depth_of_shaped sh
    have q := SeqAt.eqAt_plain d d A s vq y as bs r1 r2 pl pl (by omega)
    rw [eqv_self sh] at q
    exact PySem.W.KeqHits.hit (e := true) (b := true) hy q (ih fun p' hm => hp p' (.tail _ hm))
theorem op_neKV (hu : X.A.units + 80 < cLine) : OpR X (compareOp .NotEq) (rNeKV X.K) := by
  intro pins s σ H x y v u Q I rx ry h
  obtain ⟨⟨a, b, ks, ls, rfl, rfl, ea, eb, hlen, hp⟩, q⟩ := h
  obtain rfl : v = Value.ref a := rx
  obtain rfl : u = Value.ref b := ry
  obtain ⟨_, ya, va, ra, da⟩ := (show ObjOk X.prog X.w H s.heap a (.dK ks) from I.hok a _ ea)
  obtain ⟨_, yb, vb, rb, db⟩ := (show ObjOk X.prog X.w H s.heap b (.dK ls) from I.hok b _ eb)
  refine PySem.W.keq_ne (knd := mixKind X.prog X.w) (r := true) ya yb da db (by omega) (fun _ => kv_hits I (A := X.A.in1) (by show X.A.units + 1 + 64 < cLine; omega) rb ra hp) ?_
  have e : va.length = vb.length := by rw [← ra.length, ← rb.length, hlen]
  have z : (!(va.length == vb.length && true)) = false := by rw [e]; simp
  rw [z]
  exact ⟨.bl false, H, I, rfl, q⟩
end
/-! ### dicts filled by new keys -/
theorem putK_new {κ : Type} [DecidableEq κ] {kvs : List (κ × V)} {k : κ} {v : V} (h : ∀ p ∈ kvs, p.1 ≠ k) : putK kvs k v = kvs ++ [(k, v)] := by
  unfold putK
  rw [if_neg]
  intro z
  obtain ⟨p, hp, e⟩ := List.any_eq_true.mp z
  exact h p hp (of_decide_eq_true e)
theorem mergeK_new : ∀ {more kvs : List (Key × V)}, (kvs ++ more).Pairwise (fun p q => p.1 ≠ q.1) → mergeK kvs more = kvs ++ more
  | [], kvs, _ => (List.append_nil kvs).symm
  | (k, v) :: r, kvs, h => by
    have h1 : ∀ p ∈ kvs, p.1 ≠ k := fun p hp => (List.pairwise_append.mp h).2.2 p hp (k, v) (.head _)
    have e : mergeK kvs ((k, v) :: r) = mergeK (putK kvs k v) r := rfl
    rw [e, putK_new h1, mergeK_new (by rw [List.append_assoc]; exact h), List.append_assoc]
    rfl
theorem valV_at {κ : Type} [DecidableEq κ] : ∀ {kvs : List (κ × V)} {k : κ} {v : V}, kvs.Pairwise (fun p q => p.1 ≠ q.1) → (k, v) ∈ kvs → valV kvs k = some v
  | (k0, v0) :: r, k, v, h, hm => by
    obtain ⟨h1, h2⟩ := List.pairwise_cons.mp h
    rcases List.mem_cons.mp hm with e | hm
    · cases e
      exact valV_pos rfl
    · rw [valV_neg fun e => h1 _ hm e]
      exact valV_at h2 hm
theorem _root_.L2.Room.units80 {k : Nat} {A : Around} (r : Room k A) : A.units + 80 < cLine := by have := r.un; omega
end My
namespace My
open PySem PySem.Spec PyProof.Rows L2
section
variable {X : Cx}
/-! ### sorted(tuple of texts) -/
def rSortedTS (K : PySem.W.Frag) : List V → Hp → VK → Prop := fun xs H Q => ∃ (a : Addr) (ws : List Str), xs = [.ref a] ∧ SqT K H a (ws.map V.str) ∧ ws.length < 64 ∧
  ∀ (ys : List Str) (p : Addr), ys.Perm ws → sortedS ys = true → H p = none → Q (.ref p) (upd H p (.lst (ys.map V.str)))
theorem cr_sortedTS : CallR X (.builtin "sorted") (rSortedTS X.K) := by
  intro pins s σ H xs us Q I r h
  obtain ⟨a, ws, rfl, hq, hl, q⟩ := h
  obtain rfl := Vals.ref1 r
  obtain ⟨its, rv, pt, hz⟩ := I.tuple hq
  obtain ⟨hlen, hget⟩ := vals_strs rv
  obtain ⟨o, ho, hcl, n, hd⟩ := id pt
  refine Calls.call_function_entry kind_sorted plain_sorted entry_sorted (args_sorted1 _) ?_
  refine wpAny_bind (wpAny_pure ?_)
  have big : its.length ≤ sizeLine := by rw [hlen]; exact Nat.le_of_lt (sizeLine_of (by omega))
  refine wpAny_bind (wpAny_collect_seq a (.inr rfl) ho hcl hd (fun h' keep => ?_) (by rw [List.size_toArray]; exact big))
  have I1 : L2.Inv X pins σ H { s with heap := h' } := I.kept (t' := s.toks) keep
  refine wpAny_bind (wpAny_newList ?_ big)
  have I2 := I1.lnew (t' := s.toks) rv (by rw [List.length_map, ← hlen]; exact big)
  have hn1 : H h'.objs.size = none := I1.hok.fresh (Nat.le_refl _)
  refine wpAny_bind (wpAny_holding ?_)
  refine thn (mt_sortS (X := inCx X) pins _ σ _ (.ref h'.objs.size) [] (.ref h'.objs.size) [] (fun v H' => ∃ ys : List Str, ys.Perm ws ∧ sortedS ys = true ∧ H' = upd H h'.objs.size (.lst (ys.map V.str))) (inv_in I2) rfl .nil ⟨_, ws, rfl, rfl, upd_same, by omega, fun ys h1 h2 => ⟨ys, h1, h2, upd_upd⟩⟩) fun v s3 ⟨x, H3, I3, _, ys, py, sy, e3⟩ => ?_
  subst e3
  exact wpAny_pure ⟨_, rfl, .ref h'.objs.size, _, inv_out I3, rfl, q ys _ py sy hn1⟩
theorem cr_sortedTSK {K : PySem.W.Frag} (hK : X.K = K) : CallR X (.builtin "sorted") (rSortedTS K) := by
  subst hK
  exact cr_sortedTS
/-! ### a new dict that is locked from here on -/
def tFrz (td : TE) : TE := fun σ H Q => td σ H fun x H1 => ∃ d u, x = .ref d ∧ H1 d = some u ∧ Mut (some u) ∧ ∀ od, Q x (upd H1 d (.frz od u))
theorem pe_frz {e : Expr} {td : TE} (h : PE X e td) : PE X e (tFrz td) := by
  refine ⟨fun pins s σ H Q I hw => ?_⟩
  refine thn (h.run pins s σ H _ I hw) fun v s1 ⟨x, H1, I1, r, d, u, ex, hd, mu, q⟩ => ?_
  obtain ⟨od, I2⟩ := I1.lock hd mu
  exact ⟨x, _, I2, r, q od⟩
/-! ### a statement, and what holds behind it -/
def tMid (t : TS) : TS := fun D σ H => ∃ Pv : L2.St → Hp → Prop, t { D with nx := Pv } σ H ∧ ∀ σ' H', Pv σ' H' → D.nx σ' H'
theorem ps_mid {X : Cx} {st : Stmt} {t : TS} (h : PS X st t) : PS X st (tMid t) := by
  refine ⟨fun pins s σ H D I hw => ?_⟩
  obtain ⟨Pv, h1, h2⟩ := hw
  refine thn (h.run pins s σ _ _ I h1) fun f s1 q => ?_
  cases f with
  | next => obtain ⟨σ', H', I2, q⟩ := q; exact ⟨σ', H', I2, h2 _ _ q⟩
  | brk => exact q
  | cont => exact q
  | ret v => exact q
/-! ### K told -/
theorem pi_listK {X : Cx} {K : PySem.W.Frag} {tg l : Expr} {tl : TE} (h : X.K = K) (hl : PE X l tl) : PI X tg l (iList K tl) := by
  subst h
  exact pi_list hl
theorem pi_tupK {X : Cx} {K : PySem.W.Frag} {tg l : Expr} {tl : TE} (h : X.K = K) (hl : PE X l tl) : PI X tg l (iTup K tl) := by
  subst h
  exact pi_tup hl
/-! ### loops -/
theorem for_items {d : Addr} {o : Obj} {kvs : List (Key × V)} {g : TG} {tb : TS} {D : Ends} {σ : L2.St} {H : Hp} (Pv : Nat → L2.St → Hp → Prop) (h0 : Pv 0 σ H) (hl : ∀ i σ H, i ≤ kvs.length → Pv i σ H → H d = some (.frz o (.dK kvs)))
    (hs : ∀ i k v T σ H, kvs[i]? = some (k, v) → Pv i σ H → H T = none → g (.ref T) σ (upd H T (.tup [kV k, v])) fun σ2 H2 => tb { D with nx := Pv (i + 1), ct := Pv (i + 1), bk := D.nx } σ2 H2) (hd : ∀ σ H, Pv kvs.length σ H → D.nx σ H) :
    ∃ W : Nat → Nat → L2.St → Hp → Prop, (∃ m, W 0 m σ H) ∧ ∀ i m σ H, W i m σ H →
      ((Iti d o kvs).stop i H ∧ D.nx σ H) ∨ ((Iti d o kvs).go i H ∧ ∃ N : L2.St → Hp → Prop, (∀ σ' H', N σ' H' → ∃ m', m' < m ∧ W (i + 1) m' σ' H') ∧ ∀ x H', (Iti d o kvs).yld i H x H' → g x σ H' fun σ2 H2 => tb { D with nx := N, ct := N, bk := D.nx } σ2 H2) := by
  refine ⟨fun i m σ H => m = kvs.length - i ∧ i ≤ kvs.length ∧ Pv i σ H, ⟨kvs.length, by simp, Nat.zero_le _, h0⟩, ?_⟩
  rintro i m σ H ⟨rfl, hi, p⟩
  have q := hl i σ H hi p
  by_cases hlt : i < kvs.length
  · refine .inr ⟨⟨q, hlt⟩, Pv (i + 1), fun σ' H' n => ⟨kvs.length - (i + 1), by omega, rfl, hlt, n⟩, ?_⟩
    rintro x H' ⟨T, k, v, h1, rfl, h3, rfl⟩
    exact hs i k v T σ H h1 p h3
  · have e : i = kvs.length := by omega
    subst e
    exact .inl ⟨⟨q, Nat.le_refl _⟩, hd σ H p⟩
theorem for_enum {K : PySem.W.Frag} {a : Addr} {xs : List V} {g : TG} {tb : TS} {D : Ends} {σ : L2.St} {H : Hp} (Pv : Nat → L2.St → Hp → Prop) (h0 : Pv 0 σ H) (hl : ∀ i σ H, i ≤ xs.length → Pv i σ H → SqL K H a xs)
    (hs : ∀ i x T σ H, xs[i]? = some x → Pv i σ H → H T = none → g (.ref T) σ (upd H T (.tup [.int (i : Nat), x])) fun σ2 H2 => tb { D with nx := Pv (i + 1), ct := Pv (i + 1), bk := D.nx } σ2 H2) (hd : ∀ σ H, Pv xs.length σ H → D.nx σ H) :
    ∃ W : Nat → Nat → L2.St → Hp → Prop, (∃ m, W 0 m σ H) ∧ ∀ i m σ H, W i m σ H →
      ((Ite K a).stop i H ∧ D.nx σ H) ∨ ((Ite K a).go i H ∧ ∃ N : L2.St → Hp → Prop, (∀ σ' H', N σ' H' → ∃ m', m' < m ∧ W (i + 1) m' σ' H') ∧ ∀ x H', (Ite K a).yld i H x H' → g x σ H' fun σ2 H2 => tb { D with nx := N, ct := N, bk := D.nx } σ2 H2) := by
  refine ⟨fun i m σ H => m = xs.length - i ∧ i ≤ xs.length ∧ Pv i σ H, ⟨xs.length, by simp, Nat.zero_le _, h0⟩, ?_⟩
  rintro i m σ H ⟨rfl, hi, p⟩
  have q := hl i σ H hi p
  by_cases hlt : i < xs.length
  · obtain ⟨x, hx⟩ : ∃ x, xs[i]? = some x := ⟨xs[i], List.getElem?_eq_getElem hlt⟩
    refine .inr ⟨⟨xs, x, q, hx⟩, Pv (i + 1), fun σ' H' n => ⟨xs.length - (i + 1), by omega, rfl, hlt, n⟩, ?_⟩
    rintro y H' ⟨T, z, rfl, h3, rfl, h4⟩
    exact hs i z T σ H (h4 xs q) p h3
  · have e : i = xs.length := by omega
    subst e
    exact .inl ⟨⟨xs, q, Nat.le_refl _⟩, hd σ H p⟩
end
end My
namespace My
open PySem PySem.Spec PyProof.Rows L2
section
variable {X : Cx}
/-! ### sorted of a set of ints that a comprehension has made -/
def rSortedZI (P : Program) (w : World) : List V → Hp → VK → Prop := fun xs H Q => ∃ (a : Addr) (S : Int → Bool) (n : Nat), xs = [.ref a] ∧ H a = some (SetZ zInt P w a S n) ∧ n < 64 ∧
  ∀ (ys : List Int) (p : Addr), ys.Pairwise (· < ·) → (∀ k, k ∈ ys ↔ S k = true) → H p = none → Q (.ref p) (upd H p (.lst (ys.map V.int)))
theorem cr_sortedZI {P : Program} {w : World} (hP : X.prog = P) (hw : X.w = w) (hc : X.calm = true) : CallR X (.builtin "sorted") (rSortedZI P w) := by
  subst hP hw
  intro pins s σ H xs us Q I r h
  obtain ⟨a, S, n, rfl, ha, h64, q⟩ := h
  obtain rfl := Vals.ref1 r
  have G : SetG (intKind X.prog X.w) s.heap a S n := (I.hok a _ ha).1
  refine sorted_set (setR_of G) (I.ok.hd hc) h64 fun s' p out c ys keep hg hos hp hat hi hs hm hl => ?_
  have big : (ys.map V.int).length ≤ sizeLine := by rw [List.length_map, hl]; exact Nat.le_of_lt (sizeLine_of (by omega))
  have hn : H p = none := I.hok.fresh hp
  have I1 : L2.Inv X pins σ (upd H p (.lst (ys.map V.int))) s' := by
    have J := I.laid (a := p) (o := .lst (ys.map V.int)) (h' := s'.heap) (t' := s'.toks) keep hp ⟨big, out.toList, c, vals_of_ints hi, hat⟩
    obtain ⟨hp', gn', dr', tk', os'⟩ := s'
    obtain rfl : gn' = s.gens := hg
    obtain rfl : os' = s.os := hos
    exact ⟨J.ok, J.os, J.bare, J.base, J.loc, J.cell, J.free, J.freeC, J.pin, J.hok, J.len⟩
  exact ⟨.ref p, _, I1, rfl, q ys p hs hm hn⟩
end
end My
namespace My
open PySem L2
section
variable {H1 : Hp}
/-- .. where what is told of the elements lies in lists: all stands but the list that is made -/
theorem lc_relB {J : It} {n : Nat} {G : Hp → Prop} {Y : Nat → Hp → V → Hp → Prop} (w : Walk J n G Y) {g : TG} {tt : TT} {te : TE} {vs : List Nat} {σ : St} {D : Addr} {Qd : Hp → Prop} (hn : n ≤ 1000000) (hD : H1 D = none)
    (Rl : Nat → Option V → Hp → Prop) (mono : ∀ i z H H', But D H H' → Rl i z H → Rl i z H') (hG : ∀ H, Same H1 H → G H)
    (hs : ∀ i x H H', i < n → Same H1 H → (∃ acc, H D = some (.lst acc)) → Y i H x H' → ∀ (R : V → Hp → Prop) (R0 : Hp → Prop), (∀ y H4, Rl i (some y) H4 → Same H H4 → R y H4) → (∀ H3, Rl i none H3 → Same H H3 → R0 H3) →
      g x (wipe σ vs) H' fun σ2 H2 => wipe σ2 vs = wipe σ vs ∧ tt σ2 H2 fun b H3 => if b = true then te σ2 H3 R else R0 H3)
    (hd : ∀ H (zs : List (Option V)), Same H1 H → zs.length = n → (∀ i z, zs[i]? = some z → Rl i z H) → H D = some (.lst (zs.filterMap id)) → Qd H) :
    ∃ W : Nat → Nat → Hp → Prop, (∃ m, W 0 m (upd H1 D (.lst []))) ∧ ∀ i m H, W i m H →
      (J.stop i H ∧ Qd H) ∨ (J.go i H ∧ ∃ Nx : Hp → Prop, (∀ H', Nx H' → ∃ m', m' < m ∧ W (i + 1) m' H') ∧ ∀ x H', J.yld i H x H' → g x (wipe σ vs) H' fun σ2 H2 => wipe σ2 vs = wipe σ vs ∧ tt σ2 H2 fun b H3 =>
        if b = true then te σ2 H3 fun y H4 => ∃ acc, H4 D = some (.lst acc) ∧ acc.length < sizeLine ∧ Nx (upd H4 D (.lst (acc ++ [y]))) else Nx H3) := by
  have fl : ∀ zs : List (Option V), (zs.filterMap id).length ≤ zs.length := fun zs => List.length_filterMap_le _ _
  have get_app : ∀ (zs : List (Option V)) (z : Option V) (j : Nat) (y : Option V), (zs ++ [z])[j]? = some y → zs[j]? = some y ∨ (j = zs.length ∧ y = z) := fun zs z j y h => by
    by_cases hj : j < zs.length
    · rw [List.getElem?_append_left hj] at h
      exact .inl h
    · rw [List.getElem?_append_right (by omega)] at h
      have hj2 : j - zs.length = 0 := by
        cases e : j - zs.length with
        | zero => rfl
        | succ k => rw [e] at h; simp at h
      rw [hj2] at h
      exact .inr ⟨by omega, (Option.some.inj h).symm⟩
  refine lc_it w (fun i H => ∃ zs : List (Option V), zs.length = i ∧ Same H1 H ∧ (∀ j z, zs[j]? = some z → Rl j z H) ∧ H D = some (.lst (zs.filterMap id)))
    ⟨[], rfl, same_new hD, fun j z h => by simp at h, upd_same⟩ (fun i H _ ⟨_, _, s, _⟩ => hG H s) ?_ (fun H ⟨zs, l, s, r, e⟩ => hd H zs s l r e)
  rintro i x H H' hi ⟨zs, l, s, r, e⟩ hy
  refine hs i x H H' hi s ⟨_, e⟩ hy _ _ (fun y H4 hr s4 => ?_) (fun H3 hr s3 => ?_)
  · refine ⟨zs.filterMap id, s4 _ _ e, sizeLine_of (by have := fl zs; omega), zs ++ [some y], by rw [List.length_append, l]; rfl, same_mut (s.trans s4) hD, fun j z h => ?_, ?_⟩
    · have im : But D H (upd H4 D (.lst (zs.filterMap id ++ [y]))) := fun c o h n => by rw [upd_ne n]; exact s4 _ _ h
      have im4 : But D H4 (upd H4 D (.lst (zs.filterMap id ++ [y]))) := fun c o h n => by rw [upd_ne n]; exact h
      rcases get_app zs _ j z h with h | ⟨rfl, rfl⟩
      · exact mono j z _ _ im (r j z h)
      · rw [l]
        exact mono i _ _ _ im4 hr
    · rw [upd_same, List.filterMap_append]
      rfl
  · refine ⟨zs ++ [none], by rw [List.length_append, l]; rfl, s.trans s3, fun j z h => ?_, ?_⟩
    · rcases get_app zs _ j z h with h | ⟨rfl, rfl⟩
      · exact mono j z _ _ (fun c o h _ => s3 _ _ h) (r j z h)
      · rw [l]
        exact hr
    · rw [s3 _ _ e, List.filterMap_append]
      simp
end
end My
/-! a property of an own class, read below the rules: nothing that stood is changed; sorted by such a property -/
namespace My
open PySem L2 LamX PyProof.Rows
theorem objM_keeps {h h' : Heap} {x dx C : Addr} {m : Str → Option Value} (O : ObjM h x dx C m) (k : ∀ b o, h.get? b = some o → h'.get? b = some o) : ObjM h' x dx C m := ⟨k _ _ O.obj, O.ns.at fun o q => k _ _ q, O.ne⟩
theorem keeps_trans {s s' s'' : Shared} (a : Keeps s s') (b : Keeps s' s'') : Keeps s s'' := by
  obtain ⟨h, t, rfl, k⟩ := a
  obtain ⟨h2, t2, rfl, k2⟩ := b
  exact ⟨h2, t2, rfl, fun b o e => k2 b o (k b o e)⟩
section
variable {P : Program} {w : World} {K : PySem.W.Frag} {C p g a dx : Addr} {f fld x qual : Str} {st : Stmt} {fd : FuncData} {mA : Str → Option Value} {u : Value} {p1 p2 p3 : Pos} {A : Around}
theorem prop_low {b : Bool} {s : Shared} {E : Value → Shared → Prop} {Q : Value → Shared → Prop} (KX : K.In s.heap) (lim : s.heap.NoLimit) (O : ObjM s.heap a dx C mA) (hu : mA fld = some u) (hh : PySem.W.handedIn u = true)
    (c : Cls K C) (hp : PropOf K C f p g) (F : Fun K x qual st g fd) (hk : (defScope st).kind = .function) (hco : (defScope st).isCoroutine = false) (hge : (defScope st).isGenerator = false)
    (hb : Binds K fd ["self"] []) (n : NoAttr K C fld) (hbody : defBody st = [.Return (some (.Attribute (.Name "self" p1) fld p2)) p3]) (hself : (defScope st).names.lookup ("self" : Str) = some NameKind.local) (nocell : ∀ y ∈ (defScope st).names, y.2 ≠ .cell)
    (hd : A.depth + 3 < recursionLimit) (h : ∀ s', Keeps s s' → Q u s') : wpAny (model P w) A (getAttr (.ref a) f b) Q E s := by
  obtain ⟨od, J, _⟩ := O.look
  obtain ⟨rest, hrec⟩ := hp.rec_
  have hc : (PySem.W.clsIn K C).isSome = true := by
    obtain ⟨cd, hc, _⟩ := PySem.W.any_some c.hd
    rw [hc]
    rfl
  refine PySem.W.get_bind KX J (PySem.W.plainGet_of (c.get f)).1 (PySem.W.findObj_data hc hp.at_ hp.get hp.tak) (PySem.W.plainGet_of (c.get f)).2 (wpAny_call (PySem.W.prop_get (s := { s with toks := s.toks + 1 }) KX hrec ?_))
  obtain ⟨oc, od2, kV, doc, pm, an, cdv, ct, osl, rfl, lk, hcd⟩ := F.ex
  refine codeAny_call_function (by show A.depth < _; omega) (KX _ _ lk) rfl hco hge rfl (PySem.W.codeRec_of KX hcd) ?_
  refine hb { s with toks := s.toks + 1 } [.ref a] KX rfl _ _ _ _ ?_
  refine wpAny_newFunctionEnv nocell (fun y hy => ?_) (fun h₁ hns hsb => ⟨?_, codeAny_func ?_⟩) hk
  · obtain rfl := List.mem_singleton.mp hy
    exact hself
  · exact lim.keeps fun b o e => hsb.extBut b o (Nat.ne_of_lt (Heap.lt_size e)) (Heap.get?_push_of_some _ e)
  · have kp1 : ∀ b o, s.heap.get? b = some o → h₁.get? b = some o := fun b o e => hsb.extBut b o (Nat.ne_of_lt (Heap.lt_size e)) (Heap.get?_push_of_some _ e)
    show wpAny _ _ (execs (defBody st) _) _ _ _
    rw [hbody]
    refine wpAny_execs_cons (wpAny_Return_some (attr_of rfl (wpAny_Name (wpAny_loadName_local hk hself hns (by rfl) ?_) (by decide))))
    refine get_map (K := K) (KX.keeps kp1) (objM_keeps O kp1) (c.get fld) c.hd n hu hh ?_
    show wpAny _ _ (handedOut u) _ _ _
    rw [PySem.W.handedOut_of hh]
    exact wpAny_pure (h _ ⟨_, _, rfl, kp1⟩)
end
/-- what a key's expression makes of the item v: the text k; nothing that stood is changed; the text is there, and room for a call -/
def KeyEP (K : PySem.W.Frag) (prog : Program) (w : World) (scope : Scope) (x : Str) (body : Expr) (R : Heap → Value → Str → Prop) : Prop :=
  ∀ (cenv : Env) (A' : Around) (E' : Value → Shared → Prop) (v : Value) (k : Str) (s₂ : Shared) (m₂ : Str → Option Value), cenv.scope = scope → s₂.heap.Ns cenv.locals m₂ → m₂ x = some v → R s₂.heap v k → K.In s₂.heap → s₂.heap.NoLimit → A'.depth + 3 < recursionLimit →
    wpAny (model prog w) A' (eval body cenv) (fun y s₃ => (∃ t, y = .str k t) ∧ Keeps s₂ s₃) E' s₂
def InsK (C : Addr) (fld : Str) (h : Heap) (v : Value) (k : Str) : Prop := ∃ (a dx : Addr) (mA : Str → Option Value) (t : Tok), v = .ref a ∧ ObjM h a dx C mA ∧ mA fld = some (.str k t)
theorem insK_keep {C : Addr} {fld : Str} {h h' : Heap} {v : Value} {k : Str} (e : ∀ b o, h.get? b = some o → h'.get? b = some o) (r : InsK C fld h v k) : InsK C fld h' v k := by
  obtain ⟨a, dx, m, t, rfl, O, hm⟩ := r
  exact ⟨a, dx, m, t, rfl, objM_keeps O e, hm⟩
/-- x.f, a property: return self.fld -/
theorem key_prop {P : Program} {w : World} {K : PySem.W.Frag} {C p g : Addr} {f fld x y qual : Str} {st : Stmt} {fd : FuncData} {p1 p2 p3 q1 q2 : Pos} {scope : Scope} (hk : scope.kind = .function) (hl : scope.names.lookup x = some .local) (hdb : (x == ("__debug__" : Str)) = false)
    (c : Cls K C) (hp : PropOf K C f p g) (F : Fun K y qual st g fd) (hk2 : (defScope st).kind = .function) (hco : (defScope st).isCoroutine = false) (hge : (defScope st).isGenerator = false)
    (hb : Binds K fd ["self"] []) (n : NoAttr K C fld) (hbody : defBody st = [.Return (some (.Attribute (.Name "self" p1) fld p2)) p3]) (hself : (defScope st).names.lookup ("self" : Str) = some NameKind.local) (nocell : ∀ y ∈ (defScope st).names, y.2 ≠ .cell) :
    KeyEP K P w scope x (.Attribute (.Name x q1) f q2) (InsK C fld) := by
  intro cenv A' E' v k s₂ m₂ hs hn hm r KX lim hd
  obtain ⟨a, dx, m, t, rfl, O, hu⟩ := r
  refine attr_of rfl (wpAny_Name (wpAny_loadName_local (by rw [hs]; exact hk) (show cenv.scope.names.lookup x = some .local by rw [hs]; exact hl) hn hm ?_) hdb)
  exact prop_low KX lim O hu rfl c hp F hk2 hco hge hb n hbody hself nocell hd fun s' kp => ⟨⟨t, rfl⟩, kp⟩
section
variable {X : Cx}
theorem pe_sortLamP {T : List (Addr × Str)} {te : TE} {c P : Addr} {k : Nat} {e : Expr} {params : Arguments} {body : Expr} {scope : Scope} {x : Str} {p lpos kpos pos : Pos} {R : Heap → Value → Str → Prop} {RK : Hp → V → Str → Prop}
    (hkey : KeyEP X.K X.prog X.w scope x body R) (hR : ∀ pins s σ H b u v, Inv X pins σ H s → RK H b u → RelV b v → R s.heap v u) (hRk : ∀ (h h' : Heap) v u, (∀ b o, h.get? b = some o → h'.get? b = some o) → R h v u → R h' v u) (hRe : ∀ H H' b u, ExtN H H' → RK H b u → RK H' b u)
    (hg : Gl X "sorted") (hm : X.mg "sorted" = none) (ha : PE X e te) (TB : TabB X.base X.mg c P) (hcode : X.env.code = .ref c) (hmT : (P, X.env.qual ++ "<lambda>") ∈ T) (hu : ∀ p ∈ T, p.1 = P → p.2 = X.env.qual ++ "<lambda>") (hr : Room k X.A)
    (hdef : defaultsOf params X.env = ([], [])) (hkind : scope.kind = .function) (hco : scope.isCoroutine = false) (hgen : scope.isGenerator = false) (hnames : ∀ y ∈ scope.names, y.2 ≠ .free ∧ y.2 ≠ .cell) (hx : scope.names.lookup x = some .local)
    (hbind : ∀ (q : Str) (cl : List (Str × Addr)) (pm cv ctv v : Value), bindArgs (PySem.W.kla_fn "<lambda>" q params body scope cl pm cv ctv) ⟨[v], []⟩ = pure [(x, v)])
    (hst : starEach [e] X.env = (false, eval e X.env) :: starEach [] X.env := by rfl) (he : backTo pos (starEach [e] X.env) = (false, eval e X.env) :: backTo pos (starEach [] X.env) := by rfl) (hpl : (backTo pos (starEach [e] X.env)).any (·.1) = false := by rfl) :
    PE X (.Call (.Name "sorted" p) [e] [⟨some "key", .Lambda params body scope lpos, kpos⟩] pos) (tSortLam X.K T RK te) := by
  refine ⟨fun pins s σ H Q I h => ?_⟩
  refine wpAny_Call_Name_kw (ld_blt (u := .builtin "sorted") I hg hm (by decide +kernel) ?_ (by decide) (by decide))
  refine PyProof.Rows.callWith_kw (thn ((pa_cons ha pa_nil hst).run pos pins s σ H (fun vs H1 => match vs with | [v] => Tabs T H1 ∧ ∃ (a : Addr) (bs : List (V × Str)), v = .ref a ∧ SqL X.K H1 a (bs.map (·.1)) ∧ (∀ b ∈ bs, RK H1 b.1 b.2) ∧ ∀ (p : Addr) (H2 : Hp), ExtN H1 H2 → Tabs T H2 → H2 p = none → Q (.ref p) (upd H2 p (.lst ((sortBy bs).map (·.1)))) | _ => False) I h) fun us s1 ⟨vs, H1, I1, r1, q1⟩ => ?_) he hpl rfl rfl
  obtain ⟨v, rfl⟩ : ∃ v, vs = [v] := by
    match vs, q1 with
    | [v], _ => exact ⟨v, rfl⟩
  obtain ⟨hT, a, bs, rfl, hL, hK, q⟩ := q1
  obtain rfl := Vals.ref1 r1
  show wpAny _ _ (evalAll [do let v ← eval (.Lambda params body scope lpos) X.env; standAt pos; pure v]) _ _ s1
  refine wpAny_evalAll_cons (wpAny_bind (lam_make2 I1 TB hcode hmT hu hT hdef (fun y hy z => absurd z (hnames y hy).1) fun f c' pm ctv H2 s2 I2 eN T2 hf hfn hfr hco' => wpAny_bind (wpAny_standAt (wpAny_pure (wpAny_evalAll_nil ?_)))))
  show wpAny (model X.prog X.w) X.A (call (.builtin "sorted") [.ref a] [("key", .ref f)]) _ _ s2
  have hL2 := extN_sql eN hL
  obtain ⟨its, rv, hl, hz⟩ := I2.list hL2
  obtain ⟨⟨oc, cvs, ct, hoc, hdc, hvc⟩, _, _⟩ := I2.hok c' _ hco'
  have hbs : ∀ (l : List (V × Str)) (us : List Value), Vals (l.map (·.1)) us → (∀ b ∈ l, b ∈ bs) → PySem.W.EachIs (fun (v : Value) (b : V × Str) => RelV b.1 v ∧ R s2.heap v b.2) us l := by
    intro l
    induction l with
    | nil =>
      intro us r _
      cases r
      exact .nil
    | cons b l ih =>
      intro us r m
      cases r with
      | cons r1 r2 => exact .cons ⟨r1, hR pins s2 σ H2 b.1 b.2 _ I2 (hRe _ _ _ _ eN (hK b (m b (.head _)))) r1⟩ (ih _ r2 fun b' h' => m b' (.tail _ h'))
  have e := hbs bs its rv fun _ h => h
  refine PySem.W.sorted_key_data (R := fun (v : Value) (b : V × Str) => RelV b.1 v ∧ R s2.heap v b.2) (b := false) keyD hl.isList e ?_ ?_ ?_ ?_ (PyProof.Rows.ksk_s1 _ _) (fun _ => PyProof.Rows.ksk_l1 _ _) (fun x => PyProof.Rows.ksk_t1 f x) (fun v b hb hm' g tk kp => ?_) fun out cc h' tk kp hn hD hlen hout => ?_
  · intro d hd d' hd'
    obtain ⟨b, _, rfl⟩ := List.mem_map.mp hd
    obtain ⟨b', _, rfl⟩ := List.mem_map.mp hd'
    rfl
  · refine .inr fun d hd => ?_
    obtain ⟨b, _, rfl⟩ := List.mem_map.mp hd
    exact ⟨nofun, fun _ => nofun⟩
  · rw [List.length_map] at hz
    exact hz
  · intro b _
    have := hr.units
    show X.A.units + 2 + (PyData.str b.2).depth < _
    have z : (PyData.str b.2).depth ≤ 1 := by show _ ≤ 1; simp [PyData.depth]
    omega
  · have of1 := kp _ _ hf
    refine wpAny_call ?_
    refine PySem.W.kla_callFunE (by have := hr.dp; show X.A.depth < _; omega) of1 rfl hco hgen rfl ⟨c', oc, cvs, ct, rfl, kp _ _ hoc, hdc, hvc⟩ ?_
    rw [hbind]
    refine wpAny_pure (wpAny_newFunctionEnv (fun y hy => (hnames y hy).2) (fun y hy => ?_) (fun h₁ hns hsb => ⟨(I2.nolimit.keeps kp).fresh _ hsb, ?_⟩) hkind)
    · obtain rfl := List.mem_singleton.mp hy
      exact hx
    · have kp1 : ∀ b o, g.get? b = some o → h₁.get? b = some o := fun b o e => hsb.extBut b o (Nat.ne_of_lt (Heap.lt_size e)) (Heap.get?_push_of_some _ e)
      refine PySem.W.kla_codeExpr (wpAny_mono (hkey _ _ (fun _ _ => False) v b.2 _ _ rfl hns (by simp) (hRk _ _ _ _ kp1 (hRk _ _ _ _ kp hb.2)) ((I2.kIn.keeps kp).keeps kp1) ((I2.nolimit.keeps kp).fresh _ hsb) (by have := hr.dp; show X.A.depth + 1 + 3 < _; omega)) (fun y s3 hq => ?_) fun _ _ z => z.elim)
      obtain ⟨⟨t, rfl⟩, h3, tk3, rfl, kp3⟩ := hq
      exact ⟨h3, tk3, rfl, fun b o e => kp3 b o (kp1 b o e), .str _ _⟩
  · have hv : ∀ (l : List (V × Str)) (us : List Value), PySem.W.EachIs (fun (v : Value) (b : V × Str) => RelV b.1 v ∧ R s2.heap v b.2) us l → Vals (l.map (·.1)) us := by
      intro l us e
      induction e with
      | nil => exact .nil
      | cons r _ ih => exact .cons r.1 ih
    refine ⟨.ref _, upd H2 (s2.heap.objs.size + 1) (.lst ((sortBy bs).map (·.1))), I2.laid (t' := tk) kp (Nat.le_succ _) ⟨?_, out, cc, hv _ _ hout, hD⟩, rfl, q _ H2 eN T2 (I2.hok.fresh (Nat.le_succ _))⟩
    rw [List.length_map, (sortBy_perm bs).length_eq]
    rw [List.length_map] at hz
    exact hz
end
/-- an own instance with this text -/
def RKi (C : Addr) (fld : Str) (H : Hp) (x : V) (k : Str) : Prop := ∃ (a dx : Addr) (fs : List (Str × V)), x = .ref a ∧ H a = some (.ins C dx fs) ∧ fs.lookup fld = some (.str k)
section
variable {X : Cx}
/-- sorted(xs, key=lambda x: x.f), f a property that returns a text of the instance -/
theorem pe_sortProp {te : TE} {c P C p g : Addr} {k : Nat} {e : Expr} {params : Arguments} {scope : Scope} {x f fld y qual : Str} {st : Stmt} {fd : FuncData} {pp q1 q2 lpos kpos pos p1 p2 p3 : Pos}
    (hg : Gl X "sorted") (hm : X.mg "sorted" = none) (ha : PE X e te) (TB : TabB X.base X.mg c P) (hcode : X.env.code = .ref c) (hr : Room k X.A)
    (cl : Cls X.K C) (hp : PropOf X.K C f p g) (F : Fun X.K y qual st g fd) (hb : Binds X.K fd ["self"] []) (n : NoAttr X.K C fld) (hbody : defBody st = [.Return (some (.Attribute (.Name "self" p1) fld p2)) p3] := by rfl)
    (hk2 : (defScope st).kind = .function := by rfl) (hco2 : (defScope st).isCoroutine = false := by rfl) (hge2 : (defScope st).isGenerator = false := by rfl) (hself : (defScope st).names.lookup ("self" : Str) = some NameKind.local := by rfl) (nocell : ∀ y ∈ (defScope st).names, y.2 ≠ .cell := by decide +kernel)
    (hdef : defaultsOf params X.env = ([], []) := by rfl) (hkind : scope.kind = .function := by rfl) (hco : scope.isCoroutine = false := by rfl) (hgen : scope.isGenerator = false := by rfl) (hnames : ∀ y ∈ scope.names, y.2 ≠ .free ∧ y.2 ≠ .cell := by decide +kernel) (hx : scope.names.lookup x = some .local := by rfl)
    (hbind : ∀ (q : Str) (cl : List (Str × Addr)) (pm cv ctv v : Value), bindArgs (PySem.W.kla_fn "<lambda>" q params (.Attribute (.Name x q1) f q2) scope cl pm cv ctv) ⟨[v], []⟩ = pure [(x, v)] := by intros; rfl)
    (hd : (x == ("__debug__" : Str)) = false := by decide) (hst : starEach [e] X.env = (false, eval e X.env) :: starEach [] X.env := by rfl) (he : backTo pos (starEach [e] X.env) = (false, eval e X.env) :: backTo pos (starEach [] X.env) := by rfl) (hpl : (backTo pos (starEach [e] X.env)).any (·.1) = false := by rfl) :
    PE X (.Call (.Name "sorted" pp) [e] [⟨some "key", .Lambda params (.Attribute (.Name x q1) f q2) scope lpos, kpos⟩] pos) (tSortLam X.K [(P, X.env.qual ++ "<lambda>")] (RKi C fld) te) := by
  refine pe_sortLamP (x := x) (R := InsK C fld) (RK := RKi C fld) (key_prop hkind hx hd cl hp F hk2 hco2 hge2 hb n hbody hself nocell) (fun pins s σ H b u v I r rv => ?_) (fun h h' v u e r => insK_keep e r) (fun H H' b u e r => ?_) hg hm ha TB hcode (.head _) (fun q hq _ => by rw [List.mem_singleton.mp hq]) hr hdef hkind hco hgen hnames hx hbind hst he hpl
  · obtain ⟨a, dx, fs, rfl, ea, l⟩ := r
    obtain rfl : v = .ref a := rv
    obtain ⟨mA, O, r, _, _, _⟩ := ins_get I.hok ea
    obtain ⟨t, ht, rt⟩ := RelO.some_of (v := .str u) (o := mA fld) (by rw [← l]; exact r fld)
    obtain ⟨tk, rfl⟩ := rt
    exact ⟨a, dx, mA, tk, rfl, O, ht⟩
  · obtain ⟨a, dx, fs, rfl, ea, l⟩ := r
    exact ⟨a, dx, fs, rfl, e _ _ ea (fun _ z => nomatch z), l⟩
end
end My
namespace My
open PySem L2
theorem fstr_empty (a : Str) : Str.empty ++ a = a := PySem.Str.empty_append a
end My
/-! errors: X() of an own class over ValueError; a def that calls what it got and tells which error came; sorted by a property among several tables -/
namespace My
open PySem L2 LamX PyProof.Rows
theorem ps_nox {X : Cx} {st : Stmt} {t : TS} (h : PS X.nox st t) : PS X st t := ⟨fun pins s σ H D I hw =>
  wpAny_mono (h.run pins s σ H D (I.wish _) hw) (fun _ _ q => q.unwish) fun _ _ z => False.elim z⟩
/-- what is known of an own error class without a body -/
structure ErrC (K : PySem.W.Frag) (C : Addr) : Prop where
  exc : PySem.W.excIn K C [.type "ValueError", .type "Exception", .type "BaseException", .type "object"] "ValueError.__new__" = true
  kp : PySem.W.keepIn K (.ref C) = true
  sub : PySem.W.subIn K (.ref C) (.type "BaseException") = some true
  ty : PySem.W.typeIn K (.ref C) = some (.type "type")
theorem exm_by {K : PySem.W.Frag} {a b : Addr} {r : Bool} (h1 : PySem.W.subIn K (.ref b) (.type "BaseException") = some true) (h2 : PySem.W.isClsIn K b = true) (h3 : PySem.W.typeIn K (.ref b) = some (.type "type")) (h4 : PySem.W.subIn K (.ref a) (.ref b) = some r) : PySem.W.exmOne K (.ref a) (.ref b) = some r := by
  unfold PySem.W.isClsIn at h2
  unfold PySem.W.exmOne PySem.W.kitCls
  rw [h1]
  simp [h2, h3, h4]
section
variable {X : Cx} {C : Addr}
/-- X() -/
theorem pmk_own0 {x : Str} {p pos : Pos} (c : ErrC X.K C) (gC : X.mg x = some (.ref C)) (hg : Gl X x) (hdb : (x == ("__debug__" : Str)) = false := by decide) : PMk X (.Call (.Name x p) [] [] pos) (fun _ H Q => Q (.ref C) none H) := by
  intro pins s σ H Q I h
  refine wpAny_Call_Name_kw (ld_glob I hg gC ?_ hdb)
  refine PySem.W.callWith_K0 I.kIn c.kp ?_
  show wpAny _ _ (call (.ref C) []) _ _ _
  obtain ⟨bm, N, nm, qn, bs, hdct, sn, sub, ab, col, dd, k0, k1, k2, k3, k5, mN, hC, hN, hni, T⟩ := exc_obj I.kIn c.exc
  refine wpAny_call_exc_subT PySem.F.excBase_ValueError T hC hN hni (fun h' e hm => ?_) (Nat.zero_le _)
  exact mk_of I hm (raises_own c.sub c.ty) h (I.hok.gone hm.new)
/-- raise X(), in a def's own body -/
theorem ps_err {E : XK} {x : Str} {p pos p2 : Pos} {E₁ : Value → Shared → Prop} (c : ErrC X.K C) (gC : X.mg x = some (.ref C)) (hg : Gl X x) (hc : X.calm = true) (hs : X.stack = X.env :: X.outer) (hf : X.env.frame = some X.env.locals) (hex : X.ex = [])
    (hx : X.xe = fun e s' => wpAny (model X.prog X.w) X.A (leaving X.env e) (fun _ s'' => CX X.prog X.w X.outer X.H_0 X.s_0 E e s'') E₁ s') (hdb : (x == ("__debug__" : Str)) = false := by decide) :
    PS X (.Raise (some (.Call (.Name x p) [] [] pos)) none p2) (fun _ _ H => E (.ref C) none H) := ps_raise hc (takes_of hs hf hex hx) (pmk_own0 c gC hg hdb)
/-- a def's own wish takes what a callee may let out -/
theorem passX {E E' : XK} {E₁ : Value → Shared → Prop} (h : ∀ cls d H, E' cls d H → E cls d H) (hs : X.stack = X.env :: X.outer) (hf : X.env.frame = some X.env.locals) (hex : X.ex = [])
    (hx : X.xe = fun e s' => wpAny (model X.prog X.w) X.A (leaving X.env e) (fun _ s'' => CX X.prog X.w X.outer X.H_0 X.s_0 E e s'') E₁ s') : Passes (CX X.prog X.w) X E' := passes_call (takes_of hs hf hex hx) fun cls d _ H z => h cls d H z
end
/-! ### told: try: a() / except x: return r / .. / return None -/
def wChain (K : PySem.W.Frag) (Q : VK) : List (Addr × Str) → XK
  | [] => fun _ _ _ => False
  | (C, r) :: l => fun cls d H => ∃ b, PySem.W.exmOne K cls (.ref C) = some b ∧ (b = true → Q (.str r) H) ∧ (b = false → wChain K Q l cls d H)
def TToldM (K : PySem.W.Frag) (l : List (Addr × Str)) : (XK → Hp → VK → Prop) → Hp → VK → Prop := fun tl H Q => tl (wChain K Q l) H fun _ H' => Q .non H'
/-- the handlers: except x: return r -/
inductive HdsT (mg : Str → Option Value) (sg : Scope) : List ExceptHandler → List (Addr × Str) → Prop
  | nil : HdsT mg sg [] []
  | cons {e r : Str} {C : Addr} {j : Nat} {p4 p5 p6 p7 : Pos} {hs : List ExceptHandler} {l : List (Addr × Str)} (hge : sg.names.lookup e = some .globalImplicit) (hme : mg e = some (.ref C)) (hde : (e == ("__debug__" : Str)) = false) (t : HdsT mg sg hs l) :
      HdsT mg sg (.ExceptHandler (some (.Name e p4)) none [.Return (some (.Constant (.str r) j p5)) p6] p7 :: hs) ((C, r) :: l)
def tsOf (r : Str) : Addr → Value → Option Addr → TS := fun _ _ _ => tRet (tC (.str r))
theorem wMany_chain {K : PySem.W.Frag} {D : Ends} : ∀ (l : List (Addr × Str)) {cls : Value} {d : Option Addr} {σ : L2.St} {H : Hp}, wChain K D.rt l cls d H →
    wMany K (fun _ _ _ _ => False) D (l.map fun (y : Addr × Str) => (Value.ref y.1, tsOf y.2)) cls d σ H
  | [], _, _, _, _, h => h
  | (C, r) :: l, _, _, _, _, ⟨b, h1, h2, h3⟩ => ⟨b, h1, fun e a _ => h2 e, fun e => wMany_chain l (h3 e)⟩
theorem hds_ok {Y : Cx} {mg : Str → Option Value} {sg : Scope} (hsc : Y.env.scope = sg) : ∀ {hs : List ExceptHandler} {l : List (Addr × Str)}, (hmg : Y.mg = mg) → HdsT mg sg hs l → HdsOk Y hs (l.map fun (y : Addr × Str) => (Value.ref y.1, tsOf y.2)) := by
  intro hs l hmg h
  induction h with
  | nil => exact .nil
  | cons hge hme hde t ih =>
    refine .cons ⟨by show Y.env.scope.names.lookup _ = _; rw [hsc]; exact hge, hde, .inl (by rw [hmg]; exact hme)⟩ (fun a oe cls d pn _ _ => ?_) ih
    exact pss_one (ps_ret pe_str)
section
variable {X : Cx}
theorem toldM_gives {Ng : List Str} {x a q : Str} {sg : Scope} {g : Addr} {cdg : Value} {h₀ : ExceptHandler} {hds : List ExceptHandler} {l : List (Addr × Str)} {p1 p2 p3 p8 p9 pn0 : Pos} {jn : Nat} (hT : HdsT X.mg sg (h₀ :: hds) l) (h0 : ∀ f : Addr, (L2.start Ng [V.ref f])[0]? = some (some (V.ref f))) :
    GivesTo X Ng x sg g cdg [.Try [.Expr (.Call (.Name a p1) [] [] p2) p3] (h₀ :: hds) [] [] p8, .Return (some (.Constant .none jn pn0)) p9] a q (TToldM X.K l) := by
  intro f c' s H Q tl act hc h
  refine ⟨_, pss_cons (ps_try_many (X := (cxOf C8.CX0 X.prog X.w X.K X.mg X.base Ng x sg g cdg X.A X.stack s H C8.E0).nox) (Wout := fun _ _ _ _ => False)
      (tb := fun W D σ H => ∃ Ech : XK, (∀ cls d σ' H', Ech cls d H' → W cls d σ' H') ∧ σ[0]? = some (some (.ref f)) ∧ H c' = some (CodeO c' q) ∧ tl Ech H fun _ H' => D.nx σ H')
      rfl rfl takes_none5 (fun W pn xe tk _ => ?_) (hds_ok rfl rfl hT)) (pss_one (ps_ret pe_non)), ?_⟩
  · refine ⟨fun pins s' σ H' D I h' => ?_⟩
    obtain ⟨Ech, hW, h1, h2, h3⟩ := h'
    have hp := act W pn xe Ech p1 p2 tk hW
    have hq := pss_one (ps_expr (pos := p3) hp)
    exact hq.run pins s' σ H' D I ⟨h1, h2, h3⟩
  · exact ⟨wChain X.K Q l, fun cls d σ' H' z => wMany_chain l z, h0 f, hc, h⟩
/-- sorted(xs, key=lambda x: x.f), f a property that returns a text of the instance -/
theorem pe_sortPropT {T : List (Addr × Str)} {te : TE} {c P C p g : Addr} {k : Nat} {e : Expr} {params : Arguments} {scope : Scope} {x f fld y qual : Str} {st : Stmt} {fd : FuncData} {pp q1 q2 lpos kpos pos p1 p2 p3 : Pos}
    (hmT : (P, X.env.qual ++ "<lambda>") ∈ T) (hu : ∀ p ∈ T, p.1 = P → p.2 = X.env.qual ++ "<lambda>") (hg : Gl X "sorted") (hm : X.mg "sorted" = none) (ha : PE X e te) (TB : TabB X.base X.mg c P) (hcode : X.env.code = .ref c) (hr : Room k X.A)
    (cl : Cls X.K C) (hp : PropOf X.K C f p g) (F : Fun X.K y qual st g fd) (hb : Binds X.K fd ["self"] []) (n : NoAttr X.K C fld) (hbody : defBody st = [.Return (some (.Attribute (.Name "self" p1) fld p2)) p3] := by rfl)
    (hk2 : (defScope st).kind = .function := by rfl) (hco2 : (defScope st).isCoroutine = false := by rfl) (hge2 : (defScope st).isGenerator = false := by rfl) (hself : (defScope st).names.lookup ("self" : Str) = some NameKind.local := by rfl) (nocell : ∀ y ∈ (defScope st).names, y.2 ≠ .cell := by decide +kernel)
    (hdef : defaultsOf params X.env = ([], []) := by rfl) (hkind : scope.kind = .function := by rfl) (hco : scope.isCoroutine = false := by rfl) (hgen : scope.isGenerator = false := by rfl) (hnames : ∀ y ∈ scope.names, y.2 ≠ .free ∧ y.2 ≠ .cell := by decide +kernel) (hx : scope.names.lookup x = some .local := by rfl)
    (hbind : ∀ (q : Str) (cl : List (Str × Addr)) (pm cv ctv v : Value), bindArgs (PySem.W.kla_fn "<lambda>" q params (.Attribute (.Name x q1) f q2) scope cl pm cv ctv) ⟨[v], []⟩ = pure [(x, v)] := by intros; rfl)
    (hd : (x == ("__debug__" : Str)) = false := by decide) (hst : starEach [e] X.env = (false, eval e X.env) :: starEach [] X.env := by rfl) (he : backTo pos (starEach [e] X.env) = (false, eval e X.env) :: backTo pos (starEach [] X.env) := by rfl) (hpl : (backTo pos (starEach [e] X.env)).any (·.1) = false := by rfl) :
    PE X (.Call (.Name "sorted" pp) [e] [⟨some "key", .Lambda params (.Attribute (.Name x q1) f q2) scope lpos, kpos⟩] pos) (tSortLam X.K T (RKi C fld) te) := by
  refine pe_sortLamP (x := x) (R := InsK C fld) (RK := RKi C fld) (key_prop hkind hx hd cl hp F hk2 hco2 hge2 hb n hbody hself nocell) (fun pins s σ H b u v I r rv => ?_) (fun h h' v u e r => insK_keep e r) (fun H H' b u e r => ?_) hg hm ha TB hcode hmT hu hr hdef hkind hco hgen hnames hx hbind hst he hpl
  · obtain ⟨a, dx, fs, rfl, ea, l⟩ := r
    obtain rfl : v = .ref a := rv
    obtain ⟨mA, O, r, _, _, _⟩ := ins_get I.hok ea
    obtain ⟨t, ht, rt⟩ := RelO.some_of (v := .str u) (o := mA fld) (by rw [← l]; exact r fld)
    obtain ⟨tk, rfl⟩ := rt
    exact ⟨a, dx, mA, tk, rfl, O, ht⟩
  · obtain ⟨a, dx, fs, rfl, ea, l⟩ := r
    exact ⟨a, dx, fs, rfl, e _ _ ea (fun _ z => nomatch z), l⟩
/-- o.f = v, as a target -/
def gFld (K : PySem.W.Frag) (ta : TE) (f : Str) : TG := fun v σ H Q => ta σ H fun x H2 => ∃ a C dx fs, x = .ref a ∧ H2 a = some (.ins C dx fs) ∧ Cls K C ∧ NoAttr K C f ∧ fs.length < 1000 ∧ Q σ (upd H2 a (.ins C dx (putF f v fs)))
theorem pg_fld {o : Expr} {f : Str} {pos : Pos} {ta : TE} (ho : PE X o ta) : PG X (.Attribute o f pos) (gFld X.K ta f) := by
  refine ⟨fun pins s σ H v u Q I r h => ?_⟩
  rw [assign_Attribute]
  refine wpAny_bind (wpAny_holding (thn (ho.run pins s σ H _ I h) fun ov s1 ⟨x, H1, I1, r1, a, C, dx, fs, ex, ea, c, n, l, q⟩ => ?_))
  subst ex
  obtain rfl : ov = Value.ref a := r1
  refine wpAny_bind (wpAny_standAt (wpAny_bind (wpAny_holding (setattr_ok I1 ea c n l r fun s2 I2 => wpAny_release ⟨σ, _, I2, q⟩))))
end
end My
/-! == and != that may run an own __eq__, with both answers -/
namespace My
open PySem PySem.SeqAt L2 LamX PyProof.Rows
open AutoSeq1 (wpAny_loadPart')
open MeetsSeq MeetsSeq2 MeetsSeq3 SeqRoads2
section
variable {prog : Program} {w : World} {A : Around} {R : Result → Shared → Prop}
abbrev FinB (prog : Program) (w : World) (A : Around) (R : Result → Shared → Prop) : Fin → Shared → Prop := fun fin s' => match fin with
  | .done f => R (.ok f) s'
  | .again c' => c'.quiet = true ∧ codeAny (model prog w) A c' R s'
/-- the two lists are there at each turn, the i-th items' answer is e i -/
def ItB (prog : Program) (w : World) (A : Around) (E : Value → Shared → Prop) (l b : Addr) (N : Nat) (e : Nat → Bool) (I : Nat → Shared → Prop) : Prop :=
  ∀ i s, I i s → ∃ (xs ys : Array Value) (n m : Nat), s.heap.get? l = some { cls := .type "list", data := .seq xs n } ∧ s.heap.get? b = some { cls := .type "list", data := .seq ys m } ∧ xs.size = N ∧ ys.size = N ∧
    ∀ (h1 : i < xs.size) (h2 : i < ys.size), wpAny (model prog w) A.in1 (eqBool xs[i] ys[i]) (fun r s' => r = e i ∧ I (i + 1) s') E s
theorem loop_eq (l b : Addr) (N : Nat) (e : Nat → Bool) (I : Nat → Shared → Prop) (hl : ItB prog w A (fun e s' => R (.error e) s') l b N e I)
    (f1 : ∀ s, I N s → (∀ j < N, e j = true) → R (.ok (.ret (.bool true))) s) (f0 : ∀ i s, i < N → e i = false → I (i + 1) s → R (.ok (.ret (.bool false))) s) (k : Nat) :
    ∀ i : Nat, N - i = k → i ≤ N → (∀ j < i, e j = true) → ∀ s, I i s → wpAny (model prog w) A.in1 (Builtin.«list.__eq__.loop» ⟨[.ref l, .ref b, rawInt i, rawInt 2], []⟩) (FinB prog w A R) (fun e s' => R (.error e) s') s := by
  induction k with
  | zero =>
    intro i hk hi hp s h
    obtain ⟨xs, ys, n, m, a1, a2, z1, z2, _⟩ := hl _ _ h
    obtain rfl : i = N := by omega
    have q := f1 s h hp
    obtain ⟨hh, g, d, tk, os⟩ := s
    wp_walk using wpAny_loadPart' a1, wpAny_loadPart' a2
    rw [show xs[((i : Nat) : Int).toNat]? = none from by simp; omega, show ys[((i : Nat) : Int).toNat]? = none from by simp; omega]
    wp_walk using wpAny_loadPart' a1, wpAny_loadPart' a2
    show R (.ok (.ret (.bool (xs.size == ys.size)))) _
    rw [z1, z2]
    simpa using q
  | succ k ih =>
    intro i hk hi hp s h
    obtain ⟨xs, ys, n, m, a1, a2, z1, z2, turn⟩ := hl _ _ h
    have i1 : i < xs.size := by omega
    have i2 : i < ys.size := by omega
    have ht := turn i1 i2
    obtain ⟨hh, g, d, tk, os⟩ := s
    wp_walk using wpAny_loadPart' a1, wpAny_loadPart' a2
    rw [show xs[((i : Nat) : Int).toNat]? = some xs[i] from by simp [i1], show ys[((i : Nat) : Int).toNat]? = some ys[i] from by simp [i2]]
    refine wpAny_bind (wpAny_mono ht (fun r s2 h2 => ?_) fun _ _ x => x)
    obtain ⟨hr, h2⟩ := h2
    cases he : e i with
    | true =>
      rw [he] at hr
      subst hr
      have hrec := ih (i + 1) (by omega) (by omega) (fun j hj => by
        by_cases z : j = i
        · rw [z]; exact he
        · exact hp j (by omega)) s2 h2
      obtain ⟨hh2, g2, d2, tk2, os2⟩ := s2
      wp_walk
      rw [show ((i : Int) + 1) = ((i + 1 : Nat) : Int) from by omega]
      exact ⟨plainId_quiet plain_eq_loop _, codeAny_builtin entry_eq_loop (by
        rw [Around.under_plainId plain_eq_loop _]
        exact hrec)⟩
    | false =>
      rw [he] at hr
      subst hr
      have q := f0 i s2 (by omega) he h2
      obtain ⟨xs', ys', n', m', b1, b2, y1, y2, _⟩ := hl _ _ h2
      obtain ⟨hh2, g2, d2, tk2, os2⟩ := s2
      wp_walk using wpAny_loadPart' b1, wpAny_loadPart' b2
      rw [show xs'[((i : Nat) : Int).toNat]? = some (xs'[i]'(by omega)) from by simp, show ys'[((i : Nat) : Int).toNat]? = some (ys'[i]'(by omega)) from by simp]
      wp_walk
      exact q
theorem list_eq (l b : Addr) (N : Nat) (e : Nat → Bool) (I : Nat → Shared → Prop) (hl : ItB prog w A (fun e s' => R (.error e) s') l b N e I)
    (f1 : ∀ s, I N s → (∀ j < N, e j = true) → R (.ok (.ret (.bool true))) s) (f0 : ∀ i s, i < N → e i = false → I (i + 1) s → R (.ok (.ret (.bool false))) s) {s : Shared} (h : I 0 s) :
    wpAny (model prog w) A.in1 (Builtin.«list.__eq__» ⟨[.ref l, .ref b], []⟩) (FinB prog w A R) (fun e s' => R (.error e) s') s := by
  obtain ⟨xs, ys, n, m, a1, a2, z1, z2, _⟩ := hl _ _ h
  have hrec := loop_eq (A := A) (R := R) l b N e I hl f1 f0 _ 0 rfl (Nat.zero_le _) (fun j hj => absurd hj (Nat.not_lt_zero j)) s h
  obtain ⟨hh, g, d, tk, os⟩ := s
  have f3 := AutoSeq1.sub_list_list
  have hne : ¬ (xs.size != ys.size) = true := by simp [z1, z2]
  wp_walk using wpAny_loadPart' a1, wpAny_loadPart' a2
  exact ⟨plainId_quiet plain_eq_loop _, codeAny_builtin entry_eq_loop (by
    rw [Around.under_plainId plain_eq_loop _]
    exact hrec)⟩
/-- lists of unlike lengths -/
theorem list_eq_len {l b : Addr} {xs ys : Array Value} {n m : Nat} {s : Shared} (a1 : s.heap.get? l = some { cls := .type "list", data := .seq xs n }) (a2 : s.heap.get? b = some { cls := .type "list", data := .seq ys m }) (hz : xs.size ≠ ys.size) (q : R (.ok (.ret (.bool false))) s) :
    wpAny (model prog w) A.in1 (Builtin.«list.__eq__» ⟨[.ref l, .ref b], []⟩) (FinB prog w A R) (fun e s' => R (.error e) s') s := by
  obtain ⟨hh, g, d, tk, os⟩ := s
  have f3 := AutoSeq1.sub_list_list
  have hne : (xs.size != ys.size) = true := by simp [hz]
  wp_walk using wpAny_loadPart' a1, wpAny_loadPart' a2
  exact q
theorem loop_ne (l b : Addr) (N : Nat) (e : Nat → Bool) (I : Nat → Shared → Prop) (hl : ItB prog w A (fun e s' => R (.error e) s') l b N e I)
    (f1 : ∀ s, I N s → (∀ j < N, e j = true) → R (.ok (.ret (.bool false))) s) (f0 : ∀ i s, i < N → e i = false → I (i + 1) s → R (.ok (.ret (.bool true))) s) (k : Nat) :
    ∀ i : Nat, N - i = k → i ≤ N → (∀ j < i, e j = true) → ∀ s, I i s → wpAny (model prog w) A.in1 (Builtin.«list.__eq__.loop» ⟨[.ref l, .ref b, rawInt i, rawInt 3], []⟩) (FinB prog w A R) (fun e s' => R (.error e) s') s := by
  induction k with
  | zero =>
    intro i hk hi hp s h
    obtain ⟨xs, ys, n, m, a1, a2, z1, z2, _⟩ := hl _ _ h
    obtain rfl : i = N := by omega
    have q := f1 s h hp
    obtain ⟨hh, g, d, tk, os⟩ := s
    wp_walk using wpAny_loadPart' a1, wpAny_loadPart' a2
    rw [show xs[((i : Nat) : Int).toNat]? = none from by simp; omega, show ys[((i : Nat) : Int).toNat]? = none from by simp; omega]
    wp_walk using wpAny_loadPart' a1, wpAny_loadPart' a2
    show R (.ok (.ret (.bool (xs.size != ys.size)))) _
    rw [z1, z2]
    simpa using q
  | succ k ih =>
    intro i hk hi hp s h
    obtain ⟨xs, ys, n, m, a1, a2, z1, z2, turn⟩ := hl _ _ h
    have i1 : i < xs.size := by omega
    have i2 : i < ys.size := by omega
    have ht := turn i1 i2
    obtain ⟨hh, g, d, tk, os⟩ := s
    wp_walk using wpAny_loadPart' a1, wpAny_loadPart' a2
    rw [show xs[((i : Nat) : Int).toNat]? = some xs[i] from by simp [i1], show ys[((i : Nat) : Int).toNat]? = some ys[i] from by simp [i2]]
    refine wpAny_bind (wpAny_mono ht (fun r s2 h2 => ?_) fun _ _ x => x)
    obtain ⟨hr, h2⟩ := h2
    cases he : e i with
    | true =>
      rw [he] at hr
      subst hr
      have hrec := ih (i + 1) (by omega) (by omega) (fun j hj => by
        by_cases z : j = i
        · rw [z]; exact he
        · exact hp j (by omega)) s2 h2
      obtain ⟨hh2, g2, d2, tk2, os2⟩ := s2
      wp_walk
      rw [show ((i : Int) + 1) = ((i + 1 : Nat) : Int) from by omega]
      exact ⟨plainId_quiet plain_eq_loop _, codeAny_builtin entry_eq_loop (by
        rw [Around.under_plainId plain_eq_loop _]
        exact hrec)⟩
    | false =>
      rw [he] at hr
      subst hr
      have q := f0 i s2 (by omega) he h2
      obtain ⟨xs', ys', n', m', b1, b2, y1, y2, _⟩ := hl _ _ h2
      obtain ⟨hh2, g2, d2, tk2, os2⟩ := s2
      wp_walk using wpAny_loadPart' b1, wpAny_loadPart' b2
      rw [show xs'[((i : Nat) : Int).toNat]? = some (xs'[i]'(by omega)) from by simp, show ys'[((i : Nat) : Int).toNat]? = some (ys'[i]'(by omega)) from by simp]
      wp_walk
      exact q
theorem list_ne (l b : Addr) (N : Nat) (e : Nat → Bool) (I : Nat → Shared → Prop) (hl : ItB prog w A (fun e s' => R (.error e) s') l b N e I)
    (f1 : ∀ s, I N s → (∀ j < N, e j = true) → R (.ok (.ret (.bool false))) s) (f0 : ∀ i s, i < N → e i = false → I (i + 1) s → R (.ok (.ret (.bool true))) s) {s : Shared} (h : I 0 s) :
    wpAny (model prog w) A.in1 (Builtin.«list.__ne__» ⟨[.ref l, .ref b], []⟩) (FinB prog w A R) (fun e s' => R (.error e) s') s := by
  obtain ⟨xs, ys, n, m, a1, a2, z1, z2, _⟩ := hl _ _ h
  have hrec := loop_ne (A := A) (R := R) l b N e I hl f1 f0 _ 0 rfl (Nat.zero_le _) (fun j hj => absurd hj (Nat.not_lt_zero j)) s h
  obtain ⟨hh, g, d, tk, os⟩ := s
  have f3 := AutoSeq1.sub_list_list
  have hne : ¬ (xs.size != ys.size) = true := by simp [z1, z2]
  wp_walk using wpAny_loadPart' a1, wpAny_loadPart' a2
  exact ⟨plainId_quiet plain_eq_loop _, codeAny_builtin entry_eq_loop (by
    rw [Around.under_plainId plain_eq_loop _]
    exact hrec)⟩
/-- lists of unlike lengths -/
theorem list_ne_len {l b : Addr} {xs ys : Array Value} {n m : Nat} {s : Shared} (a1 : s.heap.get? l = some { cls := .type "list", data := .seq xs n }) (a2 : s.heap.get? b = some { cls := .type "list", data := .seq ys m }) (hz : xs.size ≠ ys.size) (q : R (.ok (.ret (.bool true))) s) :
    wpAny (model prog w) A.in1 (Builtin.«list.__ne__» ⟨[.ref l, .ref b], []⟩) (FinB prog w A R) (fun e s' => R (.error e) s') s := by
  obtain ⟨hh, g, d, tk, os⟩ := s
  have f3 := AutoSeq1.sub_list_list
  have hne : (xs.size != ys.size) = true := by simp [hz]
  wp_walk using wpAny_loadPart' a1, wpAny_loadPart' a2
  exact q
end
end My
/-! == and != that may run an own __eq__: tuples, own classes, operators -/
namespace My
open PySem PySem.SeqAt L2 LamX PyProof.Rows
open AutoSeq1 (wpAny_loadPart')
open MeetsSeq MeetsSeq2 MeetsSeq3 SeqRoads2
section
variable {prog : Program} {w : World} {A : Around} {R : Result → Shared → Prop} {E : Value → Shared → Prop} {s : Shared}
theorem tup_eq (l b : Addr) (xs ys : Array Value) (n m : Nat) (dd dd2 : Option Addr) (sl sl2 : Array (Option Value)) (hsz : xs.size = ys.size) (e : Nat → Bool) (I : Nat → Shared → Prop)
    (turn : ∀ i (h1 : i < xs.size) (h2 : i < ys.size) s, I i s → wpAny (model prog w) A.in1 (eqBool xs[i] ys[i]) (fun r s' => r = e i ∧ I (i + 1) s') (fun e s' => R (.error e) s') s)
    (f1 : ∀ s, I xs.size s → (∀ j < xs.size, e j = true) → R (.ok (.ret (.bool true))) s) (f0 : ∀ i s, i < xs.size → e i = false → I (i + 1) s → R (.ok (.ret (.bool false))) s) {s : Shared}
    (a1 : s.heap.get? l = some { cls := .type "tuple", dict := dd, data := .seq xs n, slots := sl }) (a2 : s.heap.get? b = some { cls := .type "tuple", dict := dd2, data := .seq ys m, slots := sl2 }) (h : I 0 s) :
    wpAny (model prog w) A.in1 (Builtin.«tuple.__eq__» ⟨[.ref l, .ref b], []⟩) (FinB prog w A R) (fun e s' => R (.error e) s') s := by
  have f2 := AutoSeq1.sub_tuple_tuple
  have hZ : (xs.toList.zip ys.toList).length = xs.size := by simp [hsz]
  have h0 := h
  obtain ⟨hh, g, d, tk, os⟩ := s
  wp_walk using wpAny_loadPart' a1, wpAny_loadPart' a2, wpAny_forIn_list _ (fun rest b s' => (b.1 = none ∧ ∃ i, rest = (xs.toList.zip ys.toList).drop i ∧ i ≤ xs.size ∧ I i s' ∧ ∀ j < i, e j = true) ∨ (b.1 = some (.done (.ret (.bool false))) ∧ rest = [] ∧ R (.ok (.ret (.bool false))) s'))
  case turn =>
    rintro ⟨y, x⟩ rest b s' (⟨hb, i, hz, hi, hI, hp⟩ | ⟨_, hz, _⟩)
    · have hlt : i < (xs.toList.zip ys.toList).length := by
        rcases Nat.lt_or_ge i (xs.toList.zip ys.toList).length with z | z
        · exact z
        · rw [List.drop_of_length_le z] at hz; cases hz
      have h1 : i < xs.size := hZ ▸ hlt
      have h2 : i < ys.size := hsz ▸ h1
      rw [List.drop_eq_getElem_cons hlt] at hz
      injection hz with hyx hrest
      obtain rfl : y = xs[i] := by simpa using congrArg Prod.fst hyx
      obtain rfl : x = ys[i] := by simpa using congrArg Prod.snd hyx
      refine wpAny_bind (wpAny_mono (turn i h1 h2 s' hI) (fun r s2 q2 => ?_) fun _ _ x => x)
      obtain ⟨hr, q2⟩ := q2
      cases he : e i with
      | true =>
        rw [he] at hr
        subst hr
        wp_walk
        exact .inl ⟨rfl, i + 1, hrest, h1, q2, fun j hj => by
          by_cases z : j = i
          · rw [z]; exact he
          · exact hp j (by omega)⟩
      | false =>
        rw [he] at hr
        subst hr
        have q := f0 i s2 h1 he q2
        wp_walk
        exact q
    · cases hz
  case fin =>
    rintro ⟨b1, b2⟩ s' (⟨hb, i, hz, hi, hI, hp⟩ | ⟨hb, _, q⟩)
    · simp only at hb
      subst hb
      have hge : xs.size ≤ i := by
        rcases Nat.lt_or_ge i (xs.toList.zip ys.toList).length with z | z
        · rw [List.drop_eq_getElem_cons z] at hz; cases hz
        · exact hZ ▸ z
      obtain rfl : i = xs.size := by omega
      have q := f1 s' hI hp
      wp_walk
      simpa [Builtin.Tuple.tupleCompareSizes, hsz] using q
    · simp only at hb
      subst hb
      wp_walk
      exact q
  case h =>
    exact .inl ⟨rfl, 0, rfl, Nat.zero_le _, h0, fun j hj => absurd hj (Nat.not_lt_zero j)⟩
theorem tup_ne (l b : Addr) (xs ys : Array Value) (n m : Nat) (dd dd2 : Option Addr) (sl sl2 : Array (Option Value)) (hsz : xs.size = ys.size) (e : Nat → Bool) (I : Nat → Shared → Prop)
    (turn : ∀ i (h1 : i < xs.size) (h2 : i < ys.size) s, I i s → wpAny (model prog w) A.in1 (eqBool xs[i] ys[i]) (fun r s' => r = e i ∧ I (i + 1) s') (fun e s' => R (.error e) s') s)
    (f1 : ∀ s, I xs.size s → (∀ j < xs.size, e j = true) → R (.ok (.ret (.bool false))) s) (f0 : ∀ i s, i < xs.size → e i = false → I (i + 1) s → R (.ok (.ret (.bool true))) s) {s : Shared}
    (a1 : s.heap.get? l = some { cls := .type "tuple", dict := dd, data := .seq xs n, slots := sl }) (a2 : s.heap.get? b = some { cls := .type "tuple", dict := dd2, data := .seq ys m, slots := sl2 }) (h : I 0 s) :
    wpAny (model prog w) A.in1 (Builtin.«tuple.__ne__» ⟨[.ref l, .ref b], []⟩) (FinB prog w A R) (fun e s' => R (.error e) s') s := by
  have f2 := AutoSeq1.sub_tuple_tuple
  have hZ : (xs.toList.zip ys.toList).length = xs.size := by simp [hsz]
  have h0 := h
  obtain ⟨hh, g, d, tk, os⟩ := s
  wp_walk using wpAny_loadPart' a1, wpAny_loadPart' a2, wpAny_forIn_list _ (fun rest b s' => (b.1 = none ∧ ∃ i, rest = (xs.toList.zip ys.toList).drop i ∧ i ≤ xs.size ∧ I i s' ∧ ∀ j < i, e j = true) ∨ (b.1 = some (.done (.ret (.bool true))) ∧ rest = [] ∧ R (.ok (.ret (.bool true))) s'))
  case turn =>
    rintro ⟨y, x⟩ rest b s' (⟨hb, i, hz, hi, hI, hp⟩ | ⟨_, hz, _⟩)
    · have hlt : i < (xs.toList.zip ys.toList).length := by
        rcases Nat.lt_or_ge i (xs.toList.zip ys.toList).length with z | z
        · exact z
        · rw [List.drop_of_length_le z] at hz; cases hz
      have h1 : i < xs.size := hZ ▸ hlt
      have h2 : i < ys.size := hsz ▸ h1
      rw [List.drop_eq_getElem_cons hlt] at hz
      injection hz with hyx hrest
      obtain rfl : y = xs[i] := by simpa using congrArg Prod.fst hyx
      obtain rfl : x = ys[i] := by simpa using congrArg Prod.snd hyx
      refine wpAny_bind (wpAny_mono (turn i h1 h2 s' hI) (fun r s2 q2 => ?_) fun _ _ x => x)
      obtain ⟨hr, q2⟩ := q2
      cases he : e i with
      | true =>
        rw [he] at hr
        subst hr
        wp_walk
        exact .inl ⟨rfl, i + 1, hrest, h1, q2, fun j hj => by
          by_cases z : j = i
          · rw [z]; exact he
          · exact hp j (by omega)⟩
      | false =>
        rw [he] at hr
        subst hr
        have q := f0 i s2 h1 he q2
        wp_walk
        exact q
    · cases hz
  case fin =>
    rintro ⟨b1, b2⟩ s' (⟨hb, i, hz, hi, hI, hp⟩ | ⟨hb, _, q⟩)
    · simp only at hb
      subst hb
      have hge : xs.size ≤ i := by
        rcases Nat.lt_or_ge i (xs.toList.zip ys.toList).length with z | z
        · rw [List.drop_eq_getElem_cons z] at hz; cases hz
        · exact hZ ▸ z
      obtain rfl : i = xs.size := by omega
      have q := f1 s' hI hp
      wp_walk
      simpa [Builtin.Tuple.tupleCompareSizes, hsz] using q
    · simp only at hb
      subst hb
      wp_walk
      exact q
  case h =>
    exact .inl ⟨rfl, 0, rfl, Nat.zero_le _, h0, fun j hj => absurd hj (Nat.not_lt_zero j)⟩
end
end My
/-! == and != that may run an own __eq__: by the abstract heap -/
namespace My
open PySem PySem.Spec L2 LamX PyProof.Rows
section
variable {prog : Program} {w : World} {A : Around} {E : Value → Shared → Prop} {s : Shared}
theorem rc_list_eq {l b : Addr} {N : Nat} {e : Nat → Bool} {Q : Value → Shared → Prop} (hu : A.units < cLine) (I : Nat → Shared → Prop) (hl : ItB prog w A E l b N e I) (f1 : ∀ s, I N s → (∀ j < N, e j = true) → Q (.bool true) s)
    (f0 : ∀ i s, i < N → e i = false → I (i + 1) s → Q (.bool false) s) (h : I 0 s) : wpAny (model prog w) A (richCompare .Eq (.ref l) (.ref b)) Q E s := by
  obtain ⟨xs, ys, n, m, a1, a2, _⟩ := hl _ _ h
  refine wpAny_richCompare_same_room (op := .Eq) ⟨_, a1, rfl⟩ ⟨_, a2, rfl⟩ PySem.F.slot_list_eq (GQ.call_here PySem.F.slot_list_eq ⟨_, a1, rfl⟩ PySem.F.entry_list_eq (PySem.F.args_list_eq_2 _ _) ?_) hu
  exact list_eq (R := wants (fun v s' => v ≠ .notImplemented ∧ Q v s') E) l b N e I hl (fun s' q1 q2 => ⟨nofun, f1 s' q1 q2⟩) (fun i s' q1 q2 q3 => ⟨nofun, f0 i s' q1 q2 q3⟩) h
theorem rc_list_ne {l b : Addr} {N : Nat} {e : Nat → Bool} {Q : Value → Shared → Prop} (hu : A.units < cLine) (I : Nat → Shared → Prop) (hl : ItB prog w A E l b N e I) (f1 : ∀ s, I N s → (∀ j < N, e j = true) → Q (.bool false) s)
    (f0 : ∀ i s, i < N → e i = false → I (i + 1) s → Q (.bool true) s) (h : I 0 s) : wpAny (model prog w) A (richCompare .NotEq (.ref l) (.ref b)) Q E s := by
  obtain ⟨xs, ys, n, m, a1, a2, _⟩ := hl _ _ h
  refine wpAny_richCompare_same_room (op := .NotEq) ⟨_, a1, rfl⟩ ⟨_, a2, rfl⟩ PySem.F.slot_list_ne (GQ.call_here PySem.F.slot_list_ne ⟨_, a1, rfl⟩ PySem.F.entry_list_ne (PySem.F.args_list_ne_2 _ _) ?_) hu
  exact list_ne (R := wants (fun v s' => v ≠ .notImplemented ∧ Q v s') E) l b N e I hl (fun s' q1 q2 => ⟨nofun, f1 s' q1 q2⟩) (fun i s' q1 q2 q3 => ⟨nofun, f0 i s' q1 q2 q3⟩) h
theorem rc_list_eq_len {l b : Addr} {xs ys : Array Value} {n m : Nat} {Q : Value → Shared → Prop} (hu : A.units < cLine) (a1 : s.heap.get? l = some { cls := .type "list", data := .seq xs n }) (a2 : s.heap.get? b = some { cls := .type "list", data := .seq ys m }) (hz : xs.size ≠ ys.size) (q : Q (.bool false) s) :
    wpAny (model prog w) A (richCompare .Eq (.ref l) (.ref b)) Q E s := by
  refine wpAny_richCompare_same_room (op := .Eq) ⟨_, a1, rfl⟩ ⟨_, a2, rfl⟩ PySem.F.slot_list_eq (GQ.call_here PySem.F.slot_list_eq ⟨_, a1, rfl⟩ PySem.F.entry_list_eq (PySem.F.args_list_eq_2 _ _) ?_) hu
  exact list_eq_len (R := wants (fun v s' => v ≠ .notImplemented ∧ Q v s') E) a1 a2 hz ⟨nofun, q⟩
theorem rc_list_ne_len {l b : Addr} {xs ys : Array Value} {n m : Nat} {Q : Value → Shared → Prop} (hu : A.units < cLine) (a1 : s.heap.get? l = some { cls := .type "list", data := .seq xs n }) (a2 : s.heap.get? b = some { cls := .type "list", data := .seq ys m }) (hz : xs.size ≠ ys.size) (q : Q (.bool true) s) :
    wpAny (model prog w) A (richCompare .NotEq (.ref l) (.ref b)) Q E s := by
  refine wpAny_richCompare_same_room (op := .NotEq) ⟨_, a1, rfl⟩ ⟨_, a2, rfl⟩ PySem.F.slot_list_ne (GQ.call_here PySem.F.slot_list_ne ⟨_, a1, rfl⟩ PySem.F.entry_list_ne (PySem.F.args_list_ne_2 _ _) ?_) hu
  exact list_ne_len (R := wants (fun v s' => v ≠ .notImplemented ∧ Q v s') E) a1 a2 hz ⟨nofun, q⟩
theorem rc_tup_eq {l b : Addr} {xs ys : Array Value} {e : Nat → Bool} {Q : Value → Shared → Prop} (hsz : xs.size = ys.size) (hu : A.units < cLine) (I : Nat → Shared → Prop) (hl : s.heap.IsTuple l xs) (hb : s.heap.IsTuple b ys)
    (turn : ∀ i (h1 : i < xs.size) (h2 : i < ys.size) s, I i s → wpAny (model prog w) A.in1 (eqBool xs[i] ys[i]) (fun r s' => r = e i ∧ I (i + 1) s') E s) (f1 : ∀ s, I xs.size s → (∀ j < xs.size, e j = true) → Q (.bool true) s)
    (f0 : ∀ i s, i < xs.size → e i = false → I (i + 1) s → Q (.bool false) s) (h : I 0 s) : wpAny (model prog w) A (richCompare .Eq (.ref l) (.ref b)) Q E s := by
  obtain ⟨⟨cls, dd, data, sl⟩, ho, hc, n, hd⟩ := id hl
  obtain ⟨⟨cls2, dd2, data2, sl2⟩, ho2, hc2, n2, hd2⟩ := id hb
  simp only at hc hd hc2 hd2
  subst hc hd hc2 hd2
  refine wpAny_richCompare_same_room (op := .Eq) ⟨_, ho, rfl⟩ ⟨_, ho2, rfl⟩ PySem.F.slot_tuple_eq (GQ.call_here PySem.F.slot_tuple_eq ⟨_, ho, rfl⟩ PySem.F.entry_tuple_eq (PySem.F.args_tuple_eq_2 _ _) ?_) hu
  exact tup_eq (R := wants (fun v s' => v ≠ .notImplemented ∧ Q v s') E) l b xs ys n n2 dd dd2 sl sl2 hsz e I turn (fun s' q1 q2 => ⟨nofun, f1 s' q1 q2⟩) (fun i s' q1 q2 q3 => ⟨nofun, f0 i s' q1 q2 q3⟩) ho ho2 h
theorem rc_tup_ne {l b : Addr} {xs ys : Array Value} {e : Nat → Bool} {Q : Value → Shared → Prop} (hsz : xs.size = ys.size) (hu : A.units < cLine) (I : Nat → Shared → Prop) (hl : s.heap.IsTuple l xs) (hb : s.heap.IsTuple b ys)
    (turn : ∀ i (h1 : i < xs.size) (h2 : i < ys.size) s, I i s → wpAny (model prog w) A.in1 (eqBool xs[i] ys[i]) (fun r s' => r = e i ∧ I (i + 1) s') E s) (f1 : ∀ s, I xs.size s → (∀ j < xs.size, e j = true) → Q (.bool false) s)
    (f0 : ∀ i s, i < xs.size → e i = false → I (i + 1) s → Q (.bool true) s) (h : I 0 s) : wpAny (model prog w) A (richCompare .NotEq (.ref l) (.ref b)) Q E s := by
  obtain ⟨⟨cls, dd, data, sl⟩, ho, hc, n, hd⟩ := id hl
  obtain ⟨⟨cls2, dd2, data2, sl2⟩, ho2, hc2, n2, hd2⟩ := id hb
  simp only at hc hd hc2 hd2
  subst hc hd hc2 hd2
  refine wpAny_richCompare_same_room (op := .NotEq) ⟨_, ho, rfl⟩ ⟨_, ho2, rfl⟩ PySem.F.slot_tuple_ne (GQ.call_here PySem.F.slot_tuple_ne ⟨_, ho, rfl⟩ PySem.F.entry_tuple_ne (PySem.F.args_tuple_ne_2 _ _) ?_) hu
  exact tup_ne (R := wants (fun v s' => v ≠ .notImplemented ∧ Q v s') E) l b xs ys n n2 dd dd2 sl sl2 hsz e I turn (fun s' q1 q2 => ⟨nofun, f1 s' q1 q2⟩) (fun i s' q1 q2 q3 => ⟨nofun, f0 i s' q1 q2 q3⟩) ho ho2 h
end
/-! ### own classes: != by object.__ne__ and the own __eq__ -/
section
open PySem.W
variable {prog : Program} {w : World} {A : Around} {E : Value → Shared → Prop} {s : Shared} {K : Frag} {x C L f : Addr} {h₀ : Heap} {m : Str → Option Value} {ox : Obj} {od : Option Obj} {b : Value}
theorem ifBound_ne {M : Model} {Q : Option Value → Shared → Prop} (X : K.In s.heap) (I : InstAt s.heap x ox C od) (hs : findIn K (.ref C) "__ne__" = some (some (.builtin "object.__ne__")))
    (h : wpAny M A (call (.builtin "object.__ne__") [.ref x, b]) (fun v => Q (some v)) E s) : wpAny M A (callSpecialIfBound? (.ref x) "__ne__" [b]) Q E s := by
  simp only [callSpecialIfBound?, bindSpecialIfBound?]
  refine wpAny_holding (wpAny_bind (wpAny_bind (wpAny_bind (I.type.here ((looks_findIn X hs).here ?_)))))
  simp only [PySem.F.cmp_object.ne.bind]
  refine wpAny_bind (wpAny_askSetting (wpAny_ite ?_))
  have fin : wpAny M A (call (.builtin "object.__ne__") ([.ref x] ++ [b]) >>= fun v => pure (some v)) Q E s := wpAny_bind (wpAny_mono h (fun v s' h' => wpAny_pure h') fun _ _ h' => h')
  split
  · exact wpAny_bind (wpAny_pure (wpAny_pure fin))
  · exact wpAny_tryCatch (wpAny_bind (wpAny_pure (wpAny_pure fin)))
theorem ne_K {y : Addr} {oy : Obj} {od' : Option Obj} {Q : Value → Shared → Prop} (hu : A.units + 1 < cLine) (X : K.In s.heap) (I : InstAt s.heap x ox C od) (J : InstAt s.heap y oy C od') (hs : findIn K (.ref C) "__ne__" = some (some (.builtin "object.__ne__")))
    (ho : subIn K (.ref C) (.type "object") = some true) (he : findIn K (.ref C) "__eq__" = some (some (.ref f))) (hf : isFn K (.ref f) = true)
    (h : wpAny (model prog w) A.in1 (call (.ref f) [.ref x, .ref y]) (fun v s' => ∃ r, v = .bool r ∧ Q (.bool (!r)) s') E s) : wpAny (model prog w) A (richCompare .NotEq (.ref x) (.ref y)) Q E s := by
  have one : wpAny (model prog w) A (tryCompare (.ref x) (cmpInfo .NotEq).2.1 (.ref y)) (fun r s' => ∃ v, r = some v ∧ Q v s') E s := by
    unfold tryCompare
    refine wpAny_bind (ifBound_ne X I hs (wpAny_call (codeAny_call_builtin PySem.F.cmp_object.ne.plain PySem.F.cmpEntry_ne (check_slot PySem.F.cmpKind_ne PySem.F.cmpSplit_ne (I.type.andThen (looks_subIn X ho)) (PySem.F.cmpArgs_ne _ _) ?_))))
    have hb : wpAny (model prog w) A.in1 (callSpecialIfBound? (.ref x) "__eq__" [.ref y]) (fun o s' => ∃ r, o = some (.bool r) ∧ Q (.bool (!r)) s') E s := ifBound_K X I he hf (wpAny_mono h (fun v s' ⟨r, e, q⟩ => ⟨r, by rw [e], q⟩) fun _ _ e => e)
    obtain ⟨hh, g, d, tk, os⟩ := s
    unfold Builtin.«object.__ne__»
    repeat (first | with_reducible refine wpAny_cRoomFor hu ?_ | with_reducible refine wpAny_mono hb (fun o s' ho => ?_) (fun _ _ e => ?_) | wp_step)
    · obtain ⟨r, rfl, q⟩ := ho
      refine wpAny_bind (wpAny_truthy_bool ?_)
      exact wpAny_pure (wpAny_pure ⟨_, rfl, q⟩)
    · assumption
  unfold richCompare
  simp only [oneThing_ref]
  refine wpAny_holding (wpAny_bind (wpAny_cRoomFor (Nat.lt_of_succ_lt hu) ?_))
  refine wpAny_bind (I.type.here (wpAny_bind (J.type.here ?_)))
  rw [if_neg (by simp)]
  refine wpAny_bind (wpAny_pure ?_)
  simp only [Bool.false_eq_true, if_false]
  refine wpAny_bind (wpAny_mono one (fun r s' z => ?_) fun _ _ e => e)
  obtain ⟨v, rfl, hq⟩ := z
  exact wpAny_pure hq
end
/-! ### the answer about two values; the heap may grow -/
abbrev EqvB := V → V → Bool → Hp → Prop
def MonB (D : EqvB) : Prop := ∀ x y b H H', Ext H H' → D x y b H → D x y b H'
def EqB (X : Cx) (n : Nat) (D : EqvB) : Prop :=
  ∀ (A : Around) (pins : List (Addr × Obj)) (s : Shared) (σ : L2.St) (H : Hp) (x y : V) (u v : Value) (b : Bool), L2.Sub X n A → Inv X pins σ H s → RelV x u → RelV y v → D x y b H →
    wpAny (model X.prog X.w) A (eqBool u v) (fun r s' => r = b ∧ ∃ H', Inv X pins σ H' s' ∧ Ext H H') X.xe s
def RcB (X : Cx) (n : Nat) (ne : Bool) (D : EqvB) : Prop :=
  ∀ (A : Around) (pins : List (Addr × Obj)) (s : Shared) (σ : L2.St) (H : Hp) (x y : V) (u v : Value) (b : Bool), L2.Sub X n A → Inv X pins σ H s → RelV x u → RelV y v → D x y b H →
    wpAny (model X.prog X.w) A (richCompare (if ne = true then .NotEq else .Eq) u v) (fun r s' => r = .bool (if ne = true then !b else b) ∧ ∃ H', Inv X pins σ H' s' ∧ Ext H H') X.xe s
section
variable {X : Cx} {n : Nat} {D : EqvB}
def DFlatB : EqvB := fun x y b _ => flatV x = true ∧ flatV y = true ∧ eqV x y = b
theorem monB_flat : MonB DFlatB := fun _ _ _ _ _ _ d => d
theorem eqB_flat : EqB X 0 DFlatB := by
  intro A pins s σ H x y u v b sb I rx ry d
  obtain ⟨fx, fy, e⟩ := d
  have q := eqAt_V (A := A) (s := s) rx ry fx fy
  rw [e] at q
  exact q X.prog X.w X.xe _ ⟨rfl, H, I, Ext.rfl'⟩
/-- item by item: the answers e -/
def PrsB (D : EqvB) (xs ys : List V) (e : Nat → Bool) (H : Hp) : Prop := xs.length = ys.length ∧ ∀ (i : Nat) x y, xs[i]? = some x → ys[i]? = some y → D x y (e i) H
theorem turnB (hD : MonB D) (h : EqB X n D) {A : Around} (sb : L2.Sub X (n + 1) A) {pins : List (Addr × Obj)} {σ : L2.St} {H : Hp} {xs ys : List V} {e : Nat → Bool} {us vs : List Value} (p : PrsB D xs ys e H) (r : Vals xs us) (r2 : Vals ys vs)
    (i : Nat) (h1 : i < us.toArray.size) (h2 : i < vs.toArray.size) (s' : Shared) (l : LoopI X pins σ H s') :
    wpAny (model X.prog X.w) A.in1 (eqBool us.toArray[i] vs.toArray[i]) (fun r s2 => r = e i ∧ LoopI X pins σ H s2) X.xe s' := by
  obtain ⟨H1, I1, e1⟩ := l
  have g1 : us[i]? = some us.toArray[i] := by
    have z : i < us.length := by simpa using h1
    rw [List.getElem?_eq_getElem z] <;> simp
  have g2 : vs[i]? = some vs.toArray[i] := by
    have z : i < vs.length := by simpa using h2
    rw [List.getElem?_eq_getElem z] <;> simp
  have k1 : i < xs.length := by rw [r.length]; simpa using h1
  have k2 : i < ys.length := by rw [r2.length]; simpa using h2
  obtain ⟨u, hu, ru⟩ := r.get (List.getElem?_eq_getElem k1)
  obtain ⟨v, hv, rv⟩ := r2.get (List.getElem?_eq_getElem k2)
  rw [g1] at hu
  rw [g2] at hv
  rw [Option.some.inj hu, Option.some.inj hv]
  refine wpAny_mono (h A.in1 pins s' σ H1 _ _ u v _ sb.in1 I1 ru rv (hD _ _ _ _ _ e1 (p.2 i _ _ (List.getElem?_eq_getElem k1) (List.getElem?_eq_getElem k2)))) (fun r s2 q => ?_) fun _ _ x => x
  obtain ⟨hr, H2, I2, e2⟩ := q
  exact ⟨hr, H2, I2, e1.trans e2⟩
def allB (n : Nat) (e : Nat → Bool) : Bool := (List.range n).all e
theorem allB_t {n : Nat} {e : Nat → Bool} (h : ∀ j < n, e j = true) : allB n e = true := List.all_eq_true.mpr fun j hj => h j (List.mem_range.mp hj)
theorem allB_f {n i : Nat} {e : Nat → Bool} (h : i < n) (he : e i = false) : allB n e = false := Bool.eq_false_iff.mpr fun z => by
  rw [List.all_eq_true.mp z i (List.mem_range.mpr h)] at he
  cases he
/-- two lists -/
def DListB (D : EqvB) : EqvB := fun x y b H => ∃ p q xs ys, x = .ref p ∧ y = .ref q ∧ H p = some (.lst xs) ∧ H q = some (.lst ys) ∧ ((xs.length ≠ ys.length ∧ b = false) ∨ ∃ e, PrsB D xs ys e H ∧ b = allB xs.length e)
/-- two tuples of one length -/
def DTupB (K : PySem.W.Frag) (D : EqvB) : EqvB := fun x y b H => ∃ p q xs ys e, x = .ref p ∧ y = .ref q ∧ SqT K H p xs ∧ SqT K H q ys ∧ PrsB D xs ys e H ∧ b = allB xs.length e
theorem rcB_list (hD : MonB D) (h : EqB X n D) : ∀ ne, RcB X (n + 1) ne (DListB D) := by
  intro ne A pins s σ H x y u v b sb I rx ry d
  obtain ⟨p, q, xs, ys, rfl, rfl, hp, hq, d⟩ := d
  cases rx
  cases ry
  rcases d with ⟨hne, rfl⟩ | ⟨e, pr, rfl⟩
  · obtain ⟨z, us, k, r, a1⟩ := I.hok p _ hp
    obtain ⟨z2, vs, k2, r2, a2⟩ := I.hok q _ hq
    have hsz : us.toArray.size ≠ vs.toArray.size := by rw [List.size_toArray, List.size_toArray, ← r.length, ← r2.length]; exact hne
    cases ne with
    | true => exact rc_list_ne_len sb.room.units0 a1 a2 hsz ⟨rfl, H, I, Ext.rfl'⟩
    | false => exact rc_list_eq_len sb.room.units0 a1 a2 hsz ⟨rfl, H, I, Ext.rfl'⟩
  · have it : ItB X.prog X.w A X.xe p q xs.length e (fun _ s' => LoopI X pins σ H s') := fun i s' l => by
      obtain ⟨H1, I1, e1⟩ := id l
      obtain ⟨z, us, k, r, a1⟩ := I1.hok p _ (e1 _ _ hp)
      obtain ⟨z2, vs, k2, r2, a2⟩ := I1.hok q _ (e1 _ _ hq)
      exact ⟨us.toArray, vs.toArray, k, k2, a1, a2, by rw [List.size_toArray, ← r.length], by rw [List.size_toArray, ← r2.length, ← pr.1], fun h1 h2 => turnB hD h sb pr r r2 i h1 h2 s' l⟩
    cases ne with
    | true => exact rc_list_ne sb.room.units0 _ it (fun s' l ha => ⟨by rw [allB_t ha]; rfl, l⟩) (fun i s' hi he l => ⟨by rw [allB_f hi he]; rfl, l⟩) ⟨H, I, Ext.rfl'⟩
    | false => exact rc_list_eq sb.room.units0 _ it (fun s' l ha => ⟨by rw [allB_t ha]; rfl, l⟩) (fun i s' hi he l => ⟨by rw [allB_f hi he]; rfl, l⟩) ⟨H, I, Ext.rfl'⟩
theorem rcB_tup (hD : MonB D) (h : EqB X n D) : ∀ ne, RcB X (n + 1) ne (DTupB X.K D) := by
  intro ne A pins s σ H x y u v b sb I rx ry d
  obtain ⟨p, q, xs, ys, e, rfl, rfl, hp, hq, pr, rfl⟩ := d
  cases rx
  cases ry
  obtain ⟨us, r, a1, z⟩ := I.tuple hp
  obtain ⟨vs, r2, a2, z2⟩ := I.tuple hq
  have hl : us.toArray.size = xs.length := by rw [List.size_toArray, ← r.length]
  have hsz : us.toArray.size = vs.toArray.size := by rw [hl, List.size_toArray, ← r2.length]; exact pr.1
  have tn : ∀ i (h1 : i < us.toArray.size) (h2 : i < vs.toArray.size) s, LoopI X pins σ H s → wpAny (model X.prog X.w) A.in1 (eqBool us.toArray[i] vs.toArray[i]) (fun r s' => r = e i ∧ LoopI X pins σ H s') X.xe s := fun i h1 h2 s' l => turnB hD h sb pr r r2 i h1 h2 s' l
  cases ne with
  | true => exact rc_tup_ne hsz sb.room.units0 (fun _ s' => LoopI X pins σ H s') a1 a2 tn (fun s' l ha => ⟨by rw [allB_t fun j hj => ha j (by rw [hl]; exact hj)]; rfl, l⟩) (fun i s' hi he l => ⟨by rw [allB_f (by rw [← hl]; exact hi) he]; rfl, l⟩) ⟨H, I, Ext.rfl'⟩
  | false => exact rc_tup_eq hsz sb.room.units0 (fun _ s' => LoopI X pins σ H s') a1 a2 tn (fun s' l ha => ⟨by rw [allB_t fun j hj => ha j (by rw [hl]; exact hj)]; rfl, l⟩) (fun i s' hi he l => ⟨by rw [allB_f (by rw [← hl]; exact hi) he]; rfl, l⟩) ⟨H, I, Ext.rfl'⟩
/-- two instances of the class at C: R tells the answer -/
def DInsB (C : Addr) (R : Addr → V → Bool → Hp → Prop) : EqvB := fun x y b H => ∃ p q dx dy fs gs, x = .ref p ∧ y = .ref q ∧ H p = some (.ins C dx fs) ∧ H q = some (.ins C dy gs) ∧ R p y b H
/-- an instance and None -/
def DNonB (C : Addr) (R : Addr → V → Bool → Hp → Prop) : EqvB := fun x y b H => ∃ p dx fs, x = .ref p ∧ y = .non ∧ H p = some (.ins C dx fs) ∧ R p y b H
def spEqB (R : Addr → V → Bool → Hp → Prop) : Sp := fun vs H Q _ => ∃ p y b, vs = [.ref p, y] ∧ R p y b H ∧ ∀ H', Ext H H' → Q (.bl b) H'
/-- what is known of a class with its own == and no != -/
structure EqC (K : PySem.W.Frag) (C f : Addr) : Prop where
  eq : PySem.W.findIn K (.ref C) "__eq__" = some (some (.ref f))
  ne : PySem.W.findIn K (.ref C) "__ne__" = some (some (.builtin "object.__ne__"))
  fn : PySem.W.isFn K (.ref f) = true
  ob : PySem.W.subIn K (.ref C) (.type "object") = some true
theorem run_eqB {C f : Addr} {fd : FuncData} {ps : List Str} {R : Addr → V → Bool → Hp → Prop} (F : FnOk X.prog X.w X.K X.mg X.base C8.CX0 n f fd ps (spEqB R)) (hb : Binds X.K fd ps []) {A' : Around} (hro : Room n A') (hf : A'.frames = X.A.frames) {pins : List (Addr × Obj)} {s : Shared} {σ : L2.St} {H : Hp} {p : Addr} {y : V} {v : Value} {b : Bool}
    (I : Inv X pins σ H s) (ry : RelV y v) (hr : R p y b H) : wpAny (model X.prog X.w) A' (call (.ref f) [.ref p, v]) (fun v s' => v = .bool b ∧ ∃ H', Inv X pins σ H' s' ∧ Ext H H') X.xe s := by
  have hsp : spEqB R [.ref p, y] H (fun v H' => v = .bl b ∧ Ext H H') C8.E0 := ⟨p, y, b, rfl, hr, fun H' e => ⟨rfl, e⟩⟩
  have e0 : Env0 X.prog X.w X.K X.mg X.base A' X.stack s H := by
    have e := I.env0
    exact ⟨by rw [hf]; exact e.frames, e.mod, e.bs, e.bsz, e.funs, e.frf, e.hok, e.bare⟩
  have hl := F.len _ _ _ _ hsp
  have r2 : Vals [V.ref p, y] [Value.ref p, v] := .cons rfl (.cons ry .nil)
  refine wpAny_call (codeAny_mono (F.run A' X.stack s H ⟨[.ref p, v], []⟩ [.ref p, v] [.ref p, y] _ C8.E0 hro e0 (by
    have := hb s [.ref p, v] I.kIn (by simpa using hl)
    simpa using this) r2 hsp) fun r s' hq => ?_)
  cases r with
  | error e => exact (show False from hq).elim
  | ok fl =>
    cases fl with
    | ret w =>
      obtain ⟨z, H', I', rz, ez, ex⟩ := I.after hq
      subst ez
      cases rz
      exact ⟨rfl, H', I', ex⟩
    | next => exact False.elim hq
    | brk => exact False.elim hq
    | cont => exact False.elim hq
theorem rcB_ins {C f : Addr} {fd : FuncData} {ps : List Str} {R : Addr → V → Bool → Hp → Prop} (c : EqC X.K C f) (F : FnOk X.prog X.w X.K X.mg X.base C8.CX0 n f fd ps (spEqB R)) (hb : Binds X.K fd ps []) : ∀ ne, RcB X (n + 1) ne (DInsB C R) := by
  intro ne A pins s σ H x y u v b sb I rx ry d
  obtain ⟨p, q, dx, dy, fs, gs, rfl, rfl, hp, hq, hr⟩ := d
  cases rx
  cases ry
  obtain ⟨mA, J, _⟩ := ins_get I.hok hp
  obtain ⟨mB, J', _⟩ := ins_get I.hok hq
  obtain ⟨od, J, _⟩ := J.look
  obtain ⟨od', J', _⟩ := J'.look
  obtain ⟨m, hF⟩ := I.fr
  cases ne with
  | false =>
    refine PySem.W.cmp_K (op := .Eq) (tb := .ref C) sb.room.units0 hF I.ok.mod.kin J J'.type (by simp [PySem.W.notFirst]) c.eq c.fn (wpAny_mono (run_eqB (C := C) (y := .ref q) F hb (sb.mono (Nat.le_succ n)).room sb.fr I rfl hr) (fun v s' hv => ?_) fun _ _ e => e)
    obtain ⟨rfl, q⟩ := hv
    exact ⟨rfl, q⟩
  | true =>
    refine ne_K sb.in1.room.units0 I.kIn J J' c.ne c.ob c.eq c.fn (wpAny_mono (run_eqB (C := C) (y := .ref q) F hb sb.in1.room sb.in1.fr I rfl hr) (fun v s' hv => ?_) fun _ _ e => e)
    obtain ⟨rfl, q⟩ := hv
    exact ⟨b, rfl, rfl, q⟩
/-- x == None -/
theorem rcB_non {C f : Addr} {fd : FuncData} {ps : List Str} {R : Addr → V → Bool → Hp → Prop} (c : EqC X.K C f) (hn : PySem.W.subIn X.K (.type "NoneType") (.ref C) = some false) (F : FnOk X.prog X.w X.K X.mg X.base C8.CX0 n f fd ps (spEqB R)) (hb : Binds X.K fd ps []) : RcB X (n + 1) false (DNonB C R) := by
  intro A pins s σ H x y u v b sb I rx ry d
  obtain ⟨p, dx, fs, rfl, rfl, hp, hr⟩ := d
  cases rx
  cases ry
  obtain ⟨mA, J, _⟩ := ins_get I.hok hp
  obtain ⟨od, J, _⟩ := J.look
  obtain ⟨m, hF⟩ := I.fr
  refine PySem.W.cmp_K (op := .Eq) (tb := .type "NoneType") sb.room.units0 hF I.ok.mod.kin J (PySem.W.Looks.of_pure rfl) (by unfold PySem.W.notFirst; rw [hn]; simp) c.eq c.fn (wpAny_mono (run_eqB (C := C) (y := .non) F hb (sb.mono (Nat.le_succ n)).room sb.fr I rfl hr) (fun v s' hv => ?_) fun _ _ e => e)
  obtain ⟨rfl, q⟩ := hv
  exact ⟨rfl, q⟩
theorem RcB.or {ne : Bool} {D' : EqvB} (h : RcB X n ne D) (h' : RcB X n ne D') : RcB X n ne (fun x y b H => D x y b H ∨ D' x y b H) := fun A pins s σ H x y u v b sb I rx ry d => by
  rcases d with d | d
  · exact h A pins s σ H x y u v b sb I rx ry d
  · exact h' A pins s σ H x y u v b sb I rx ry d
/-- the same object on both sides -/
def DSame : EqvB := fun x y b _ => (∃ p, x = .ref p ∧ y = .ref p) ∧ b = true
theorem monB_same : MonB DSame := fun _ _ _ _ _ _ d => d
theorem eqB_same : EqB X 0 DSame := by
  intro A pins s σ H x y u v b sb I rx ry d
  obtain ⟨⟨p, rfl, rfl⟩, rfl⟩ := d
  cases rx
  cases ry
  exact SeqAt.EqAt.same (A := A) (s := s) (.ref p) X.prog X.w X.xe _ ⟨rfl, H, I, Ext.rfl'⟩
theorem EqB.mono {m : Nat} (h : EqB X n D) (hn : n ≤ m) : EqB X m D := fun A pins s σ H x y u v b sb => h A pins s σ H x y u v b (sb.mono hn)
/-- from comparisons of references to == within a list or tuple -/
theorem RcB.eqB (h : RcB X n false D) (hr : ∀ x y b H, D x y b H → ∃ p q, x = .ref p ∧ y = .ref q) (hs : ∀ (pins : List (Addr × Obj)) (s : Shared) (σ : L2.St) (H : Hp) (p : Addr) (b : Bool), Inv X pins σ H s → D (.ref p) (.ref p) b H → b = true) : EqB X n D := by
  intro A pins s σ H x y u v b sb I rx ry d
  obtain ⟨p, q, rfl, rfl⟩ := hr _ _ _ _ d
  cases rx
  cases ry
  by_cases hpq : p = q
  · subst hpq
    rw [hs pins s σ H p b I d]
    exact SeqAt.EqAt.same (A := A) (s := s) (.ref p) X.prog X.w X.xe _ ⟨rfl, H, I, Ext.rfl'⟩
  · refine GQ.eqBool_refG hpq (wpAny_mono (h A pins s σ H (.ref p) (.ref q) _ _ b sb I rfl rfl d) (fun r s' z => ?_) fun _ _ x => x)
    obtain ⟨hr', z⟩ := z
    exact ⟨b, hr', rfl, z⟩
/-- one tuple, read twice -/
theorem sqT_uniq {pins : List (Addr × Obj)} {s : Shared} {σ : L2.St} {H : Hp} {a : Addr} {xs ys : List V} (I : Inv X pins σ H s) (h1 : SqT X.K H a xs) (h2 : SqT X.K H a ys) : ∃ us : List Value, Vals xs us ∧ Vals ys us := by
  obtain ⟨us, r1, t1, _⟩ := I.tuple h1
  obtain ⟨us', r2, t2, _⟩ := I.tuple h2
  obtain ⟨o, e1, _, n, d1⟩ := t1
  obtain ⟨o', e2, _, n', d2⟩ := t2
  obtain rfl := Option.some.inj (e1.symm.trans e2)
  rw [d1] at d2
  have z : us.toArray = us'.toArray := by injection d2
  have z2 : us = us' := by simpa using congrArg Array.toList z
  subst z2
  exact ⟨us, r1, r2⟩
theorem valsI_uniq : ∀ {xs ys : List Int} {us : List Value}, Vals (xs.map V.int) us → Vals (ys.map V.int) us → xs = ys
  | [], [], _, _, _ => rfl
  | [], _ :: _, _, r1, r2 => by cases r1; cases r2
  | _ :: _, [], _, r1, r2 => by cases r2; cases r1
  | x :: xs, y :: ys, _, r1, r2 => by
    cases r1 with
    | cons a b =>
      cases r2 with
      | cons c d =>
        obtain ⟨t, rfl⟩ := (show ∃ t, _ = Value.int x t from a)
        obtain ⟨t', e⟩ := (show ∃ t', _ = Value.int y t' from c)
        injection e with e1
        rw [e1, valsI_uniq b d]
theorem valsS_uniq : ∀ {xs ys : List Str} {us : List Value}, Vals (xs.map V.str) us → Vals (ys.map V.str) us → xs = ys
  | [], [], _, _, _ => rfl
  | [], _ :: _, _, r1, r2 => by cases r1; cases r2
  | _ :: _, [], _, r1, r2 => by cases r2; cases r1
  | x :: xs, y :: ys, _, r1, r2 => by
    cases r1 with
    | cons a b =>
      cases r2 with
      | cons c d =>
        obtain ⟨t, rfl⟩ := (show ∃ t, _ = Value.str x t from a)
        obtain ⟨t', e⟩ := (show ∃ t', _ = Value.str y t' from c)
        injection e with e1
        rw [e1, valsS_uniq b d]
/-- x == y, x != y -/
def rEqB (ne : Bool) (D : EqvB) : R2 := fun x y H Q => ∃ b, D x y b H ∧ ∀ H', Ext H H' → Q (.bl (if ne = true then !b else b)) H'
theorem op_eqB (h : RcB X n false D) (hr : Room n X.A) : OpR X (compareOp .Eq) (rEqB false D) := by
  intro pins s σ H x y v u Q I rx ry hq
  obtain ⟨b, d, q⟩ := hq
  show wpAny (model X.prog X.w) X.A (richCompare .Eq v u) (EP X pins σ Q) X.xe s
  refine wpAny_mono (h X.A pins s σ H x y v u b ⟨hr, rfl⟩ I rx ry d) (fun r s' z => ?_) fun _ _ x => x
  obtain ⟨hr', H', I', e⟩ := z
  subst hr'
  exact ⟨.bl b, H', I', rfl, q H' e⟩
theorem op_neB (h : RcB X n true D) (hr : Room n X.A) : OpR X (compareOp .NotEq) (rEqB true D) := by
  intro pins s σ H x y v u Q I rx ry hq
  obtain ⟨b, d, q⟩ := hq
  show wpAny (model X.prog X.w) X.A (richCompare .NotEq v u) (EP X pins σ Q) X.xe s
  refine wpAny_mono (h X.A pins s σ H x y v u b ⟨hr, rfl⟩ I rx ry d) (fun r s' z => ?_) fun _ _ x => x
  obtain ⟨hr', H', I', e⟩ := z
  subst hr'
  exact ⟨.bl (!b), H', I', rfl, q H' e⟩
end
end My
/-! a def that calls what it got: whether an error came -/
namespace My
open PySem L2 LamX PyProof.Rows
/-- try: a() / except x: return True / return False -/
def TToldB (K : PySem.W.Frag) (C : Addr) : (XK → Hp → VK → Prop) → Hp → VK → Prop := fun tl H Q => tl (fun cls _ H' => ∃ b, PySem.W.exmOne K cls (.ref C) = some b ∧ (b = true → Q (.bl true) H') ∧ (b = false → False)) H fun _ H' => Q (.bl false) H'
def tsB (r : Bool) : Addr → Value → Option Addr → TS := fun _ _ _ => tRet (tC (.bl r))
section
variable {X : Cx}
theorem toldB_gives {Ng : List Str} {x a q e : Str} {sg : Scope} {g C : Addr} {cdg : Value} {p1 p2 p3 p4 p5 p6 p7 p8 p9 pn0 : Pos} {j jn : Nat} (hge : sg.names.lookup e = some .globalImplicit) (hme : X.mg e = some (.ref C)) (hde : (e == ("__debug__" : Str)) = false) (h0 : ∀ f : Addr, (L2.start Ng [V.ref f])[0]? = some (some (V.ref f))) :
    GivesTo X Ng x sg g cdg [.Try [.Expr (.Call (.Name a p1) [] [] p2) p3] [.ExceptHandler (some (.Name e p4)) none [.Return (some (.Constant (.bool true) j p5)) p6] p7] [] [] p8, .Return (some (.Constant (.bool false) jn pn0)) p9] a q (TToldB X.K C) := by
  intro f c' s H Q tl act hc h
  refine ⟨_, pss_cons (ps_try_many (X := (cxOf C8.CX0 X.prog X.w X.K X.mg X.base Ng x sg g cdg X.A X.stack s H C8.E0).nox) (Wout := fun _ _ _ _ => False) (l := [(Value.ref C, tsB true)])
      (tb := fun W D σ H => ∃ Ech : XK, (∀ cls d σ' H', Ech cls d H' → W cls d σ' H') ∧ σ[0]? = some (some (.ref f)) ∧ H c' = some (CodeO c' q) ∧ tl Ech H fun _ H' => D.nx σ H')
      rfl rfl takes_none5 (fun W pn xe tk _ => ?_) (.cons ⟨hge, hde, .inl hme⟩ (fun a oe cls d pn _ _ => pss_one (ps_ret pe_bl)) .nil)) (pss_one (ps_ret pe_bl)), ?_⟩
  · refine ⟨fun pins s' σ H' D I h' => ?_⟩
    obtain ⟨Ech, hW, h1, h2, h3⟩ := h'
    have hp := act W pn xe Ech p1 p2 tk hW
    have hq := pss_one (ps_expr (pos := p3) hp)
    exact hq.run pins s' σ H' D I ⟨h1, h2, h3⟩
  · exact ⟨fun cls _ H' => ∃ b, PySem.W.exmOne X.K cls (.ref C) = some b ∧ (b = true → Q (.bl true) H') ∧ (b = false → False), fun cls d σ' H' ⟨b, e1, e2, e3⟩ => ⟨b, e1, fun hb a _ => e2 hb, fun hb => e3 hb⟩, h0 f, hc, h⟩
end
theorem toldB_to {K : PySem.W.Frag} {C : Addr} {tl : (XK → Hp → VK → Prop)} {H : Hp} {Q0 : VK} (Pv : V → Hp → Prop) (a : ∀ Q : VK, (∀ v H', Pv v H' → Q v H') → TToldB K C tl H Q) (b : ∀ v H', Pv v H' → Q0 v H') : TToldB K C tl H Q0 := a Q0 b
/-- what holds behind an expression, named -/
def tMidE (te : TE) : TE := fun σ H Q => ∃ Pv : V → Hp → Prop, te σ H Pv ∧ ∀ v H', Pv v H' → Q v H'
theorem pe_mid {X : Cx} {e : Expr} {te : TE} (h : PE X e te) : PE X e (tMidE te) := ⟨fun pins s σ H Q I ⟨Pv, h1, h2⟩ => wpAny_mono (h.run pins s σ H Pv I h1) (fun u s' ⟨v, H', I', r, q⟩ => ⟨v, H', I', r, h2 v H' q⟩) fun _ _ z => z⟩
end My
/-! x != None by an own __eq__; min of a list of pairs of a number and a text -/
namespace My
open PySem PySem.Spec L2 LamX PyProof.Rows
section
open PySem.W
variable {prog : Program} {w : World} {A : Around} {E : Value → Shared → Prop} {s : Shared} {K : Frag} {x C f : Addr} {ox : Obj} {od : Option Obj} {b tb : Value}
theorem ne_KV {Q : Value → Shared → Prop} (hu : A.units + 1 < cLine) (X : K.In s.heap) (I : InstAt s.heap x ox C od) (hb : Looks (model prog w) s.heap (typeOf b) tb) (hn : notFirst K C tb = true) (hs : findIn K (.ref C) "__ne__" = some (some (.builtin "object.__ne__")))
    (ho : subIn K (.ref C) (.type "object") = some true) (he : findIn K (.ref C) "__eq__" = some (some (.ref f))) (hf : isFn K (.ref f) = true)
    (h : wpAny (model prog w) A.in1 (call (.ref f) [.ref x, b]) (fun v s' => ∃ r, v = .bool r ∧ Q (.bool (!r)) s') E s) : wpAny (model prog w) A (richCompare .NotEq (.ref x) b) Q E s := by
  have one : wpAny (model prog w) A (tryCompare (.ref x) (cmpInfo .NotEq).2.1 b) (fun r s' => ∃ v, r = some v ∧ Q v s') E s := by
    unfold tryCompare
    refine wpAny_bind (ifBound_ne X I hs (wpAny_call (codeAny_call_builtin PySem.F.cmp_object.ne.plain PySem.F.cmpEntry_ne (check_slot PySem.F.cmpKind_ne PySem.F.cmpSplit_ne (I.type.andThen (looks_subIn X ho)) (PySem.F.cmpArgs_ne _ _) ?_))))
    have hb : wpAny (model prog w) A.in1 (callSpecialIfBound? (.ref x) "__eq__" [b]) (fun o s' => ∃ r, o = some (.bool r) ∧ Q (.bool (!r)) s') E s := ifBound_K X I he hf (wpAny_mono h (fun v s' ⟨r, e, q⟩ => ⟨r, by rw [e], q⟩) fun _ _ e => e)
    obtain ⟨hh, g, d, tk, os⟩ := s
    unfold Builtin.«object.__ne__»
    repeat (first | with_reducible refine wpAny_cRoomFor hu ?_ | with_reducible refine wpAny_mono hb (fun o s' ho => ?_) (fun _ _ e => ?_) | wp_step)
    · obtain ⟨r, rfl, q⟩ := ho
      refine wpAny_bind (wpAny_truthy_bool ?_)
      exact wpAny_pure (wpAny_pure ⟨_, rfl, q⟩)
    · assumption
  unfold richCompare
  simp only [oneThing_ref]
  refine wpAny_holding (wpAny_bind (wpAny_cRoomFor (Nat.lt_of_succ_lt hu) ?_))
  refine wpAny_bind (I.type.here (wpAny_bind (hb.here ?_)))
  have fin : wpAny (model prog w) A (tryCompare (.ref x) (cmpInfo .NotEq).2.1 b) (fun r s' => ∃ v, r = some v ∧ Q v s') E s := one
  split
  · rename_i q
    have e : subIn K tb (.ref C) = some false := by
      rcases Bool.or_eq_true_iff.mp hn with e | e
      · rw [beq_iff_eq.mp e] at q; simp at q
      · exact beq_iff_eq.mp e
    refine wpAny_bind ((looks_subIn X e).here ?_)
    simp only [Bool.false_eq_true, if_false]
    refine wpAny_bind (wpAny_mono one (fun r s' z => ?_) fun _ _ e => e)
    obtain ⟨v, rfl, hq⟩ := z
    exact wpAny_pure hq
  · refine wpAny_bind (wpAny_pure ?_)
    simp only [Bool.false_eq_true, if_false]
    refine wpAny_bind (wpAny_mono one (fun r s' z => ?_) fun _ _ e => e)
    obtain ⟨v, rfl, hq⟩ := z
    exact wpAny_pure hq
end
section
variable {X : Cx} {n : Nat}
/-- x != None -/
theorem rcB_nonNe {C f : Addr} {fd : FuncData} {ps : List Str} {R : Addr → V → Bool → Hp → Prop} (c : EqC X.K C f) (hn : PySem.W.subIn X.K (.type "NoneType") (.ref C) = some false) (F : FnOk X.prog X.w X.K X.mg X.base C8.CX0 n f fd ps (spEqB R)) (hb : Binds X.K fd ps []) : RcB X (n + 1) true (DNonB C R) := by
  intro A pins s σ H x y u v b sb I rx ry d
  obtain ⟨p, dx, fs, rfl, rfl, hp, hr⟩ := d
  cases rx
  cases ry
  obtain ⟨mA, J, _⟩ := ins_get I.hok hp
  obtain ⟨od, J, _⟩ := J.look
  refine ne_KV (tb := .type "NoneType") sb.in1.room.units0 I.kIn J (PySem.W.Looks.of_pure rfl) (by unfold PySem.W.notFirst; rw [hn]; simp) c.ne c.ob c.eq c.fn (wpAny_mono (run_eqB (C := C) (y := .non) F hb sb.in1.room sb.in1.fr I rfl hr) (fun v s' hv => ?_) fun _ _ e => e)
  obtain ⟨rfl, q⟩ := hv
  exact ⟨b, rfl, rfl, q⟩
/-! ### min of pairs -/
def prD (p : Int × Str) : PyData := .tuple [.int p.1, .str p.2]
/-- the object holds this pair -/
def PairAt (K : PySem.W.Frag) (H : Hp) (v : V) (p : Int × Str) : Prop := ∃ a, v = .ref a ∧ SqT K H a [.int p.1, .str p.2]
theorem pair_dp {K : PySem.W.Frag} {H : Hp} {v : V} {p : Int × Str} (h : PairAt K H v p) : Dp K H v (prD p) := by
  obtain ⟨a, rfl, h⟩ := h
  exact .tup h (.cons (.int _) (.cons (.str _) .nil))
theorem pairs_dp {K : PySem.W.Frag} {H : Hp} : ∀ {xs : List V} {ps : List (Int × Str)}, xs.length = ps.length → (∀ (i : Nat) x p, xs[i]? = some x → ps[i]? = some p → PairAt K H x p) → DpAll K H xs (ps.map prD)
  | [], [], _, _ => .nil
  | [], _ :: _, h, _ => by cases h
  | _ :: _, [], h, _ => by cases h
  | x :: xs, p :: ps, h, hp => .cons (pair_dp (hp 0 x p rfl rfl)) (pairs_dp (Nat.succ.inj h) fun i y q h1 h2 => hp (i + 1) y q h1 h2)
theorem pairs_alike (ps : List (Int × Str)) : PySem.W.AlikeAll (ps.map prD) := by
  refine ⟨fun x hx y hy => ?_, fun x hx => ?_⟩
  · obtain ⟨p, _, rfl⟩ := List.mem_map.mp hx
    obtain ⟨q, _, rfl⟩ := List.mem_map.mp hy
    rfl
  · obtain ⟨p, _, rfl⟩ := List.mem_map.mp hx
    exact nofun
def ltP (p q : Int × Str) : Bool := PySem.W.dataLt (prD p) (prD q)
def minP (p : Int × Str) (ps : List (Int × Str)) : Int × Str := ps.foldl (fun a y => if ltP y a = true then y else a) p
theorem minD_P : ∀ (ps : List (Int × Str)) (p : Int × Str), PySem.W.minD (prD p) (ps.map prD) = prD (minP p ps)
  | [], _ => rfl
  | q :: ps, p => by
    show PySem.W.minD (if PySem.W.dataLt (prD q) (prD p) then prD q else prD p) (ps.map prD) = prD (minP (if ltP q p = true then q else p) ps)
    have e : (if PySem.W.dataLt (prD q) (prD p) then prD q else prD p) = prD (if ltP q p = true then q else p) := by
      unfold ltP
      split <;> rfl
    rw [e]
    exact minD_P ps _
def rMinP (K : PySem.W.Frag) : List V → Hp → VK → Prop := fun vs H Q => ∃ (a : Addr) (xs : List V) (p : Int × Str) (ps : List (Int × Str)), vs = [V.ref a] ∧ SqL K H a xs ∧ xs.length = ps.length + 1 ∧ (∀ (i : Nat) x q, xs[i]? = some x → (p :: ps)[i]? = some q → PairAt K H x q) ∧
  ∀ v, v ∈ xs → PairAt K H v (minP p ps) → Q v H
theorem reads_int {h : Heap} {i j : Int} {t : Tok} {bs : List Addr} (r : Reads h (.int i t) (.int j) bs) : i = j := by
  cases r
  rfl
theorem reads_str {h : Heap} {i j : Str} {t : Tok} {bs : List Addr} (r : Reads h (.str i t) (.str j) bs) : i = j := by
  cases r
  rfl
theorem pairs_depth : ∀ ps : List (Int × Str), PyData.depthAll (ps.map prD) ≤ 2
  | [] => Nat.zero_le _
  | p :: ps => by
    show max (prD p).depth (PyData.depthAll (ps.map prD)) ≤ 2
    have := pairs_depth ps
    have h2 : (prD p).depth ≤ 2 := by show (max 0 (max 0 0)) + 1 ≤ 2; decide
    omega
theorem cr_minP (hc : X.calm = true) (hu : X.A.units + 64 < cLine) : CallR X (.builtin "min") (rMinP X.K) := by
  intro pins s σ H vs us Q I r h
  obtain ⟨a, xs, p, ps, rfl, hs, hl, hp, q⟩ := h
  obtain ⟨its, rv, hL, _⟩ := I.list hs
  rw [Vals.ref1 r]
  have dp := pairs_dp (ps := p :: ps) hl hp
  obtain ⟨as, ra⟩ := Dp.readsAll I ((p :: ps).map prD) xs its dp rv
  refine PySem.W.min_list_data (x := prD p) (xs := ps.map prD) (I.ok.hd hc) hL.isList (by simpa using ra) (pairs_alike (p :: ps)) (by have := pairs_depth (p :: ps); show _ + 1 + PyData.depthAll ((p :: ps).map prD) < _; omega) fun i v h' tk bs hv hR hk => ?_
  have hv' : its[i]? = some v := by simpa using hv
  have hi : i < its.length := (List.getElem?_eq_some_iff.mp hv').1
  have hx : i < xs.length := by rw [rv.length]; exact hi
  obtain ⟨v2, g1, rx⟩ := rv.get (List.getElem?_eq_getElem hx)
  rw [hv'] at g1
  obtain rfl := Option.some.inj g1
  have hq : i < (p :: ps).length := by rw [List.length_cons, ← hl]; exact hx
  obtain ⟨b, eb, hb⟩ := hp i _ _ (List.getElem?_eq_getElem hx) (List.getElem?_eq_getElem hq)
  refine ⟨xs[i], H, I.kept hk, rx, q _ (List.getElem_mem hx) ?_⟩
  refine ⟨b, eb, ?_⟩
  rw [eb] at rx
  obtain rfl : v = Value.ref b := rx
  rw [minD_P] at hR
  have e : minP p ps = (p :: ps)[i] := by
    obtain ⟨us', r1, t1, _⟩ := I.tuple hb
    obtain ⟨o, e1, _, n, d1⟩ := t1
    have e1' := hk _ _ e1
    unfold prD at hR
    cases hR with
    | tuple k1 k2 k3 k4 =>
      rename_i o2 vs2 n2
      obtain rfl := Option.some.inj (e1'.symm.trans k1)
      rw [d1] at k3
      injection k3 with k5 k6
      subst k5
      cases r1 with
      | cons a1 b1 =>
        cases b1 with
        | cons a2 b2 =>
          cases b2
          obtain ⟨t1, rfl⟩ := (show ∃ t, _ = Value.int _ t from a1)
          obtain ⟨t2, rfl⟩ := (show ∃ t, _ = Value.str _ t from a2)
          have k7 : ReadsAll h' [Value.int ((p :: ps)[i]).1 t1, Value.str ((p :: ps)[i]).2 t2] [.int (minP p ps).1, .str (minP p ps).2] bs := by simpa using k4
          cases k7 with
          | cons c1 c2 =>
            cases c2 with
            | cons c3 c4 =>
              have z1 : ((p :: ps)[i]).1 = (minP p ps).1 := reads_int c1
              have z2 : ((p :: ps)[i]).2 = (minP p ps).2 := reads_str c3
              exact (Prod.ext z1 z2).symm
  rw [e]
  exact hb
end
end My
/-! a def that calls what it got: what comes of it, or which error came -/
namespace My
open PySem L2 LamX PyProof.Rows
/-- try: return a() / except x: return r / .. -/
def TToldR (K : PySem.W.Frag) (l : List (Addr × Str)) : (XK → Hp → VK → Prop) → Hp → VK → Prop := fun tl H Q => tl (wChain K Q l) H Q
section
variable {X : Cx}
theorem toldR_gives {Ng : List Str} {x a q : Str} {sg : Scope} {g : Addr} {cdg : Value} {h₀ : ExceptHandler} {hds : List ExceptHandler} {l : List (Addr × Str)} {p1 p2 p3 p8 : Pos} (hT : HdsT X.mg sg (h₀ :: hds) l) (h0 : ∀ f : Addr, (L2.start Ng [V.ref f])[0]? = some (some (V.ref f))) :
    GivesTo X Ng x sg g cdg [.Try [.Return (some (.Call (.Name a p1) [] [] p2)) p3] (h₀ :: hds) [] [] p8] a q (TToldR X.K l) := by
  intro f c' s H Q tl act hc h
  refine ⟨_, pss_one (ps_try_many (X := (cxOf C8.CX0 X.prog X.w X.K X.mg X.base Ng x sg g cdg X.A X.stack s H C8.E0).nox) (Wout := fun _ _ _ _ => False)
      (tb := fun W D σ H => ∃ Ech : XK, (∀ cls d σ' H', Ech cls d H' → W cls d σ' H') ∧ σ[0]? = some (some (.ref f)) ∧ H c' = some (CodeO c' q) ∧ tl Ech H fun v H' => D.rt v H')
      rfl rfl takes_none5 (fun W pn xe tk _ => ?_) (hds_ok rfl rfl hT)), ?_⟩
  · refine ⟨fun pins s' σ H' D I h' => ?_⟩
    obtain ⟨Ech, hW, h1, h2, h3⟩ := h'
    have hp := act W pn xe Ech p1 p2 tk hW
    have hq := pss_one (ps_ret (pos := p3) hp)
    exact hq.run pins s' σ H' D I ⟨h1, h2, h3⟩
  · exact ⟨wChain X.K Q l, fun cls d σ' H' z => wMany_chain l z, h0 f, hc, h⟩
end
theorem toldR_to {K : PySem.W.Frag} {l : List (Addr × Str)} {tl : (XK → Hp → VK → Prop)} {H : Hp} {Q0 : VK} (Pv : V → Hp → Prop) (a : ∀ Q : VK, (∀ v H', Pv v H' → Q v H') → TToldR K l tl H Q) (b : ∀ v H', Pv v H' → Q0 v H') : TToldR K l tl H Q0 := a Q0 b
end My
/-! x in c, x not in c, of data without dicts -/
namespace My
open PySem L2 LamX PyProof.Rows
section
variable {X : Cx}
def rInD (K : PySem.W.Frag) (neg : Bool) : R2 := fun x y H Q => ∃ (d : PyData) (xs : List PyData), Dp K H x d ∧ (Dp K H y (.list xs) ∨ Dp K H y (.tuple xs)) ∧ PyData.plainAll xs = true ∧ d.plain = true ∧ d.depth ≤ 32 ∧ Q (.bl (if neg then !xs.any fun z => PyData.eqv z d else xs.any fun z => PyData.eqv z d)) H
theorem op_inD (hu : X.A.units + 64 < cLine) : OpR X (compareOp .In) (rInD X.K false) := by
  intro pins s σ H x y v u Q I rx ry h
  obtain ⟨d, xs, hd, hc, hp, hp2, hl, q⟩ := h
  obtain ⟨as, r1⟩ := Dp.reads I d x v hd rx
  have hm : X.A.units + 1 + min (PyData.depthAll xs) d.depth < cLine := by
    have := Nat.min_le_right (PyData.depthAll xs) d.depth
    omega
  rcases hc with hc | hc
  · obtain ⟨bs, r2⟩ := Dp.reads I _ y u hc ry
    exact SeqAt.in_list_data r2 r1 hp hp2 hm ⟨.bl _, H, I, rfl, q⟩
  · obtain ⟨bs, r2⟩ := Dp.reads I _ y u hc ry
    exact SeqAt.in_tuple_data r2 r1 hp hp2 hm ⟨.bl _, H, I, rfl, q⟩
theorem op_notInD (hu : X.A.units + 64 < cLine) : OpR X (compareOp .NotIn) (rInD X.K true) := by
  intro pins s σ H x y v u Q I rx ry h
  obtain ⟨d, xs, hd, hc, hp, hp2, hl, q⟩ := h
  obtain ⟨as, r1⟩ := Dp.reads I d x v hd rx
  have hm : X.A.units + 1 + min (PyData.depthAll xs) d.depth < cLine := by
    have := Nat.min_le_right (PyData.depthAll xs) d.depth
    omega
  rcases hc with hc | hc
  · obtain ⟨bs, r2⟩ := Dp.reads I _ y u hc ry
    exact SeqAt.notIn_list_data r2 r1 hp hp2 hm ⟨.bl _, H, I, rfl, q⟩
  · obtain ⟨bs, r2⟩ := Dp.reads I _ y u hc ry
    exact SeqAt.notIn_tuple_data r2 r1 hp hp2 hm ⟨.bl _, H, I, rfl, q⟩
theorem op_inDK {K : PySem.W.Frag} (h : X.K = K) (hu : X.A.units + 64 < cLine) : OpR X (compareOp .In) (rInD K false) := by
  subst h
  exact op_inD hu
theorem op_notInDK {K : PySem.W.Frag} (h : X.K = K) (hu : X.A.units + 64 < cLine) : OpR X (compareOp .NotIn) (rInD K true) := by
  subst h
  exact op_notInD hu
end
theorem rInD_to {K : PySem.W.Frag} {neg : Bool} {x y : V} {d : PyData} {xs : List PyData} {b : Bool} {H : Hp} {Q : VK} (h1 : Dp K H x d) (h2 : Dp K H y (.list xs) ∨ Dp K H y (.tuple xs)) (p1 : PyData.plainAll xs = true) (p2 : d.plain = true) (hl : d.depth ≤ 32) (e : (if neg then !xs.any fun z => PyData.eqv z d else xs.any fun z => PyData.eqv z d) = b) (q : Q (.bl b) H) : rInD K neg x y H Q :=
  ⟨d, xs, h1, h2, p1, p2, hl, by rw [e]; exact q⟩
end My
/-! try with several clauses, any of them with a name -/
namespace My
open PySem L2 LamX PyProof.Rows
/-- an exception of the body that stands before the clauses -/
def Fell (X : Cx) (pins : List (Addr × Obj)) (σ : L2.St) (H : Hp) (a : Addr) (cls : Value) (d : Option Addr) (s : Shared) : Prop := ∃ (B : Heap) (sI : Shared),
  L2.Inv X pins σ H sI ∧ (∀ (b : Addr) (o : Obj), sI.heap.get? b = some o → b ∉ frs X.stack → B.get? b = some o) ∧ sI.heap.UpToSlots s.heap ∧ HandSPX.FlyingZ B (X.env :: X.outer) a (Zc cls d) s.heap ∧ H a = none ∧ s.os = sI.os ∧ AllBare s.gens
section
variable {X : Cx} {pins : List (Addr × Obj)} {σ : L2.St} {H : Hp} {a : Addr} {cls : Value} {d : Option Addr} {s : Shared}
theorem Fell.inv (F : Fell X pins σ H a cls d s) : L2.Inv X pins σ H s := by
  obtain ⟨B, sI, J, nb, up, fl, _, os, ag⟩ := F
  exact J.landed nb fl.1 up os ag
theorem Fell.at (hs : X.stack = X.env :: X.outer) (hf : X.env.frame = some X.env.locals) (F : Fell X pins σ H a cls d s) :
    ∃ (oe : Obj) (vs : Array Value), s.heap.get? a = some oe ∧ Zc cls d oe ∧ oe.data = .fields vs ∧ L2.Inv (X.suite a ((a, oe) :: (X.pn ++ pins))) [] σ H s := by
  have J := F.inv
  obtain ⟨B, sI, _, _, _, fl, na, _, _⟩ := F
  obtain ⟨oe, vs, e1, e2, e3⟩ := fl.there
  have off : a ∉ frs (X.env :: X.outer) := fun hm => by
    obtain ⟨_, o', q1, q2⟩ := fl.2.2.1.mem hm
    have q3 := Option.some.inj (e1.symm.trans q1)
    subst q3
    exact q2 _ e3
  refine ⟨oe, vs, e1, e2, e3, J.suite e1 e3 na (fun z => off ?_) (fun hm => off ?_)⟩
  · exact List.mem_filterMap.mpr ⟨X.env, .head _, by rw [hf, z]⟩
  · obtain ⟨v, hv, q⟩ := List.mem_filterMap.mp hm
    exact List.mem_filterMap.mpr ⟨v, .tail _ hv, q⟩
/-- a clause: its class, its name's slot, its suite's reading -/
abbrev Cl := Value × Option Nat × (Addr → Value → Option Addr → TS)
def unName (i : Nat) (D : Ends) : Ends := { nx := fun σ H => D.nx (σ.set i none) H, rt := D.rt, bk := fun σ H => D.bk (σ.set i none) H, ct := fun σ H => D.ct (σ.set i none) H }
def runCl (o : Option Nat) (ts : Addr → Value → Option Addr → TS) (a : Addr) (cls : Value) (d : Option Addr) : TS := fun D σ H => match o with
  | none => ts a cls d D σ H
  | some i => i < σ.length → ts a cls d (unName i D) (σ.set i (some (.ref a))) H
def wAll (K : PySem.W.Frag) (Wout : WX) (D : Ends) : List Cl → WX
  | [] => Wout
  | (c, o, ts) :: r => fun cls d σ H => ∃ b, PySem.W.exmOne K cls c = some b ∧ (b = true → ∀ a, H a = none → runCl o ts a cls d D σ H) ∧ (b = false → wAll K Wout D r cls d σ H)
def SuiteOk (X : Cx) (suite : List Stmt) (ts : Addr → Value → Option Addr → TS) : Prop := ∀ (a : Addr) (oe : Obj) (cls : Value) (d : Option Addr) (pn : List (Addr × Obj)), Zc cls d oe → (∃ vs, oe.data = .fields vs) → PSs (X.suite a ((a, oe) :: pn)) suite (ts a cls d)
inductive ClsOk (X : Cx) : List ExceptHandler → List Cl → Prop
  | nil : ClsOk X [] []
  | plain {x : Str} {c : Value} {ts : Addr → Value → Option Addr → TS} {b₀ : Stmt} {suite : List Stmt} {np p' : Pos} {hds : List ExceptHandler} {l : List Cl} (hc : Names X x c) (hsu : SuiteOk X (b₀ :: suite) ts) (r : ClsOk X hds l) :
      ClsOk X (.ExceptHandler (some (.Name x np)) none (b₀ :: suite) p' :: hds) ((c, none, ts) :: l)
  | named {x n : Str} {i : Nat} {c : Value} {ts : Addr → Value → Option Addr → TS} {b₀ : Stmt} {suite : List Stmt} {np p' : Pos} {hds : List ExceptHandler} {l : List Cl} (hN : X.N.Nodup) (hi : X.N[i]? = some n) (hl : X.env.kindOf n = some .local) (hc : Names X x c) (hsu : SuiteOk X (b₀ :: suite) ts) (r : ClsOk X hds l) :
      ClsOk X (.ExceptHandler (some (.Name x np)) (some n) (b₀ :: suite) p' :: hds) ((c, some i, ts) :: l)
/-- the class that a clause names is held against the exception -/
theorem Fell.test {x : Str} {c : Value} {np : Pos} {b : Bool} (hs : X.stack = X.env :: X.outer) (hf : X.env.frame = some X.env.locals) (hc : Names X x c) (F : Fell X pins σ H a cls d s) (hb : PySem.W.exmOne X.K cls c = some b) {Q : Bool → Shared → Prop} {E : Value → Shared → Prop} (q : Q b s) :
    wpAny (model X.prog X.w) (X.A.mark (some (.ref a))) (eval (.Name x np) X.env) (fun v s' => wpAny (model X.prog X.w) (X.A.mark (some (.ref a))) (excMatches (.ref a) v) Q E s') E s := by
  obtain ⟨oe, vs, e1, e2, e3, S⟩ := F.at hs hf
  have LT : PySem.W.Looks (model X.prog X.w) s.heap (typeOf (.ref a)) cls := fun A Q E s' k q => wpAny_typeOf_ref (k _ _ e1) (by rw [e2.1]; exact q)
  have LM := PySem.W.exm_one (M := model X.prog X.w) F.inv.kIn LT hb
  obtain ⟨hg, hd, hm | ⟨hm, hv, hn⟩⟩ := hc
  · exact ld_glob (X := X.suite a ((a, oe) :: (X.pn ++ pins))) S hg hm (LM.here q) hd
  · exact ld_blt (X := X.suite a ((a, oe) :: (X.pn ++ pins))) S hg hm hv (LM.here q) hn hd
/-- the exception takes off again for its suite -/
theorem Fell.on {M : Model} {A : Around} {E : Value → Shared → Prop} {Q : Unit → Shared → Prop} (F : Fell X pins σ H a cls d s) (q : ∀ s', Fell X pins σ H a cls d s' → Q () s') : wpAny M A (setFlight (.ref a) none) Q E s := by
  obtain ⟨B, sI, J, nb, up, fl, na, os, ag⟩ := F
  exact HandSPX.lands_againZ fl fun h' fl' up' => q _ ⟨B, sI, J, nb, up.trans up', fl', na, os, ag⟩
/-- no clause was meant -/
theorem Fell.out {Wout : WX} {Q : Flow → Shared → Prop} (hs : X.stack = X.env :: X.outer) (hf : X.env.frame = some X.env.locals) (tk : Takes X Wout) (F : Fell X pins σ H a cls d s) (hw : Wout cls d σ H) : wpAny (model X.prog X.w) X.A (handleBy (.ref a) X.env []) Q X.xe s := by
  obtain ⟨B, sI, J, nb, up, fl, na, os, ag⟩ := F
  obtain ⟨_, _, _, o, fs, tr, _, _, g1, _, g2, g3, _⟩ := id fl
  have last : wpAny (model X.prog X.w) X.A (setFlight (.ref a) X.env.frame) (fun _ z => wpAny (model X.prog X.w) X.A (throw (.ref a) : Sem Flow) Q X.xe z) X.xe s := by
    rw [hf]
    exact HandSPX.setFlight_upZ fl fun h' hd' up' => wpAny_throw (tk _ _ ⟨a, B, sI, pins, σ, H, cls, d, rfl, J, nb, up.trans up', .inr (.inr (hs ▸ hd')), na, os, ag, hw⟩)
  refine wpAny_handleBy_nil ?_
  unfold PySem.passOn
  refine wpAny_bind (wpAny_field g1 g2 g3 ?_)
  rw [if_neg (show ¬ (Value.ref tr == Value.none) = true from by simp)]
  first
    | exact wpAny_bind (wpAny_pure (wpAny_bind last))
    | exact wpAny_bind last
theorem Fell.caught {Wout : WX} {D : Ends} (ok : X.Ok) (hs : X.stack = X.env :: X.outer) (hf : X.env.frame = some X.env.locals) (tk : Takes X Wout) {hds : List ExceptHandler} {l : List Cl} (hk : ClsOk X hds l) :
    ∀ {s : Shared}, Fell X pins σ H a cls d s → wAll X.K Wout D l cls d σ H → wpAny (model X.prog X.w) X.A (handleBy (.ref a) X.env hds) (SP X pins D) X.xe s := by
  induction hk with
  | nil => exact fun F hw => F.out hs hf tk hw
  | plain hc hsu r ih =>
    intro s F hw
    obtain ⟨b, h1, h2, h3⟩ := hw
    refine wpAny_handleBy_cons (codeAny_handlers_test (F.test hs hf hc h1 ?_)) (by intro q; cases q)
    cases b with
    | false => exact ih F (h3 rfl)
    | true =>
      refine codeAny_handlers_suite (F.on fun s' F' => ?_)
      obtain ⟨oe, vs, e1, e2, e3, S⟩ := F'.at hs hf
      have na : H a = none := by
        obtain ⟨_, _, _, _, _, _, n, _, _⟩ := F'
        exact n
      refine wpAny_mono ((hsu a oe cls d (X.pn ++ pins) e2 ⟨_, e3⟩).run [] _ _ H _ S (h2 rfl a na)) (fun f s6 hsp => ?_) fun _ _ z => z.elim
      cases f with
      | ret u =>
        obtain ⟨v, σ6, H6, S6, rr, q6⟩ := hsp
        exact ⟨v, σ6, H6, S6.unsuite ok, rr, q6⟩
      | next => exact let ⟨σ6, H6, S6, q6⟩ := hsp; ⟨σ6, H6, S6.unsuite ok, q6⟩
      | brk => exact let ⟨σ6, H6, S6, q6⟩ := hsp; ⟨σ6, H6, S6.unsuite ok, q6⟩
      | cont => exact let ⟨σ6, H6, S6, q6⟩ := hsp; ⟨σ6, H6, S6.unsuite ok, q6⟩
  | named hN hi hl hc hsu r ih =>
    intro s F hw
    obtain ⟨b, h1, h2, h3⟩ := hw
    refine wpAny_handleBy_cons (codeAny_handlers_test (F.test hs hf hc h1 ?_)) (by intro q; cases q)
    cases b with
    | false => exact ih F (h3 rfl)
    | true =>
      refine codeAny_handlers_suite_as (F.on fun s' F' => ?_)
      obtain ⟨oe, vs, e1, e2, e3, S⟩ := F'.at hs hf
      have na : H a = none := by
        obtain ⟨_, _, _, _, _, _, n, _, _⟩ := F'
        exact n
      refine store_ok (X := X.suite a ((a, oe) :: (X.pn ++ pins))) (v := .ref a) S hN hi (.inl hl) rfl (fun s5 S5 => ?_) (.inr hl)
      refine wpAny_mono ((hsu a oe cls d (X.pn ++ pins) e2 ⟨_, e3⟩).run [] s5 _ H _ S5 (h2 rfl a na (by rw [F'.inv.len]; exact (List.getElem?_eq_some_iff.mp hi).1))) (fun f s6 hsp => ?_) fun _ _ z => z.elim
      cases f with
      | ret u =>
        obtain ⟨v, σ6, H6, S6, rr, q6⟩ := hsp
        exact gone_ok (S6.unsuite ok) hN hi hl fun s7 J7 => ⟨v, _, H6, J7, rr, q6⟩
      | next =>
        obtain ⟨σ6, H6, S6, q6⟩ := hsp
        exact gone_ok (S6.unsuite ok) hN hi hl fun s7 J7 => ⟨_, H6, J7, q6⟩
      | brk =>
        obtain ⟨σ6, H6, S6, q6⟩ := hsp
        exact gone_ok (S6.unsuite ok) hN hi hl fun s7 J7 => ⟨_, H6, J7, q6⟩
      | cont =>
        obtain ⟨σ6, H6, S6, q6⟩ := hsp
        exact gone_ok (S6.unsuite ok) hN hi hl fun s7 J7 => ⟨_, H6, J7, q6⟩
end
section
variable {X : Cx} {body : List Stmt} {h₀ : ExceptHandler} {hds : List ExceptHandler} {l : List Cl} {pos : Pos} {tb : WX → TS} {Wout : WX}
theorem ps_try_all (hs : X.stack = X.env :: X.outer) (hf : X.env.frame = some X.env.locals) (tk : Takes X Wout)
    (hb : ∀ (W : WX) (pn : List (Addr × Obj)) (xe : Value → Shared → Prop), Takes (X.tr pn xe) W → PassesOwn (model X.prog X.w) X.A X.env xe → PSs (X.tr pn xe) body (tb W)) (hh : ClsOk X (h₀ :: hds) l) :
    PS X (.Try body (h₀ :: hds) [] [] pos) (fun D σ H => tb (wAll X.K Wout D l) D σ H) := by
  refine ⟨fun pins s σ H D I h => ?_⟩
  have ok := I.ok
  have hfr : X.A.frames = some (X.env :: X.outer) := by rw [ok.frames, hs]
  have down : ∀ u s', XE (X.tr (X.pn ++ pins) (fun e z => wpAny (model X.prog X.w) X.A (noteFrame e X.env) (fun _ z2 => wpAny (model X.prog X.w) X.A (setFlight e none) (fun _ z3 => wpAny (model X.prog X.w) X.A (handleBy e X.env (h₀ :: hds)) (SP X pins D) X.xe z3) X.xe z2) X.xe z)) (wAll X.K Wout D l) u s' →
      wpAny (model X.prog X.w) X.A (noteFrame u X.env) (fun _ z2 => wpAny (model X.prog X.w) X.A (setFlight u none) (fun _ z3 => wpAny (model X.prog X.w) X.A (handleBy u X.env (h₀ :: hds)) (SP X pins D) X.xe z3) X.xe z2) X.xe s' := fun u s' xx => by
    obtain ⟨a, B, sI, pins', σ', H', cls, d, rfl, J', nb, up, sky, na, os, ag, w⟩ := xx
    have sky' : L2.Sky B (X.env :: X.outer) a (Zc cls d) X.env.locals s'.heap := hs ▸ sky
    exact Sky.land Zc.steady hfr hf sky' fun h3 fl up3 => Fell.caught ok hs hf tk hh ⟨B, sI, J'.ofTry ok, nb, up.trans up3, fl, na, os, ag⟩ w
  refine wpAny_Try_except (wpAny_mono ((hb _ (X.pn ++ pins) _ down PassesOwn.looking).run [] s σ H D (I.toTry _) h) (fun f s1 hsp => ?_) fun e s1 he => he)
  cases f with
  | ret u =>
    obtain ⟨v, σ', H', J, rr, q⟩ := hsp
    exact ⟨v, σ', H', J.ofTry ok, rr, q⟩
  | next => exact let ⟨σ', H', J, q⟩ := hsp; wpAny_execs_nil ⟨σ', H', J.ofTry ok, q⟩
  | brk => exact let ⟨σ', H', J, q⟩ := hsp; ⟨σ', H', J.ofTry ok, q⟩
  | cont => exact let ⟨σ', H', J, q⟩ := hsp; ⟨σ', H', J.ofTry ok, q⟩
end
/-! ### a def that calls what it got: which error came, with what it tells -/
abbrev CK := Value → Option Addr → Hp → VK → Prop
def ckW (r : Str) : CK := fun _ _ H Q => Q (.str r) H
def FldOf (C : Addr) (f : Str) (cls : Value) (d : Option Addr) (H : Hp) (v : V) : Prop := cls = .ref C ∧ ∃ (dd : Addr) (fs : List (Str × V)), d = some dd ∧ H dd = some (.xd fs) ∧ fs.lookup f = some v
def ckF (C : Addr) (r f : Str) : CK := fun cls d H Q => ∃ v, FldOf C f cls d H v ∧ ∀ t, H t = none → Q (.ref t) (upd H t (.tup [.str r, v]))
def ckFF (C : Addr) (f g : Str) : CK := fun cls d H Q => ∃ v u, FldOf C f cls d H v ∧ FldOf C g cls d H u ∧ ∀ t, H t = none → Q (.ref t) (upd H t (.tup [v, u]))
def ckG (C : Addr) (f : Str) : CK := fun cls d H Q => ∃ v, FldOf C f cls d H v ∧ Q v H
def ckWI (r : Str) (n : Int) : CK := fun _ _ H Q => ∀ t, H t = none → Q (.ref t) (upd H t (.tup [.str r, .int n]))
def wChainA (K : PySem.W.Frag) (Q : VK) : List (Addr × CK) → XK
  | [] => fun _ _ _ => False
  | (C, k) :: l => fun cls d H => ∃ b, PySem.W.exmOne K cls (.ref C) = some b ∧ (b = true → k cls d H Q) ∧ (b = false → wChainA K Q l cls d H)
def TToldA (K : PySem.W.Frag) (l : List (Addr × CK)) : (XK → Hp → VK → Prop) → Hp → VK → Prop := fun tl H Q => tl (wChainA K Q l) H fun _ H' => Q .non H'
inductive HdsA (K : PySem.W.Frag) (mg : Str → Option Value) (sg : Scope) (n : Str) : List ExceptHandler → List (Addr × CK) → Prop
  | nil : HdsA K mg sg n [] []
  | word {e r : Str} {C : Addr} {j : Nat} {p4 p5 p6 p7 : Pos} {hs : List ExceptHandler} {l : List (Addr × CK)} (hge : sg.names.lookup e = some .globalImplicit) (hme : mg e = some (.ref C)) (hde : (e == ("__debug__" : Str)) = false) (t : HdsA K mg sg n hs l) :
      HdsA K mg sg n (.ExceptHandler (some (.Name e p4)) none [.Return (some (.Constant (.str r) j p5)) p6] p7 :: hs) ((C, ckW r) :: l)
  | fld {e r f : Str} {C : Addr} {j k : Nat} {p4 p5 p6 p7 q1 q2 q3 : Pos} {hs : List ExceptHandler} {l : List (Addr × CK)} (hge : sg.names.lookup e = some .globalImplicit) (hme : mg e = some (.ref C)) (hde : (e == ("__debug__" : Str)) = false) (T : XfC K C) (hno : PySem.W.findIn K (.ref C) f = some none) (t : HdsA K mg sg n hs l) :
      HdsA K mg sg n (.ExceptHandler (some (.Name e p4)) (some n) [.Return (some (.Tuple [.Constant (.str r) j p5, .Attribute (.Name n q1) f q2] k q3)) p6] p7 :: hs) ((C, ckF C r f) :: l)
  | flds {e f g : Str} {C : Addr} {k : Nat} {p4 p6 p7 q1 q2 q3 q4 q5 : Pos} {hs : List ExceptHandler} {l : List (Addr × CK)} (hge : sg.names.lookup e = some .globalImplicit) (hme : mg e = some (.ref C)) (hde : (e == ("__debug__" : Str)) = false) (T : XfC K C) (hno : PySem.W.findIn K (.ref C) f = some none) (hno2 : PySem.W.findIn K (.ref C) g = some none) (t : HdsA K mg sg n hs l) :
      HdsA K mg sg n (.ExceptHandler (some (.Name e p4)) (some n) [.Return (some (.Tuple [.Attribute (.Name n q1) f q2, .Attribute (.Name n q4) g q5] k q3)) p6] p7 :: hs) ((C, ckFF C f g) :: l)
  | attr {e f : Str} {C : Addr} {p4 p6 p7 q1 q2 : Pos} {hs : List ExceptHandler} {l : List (Addr × CK)} (hge : sg.names.lookup e = some .globalImplicit) (hme : mg e = some (.ref C)) (hde : (e == ("__debug__" : Str)) = false) (T : XfC K C) (hno : PySem.W.findIn K (.ref C) f = some none) (t : HdsA K mg sg n hs l) :
      HdsA K mg sg n (.ExceptHandler (some (.Name e p4)) (some n) [.Return (some (.Attribute (.Name n q1) f q2)) p6] p7 :: hs) ((C, ckG C f) :: l)
  | num {e r : Str} {C : Addr} {m : Int} {j j2 k : Nat} {p4 p5 p6 p7 q2 q3 : Pos} {hs : List ExceptHandler} {l : List (Addr × CK)} (hge : sg.names.lookup e = some .globalImplicit) (hme : mg e = some (.ref C)) (hde : (e == ("__debug__" : Str)) = false) (t : HdsA K mg sg n hs l) :
      HdsA K mg sg n (.ExceptHandler (some (.Name e p4)) none [.Return (some (.Tuple [.Constant (.str r) j p5, .Constant (.int m) j2 q2] k q3)) p6] p7 :: hs) ((C, ckWI r m) :: l)
theorem at_set {σ : L2.St} {i : Nat} {v : V} (h : i < σ.length) : (σ.set i (some v))[i]? = some (some v) := List.getElem?_set_self h
theorem hdsA_ok {Y : Cx} {mg : Str → Option Value} {sg : Scope} {n : Str} {i : Nat} (hsc : Y.env.scope = sg) (hmg : Y.mg = mg) (hN : Y.N.Nodup) (hi : Y.N[i]? = some n) (hl : sg.names.lookup n = some .local) (hd1 : (n == ("__debug__" : Str)) = false) (hd2 : (n == ("__classdict__" : Str)) = false) :
    ∀ {hs : List ExceptHandler} {l : List (Addr × CK)}, HdsA Y.K mg sg n hs l → ∃ L : List Cl, ClsOk Y hs L ∧ ∀ (D : Ends) (cls : Value) (d : Option Addr) (σ : L2.St) (H : Hp), wChainA Y.K D.rt l cls d H → wAll Y.K (fun _ _ _ _ => False) D L cls d σ H := by
  intro hs l h
  have lk : Y.env.kindOf n = some .local := by
    show Y.env.scope.names.lookup n = _
    rw [hsc]
    exact hl
  have nm : ∀ {e : Str} {C : Addr}, sg.names.lookup e = some .globalImplicit → mg e = some (.ref C) → (e == ("__debug__" : Str)) = false → Names Y e (.ref C) := fun {e C} hge hme hde => ⟨by show Y.env.scope.names.lookup _ = _; rw [hsc]; exact hge, hde, .inl (by rw [hmg]; exact hme)⟩
  induction h with
  | nil => exact ⟨[], .nil, fun D cls d σ H z => z.elim⟩
  | word hge hme hde t ih =>
    obtain ⟨L, h1, h2⟩ := ih
    refine ⟨(_, none, fun _ _ _ => tRet (tC (.str _))) :: L, .plain (nm hge hme hde) (fun a oe cls d pn _ _ => pss_one (ps_ret pe_str)) h1, fun D cls d σ H ⟨b, e1, e2, e3⟩ => ⟨b, e1, fun e a _ => e2 e, fun e => h2 D cls d σ H (e3 e)⟩⟩
  | num hge hme hde t ih =>
    obtain ⟨L, h1, h2⟩ := ih
    refine ⟨(_, none, fun _ _ _ => tRet _) :: L, .plain (nm hge hme hde) (fun a oe cls d pn _ _ => pss_one (ps_ret (pe_tup (pa_cons pe_str (pa_cons pe_int pa_nil))))) h1, fun D cls d σ H ⟨b, e1, e2, e3⟩ => ⟨b, e1, fun e a _ => ?_, fun e => h2 D cls d σ H (e3 e)⟩⟩
    exact ⟨by show 2 ≤ sizeLine; decide, fun t ht => e2 e t ht⟩
  | attr hge hme hde T hno t ih =>
    obtain ⟨L, h1, h2⟩ := ih
    refine ⟨(_, some i, fun a cls d => tRet _) :: L, .named hN hi lk (nm hge hme hde) (fun a oe cls d pn hz hf => pss_one (ps_ret (pe_xf (a := a) (cls := cls) (d := d) T hno hz hf (pe_var hi (.inl lk) hd1 hd2)))) h1, fun D cls d σ H ⟨b, e1, e2, e3⟩ => ⟨b, e1, fun e a _ hlen => ?_, fun e => h2 D cls d σ H (e3 e)⟩⟩
    obtain ⟨v, ⟨hc, dd, fs, hd, hx, hv⟩, q⟩ := e2 e
    exact ⟨_, at_set hlen, rfl, hc, dd, fs, v, hd, hx, hv, q⟩
  | fld hge hme hde T hno t ih =>
    obtain ⟨L, h1, h2⟩ := ih
    refine ⟨(_, some i, fun a cls d => tRet _) :: L, .named hN hi lk (nm hge hme hde) (fun a oe cls d pn hz hf => pss_one (ps_ret (pe_tup (pa_cons pe_str (pa_cons (pe_xf (a := a) (cls := cls) (d := d) T hno hz hf (pe_var hi (.inl lk) hd1 hd2)) pa_nil))))) h1, fun D cls d σ H ⟨b, e1, e2, e3⟩ => ⟨b, e1, fun e a _ hlen => ?_, fun e => h2 D cls d σ H (e3 e)⟩⟩
    obtain ⟨v, ⟨hc, dd, fs, hd, hx, hv⟩, q⟩ := e2 e
    exact ⟨_, at_set hlen, rfl, hc, dd, fs, v, hd, hx, hv, by show 2 ≤ sizeLine; decide, fun t ht => q t ht⟩
  | flds hge hme hde T hno hno2 t ih =>
    obtain ⟨L, h1, h2⟩ := ih
    refine ⟨(_, some i, fun a cls d => tRet _) :: L, .named hN hi lk (nm hge hme hde) (fun a oe cls d pn hz hf => pss_one (ps_ret (pe_tup (pa_cons (pe_xf (a := a) (cls := cls) (d := d) T hno hz hf (pe_var hi (.inl lk) hd1 hd2)) (pa_cons (pe_xf (a := a) (cls := cls) (d := d) T hno2 hz hf (pe_var hi (.inl lk) hd1 hd2)) pa_nil))))) h1, fun D cls d σ H ⟨b, e1, e2, e3⟩ => ⟨b, e1, fun e a _ hlen => ?_, fun e => h2 D cls d σ H (e3 e)⟩⟩
    obtain ⟨v, u, ⟨hc, dd, fs, hd, hx, hv⟩, ⟨_, dd', fs', hd', hx', hu⟩, q⟩ := e2 e
    exact ⟨_, at_set hlen, rfl, hc, dd, fs, v, hd, hx, hv, _, at_set hlen, rfl, hc, dd', fs', u, hd', hx', hu, by show 2 ≤ sizeLine; decide, fun t ht => q t ht⟩
section
variable {X : Cx}
theorem toldA_gives {Ng : List Str} {x a q n : Str} {i : Nat} {sg : Scope} {g : Addr} {cdg : Value} {h₀ : ExceptHandler} {hds : List ExceptHandler} {l : List (Addr × CK)} {p1 p2 p3 p8 p9 pn0 : Pos} {jn : Nat} (hN : Ng.Nodup) (hi : Ng[i]? = some n) (hl : sg.names.lookup n = some .local) (hT : HdsA X.K X.mg sg n (h₀ :: hds) l) (h0 : ∀ f : Addr, (L2.start Ng [V.ref f])[0]? = some (some (V.ref f))) (hd1 : (n == ("__debug__" : Str)) = false := by decide) (hd2 : (n == ("__classdict__" : Str)) = false := by decide) :
    GivesTo X Ng x sg g cdg [.Try [.Expr (.Call (.Name a p1) [] [] p2) p3] (h₀ :: hds) [] [] p8, .Return (some (.Constant .none jn pn0)) p9] a q (TToldA X.K l) := by
  intro f c' s H Q tl act hc h
  obtain ⟨L, hL, hw⟩ := hdsA_ok (Y := (cxOf C8.CX0 X.prog X.w X.K X.mg X.base Ng x sg g cdg X.A X.stack s H C8.E0).nox) rfl rfl hN hi hl hd1 hd2 hT
  refine ⟨_, pss_cons (ps_try_all (Wout := fun _ _ _ _ => False)
      (tb := fun W D σ H => ∃ Ech : XK, (∀ cls d σ' H', Ech cls d H' → W cls d σ' H') ∧ σ[0]? = some (some (.ref f)) ∧ H c' = some (CodeO c' q) ∧ tl Ech H fun _ H' => D.nx σ H')
      rfl rfl takes_none5 (fun W pn xe tk _ => ?_) hL) (pss_one (ps_ret pe_non)), ?_⟩
  · refine ⟨fun pins s' σ H' D I h' => ?_⟩
    obtain ⟨Ech, hW, h1, h2, h3⟩ := h'
    exact (pss_one (ps_expr (pos := p3) (act W pn xe Ech p1 p2 tk hW))).run pins s' σ H' D I ⟨h1, h2, h3⟩
  · exact ⟨wChainA X.K Q l, fun cls d σ' H' z => hw _ cls d σ' H' z, h0 f, hc, h⟩
end
theorem toldA_to {K : PySem.W.Frag} {l : List (Addr × CK)} {tl : (XK → Hp → VK → Prop)} {H : Hp} {Q0 : VK} (Pv : V → Hp → Prop) (a : ∀ Q : VK, (∀ v H', Pv v H' → Q v H') → TToldA K l tl H Q) (b : ∀ v H', Pv v H' → Q0 v H') : TToldA K l tl H Q0 := a Q0 b
/-! ### B.__init__(self, ..), B an own class over ValueError without an __init__ -/
/-- what the written part says of such a base -/
structure BaseC (K : PySem.W.Frag) (S : Addr) : Prop where
  ga : PySem.W.specialIn K (.ref S) "__getattribute__" = some (some (.builtin "type.__getattribute__"))
  rd : PySem.W.readsIn K S (.type "type") = true
  vV : PySem.W.findCls K (.ref S) (.type "type") "__init__" = some (.val (.builtin "ValueError.__init__"))
section
variable {X : Cx} {e : Expr} {es : List Expr} {ta : TA} {S : Addr} {x : Str} {p1 p2 pos : Pos}
theorem pe_binit {pl : Sem Bool} (B : BaseC X.K S) (hg : Gl X x) (hm : X.mg x = some (.ref S)) (ha : PA X (e :: es) ta)
    (hc : eval (.Call (.Attribute (.Name x p1) "__init__" p2) (e :: es) [] pos) X.env = (do
      let v ← eval (.Name x p1) X.env
      standAt p2.atName
      let (f, first) ← holding [v] (getMethod v "__init__" pl)
      callWith pos f first (backTo pos (starEach (e :: es) X.env)) (backToKw pos (keywordEach [] X.env))) := by rfl)
    (hdb : (x == ("__debug__" : Str)) = false := by decide) (he : starEach (e :: es) X.env = (false, eval e X.env) :: starEach es X.env := by rfl) (hpl : (backTo pos (starEach es X.env)).any (·.1) = false := by rfl) :
    PE X (.Call (.Attribute (.Name x p1) "__init__" p2) (e :: es) [] pos) (tVeI X.K ta) := by
  refine ⟨fun pins s σ H Q I h => PySem.W.methodCall_KW (ld_glob I hg hm ?_ hdb) hc⟩
  refine PySem.W.method_cls I.kIn B.ga (PySem.W.cls_value I.kIn B.rd B.vV (by decide +kernel) ?_)
  show wpAny _ _ (callWith pos (Value.builtin "ValueError.__init__") [] (backTo pos (starEach (e :: es) X.env)) []) _ _ _
  refine PyProof.Rows.callWith_method1 (thn (ha.run pos pins _ σ H _ (I.tok _) h) fun us s1 ⟨vs, H1, I1, r1, q1⟩ => ?_) he hpl
  obtain ⟨a, C, ws, rfl, hl, T, ea, q⟩ := q1
  cases r1 with
  | @cons _ u0 _ ur ra rr =>
    obtain rfl : u0 = Value.ref a := ra
    exact oinit_ok T I1 ea (by rw [← Paired.length rr, sizeLine_eq]; omega) fun s' J => ⟨.non, H1, J, rfl, q⟩
end
/-- what is left of an error that told one thing -/
theorem xd_same {H1 : Hp} {a C dx : Addr} {f : Str} {v : V} (na : H1 a = none) (nd : H1 dx = none) (n : dx ≠ a) :
    ∃ H' : Hp, H' = upd (del (upd (upd (upd H1 a (exo a C none)) dx (exd dx [(f, v)])) a (exo a C (some dx))) a) dx (.xd [(f, v)]) ∧ Same H1 H' ∧ H' dx = some (.xd [(f, v)]) := by
  refine ⟨_, rfl, fun b o h => ?_, upd_same⟩
  rw [upd_ne (ne_of_none h nd), del_ne (ne_of_none h na), upd_ne (ne_of_none h na), upd_ne (ne_of_none h nd), upd_ne (ne_of_none h na)]
  exact h
end My
/-! xs.extend(t), t a tuple -/
namespace My
open PySem L2 LamX PyProof.Rows
section
open PySem.AutoSeq1 MeetsSeq MeetsSeq2 MeetsSeq3
set_option maxRecDepth 8000 in
theorem ext_tup (l b : Addr) (xs ys : Array Value) (n m : Nat) (dd : Option Addr) (sl : Array (Option Value)) (few : ¬(!xs.isEmpty && Builtin.List.listTooLong (xs.size + ys.size)) = true) (h1 : xs.size ≤ sizeLine) (h2 : (xs ++ ys).size ≤ sizeLine + 1) :
    Meets (Builtin.«list.extend» ⟨[.ref l, .ref b], []⟩) (fun _ R s => s.heap.get? l = some { cls := .type "list", dict := none, data := .seq xs n, slots := #[] } ∧ s.heap.get? b = some { cls := .type "tuple", dict := dd, data := .seq ys m, slots := sl } ∧ R (.ok (.ret Value.none)) { s with heap := s.heap.update l (Obj.mapSeq fun x => x ++ ys), toks := s.toks }) := by
  refine .of_wp fun prog w A R s ⟨e1, e2, q⟩ => ?_
  obtain ⟨hp, g, d, tk, os⟩ := s
  have k1 := idx_int
  have k2 := AutoSeq1.sub_tuple_tuple
  have k3 := AutoSeq1.sub_list_list
  have k4 := AutoSeq1.sub_tuple_list
  have k5 := AutoSeq1.sub_list_tuple
  wp_walk using (wpAny_updateSeq e1 rfl (hz := h1) (_hz' := h2)), wpAny_loadPart' e1, wpAny_loadPart' e2
  exact ⟨_, rfl, q⟩
end
section
variable {X : Cx}
def rExtendT (K : PySem.W.Frag) : V → List V → Hp → VK → Prop := fun x vs H Q => ∃ l b xs zs, x = .ref l ∧ vs = [.ref b] ∧ H l = some (.lst xs) ∧ SqT K H b zs ∧ xs.length + zs.length ≤ sizeLine ∧ Q .non (upd H l (.lst (xs ++ zs)))
theorem mt_extendT : MtR X "list.extend" (rExtendT X.K) := by
  intro pins s σ H x vs v us Q I rx rv h
  obtain ⟨l, b, xs, zs, rfl, rfl, hH, hB, hz, q⟩ := h
  cases rx
  obtain ⟨u, rfl, ru⟩ := rv.one
  cases ru
  obtain ⟨z1, its, n, r, hl, e⟩ := I.lstM hH
  obtain ⟨jts, r2, tp, z2⟩ := I.tuple hB
  have l1 := r.length
  have l2 := r2.length
  have few : ¬ (!its.toArray.isEmpty && Builtin.List.listTooLong (its.toArray.size + jts.toArray.size)) = true := by
    rw [notLongL (by rw [List.size_toArray, List.size_toArray]; omega), Bool.and_false]
    exact Bool.false_ne_true
  obtain ⟨o, t1, t2, n2, t3⟩ := id tp
  obtain ⟨oc, od, ot, os⟩ := o
  dsimp only at t2 t3
  subst t2 t3
  refine call_meets F.slot_list_extend ⟨_, e, rfl⟩ F.entry_list_extend (F.args_list_extend_2 _ _) (ext_tup l b its.toArray jts.toArray n n2 od os few (by rw [List.size_toArray]; omega) (by rw [Array.size_append, List.size_toArray, List.size_toArray]; omega)) ⟨e, t1, ?_⟩
  exact ⟨.non, _, I.lset (its' := its ++ jts) hH e (by simp) (r.append r2) (by rw [List.length_append]; omega), rfl, q⟩
end
end My
/-! raise X(e, ..) of an own class with an own __init__; a try around one call, several clauses -/
namespace My
open PySem L2 LamX PyProof.Rows
section
variable {X : Cx} {C : Addr} {e : Expr} {es : List Expr} {ta : TA}
/-- raise X(e, ..), in a def's own body -/
theorem ps_errO {E : XK} {E₁ : Value → Shared → Prop} {CY : CXT} {x : Str} {fI : Addr} {k : Nat} {fd : FuncData} {ps : List Str} {sp : Sp} {ds : List Value} {dvs : List V} {p pos p2 : Pos} (T : OexC X.K C) (iC : PySem.W.findIn X.K (.ref C) "__init__" = some (some (.ref fI))) (tI : PySem.W.typeIn X.K (.ref fI) = some (.type "function"))
    (F1 : FnOk X.prog X.w X.K X.mg X.base CY k fI fd ps sp) (hr : Room (k + 1) X.A) (hb : Binds X.K fd ps ds) (hd : Vals dvs ds) (hx0 : Passes CY X (fun _ _ _ => False)) (hm : X.mg x = some (.ref C)) (hg : Gl X x) (ha : PA X (e :: es) ta)
    (hc : X.calm = true) (hs : X.stack = X.env :: X.outer) (hf : X.env.frame = some X.env.locals) (hex : X.ex = [])
    (hx : X.xe = fun e s' => wpAny (model X.prog X.w) X.A (leaving X.env e) (fun _ s'' => CX X.prog X.w X.outer X.H_0 X.s_0 E e s'') E₁ s')
    (hdb : (x == ("__debug__" : Str)) = false := by decide) (he : starEach (e :: es) X.env = (false, eval e X.env) :: starEach es X.env := by rfl) (hpl : (backTo pos (starEach es X.env)).any (·.1) = false := by rfl) :
    PS X (.Raise (some (.Call (.Name x p) (e :: es) [] pos)) none p2) (fun _ σ H => tMkO C sp dvs ta σ H E) := ps_raise hc (takes_of hs hf hex hx) (pmk_oex T iC tI F1 hr hb hd hx0 hg hm ha hdb he hpl)
/-- try: e / except ..: several clauses -/
theorem ps_tryA {n : Str} {i : Nat} {sg : Scope} {h₀ : ExceptHandler} {hds : List ExceptHandler} {l : List (Addr × CK)} {p3 p8 : Pos} {te : XK → TE} (hs : X.stack = X.env :: X.outer) (hf : X.env.frame = some X.env.locals) (hsc : X.env.scope = sg) (hN : X.N.Nodup) (hi : X.N[i]? = some n) (hl : sg.names.lookup n = some .local) (hT : HdsA X.K X.mg sg n (h₀ :: hds) l)
    (call : ∀ (W : WX) (pn : List (Addr × Obj)) (xe : Value → Shared → Prop) (Ech : XK), Takes (X.tr pn xe) W → (∀ cls d σ H, Ech cls d H → W cls d σ H) → PE (X.tr pn xe) e (te Ech))
    (hd1 : (n == ("__debug__" : Str)) = false := by decide) (hd2 : (n == ("__classdict__" : Str)) = false := by decide) (hsw : swapsWith e none p3.line X.env = pure false := by rfl) :
    PS X (.Try [.Expr e p3] (h₀ :: hds) [] [] p8) (fun D σ H => te (wChainA X.K D.rt l) σ H fun _ H' => D.nx σ H') := by
  obtain ⟨L, hL, hw⟩ := hdsA_ok (Y := X) hsc rfl hN hi hl hd1 hd2 hT
  refine ⟨fun pins s σ H D I h => ?_⟩
  refine (ps_try_all (Wout := fun _ _ _ _ => False)
      (tb := fun W D σ H => ∃ Ech : XK, (∀ cls d σ' H', Ech cls d H' → W cls d σ' H') ∧ te Ech σ H fun _ H' => D.nx σ H')
      hs hf takes_none5 (fun W pn xe tk _ => ?_) hL).run pins s σ H D I ⟨wChainA X.K D.rt l, fun cls d σ' H' z => hw D cls d σ' H' z, h⟩
  refine ⟨fun pins s' σ H' D I h' => ?_⟩
  obtain ⟨Ech, hW, h3⟩ := h'
  exact (pss_one (ps_expr (pos := p3) (call W pn xe Ech tk hW) hsw)).run pins s' σ H' D I h3
end
end My
/-! an error out of a comprehension, in a def's own body -/
namespace My
open PySem L2 LamX PyProof.Rows
section
variable {M : Model} {A : Around} {E₀ : Value → Shared → Prop} {s : Shared} {B : Heap} {env : Env} {outer : List Env} {e L : Addr} {Z : Obj → Prop} {fl : Value}
/-- an exception is noted, whatever frame its record names -/
theorem noted_any {Q : Unit → Shared → Prop} (hZ : HandSPX.Steady Z) (hfr : A.frames = some (env :: outer)) (hf : env.frame = some L) (k : B.StaysIn s.heap) (n : B.get? e = none) (l : s.heap.FunFrames B (env :: outer)) (t : HandSPX.TracedZ s.heap B e Z fl)
    (q : ∀ h', HandSPX.HeldZ B (env :: outer) e Z L h' → s.heap.UpToSlots h' → Q () { s with heap := h' }) : wpAny M A (noteFrame (.ref e) env) Q E₀ s := by
  by_cases hl : (fl == rawInt L) = true
  · have z : fl = rawInt L := eq_of_beq hl
    subst z
    exact HandSPX.againZ hf t (q s.heap ⟨k, n, l, t⟩ (Heap.UpToSlots.refl _))
  · obtain ⟨oe, vs, T, oT, ts, g1, g2, g3, g4, g5, g6, g7, g8, g9⟩ := t
    have away : ∀ b, b ≠ T → (s.heap.update T (Obj.mapFields (·.setIfInBounds 3 Value.none))).get? b = s.heap.get? b := fun b hb => Heap.get?_update_other _ _ (Ne.symm hb)
    have nrec : ∀ b o, s.heap.get? b = some o → (∀ x, o.data ≠ .fields x) → b ≠ T := by
      rintro b o hb hd rfl
      rw [g7] at hb
      cases hb
      exact hd ts g8
    unfold noteFrame
    rw [hf]
    refine wpAny_bind (wpAny_field g1 g3 g4 ?_)
    rw [if_pos (by simp : (Value.ref T != Value.none) = true)]
    refine wpAny_bind (wpAny_field g7 g8 g9 ?_)
    rw [if_neg hl]
    refine wpAny_bind (wpAny_setField g7 g8 (Array.getElem?_eq_some_iff.mp g9).1 ?_)
    refine HandSPX.wpAny_entryZ hZ hfr (l.of_keeps fun b o hb hd => ⟨o, (away b (nrec b o hb hd)).trans hb, rfl⟩) hf ((away e (Ne.symm g6)).trans g1) (fun b o hb => (away b (by rintro rfl; rw [g5] at hb; cases hb)).trans (k b o hb)) n g3 (Array.getElem?_eq_some_iff.mp g4).1 g2 fun h' hN => ?_
    exact q h' ⟨hN.1, n, hN.2.1, hN.2.2.1⟩ fun b o hb hd => hN.2.2.2 b o ((away b (nrec b o hb hd)).trans hb) hd
end
/-- frames stand as long as they are left as they are -/
theorem frames_at {h h' base : Heap} : ∀ {l : List Env}, h.FunFrames base l → (∀ b ∈ frs l, h'.get? b = h.get? b) → h'.FunFrames base l
  | [], _, _ => trivial
  | env :: l, ⟨hk, ⟨L, o, hf, hn, ho, hd⟩, hr⟩, e => ⟨hk, ⟨L, o, hf, hn, (e L (List.mem_filterMap.mpr ⟨env, .head _, hf⟩)).trans ho, hd⟩, frames_at hr fun b hb => e b (by
      obtain ⟨v, hv, q⟩ := List.mem_filterMap.mp hb
      exact List.mem_filterMap.mpr ⟨v, .tail _ hv, q⟩)⟩
section
variable {X : Cx} {pins : List (Addr × Obj)} {σ : L2.St} {H : Hp} {sI s' : Shared} {B : Heap} {E : XK} {a : Addr} {cls : Value} {d : Option Addr} {fl : Value} {E₁ : Value → Shared → Prop}
/-- .. and leaves the def -/
theorem leave_any (hs : X.stack = X.env :: X.outer) (hf : X.env.frame = some X.env.locals) (hex : X.ex = []) (I : L2.Inv X pins σ H sI) (nb : ∀ b o, sI.heap.get? b = some o → b ∉ frs X.stack → B.get? b = some o) (up : sI.heap.UpToSlots s'.heap)
    (k : B.StaysIn s'.heap) (n : B.get? a = none) (l : s'.heap.FunFrames B X.stack) (t : HandSPX.TracedZ s'.heap B a (Zc cls d) fl) (na : H a = none) (os : s'.os = sI.os) (ag : AllBare s'.gens) (w : E cls d H) :
    wpAny (model X.prog X.w) X.A (leaving X.env (.ref a)) (fun _ s'' => L2.CX X.prog X.w X.outer X.H_0 X.s_0 E (.ref a) s'') E₁ s' := by
  have hfr : X.A.frames = some (X.env :: X.outer) := by rw [I.ok.frames, hs]
  rw [hs] at l
  unfold leaving
  refine wpAny_bind (noted_any Zc.steady hfr hf k n l t fun h1 hh u1 => ?_)
  refine HandSPX.landsZ hh fun h2 f2 u2 => ?_
  have off : ∀ b o, X.s_0.heap.get? b = some o → b ∉ X.fs → b ∉ frs X.stack := fun b o e hb hm => by
    rcases List.mem_cons.mp (I.stkSub b hm) with z | z
    · have h1 := Heap.lt_size e
      have h3 := I.ok.above
      rw [z] at h1
      exact absurd (Nat.lt_of_lt_of_le h1 h3) (Nat.lt_irrefl _)
    · exact hb z
  have hex' : ∀ b, b ∉ X.ex := fun b hb => by rw [hex] at hb; cases hb
  obtain ⟨k2, n2, l2, t2⟩ := f2
  refine ⟨a, B, H, cls, d, rfl, ⟨k2, n2, l2.2.2, t2⟩, I.inGround nb, ⟨fun b o e z hb => nb b o (I.base.keep b o e z hb (hex' b)) (off b o e hb), fun b o e hb => ?_, fun b o e z => I.base.free b o e z (hex' b), fun b o e hb => ?_, I.base.tups, I.base.frzs, I.base.tbls⟩, na, os.trans I.os, ag, w⟩
  · obtain ⟨_, o₀, e₀, hd⟩ := I.ok.funs.mem hb
    rw [e] at e₀
    cases e₀
    obtain ⟨l1, e1⟩ := I.base.slot b o e (I.ok.frf b hb) hb (hex' b)
    obtain ⟨l2, e2⟩ := up b _ e1 hd
    obtain ⟨l3, e3⟩ := u1 b _ e2 hd
    obtain ⟨l4, e4⟩ := u2 b _ e3 hd
    exact ⟨l4, e4⟩
  · obtain ⟨o', e1⟩ := I.base.there b o e (hex' b)
    exact ⟨o', nb b o' e1 (off b o e hb)⟩
/-- what comes out of a block -/
def OutB (X : Cx) (s3 : Shared) (H3 : Hp) (scope : Scope) (ce : Env) (fp : List Addr) (E : XK) : Value → Shared → Prop := fun u s' =>
  ∃ (pl : List (Addr × Obj)) (σ' : L2.St) (H1 : Hp) (s1 : Shared), L2.Inv (X.blk s3 H3 scope ce fp) pl σ' H1 s1 ∧ L2.CX X.prog X.w X.stack H1 s1 E u s'
theorem block_out {s3 : Shared} {H3 : Hp} {scope : Scope} {ce : Env} {fp : List Addr} {C D : Addr} {Qf : Value → Shared → Prop} {u : Value} (hs : X.stack = X.env :: X.outer) (hf : X.env.frame = some X.env.locals) (hex : X.ex = [])
    (hx : X.xe = fun e s' => wpAny (model X.prog X.w) X.A (leaving X.env e) (fun _ s'' => L2.CX X.prog X.w X.outer X.H_0 X.s_0 E e s'') E₁ s')
    (I3 : L2.Inv X pins σ H3 s3) (hC : ce.locals = C) (hCs : s3.heap.objs.size ≤ C) (hcf : ce.frame = X.env.frame) (hfp : ∀ b ∈ fp, FpOk X pins H3 b) (o : OutB X s3 H3 scope ce fp E u s') :
    notedBy (model X.prog X.w) X.A ce (fun e s2 => compPost (model X.prog X.w) X.A X.xe none Qf (.ref D) C (.error e) s2) u s' := by
  obtain ⟨pl, σ', H1, s1, Ib, c⟩ := o
  obtain ⟨a, B, sI, pi, σi, H', cls, d, rfl, Ii, nb, up, sky, na, os, ag, w⟩ := XE.of_call (X := X.blk s3 H3 scope ce fp) (W := fun cls d _ H => E cls d H) Ib (fun _ _ _ h => h) c
  have hfr : X.A.frames = some (X.env :: X.outer) := by rw [I3.ok.frames, hs]
  have en : noteFrame (.ref a) ce = noteFrame (.ref a) X.env := by
    unfold noteFrame PySem.frameOf
    rw [hcf]
  have IX : L2.Inv X pins σ H' sI := I3.call' (ch := fp) Ii.os Ii.base Ii.hok Ii.bare fun b hb => ⟨(hfp b hb).2.2.2.1, (hfp b hb).2.1, (hfp b hb).2.2.2.2.1, (hfp b hb).2.2.2.2.2⟩
  have fC : FpOk X pins H' C := I3.fpOk hCs (by have z : H' ce.locals = none := Ii.free; rw [hC] at z; exact z)
  have cF : C ∉ frs X.stack := fun hm => by
    rcases List.mem_cons.mp (I3.stkSub C hm) with z | z
    · exact fC.2.1 z
    · exact fC.2.2.1 z
  show wpAny _ _ (noteFrame (.ref a) ce) _ _ _
  rw [en]
  have rest : ∀ h1, HandSPX.HeldZ B (X.env :: X.outer) a (Zc cls d) X.env.locals h1 → s'.heap.UpToSlots h1 → compPost (model X.prog X.w) X.A X.xe none Qf (.ref D) C (.error (.ref a)) { s' with heap := h1 } := fun h1 hh u1 => by
    obtain ⟨k1, n1, l1, t1⟩ := hh
    obtain ⟨m, hm, _⟩ := Ii.loc
    have hm : sI.heap.Ns ce.locals m := hm
    rw [hC] at hm
    obtain ⟨oC, es, ep, gC, rC⟩ := hm
    have gB : B.get? C = some oC := nb C oC gC cF
    refine ⟨m, ⟨oC, es, ep, k1 C oC gB, rC⟩, fun h2 sb ce' _ => ?_⟩
    obtain ⟨B2, b1, b2⟩ := restrict B fun b => decide (b ≠ C)
    obtain ⟨G, q1, q2⟩ := restrict sI.heap fun b => decide (b ≠ C)
    have B2of : ∀ b o, B2.get? b = some o → b ≠ C ∧ B.get? b = some o := fun b o e => by
      by_cases z : b = C
      · rw [b2 b (by simp [z])] at e
        cases e
      · exact ⟨z, by rw [← b1 b (by simp [z])]; exact e⟩
    have Gof : ∀ b o, G.get? b = some o → b ≠ C ∧ sI.heap.get? b = some o := fun b o e => by
      by_cases z : b = C
      · rw [q2 b (by simp [z])] at e
        cases e
      · exact ⟨z, by rw [← q1 b (by simp [z])]; exact e⟩
    have same2 : ∀ b, b ≠ C → h2.get? b = h1.get? b := fun b hb => sb.2 b hb
    have k2 : B2.StaysIn h2 := fun b o e => by
      obtain ⟨z, e'⟩ := B2of b o e
      rw [same2 b z]
      exact k1 b o e'
    have none2 : ∀ b, B.get? b = none → B2.get? b = none := fun b e => by
      cases z : B2.get? b with
      | none => rfl
      | some o =>
        have := (B2of b o z).2
        rw [e] at this
        cases this
    have neC : ∀ b, B.get? b = none → b ≠ C := fun b e z => by rw [z, gB] at e; cases e
    have l2 : h2.FunFrames B2 (X.env :: X.outer) := by
      have lB : ∀ b ∈ frs (X.env :: X.outer), B.get? b = none := fun b hb => (l1.mem hb).1
      have l0 : h1.FunFrames B2 (X.env :: X.outer) := funFrames_none l1 fun b hb => none2 b (lB b hb)
      exact frames_at l0 fun b hb => same2 b fun z => neC b (lB b hb) z
    have t2 : HandSPX.TracedZ h2 B2 a (Zc cls d) (rawInt X.env.locals) := by
      obtain ⟨oe, vs, T, oT, ts, g1, g2, g3, g4, g5, g6, g7, g8, g9⟩ := t1
      exact ⟨oe, vs, T, oT, ts, (same2 a (neC a n1)).trans g1, g2, g3, g4, none2 T g5, g6, (same2 T (neC T g5)).trans g7, g8, g9⟩
    obtain ⟨oe, vs, T, oT, ts, g1, g2, g3, g4, g5, g6, g7, g8, g9⟩ := id t2
    unfold PySem.passOn
    refine wpAny_bind (wpAny_field g1 g3 g4 ?_)
    rw [if_neg (show ¬ (Value.ref T == Value.none) = true by simp)]
    first
      | refine wpAny_bind (wpAny_pure ?_)
      | skip
    refine wpAny_bind (HandSPX.setFlight_anyZ k2 l2 t2 fun h3 k3 l3 t3 u3 => ?_)
    refine wpAny_throw ?_
    rw [hx]
    have J : L2.Inv X pins σ H' { sI with heap := G } := IX.turned (t' := sI.toks) (it := C) (fun b o hb e => by rw [q1 b (by simp [hb])]; exact e) fC.1 fC.2.1 fC.2.2.2.1 fC.2.2.2.2.1 fC.2.2.2.2.2
    refine leave_any hs hf hex (sI := { sI with heap := G }) (B := B2) J (fun b o e hb => ?_) (fun b o e hd => ?_) k3 (none2 a n1) (hs ▸ l3) t3 na os ag w
    · obtain ⟨z, e'⟩ := Gof b o e
      rw [b1 b (by simp [z])]
      exact nb b o e' hb
    · obtain ⟨z, e'⟩ := Gof b o e
      obtain ⟨x1, e1⟩ := up b o e' hd
      obtain ⟨x2, e2⟩ := u1 b _ e1 hd
      obtain ⟨x3, e3⟩ := u3 b _ ((same2 b z).trans e2) hd
      exact ⟨x3, e3⟩
  rcases sky with ⟨f1, f2, f3, oe, vs, f4, f5, f6, f7⟩ | ⟨f1, f2, f3, f4⟩ | ⟨f1, f2, f3, f4⟩
  · have f3 : s'.heap.FunFrames B X.stack := f3
    rw [hs] at f3
    exact HandSPX.look_newZ Zc.steady hfr f3 hf f4 f1 f2 f6 f7 f5 rest
  · have f3 : s'.heap.FunFrames B X.stack := f3
    rw [hs] at f3
    exact noted_any Zc.steady hfr hf f1 f2 f3 f4 rest
  · have f3 : s'.heap.FunFrames B X.stack := f3
    rw [hs] at f3
    exact noted_any Zc.steady hfr hf f1 f2 f3 f4 rest
end
end My
/-! [elt for target in iter if ..] whose elt may let an error out, in a def's own body -/
namespace My
open PySem L2 LamX PyProof.Rows
section
variable {X : Cx} {E : XK} {E₁ : Value → Shared → Prop}
/-- where the block of a comprehension stands -/
abbrev envB (X : Cx) (scope : Scope) (s3 : Shared) : Env := compEnvC scope (cellsFrom (s3.heap.objs.size + 1) scope.names (cloFrom X.env.cells scope.names [])) s3.heap.objs.size X.env
/-- one turn, the errors of the element among its ends -/
theorem turn_out {s3 : Shared} {H3 : Hp} {scope : Scope} {fp : List Addr} {ce : Env} {D : Addr} {R : Result → Shared → Prop} {elt tg : Expr} {ifs : List Expr} {g : TG} {tt : TT} {te : TE} {σ : L2.St} {vs : List Nat} {Nx : Hp → Prop} {Goal : Shared → Prop} {H5 : Hp} {s5 : Shared}
    (pg : PG (X.blk s3 H3 scope ce fp) tg g) (pt : PTs (X.blk s3 H3 scope ce fp) ifs tt) (pe : PE ((X.blk s3 H3 scope ce fp).wish (OutB X s3 H3 scope ce fp E)) elt te)
    (out : ∀ u s', OutB X s3 H3 scope ce fp E u s' → notedBy (model X.prog X.w) X.A ce (fun e s2 => R (.error e) s2) u s')
    {x : V} {u : Value} (I7 : L2.Inv (X.blk s3 H3 scope ce fp) ([] ++ pinsAt fp s5.heap) (wipe σ vs) H5 s5) (r : RelV x u)
    (step : g x (wipe σ vs) H5 fun σ2 H2 => wipe σ2 vs = wipe σ vs ∧ tt σ2 H2 fun b H3 => if b = true then te σ2 H3 fun y H4 => ∃ acc, H4 D = some (.lst acc) ∧ acc.length < sizeLine ∧ Nx (upd H4 D (.lst (acc ++ [y]))) else Nx H3)
    (fin : ∀ (σ8 : L2.St) (s' : Shared) (H' : Hp), wipe σ8 vs = wipe σ vs → L2.Inv (X.blk s3 H3 scope ce fp) ([] ++ pinsAt fp s5.heap) σ8 H' s' → Nx H' → Goal s') :
    wpAny (model X.prog X.w) X.A (assign tg ce u) (fun _ s₂ =>
      wpAny (model X.prog X.w) X.A (forIn ifs true fun c r => if r = true then do let ok ← isTrue c ce (eval c ce); pure (ForInStep.yield ok) else pure (ForInStep.yield r)) (fun ok s₃ =>
        if ok = true then wpAny (model X.prog X.w) X.A (eval elt ce) (fun x s₄ =>
          wpAny (model X.prog X.w) X.A (call (.builtin "list.append") [.ref D, x]) (fun _ s₅ => Goal s₅) (notedBy (model X.prog X.w) X.A ce fun e s' => R (.error e) s') s₄) (notedBy (model X.prog X.w) X.A ce fun e s' => R (.error e) s') s₃
        else Goal s₃) (notedBy (model X.prog X.w) X.A ce fun e s' => R (.error e) s') s₂) (notedBy (model X.prog X.w) X.A ce fun e s' => R (.error e) s') s5 := by
  refine thnF (pg.run _ s5 _ H5 x u _ I7 r step) fun _ s8 ⟨σ8, H8, I8, w8, q8⟩ => ?_
  refine thnF (pt.run _ s8 σ8 H8 _ I8 q8) fun b s9 ⟨H9, I9, q9⟩ => ?_
  cases b with
  | true =>
    have q9 : te σ8 H9 fun y H4 => ∃ acc, H4 D = some (.lst acc) ∧ acc.length < sizeLine ∧ Nx (upd H4 D (.lst (acc ++ [y]))) := q9
    show wpAny _ _ (eval elt ce) _ _ _
    refine wpAny_mono (pe.run _ s9 σ8 H9 _ (I9.wish _) q9) (fun z s10 hz => ?_) fun e s' o => out e s' o
    obtain ⟨yv, H10, I10, r10, acc, a1, a2, a3⟩ := hz
    exact app_ok (X := X.blk s3 H3 scope ce fp) I10.unwish a1 a2 r10 fun s11 I11 => fin σ8 s11 _ w8 I11 a3
  | false => exact fin σ8 s9 H9 w8 I9 q9
theorem pe_lcX {elt tg iter : Expr} {ifs : List Expr} {scope : Scope} {own : List (Str × Nat)} {pos : Pos} {wi : TI} {g : TG} {tt : TT} {te : TE} (hc : X.calm = true) (hN : X.N.Nodup) (hi : PI X tg iter wi) (ok : BlkOk X.N X.env.scope scope own)
    (hg : ∀ (s : Shared) (H : Hp) (C : Addr) (cl : List (Str × Addr)) (fp : List Addr), PG (X.blk s H scope (compEnvC scope cl C X.env) fp) tg g) (ht : ∀ (s : Shared) (H : Hp) (C : Addr) (cl : List (Str × Addr)) (fp : List Addr), PTs (X.blk s H scope (compEnvC scope cl C X.env) fp) ifs tt)
    (he : ∀ (s : Shared) (H : Hp) (C : Addr) (cl : List (Str × Addr)) (fp : List Addr), PE ((X.blk s H scope (compEnvC scope cl C X.env) fp).wish (OutB X s H scope (compEnvC scope cl C X.env) fp E)) elt te)
    (hS : X.stack = X.env :: X.outer) (hf : X.env.frame = some X.env.locals) (hex : X.ex = [])
    (hx : X.xe = fun e s' => wpAny (model X.prog X.w) X.A (leaving X.env e) (fun _ s'' => L2.CX X.prog X.w X.outer X.H_0 X.s_0 E e s'') E₁ s')
    (hs : ∀ x, foldedSetIterable iter X.env x = pure x := by intro _; rfl) :
    PE X (.ListComp elt [⟨tg, iter, ifs, 0⟩] scope pos) (tLc wi g tt te (own.map (·.2))) := by
  refine ⟨fun pins s σ H Q I h => ?_⟩
  rw [eval_ListComp]
  have hcl : ∀ y ∈ scope.names, y.2 = .free → ∃ c, X.env.cells.lookup y.1 = some c := fun y hy e => I.ok.has _ (ok.free y hy e)
  refine wpAny_comprehension_free (use := none) rfl hs (closure_ok hcl) ok.kind (fun y hy e => by rw [ok.uniq y hy, e]) (thn (hi.run pins s σ H _ I h) fun xv s1 hx1 => thn hx1 fun itv s2 h2 => ?_)
  obtain ⟨it, fp, tn, J, H2, e, I2, T, st2, f2, q⟩ := h2
  subst e
  refine wpAny_newObj_type (newEnv_comp ?_) (by show 0 ≤ sizeLine; decide)
  have nD : H2 s2.heap.objs.size = none := I2.hok.fresh (Nat.le_refl _)
  obtain ⟨W, ⟨m0, w0⟩, turn⟩ := q _ nD
  generalize eD : s2.heap.objs.size = D at *
  obtain ⟨s3, e3⟩ : ∃ s3 : Shared, s3 = { s2 with heap := s2.heap.push { cls := .type "list", data := .seq ([] : List Value).toArray } } := ⟨_, rfl⟩
  have h3 : s3.heap = s2.heap.push { cls := .type "list", data := .seq ([] : List Value).toArray } := by rw [e3]
  have I3 : L2.Inv X pins σ (upd H2 D (.lst [])) s3 := by
    rw [e3]
    refine I2.laid (t' := s2.toks) (fun b o e => Heap.get?_push_of_some _ e) (Nat.le_of_eq eD) ⟨Nat.zero_le _, [], 0, .nil, ?_⟩
    rw [← eD]
    exact Heap.get?_push_size _ rfl
  have old : ∀ b ∈ fp, b < s2.heap.objs.size := fun b hb => by
    obtain ⟨o, e, _⟩ := T.obj _ _ st2 b hb
    exact Heap.lt_size e
  have f3 : ∀ b ∈ fp, FpOk X pins (upd H2 D (.lst [])) b ∧ b < s3.heap.objs.size := fun b hb => by
    have lt := old b hb
    have ne : b ≠ D := by rw [← eD]; exact Nat.ne_of_lt lt
    exact ⟨⟨by rw [upd_ne ne]; exact (f2 b hb).1, (f2 b hb).2⟩, by rw [h3, Heap.size_push]; exact Nat.lt_succ_of_lt lt⟩
  have st3 : tn 0 s3.heap := T.keep _ _ _ st2 fun b _ o e => by rw [h3]; exact Heap.get?_push_of_some _ e
  have I4 := block_start I3 ok hN f3
  generalize upd H2 D (.lst []) = H3 at I3 f3 I4 w0
  have pg := hg s3 H3 s3.heap.objs.size (cellsFrom (s3.heap.objs.size + 1) scope.names (cloFrom X.env.cells scope.names [])) fp
  have pt := ht s3 H3 s3.heap.objs.size (cellsFrom (s3.heap.objs.size + 1) scope.names (cloFrom X.env.cells scope.names [])) fp
  have pe := he s3 H3 s3.heap.objs.size (cellsFrom (s3.heap.objs.size + 1) scope.names (cloFrom X.env.cells scope.names [])) fp
  rw [← e3]
  show codeAny _ _ (.compStart (.ListComp elt [⟨tg, iter, ifs, 0⟩] scope pos) 0 (.ref it) (.ref D) (envB X scope s3)) (compPost (model X.prog X.w) X.A X.xe none _ (.ref D) s3.heap.objs.size) { s3 with heap := pushCells (s3.heap.push { cls := .type "dict", data := .dict #[] }) scope.names }
  have hL : (envB X scope s3).locals = s3.heap.objs.size := rfl
  have hF : (envB X scope s3).frame = X.env.frame := rfl
  change L2.Inv (X.blk s3 H3 scope (envB X scope s3) fp) _ _ _ _ at I4
  change PG (X.blk s3 H3 scope (envB X scope s3) fp) _ _ at pg
  change PTs (X.blk s3 H3 scope (envB X scope s3) fp) _ _ at pt
  change PE ((X.blk s3 H3 scope (envB X scope s3) fp).wish (OutB X s3 H3 scope (envB X scope s3) fp E)) _ _ at pe
  generalize envB X scope s3 = ce at *
  have out : ∀ u s', OutB X s3 H3 scope ce fp E u s' → notedBy (model X.prog X.w) X.A ce (fun e s2 => compPost (model X.prog X.w) X.A X.xe none (EP X pins σ Q) (.ref D) s3.heap.objs.size (.error e) s2) u s' := fun u s' o => block_out hS hf hex hx I3 hL (Nat.le_refl _) hF (fun b hb => (f3 b hb).1) o
  have st4 : tn 0 (pushCells (s3.heap.push { cls := .type "dict", data := .dict #[] }) scope.names) := T.keep _ _ _ st3 fun b _ o e => pushCells_keeps _ _ _ _ (Heap.get?_push_of_some _ e)
  have no4 : ∀ b ∈ fp, H3 b = none := fun b hb => (f3 b hb).1.1
  have frb : ∀ {σ' : L2.St} {H' : Hp} {s' : Shared}, L2.Inv (X.blk s3 H3 scope ce fp) [] σ' H' s' → (∀ b ∈ fp, H' b = none) → ∀ b ∈ fp, FpOk (X.blk s3 H3 scope ce fp) [] H' b := fun {σ' H' s'} I' hn b hb =>
    ⟨hn b hb, (I'.ok.exf b hb).1, I'.ok.exfs b hb, .inl hb, fun x c e => (I'.ok.exf b hb).2 x c e, fun p hp => by cases hp⟩
  obtain ⟨s4, e4⟩ : ∃ s4 : Shared, s4 = { s3 with heap := pushCells (s3.heap.push { cls := .type "dict", data := .dict #[] }) scope.names } := ⟨_, rfl⟩
  rw [← e4] at I4 ⊢
  have st4 : tn 0 s4.heap := by rw [e4]; exact st4
  have loop : codeAny (model X.prog X.w) X.A (.compLoop (.ListComp elt [⟨tg, iter, ifs, 0⟩] scope pos) 0 (.ref it) (.ref D) ce) (compPost (model X.prog X.w) X.A X.xe none (EP X pins σ Q) (.ref D) s3.heap.objs.size) s4 := by
    refine compLoop_any (fun n z => ∃ i H', L2.Inv (X.blk s3 H3 scope ce fp) [] (wipe σ (own.map (·.2))) H' z ∧ tn i z.heap ∧ (∀ b ∈ fp, H' b = none) ∧ W i n H') (fun n s5 hI => ?_) m0 ⟨0, H3, I4, st4, no4, w0⟩
    obtain ⟨i, H5, I5, st5, n5, w5⟩ := hI
    rcases turn i n H5 w5 with ⟨stop, qd⟩ | ⟨go, Nx, down, step⟩
    · refine thnF (T.done (X.blk s3 H3 scope ce fp) rfl rfl rfl hc i [] s5 _ H5 (fun _ _ => False) I5 (frb I5 n5) st5 stop) fun r s6 hr => ?_
      obtain ⟨er, I6⟩ := hr
      subst er
      have IX : L2.Inv X pins σ H5 s6 := I3.call' (ch := fp) I6.os I6.base I6.hok I6.bare fun b hb => let k := (f3 b hb).1; ⟨k.2.2.2.1, k.2.1, k.2.2.2.2.1, k.2.2.2.2.2⟩
      have nC : H5 s3.heap.objs.size = none := by
        have z : H5 ce.locals = none := I6.free
        rw [hL] at z
        exact z
      obtain ⟨m, hm, _⟩ := I6.loc
      have hm : s6.heap.Ns ce.locals m := hm
      rw [hL] at hm
      have k := I3.fpOk (Nat.le_refl _) nC
      exact ⟨m, hm, fun h' sb => ⟨.ref D, H5, IX.turned (t' := s6.toks) (fun b o hb e => (sb.2 b hb).trans e) k.1 k.2.1 k.2.2.2.1 k.2.2.2.2.1 k.2.2.2.2.2, rfl, qd⟩⟩
    · refine thnF (T.item (X.blk s3 H3 scope ce fp) rfl rfl rfl hc i [] s5 _ H5 (fun _ _ => False) I5 (frb I5 n5) st5 go) fun r s6 hr => ?_
      obtain ⟨u, er, h6⟩ := hr
      subst er
      refine thnF h6 fun _ s7 h7 => ?_
      obtain ⟨x, H7, I7, r7, y7, st7, n7⟩ := h7
      refine turn_out (R := compPost (model X.prog X.w) X.A X.xe none (EP X pins σ Q) (.ref D) s3.heap.objs.size) pg pt pe out (I7.pinned (frb I7 n7) (T.obj _ _ st7)) r7 (step x H7 y7) fun σ8 z H8 w8 I8 nx => ?_
      obtain ⟨m', lt, w'⟩ := down H8 nx
      have stay : ∀ b ∈ fp, ∀ o, s7.heap.get? b = some o → z.heap.get? b = some o ∧ H8 b = none := fun b hb o e =>
        let k := I8.pin (b, o) (List.mem_append_right _ (List.mem_append_right _ (mem_pinsAt hb e)))
        ⟨k.1, k.2.1⟩
      have ln : (wipe σ (own.map (·.2))).length = σ8.length := by rw [← w8, wipe_length]
      refine ⟨m', lt, i + 1, H8, (I8.unpinned (pins := [])).weak ln (fun j v e => ?_), T.keep _ _ _ st7 fun b hb o e => (stay b hb o e).1, fun b hb => ?_, w'⟩
      · rw [← w8] at e
        exact (wipe_some e).1
      · obtain ⟨o, e, _⟩ := T.obj _ _ st7 b hb
        exact (stay b hb o e).2
  exact codeAny_compStart_list loop (T.self X.A 0 _ _ _ st4 loop)
/-- what a callee lets out leaves the block -/
theorem passB {s : Shared} {H : Hp} {scope : Scope} {ce : Env} {fp : List Addr} : Passes (L2.CX X.prog X.w) ((X.blk s H scope ce fp).wish (OutB X s H scope ce fp E)) E := fun pl σ H1 s1 e s' I c => ⟨pl, σ, H1, s1, I.unwish, c⟩
end
end My
/-! text.index(sign) of a letter of the alphabet -/
namespace My
open PySem L2
/-- where a sign first stands in a text, if it stands there -/
def firstAt (x y : Str) : Nat := (Builtin.Str.occurrences x y 0 x.length 1).headD 0
theorem first_of {x y : Str} (h : Builtin.Str.occurrences x y 0 x.length 1 ≠ []) : ∃ r, Builtin.Str.occurrences x y 0 x.length 1 = firstAt x y :: r := by
  unfold firstAt
  cases e : Builtin.Str.occurrences x y 0 x.length 1 with
  | nil => exact absurd e h
  | cons a r => exact ⟨r, rfl⟩
end My
namespace My
open PySem PySem.Spec PyProof.Rows L2
/-! tracked tuples; enumerate of a tuple as a for; == of unlike things -/
theorem for_enumT {K : PySem.W.Frag} {a : Addr} {xs : List V} {g : TG} {tb : TS} {D : Ends} {σ : L2.St} {H : Hp} (Pv : Nat → L2.St → Hp → Prop) (h0 : Pv 0 σ H) (hl : ∀ i σ H, i ≤ xs.length → Pv i σ H → SqT K H a xs)
    (hs : ∀ i x T σ H, xs[i]? = some x → Pv i σ H → H T = none → g (.ref T) σ (upd H T (.tup [.int (i : Nat), x])) fun σ2 H2 => tb { D with nx := Pv (i + 1), ct := Pv (i + 1), bk := D.nx } σ2 H2) (hd : ∀ σ H, Pv xs.length σ H → D.nx σ H) :
    ∃ W : Nat → Nat → L2.St → Hp → Prop, (∃ m, W 0 m σ H) ∧ ∀ i m σ H, W i m σ H →
      ((IteT K a).stop i H ∧ D.nx σ H) ∨ ((IteT K a).go i H ∧ ∃ N : L2.St → Hp → Prop, (∀ σ' H', N σ' H' → ∃ m', m' < m ∧ W (i + 1) m' σ' H') ∧ ∀ x H', (IteT K a).yld i H x H' → g x σ H' fun σ2 H2 => tb { D with nx := N, ct := N, bk := D.nx } σ2 H2) := by
  refine ⟨fun i m σ H => m = xs.length - i ∧ i ≤ xs.length ∧ Pv i σ H, ⟨xs.length, by simp, Nat.zero_le _, h0⟩, ?_⟩
  rintro i m σ H ⟨rfl, hi, p⟩
  have q := hl i σ H hi p
  by_cases hlt : i < xs.length
  · obtain ⟨x, hx⟩ : ∃ x, xs[i]? = some x := ⟨xs[i], List.getElem?_eq_getElem hlt⟩
    refine .inr ⟨⟨xs, x, q, hx⟩, Pv (i + 1), fun σ' H' n => ⟨xs.length - (i + 1), by omega, rfl, hlt, n⟩, ?_⟩
    rintro y H' ⟨T, z, rfl, h3, rfl, h4⟩
    exact hs i z T σ H (h4 xs q) p h3
  · have e : i = xs.length := by omega
    subst e
    exact .inl ⟨⟨xs, q, rfl⟩, hd σ H p⟩
theorem EqB.or {X : Cx} {n : Nat} {D D' : EqvB} (h : EqB X n D) (h' : EqB X n D') : EqB X n (fun x y b H => D x y b H ∨ D' x y b H) := fun A pins s σ H x y u v b sb I rx ry d => by
  rcases d with d | d
  · exact h A pins s σ H x y u v b sb I rx ry d
  · exact h' A pins s σ H x y u v b sb I rx ry d
theorem MonB.or {D D' : EqvB} (h : MonB D) (h' : MonB D') : MonB (fun x y b H => D x y b H ∨ D' x y b H) := fun x y b H H' e d => d.imp (h x y b H H' e) (h' x y b H H' e)
theorem _root_.L2.Room.units65 {k : Nat} {A : Around} (r : Room k A) : A.units + 65 < cLine := by have := r.un; omega
/-- a + b of tracked tuples is one -/
theorem catA_toT {K : PySem.W.Frag} {a b : Addr} {xs ys : List V} {H : Hp} {Q : VK} (h1 : H a = some (.tup xs)) (h2 : H b = some (.tup ys)) (hz : xs.length + ys.length ≤ sizeLine) (k : ∀ (p : Addr) (H' : Hp), Same H H' → H' p = some (.tup (xs ++ ys)) → Q (.ref p) H') : rCatA K (.ref a) (.ref b) H Q :=
  ⟨a, b, xs, ys, rfl, rfl, SqT.of h1, SqT.of h2, hz, fun e => k b H (Same.refl _) (by rw [e]; exact h2), fun _ e => k a H (Same.refl _) (by rw [e, List.append_nil]; exact h1), fun _ _ p hp => k p _ (same_new hp) upd_same⟩
end My
namespace My
open PySem PySem.Spec PyProof.Rows L2
/-! a loop over the items of a locked dict whose keys are tuples -/
section
variable {X : Cx} {pins : List (Addr × Obj)} {σ : L2.St} {H : Hp} {s : Shared} {d : Addr} {o : Obj}
/-- the entries of a locked dict with tuple keys, keys and values told -/
theorem frzT_told {kvs : List (List Key × V)} (I : L2.Inv X pins σ H s) (h : H d = some (.frz o (.dT kvs))) :
    (d == sysModules) = false ∧ s.heap.get? d = some o ∧ o.ExactDict ∧ ∃ (es : Array DictEntry) (ep : Nat), o.data = .dict es ep ∧ es.size = kvs.length ∧
      ∀ (i : Nat) (hi : i < es.size) (k : List Key) (v : V), kvs[i]? = some (k, v) → ∃ q : Addr, es[i].key = .ref q ∧ H q = some (.tup (k.map kV)) ∧ RelV v es[i].val := by
  obtain ⟨hg, _, hsys, xs, pr, o2, es, ep, hg2, hex, hdat, hes, _⟩ := I.hok d _ h
  obtain rfl : o = o2 := Option.some.inj (hg.symm.trans hg2)
  have hlx : kvs.length = xs.length := Paired.length pr
  have hle : es.size = xs.length := by
    have := congrArg List.length hes
    rw [Array.length_toList, List.length_map] at this
    exact this
  refine ⟨hsys, hg, hex, es, ep, hdat, hle.trans hlx.symm, fun i hi k v hk => ?_⟩
  obtain ⟨x, hx, e1, e2, e3⟩ := paired_get pr hk
  have he : es.toList[i]? = some (entryOfKey (tupleKind (mixKind X.prog X.w)) x) := by
    rw [hes, List.getElem?_map, hx]
    rfl
  rw [Array.getElem?_toList, Array.getElem?_eq_getElem hi] at he
  rw [Option.some.inj he]
  exact ⟨x.2.1, rfl, e2, e3⟩
end
/-- the pairs of a key's own tuple and a value, each a new tuple -/
def ItT (d : Addr) (o : Obj) (kvs : List (List Key × V)) : It :=
  ⟨fun i H => H d = some (.frz o (.dT kvs)) ∧ i < kvs.length,
   fun i H x H' => ∃ (T q : Addr) (k : List Key) (v : V), kvs[i]? = some (k, v) ∧ H q = some (.tup (k.map kV)) ∧ x = .ref T ∧ H T = none ∧ H' = upd H T (.tup [.ref q, v]),
   fun i H => H d = some (.frz o (.dT kvs)) ∧ kvs.length ≤ i⟩
theorem turn_ItT {P : Program} {w : World} {K : PySem.W.Frag} {d : Addr} {o : Obj} {es : Array DictEntry} {ep : Nat} {kvs : List (List Key × V)} {elts : List Expr} {kk : Nat} {tpos : Pos} (it : Addr) (hod : o.data = .dict es ep) (hn : es.size = kvs.length) :
    Turn P w K (.Tuple elts kk tpos) (ItT d o kvs) [it] it (fun i h => ∃ ok ov, IsItemIter h it d i es.size ep ok ov) where
  mem := List.mem_singleton.mpr rfl
  obj := fun i h st b hb => by
    obtain ⟨_, _, e⟩ := st
    rw [List.mem_singleton.mp hb]
    exact ⟨_, e, fun _ z => nomatch z⟩
  keep := fun i h h' st k => by
    obtain ⟨u1, u2, e⟩ := st
    exact ⟨u1, u2, k it (List.mem_singleton.mpr rfl) _ e⟩
  item := by
    intro X hP hw hK hc i pins s σ H E I hf st hg
    subst hP hw hK
    obtain ⟨hgo, hlt⟩ := hg
    obtain ⟨_, hg0, hex, es2, ep2, hdat, _, told⟩ := frzT_told I hgo
    have z := hod.symm.trans hdat
    injection z with z1 z2
    subst z1 z2
    have hi : i < es.size := by omega
    have hkv : kvs[i]? = some kvs[i] := List.getElem?_eq_getElem hlt
    obtain ⟨q, ek, hq, rv⟩ := told i hi kvs[i].1 kvs[i].2 hkv
    obtain ⟨u1, u2, e⟩ := st
    have hiz : it < s.heap.objs.size := Heap.lt_size e
    refine DT.nextI e ⟨o, hg0, hex, hod⟩ hi fun h1 e1 t1 z1 kp1 => ?_
    refine ⟨_, rfl, wpAny_letOwnedTupleGo_items (s := { s with heap := h1 }) e1 fun h2 e2 sb => ?_⟩
    have t2 : h2.get? s.heap.objs.size = some { cls := .type "tuple", data := .seq #[es[i].key, es[i].val] } := (sb.2 _ (Nat.ne_of_gt hiz)).trans t1
    have new : ObjOk X.prog X.w (upd H s.heap.objs.size (.tup [.ref q, kvs[i].2])) h2 s.heap.objs.size (.tup [.ref q, kvs[i].2]) :=
      ⟨by show 2 ≤ sizeLine; decide, [es[i].key, es[i].val], .cons ek (.cons rv .nil), ⟨_, t2, rfl, _, rfl⟩⟩
    have I2 : L2.Inv X pins σ (upd H s.heap.objs.size (.tup [.ref q, kvs[i].2])) { s with heap := h2 } :=
      I.turnedNew (t' := s.toks) (ch := [it]) (fun b ob hb eb => by
        have hne : b ≠ it := fun x => hb (List.mem_singleton.mpr x)
        exact (sb.2 b hne).trans (kp1 b ob hne eb)) hf (Nat.le_refl _) new
    refine ⟨.ref s.heap.objs.size, _, I2, rfl, ⟨_, q, kvs[i].1, kvs[i].2, hkv, hq, rfl, I.hok.fresh (Nat.le_refl _), rfl⟩, ⟨_, _, e2⟩, fun b hb => ?_⟩
    rw [List.mem_singleton.mp hb, upd_ne (Nat.ne_of_lt hiz)]
    exact (hf it (List.mem_singleton.mpr rfl)).1
  done := by
    intro X hP hw hK hc i pins s σ H E I hf st hg
    subst hP hw hK
    obtain ⟨hgo, hge⟩ := hg
    obtain ⟨f0, f1, _, f3, f4, f5⟩ := hf it (List.mem_singleton.mpr rfl)
    obtain ⟨_, hg0, hex, es2, ep2, hdat, _, _⟩ := frzT_told I hgo
    have z := hod.symm.trans hdat
    injection z with z1 z2
    subst z1 z2
    obtain ⟨u1, u2, e⟩ := st
    exact DT.endI (I.ok.hd hc) e ⟨o, hg0, hex, hod⟩ (by omega) fun h1 eb => ⟨rfl, I.turned (t' := s.toks) (fun b ob hb x => eb b ob hb x) f0 f1 f3 f4 f5⟩
  self := fun A i s Q E st h => by
    obtain ⟨_, _, e⟩ := st
    exact PySem.W.kcp_self e h
def iItemsT (td : TE) : TI := fun σ H R => td σ H fun x H1 => ∃ d o kvs, x = .ref d ∧ H1 d = some (.frz o (.dT kvs)) ∧ R (ItT d o kvs) H1
theorem pi_itemsT {X : Cx} {e : Expr} {td : TE} {apos cpos : Pos} {elts : List Expr} {kk : Nat} {tpos : Pos} (he : PE X e td) (hbase : attributeBase e "items" X.env (eval e X.env) = eval e X.env := by rfl) (hline : (apos.endLine == cpos.line) = true := by rfl) :
    PI X (.Tuple elts kk tpos) (.Call (.Attribute e "items" apos) [] [] cpos) (iItemsT td) := by
  refine ⟨fun pins s σ H R I h => ?_⟩
  refine wpAny_Call_method (T := "dict") (id := "dict.items") hbase rfl hline F.plainAttrs_dict F.slot_dict_items F.type_dict_items (thn (he.run pins s σ H _ I h) fun u s1 ⟨x, H1, I1, rx, d, o, kvs, ex, hd, q⟩ => ?_)
  subst ex
  obtain rfl : u = Value.ref d := rx
  obtain ⟨hsys, hg0, hex, es, ep, hdat, hn, _⟩ := frzT_told I1 hd
  have hraw : DT.Raw s1.heap d es ep := ⟨o, hg0, hex, hdat⟩
  refine ⟨hraw.typeIs, ?_, ?_⟩
  · intro b hb
    obtain rfl : d = b := Value.ref.inj hb
    exact ⟨o, hg0, hex.2.1⟩
  · have I2 : L2.Inv X pins σ H1 { s1 with heap := s1.heap.push { cls := .type "dict_items", data := .fields #[.ref d] } } := I1.kept (t' := s1.toks) fun b ob q => Heap.get?_push_of_some _ q
    have fin : wpAny (model X.prog X.w) X.A (pyIter (.ref s1.heap.objs.size)) (PIE X pins σ (.Tuple elts kk tpos) R) X.xe { s1 with heap := s1.heap.push { cls := .type "dict_items", data := .fields #[.ref d] } } := by
      refine DT.iterI ⟨_, Heap.get?_push_size _ rfl, rfl, rfl⟩ (hraw.push _) (pi_one (tk := s1.toks) I2 _ (turn_ItT _ hdat hn) ⟨.none, .none, ?_⟩ q)
      exact Heap.get?_push_size _ rfl
    show wpAny _ _ (callWith cpos (.builtin "dict.items") [.ref d] [] []) _ X.xe s1
    exact method_meetsIn F.slot_dict_items F.entry_dict_items rfl (PySem.evalArgs_none ⟨rfl, hraw.typeIs, F.args_dict_items_1 _, _, DT.meetsItems (es := es) (ep := ep) hsys, hraw, fin⟩)
theorem for_itemsT {d : Addr} {o : Obj} {kvs : List (List Key × V)} {g : TG} {tb : TS} {D : Ends} {σ : L2.St} {H : Hp} (Pv : Nat → L2.St → Hp → Prop) (h0 : Pv 0 σ H) (hl : ∀ i σ H, i ≤ kvs.length → Pv i σ H → H d = some (.frz o (.dT kvs)))
    (hs : ∀ i k v q T σ H, kvs[i]? = some (k, v) → H q = some (.tup (k.map kV)) → Pv i σ H → H T = none → g (.ref T) σ (upd H T (.tup [.ref q, v])) fun σ2 H2 => tb { D with nx := Pv (i + 1), ct := Pv (i + 1), bk := D.nx } σ2 H2) (hd : ∀ σ H, Pv kvs.length σ H → D.nx σ H) :
    ∃ W : Nat → Nat → L2.St → Hp → Prop, (∃ m, W 0 m σ H) ∧ ∀ i m σ H, W i m σ H →
      ((ItT d o kvs).stop i H ∧ D.nx σ H) ∨ ((ItT d o kvs).go i H ∧ ∃ N : L2.St → Hp → Prop, (∀ σ' H', N σ' H' → ∃ m', m' < m ∧ W (i + 1) m' σ' H') ∧ ∀ x H', (ItT d o kvs).yld i H x H' → g x σ H' fun σ2 H2 => tb { D with nx := N, ct := N, bk := D.nx } σ2 H2) := by
  refine ⟨fun i m σ H => m + i = kvs.length ∧ Pv i σ H, ⟨kvs.length, rfl, h0⟩, fun i m σ H ⟨hm, p⟩ => ?_⟩
  have q := hl i σ H (by omega) p
  cases m with
  | zero =>
    obtain rfl : i = kvs.length := by omega
    exact .inl ⟨⟨q, Nat.le_refl _⟩, hd σ H p⟩
  | succ m =>
    refine .inr ⟨⟨q, by omega⟩, Pv (i + 1), fun σ' H' n => ⟨m, by omega, by omega, n⟩, fun x H' hy => ?_⟩
    obtain ⟨T, t, k, v, h1, h2, rfl, h3, rfl⟩ := hy
    exact hs i k v t T σ H h1 h2 p h3
/-! {k: v} where k is a tuple -/
def tDispT1 (tk tv : TE) : TE := fun σ H Q => ∀ p, H p = none → tk σ (upd H p (.dT [])) fun x H1 => tv σ H1 fun y H2 => ∃ (b : Addr) (k : List Key), x = .ref b ∧ H2 p = some (.dT []) ∧ H2 b = some (.tup (k.map kV)) ∧ Q (.ref p) (upd H2 p (.dT [(k, y)]))
theorem pe_dispT1 {X : Cx} {pos : Pos} {k v : Expr} {tk tv : TE} (hu : X.A.units + 1 < cLine) (hk : PE X k tk) (hv : PE X v tv) : PE X (.Dict [some k] [v] pos) (tDispT1 tk tv) := by
  refine ⟨fun pins s σ H Q I q => ?_⟩
  have hn := I.hok.fresh (Nat.le_refl s.heap.objs.size)
  have I1 := I.laid (a := s.heap.objs.size) (o := .dT []) (h' := s.heap.push { cls := .type "dict", data := .dict #[] }) (t' := s.toks) (fun _ _ q => Heap.get?_push_of_some _ q) (Nat.le_refl _) (dt_empty s.heap I.big)
  refine wpAny_Dict_any rfl rfl (fun z => nomatch z) (by show 1 ≤ 15; decide) (thn ((pps_cons hk hv pps_nil).run pins _ σ _ (fun ps H2 => match ps with | [(x, y)] => ∃ (b : Addr) (k : List Key), x = .ref b ∧ H2 s.heap.objs.size = some (.dT []) ∧ H2 b = some (.tup (k.map kV)) ∧ Q (.ref s.heap.objs.size) (upd H2 s.heap.objs.size (.dT [(k, y)])) | _ => False) I1 (q _ hn)) fun ws s2 hx => ?_)
  obtain ⟨ps, H2, I2, rel, hx⟩ := hx
  split at hx
  · rename_i x y
    obtain ⟨b, kk, rfl, e, eb, q2⟩ := hx
    cases rel with
    | @cons a1 b1 as bs r1 r2 =>
    cases r2
    obtain ⟨u, r⟩ := b1
    obtain ⟨ru, ry⟩ := r1
    cases (show u = Value.ref b from ru)
    obtain ⟨z, hd, xs, kt, dd⟩ := dt_of I2.hok e
    cases kt
    refine wpAny_storeAllH (knd := tupleKind (mixKind X.prog X.w)) (show X.A.units < cLine by omega) [(.ref b, r)] [(kk, b, r)] [] s2 _ ⟨rfl, rfl, key_of I2.hok eb, trivial⟩ dd (by rw [sizeLine_eq]; show 0 + 1 ≤ 16777216; decide) fun h' tk' dd' hs => ⟨.ref s.heap.objs.size, _, ?_, rfl, q2⟩
    obtain ⟨o, es, ep, ho, h2, h3, h4, _, h5⟩ := dd'
    refine d_write I2 (by rw [e]; exact True.intro) hs ⟨o, ho⟩ ⟨(by rw [sizeLine_eq]; show 1 ≤ 16777216; decide), hd, [(kk, b, r)], .cons ⟨rfl, ?_, ry⟩ .nil, o, es, ep, ho, h2, h3, h4, h5⟩
    rw [upd_ne (ne_of eb e (fun z => nomatch z))]
    exact eb
  · exact hx.elim
end My
namespace My
open PySem PySem.Spec PyProof.Rows L2 LamX
/-! sorted(t, key=lambda x: x.f) of a tuple -/
open PySem.W in
theorem sorted_key_dataT {prog : Program} {w : World} {A : Around} {E : Value → Shared → Prop} {s : Shared} {β : Type} {R : Value → β → Prop} {vs : List Value} {bs : List β} {l : Addr} {f : Value} {kw : List (Str × Value)} {b : Bool} {Q : Value → Shared → Prop} (k : β → PyData) (hl : IsTup s.heap l vs.toArray) (e : EachIs R vs bs) (hal : AllAlike (bs.map k)) (hk : Sortable (bs.map k)) (hL : bs.length ≤ sizeLine)
    (hu : ∀ x, x ∈ bs → A.units + 2 + (k x).depth < cLine) (ha1 : argsOk "sorted" ⟨[.ref l], kw⟩) (ha2 : ∀ x, argsOk "list.sort" ⟨[.ref x], kw⟩) (ht : ∀ x, Builtin.«list.sort» ⟨[.ref x], kw⟩ = ksk_tree x f b)
    (turn : ∀ (v : Value) (x : β), R v x → x ∈ bs → ∀ (h : Heap) (tk : Nat), (∀ b o, s.heap.get? b = some o → h.get? b = some o) →
      wpAny (model prog w) A.in1.in1 (call f [v]) (KeyPure (k x) { s with heap := h, toks := tk }) (fun _ _ => False) { s with heap := h, toks := tk })
    (h : ∀ out c h' tk (h1 : Heap), (∀ b o, s.heap.get? b = some o → h1.get? b = some o) → (∀ b o, h1.get? b = some o → h'.get? b = some o) → h'.get? h1.objs.size = some (seqObj "list" (List.toArray out) c) → out.length = bs.length → EachIs R out (bs.mergeSort (dataLe b k)) →
      Q (.ref h1.objs.size) { s with heap := h', toks := tk }) :
    wpAny (model prog w) A (call (.builtin "sorted") [.ref l] kw) Q E s := by
  obtain ⟨o, ho, hcl, n, hd⟩ := id hl
  have big : vs.length ≤ sizeLine := by rw [e.length]; exact hL
  refine call_function_entry_kw kind_sorted plain_sorted entry_sorted ha1 ?_
  refine wpAny_bind (wpAny_pure ?_)
  refine wpAny_bind (wpAny_collect_seq l (.inr rfl) ho hcl hd (fun h1 keep => ?_) (by rw [List.size_toArray]; exact big))
  refine wpAny_bind (wpAny_newList ?_ big)
  refine wpAny_bind (wpAny_holding ?_)
  have fr : s.heap.get? h1.objs.size = none := by
    cases z : s.heap.get? h1.objs.size with
    | none => rfl
    | some u => exact absurd (Heap.lt_size (keep _ _ z)) (Nat.lt_irrefl _)
  have ho1 : (h1.push { cls := .type "list", data := .seq vs.toArray }).get? h1.objs.size = some (seqObj "list" vs.toArray 0) := Heap.get?_push_size _ rfl
  have up : ∀ {g : Heap}, KeepsBut h1.objs.size (h1.push { cls := .type "list", data := .seq vs.toArray }) g → ∀ b o, s.heap.get? b = some o → g.get? b = some o := fun {g} kp b o q =>
    kp b o (fun z => by rw [z, fr] at q; cases q) (Heap.get?_push_of_some _ (keep b o q))
  refine list_sort_key_data (A := A.in1) (s := { s with heap := h1.push { cls := .type "list", data := .seq vs.toArray } }) k ho1 e hal hk hL (fun x hx => hu x hx) (ha2 _) (ht _) (fun v x hR hx g tk kp => turn v x hR hx g tk (up kp)) fun out c h' tk kp hD hlen hE => ?_
  exact wpAny_pure ⟨_, rfl, h out c h' tk h1 keep (fun b o q => kp b o (Nat.ne_of_lt (Heap.lt_size q)) (Heap.get?_push_of_some _ q)) hD hlen hE⟩
def tSortLamT (K : PySem.W.Frag) (T : List (Addr × Str)) (RK : Hp → V → Str → Prop) (te : TE) : TE := fun σ H Q => te σ H fun v H1 => Tabs T H1 ∧ ∃ (a : Addr) (bs : List (V × Str)), v = .ref a ∧ SqT K H1 a (bs.map (·.1)) ∧ (∀ b ∈ bs, RK H1 b.1 b.2) ∧
  ∀ (p : Addr) (H2 : Hp), ExtN H1 H2 → Tabs T H2 → H2 p = none → Q (.ref p) (upd H2 p (.lst ((sortBy bs).map (·.1))))
section
variable {X : Cx}
theorem pe_sortLamTP {T : List (Addr × Str)} {te : TE} {c P : Addr} {k : Nat} {e : Expr} {params : Arguments} {body : Expr} {scope : Scope} {x : Str} {p lpos kpos pos : Pos} {R : Heap → Value → Str → Prop} {RK : Hp → V → Str → Prop}
    (hkey : KeyEP X.K X.prog X.w scope x body R) (hR : ∀ pins s σ H b u v, Inv X pins σ H s → RK H b u → RelV b v → R s.heap v u) (hRk : ∀ (h h' : Heap) v u, (∀ b o, h.get? b = some o → h'.get? b = some o) → R h v u → R h' v u) (hRe : ∀ H H' b u, ExtN H H' → RK H b u → RK H' b u)
    (hg : Gl X "sorted") (hm : X.mg "sorted" = none) (ha : PE X e te) (TB : TabB X.base X.mg c P) (hcode : X.env.code = .ref c) (hmT : (P, X.env.qual ++ "<lambda>") ∈ T) (hu : ∀ p ∈ T, p.1 = P → p.2 = X.env.qual ++ "<lambda>") (hr : Room k X.A)
    (hdef : defaultsOf params X.env = ([], [])) (hkind : scope.kind = .function) (hco : scope.isCoroutine = false) (hgen : scope.isGenerator = false) (hnames : ∀ y ∈ scope.names, y.2 ≠ .free ∧ y.2 ≠ .cell) (hx : scope.names.lookup x = some .local)
    (hbind : ∀ (q : Str) (cl : List (Str × Addr)) (pm cv ctv v : Value), bindArgs (PySem.W.kla_fn "<lambda>" q params body scope cl pm cv ctv) ⟨[v], []⟩ = pure [(x, v)])
    (hst : starEach [e] X.env = (false, eval e X.env) :: starEach [] X.env := by rfl) (he : backTo pos (starEach [e] X.env) = (false, eval e X.env) :: backTo pos (starEach [] X.env) := by rfl) (hpl : (backTo pos (starEach [e] X.env)).any (·.1) = false := by rfl) :
    PE X (.Call (.Name "sorted" p) [e] [⟨some "key", .Lambda params body scope lpos, kpos⟩] pos) (tSortLamT X.K T RK te) := by
  refine ⟨fun pins s σ H Q I h => ?_⟩
  refine wpAny_Call_Name_kw (ld_blt (u := .builtin "sorted") I hg hm (by decide +kernel) ?_ (by decide) (by decide))
  refine PyProof.Rows.callWith_kw (thn ((pa_cons ha pa_nil hst).run pos pins s σ H (fun vs H1 => match vs with | [v] => Tabs T H1 ∧ ∃ (a : Addr) (bs : List (V × Str)), v = .ref a ∧ SqT X.K H1 a (bs.map (·.1)) ∧ (∀ b ∈ bs, RK H1 b.1 b.2) ∧ ∀ (p : Addr) (H2 : Hp), ExtN H1 H2 → Tabs T H2 → H2 p = none → Q (.ref p) (upd H2 p (.lst ((sortBy bs).map (·.1)))) | _ => False) I h) fun us s1 ⟨vs, H1, I1, r1, q1⟩ => ?_) he hpl rfl rfl
  obtain ⟨v, rfl⟩ : ∃ v, vs = [v] := by
    match vs, q1 with
    | [v], _ => exact ⟨v, rfl⟩
  obtain ⟨hT, a, bs, rfl, hL, hK, q⟩ := q1
  obtain rfl := Vals.ref1 r1
  show wpAny _ _ (evalAll [do let v ← eval (.Lambda params body scope lpos) X.env; standAt pos; pure v]) _ _ s1
  refine wpAny_evalAll_cons (wpAny_bind (lam_make2 I1 TB hcode hmT hu hT hdef (fun y hy z => absurd z (hnames y hy).1) fun f c' pm ctv H2 s2 I2 eN T2 hf hfn hfr hco' => wpAny_bind (wpAny_standAt (wpAny_pure (wpAny_evalAll_nil ?_)))))
  show wpAny (model X.prog X.w) X.A (call (.builtin "sorted") [.ref a] [("key", .ref f)]) _ _ s2
  have hL2 := (extN_imm eN).seqT hL
  obtain ⟨its, rv, hl, hz⟩ := I2.tuple hL2
  obtain ⟨⟨oc, cvs, ct, hoc, hdc, hvc⟩, _, _⟩ := I2.hok c' _ hco'
  have hbs : ∀ (l : List (V × Str)) (us : List Value), Vals (l.map (·.1)) us → (∀ b ∈ l, b ∈ bs) → PySem.W.EachIs (fun (v : Value) (b : V × Str) => RelV b.1 v ∧ R s2.heap v b.2) us l := by
    intro l
    induction l with
    | nil =>
      intro us r _
      cases r
      exact .nil
    | cons b l ih =>
      intro us r m
      cases r with
      | cons r1 r2 => exact .cons ⟨r1, hR pins s2 σ H2 b.1 b.2 _ I2 (hRe _ _ _ _ eN (hK b (m b (.head _)))) r1⟩ (ih _ r2 fun b' h' => m b' (.tail _ h'))
  have e := hbs bs its rv fun _ h => h
  refine sorted_key_dataT (R := fun (v : Value) (b : V × Str) => RelV b.1 v ∧ R s2.heap v b.2) (b := false) keyD hl e ?_ ?_ ?_ ?_ (PyProof.Rows.ksk_s1 _ _) (fun _ => PyProof.Rows.ksk_l1 _ _) (fun x => PyProof.Rows.ksk_t1 f x) (fun v b hb hm' g tk kp => ?_) fun out cc h' tk h1 kp1 kp hD hlen hout => ?_
  · intro d hd d' hd'
    obtain ⟨b, _, rfl⟩ := List.mem_map.mp hd
    obtain ⟨b', _, rfl⟩ := List.mem_map.mp hd'
    rfl
  · refine .inr fun d hd => ?_
    obtain ⟨b, _, rfl⟩ := List.mem_map.mp hd
    exact ⟨nofun, fun _ => nofun⟩
  · rw [List.length_map] at hz
    exact hz
  · intro b _
    have := hr.units
    show X.A.units + 2 + (PyData.str b.2).depth < _
    have z : (PyData.str b.2).depth ≤ 1 := by show _ ≤ 1; simp [PyData.depth]
    omega
  · have of1 := kp _ _ hf
    refine wpAny_call ?_
    refine PySem.W.kla_callFunE (by have := hr.dp; show X.A.depth < _; omega) of1 rfl hco hgen rfl ⟨c', oc, cvs, ct, rfl, kp _ _ hoc, hdc, hvc⟩ ?_
    rw [hbind]
    refine wpAny_pure (wpAny_newFunctionEnv (fun y hy => (hnames y hy).2) (fun y hy => ?_) (fun h₁ hns hsb => ⟨(I2.nolimit.keeps kp).fresh _ hsb, ?_⟩) hkind)
    · obtain rfl := List.mem_singleton.mp hy
      exact hx
    · have kp1 : ∀ b o, g.get? b = some o → h₁.get? b = some o := fun b o e => hsb.extBut b o (Nat.ne_of_lt (Heap.lt_size e)) (Heap.get?_push_of_some _ e)
      refine PySem.W.kla_codeExpr (wpAny_mono (hkey _ _ (fun _ _ => False) v b.2 _ _ rfl hns (by simp) (hRk _ _ _ _ kp1 (hRk _ _ _ _ kp hb.2)) ((I2.kIn.keeps kp).keeps kp1) ((I2.nolimit.keeps kp).fresh _ hsb) (by have := hr.dp; show X.A.depth + 1 + 3 < _; omega)) (fun y s3 hq => ?_) fun _ _ z => z.elim)
      obtain ⟨⟨t, rfl⟩, h3, tk3, rfl, kp3⟩ := hq
      exact ⟨h3, tk3, rfl, fun b o e => kp3 b o (kp1 b o e), .str _ _⟩
  · have hv : ∀ (l : List (V × Str)) (us : List Value), PySem.W.EachIs (fun (v : Value) (b : V × Str) => RelV b.1 v ∧ R s2.heap v b.2) us l → Vals (l.map (·.1)) us := by
      intro l us e
      induction e with
      | nil => exact .nil
      | cons r _ ih => exact .cons r.1 ih
    have I3 := I2.kept (t' := tk) kp1
    refine ⟨.ref _, upd H2 h1.objs.size (.lst ((sortBy bs).map (·.1))), I3.laid (t' := tk) kp (Nat.le_refl _) ⟨?_, out, cc, hv _ _ hout, hD⟩, rfl, q _ H2 eN T2 (I3.hok.fresh (Nat.le_refl _))⟩
    rw [List.length_map, (sortBy_perm bs).length_eq]
    rw [List.length_map] at hz
    exact hz
/-- sorted(xs, key=lambda x: x.f), f a property that returns a text of the instance -/
theorem pe_sortPropTP {te : TE} {c P C p g : Addr} {k : Nat} {e : Expr} {params : Arguments} {scope : Scope} {x f fld y qual : Str} {st : Stmt} {fd : FuncData} {pp q1 q2 lpos kpos pos p1 p2 p3 : Pos}
    (hg : Gl X "sorted") (hm : X.mg "sorted" = none) (ha : PE X e te) (TB : TabB X.base X.mg c P) (hcode : X.env.code = .ref c) (hr : Room k X.A)
    (cl : Cls X.K C) (hp : PropOf X.K C f p g) (F : Fun X.K y qual st g fd) (hb : Binds X.K fd ["self"] []) (n : NoAttr X.K C fld) (hbody : defBody st = [.Return (some (.Attribute (.Name "self" p1) fld p2)) p3] := by rfl)
    (hk2 : (defScope st).kind = .function := by rfl) (hco2 : (defScope st).isCoroutine = false := by rfl) (hge2 : (defScope st).isGenerator = false := by rfl) (hself : (defScope st).names.lookup ("self" : Str) = some NameKind.local := by rfl) (nocell : ∀ y ∈ (defScope st).names, y.2 ≠ .cell := by decide +kernel)
    (hdef : defaultsOf params X.env = ([], []) := by rfl) (hkind : scope.kind = .function := by rfl) (hco : scope.isCoroutine = false := by rfl) (hgen : scope.isGenerator = false := by rfl) (hnames : ∀ y ∈ scope.names, y.2 ≠ .free ∧ y.2 ≠ .cell := by decide +kernel) (hx : scope.names.lookup x = some .local := by rfl)
    (hbind : ∀ (q : Str) (cl : List (Str × Addr)) (pm cv ctv v : Value), bindArgs (PySem.W.kla_fn "<lambda>" q params (.Attribute (.Name x q1) f q2) scope cl pm cv ctv) ⟨[v], []⟩ = pure [(x, v)] := by intros; rfl)
    (hd : (x == ("__debug__" : Str)) = false := by decide) (hst : starEach [e] X.env = (false, eval e X.env) :: starEach [] X.env := by rfl) (he : backTo pos (starEach [e] X.env) = (false, eval e X.env) :: backTo pos (starEach [] X.env) := by rfl) (hpl : (backTo pos (starEach [e] X.env)).any (·.1) = false := by rfl) :
    PE X (.Call (.Name "sorted" pp) [e] [⟨some "key", .Lambda params (.Attribute (.Name x q1) f q2) scope lpos, kpos⟩] pos) (tSortLamT X.K [(P, X.env.qual ++ "<lambda>")] (RKi C fld) te) := by
  refine pe_sortLamTP (x := x) (R := InsK C fld) (RK := RKi C fld) (key_prop hkind hx hd cl hp F hk2 hco2 hge2 hb n hbody hself nocell) (fun pins s σ H b u v I r rv => ?_) (fun h h' v u e r => insK_keep e r) (fun H H' b u e r => ?_) hg hm ha TB hcode (.head _) (fun q hq _ => by rw [List.mem_singleton.mp hq]) hr hdef hkind hco hgen hnames hx hbind hst he hpl
  · obtain ⟨a, dx, fs, rfl, ea, l⟩ := r
    obtain rfl : v = .ref a := rv
    obtain ⟨mA, O, r, _, _, _⟩ := ins_get I.hok ea
    obtain ⟨t, ht, rt⟩ := RelO.some_of (v := .str u) (o := mA fld) (by rw [← l]; exact r fld)
    obtain ⟨tk, rfl⟩ := rt
    exact ⟨a, dx, mA, tk, rfl, O, ht⟩
  · obtain ⟨a, dx, fs, rfl, ea, l⟩ := r
    exact ⟨a, dx, fs, rfl, e _ _ ea (fun _ z => nomatch z), l⟩
end
end My
namespace My
open PySem PySem.Spec PyProof.Rows L2
section
variable {X : Cx}
/-- t.count(x), t a tuple of texts -/
theorem mt_tup_countS : MtR X "tuple.count" (fun x xs H Q => ∃ (p : Addr) (ys : List Str) (z : Str), x = .ref p ∧ xs = [.str z] ∧ SqT X.K H p (ys.map V.str) ∧ Q (.int (ys.count z : Nat)) H) := by
  intro pins s σ H x xs v us Q I rx rs h
  obtain ⟨p, ys, z, rfl, rfl, hq, q⟩ := h
  cases rx
  obtain ⟨u, rfl, t, rfl⟩ := vals1 rs
  obtain ⟨its, r, pl, hz⟩ := I.tuple hq
  obtain ⟨⟨cls, dd, dt, sl⟩, ho, hc, n, hd⟩ := pl
  simp only at hc hd
  subst hc
  subst hd
  have e : ∀ (ws : List Str) (us : List Value), Vals (ws.map V.str) us → us.countP (eqU (.str z)) = ws.count z := by
    intro ws
    induction ws with
    | nil =>
      intro us r
      cases r
      rfl
    | cons w ws ih =>
      intro us r
      cases r with
      | cons r1 r2 =>
        rw [List.countP_cons, ih _ r2, List.count_cons, eqU_of r1 rfl]
        rfl
  refine call_meets PySem.F.slot_tuple_count ⟨_, ho, rfl⟩ PySem.F.entry_tuple_count (PySem.F.args_tuple_count_2 _ _) (SeqAt.tuple_countAt p its.toArray n dd sl (.str z t) (eqU (.str z)))
    ⟨ho, fun w hw => mem_eqAt (x := .str z) ⟨t, rfl⟩ rfl r (flat_strs ys) w (by simpa using hw), ⟨.int (ys.count z : Nat), H, I.tok _, ⟨s.toks, by rw [show its.toArray.toList = its from rfl, e ys its r]⟩, q⟩⟩
end
end My
namespace My
open PySem PySem.Spec PyProof.Rows L2
section
variable {X : Cx}
/-! sorted of a list of data that can be compared place by place: the items told by their data -/
def sortD (bs : List (V × PyData)) : List (V × PyData) := bs.mergeSort (PySem.W.dataLe false fun b => b.2)
theorem sortD_perm (bs : List (V × PyData)) : (sortD bs).Perm bs := List.mergeSort_perm _ _
def rSortedD (K : PySem.W.Frag) : List V → Hp → VK → Prop := fun xs H Q => ∃ (a : Addr) (bs : List (V × PyData)), xs = [.ref a] ∧ SqL K H a (bs.map (·.1)) ∧ (∀ b ∈ bs, Dp K H b.1 b.2 ∧ b.2.depth ≤ 32) ∧ PySem.W.AllAlike (bs.map (·.2)) ∧ PySem.W.Sortable (bs.map (·.2)) ∧
  ∀ p, H p = none → Q (.ref p) (upd H p (.lst ((sortD bs).map (·.1))))
theorem cr_sortedD (hu : X.A.units + 64 < cLine) : CallR X (.builtin "sorted") (rSortedD X.K) := by
  intro pins s σ H xs us Q I r h
  obtain ⟨a, bs, rfl, hq, hb, hal, hk, q⟩ := h
  obtain rfl := Vals.ref1 r
  obtain ⟨its, rv, hl, hz⟩ := I.list hq
  have hbs : ∀ (l : List (V × PyData)) (us : List Value), Vals (l.map (·.1)) us → (∀ b ∈ l, b ∈ bs) → PySem.W.EachIs (fun (v : Value) (b : V × PyData) => RelV b.1 v) us l ∧ PySem.W.EachIs (fun (v : Value) (b : V × PyData) => ∃ as, Reads s.heap v b.2 as) us l := by
    intro l
    induction l with
    | nil =>
      intro us r _
      cases r
      exact ⟨.nil, .nil⟩
    | cons b l ih =>
      intro us r m
      cases r with
      | cons r1 r2 =>
        obtain ⟨i1, i2⟩ := ih _ r2 fun b' h' => m b' (.tail _ h')
        exact ⟨.cons r1 i1, .cons (L2.Dp.reads I b.2 b.1 _ (hb b (m b (.head _))).1 r1) i2⟩
  obtain ⟨e1, e2⟩ := hbs bs its rv fun _ h => h
  refine PySem.W.sorted_data (R := fun (v : Value) (b : V × PyData) => RelV b.1 v) (enc := fun b => b.2) hl.isList e1 e2 hal hk (by rw [List.length_map] at hz; exact hz) (fun b hb' => by have := (hb b hb').2; omega) fun out hlen hE => ?_
  have hv : ∀ (l : List (V × PyData)) (us : List Value), PySem.W.EachIs (fun (v : Value) (b : V × PyData) => RelV b.1 v) us l → Vals (l.map (·.1)) us := by
    intro l us e
    induction e with
    | nil => exact .nil
    | cons r _ ih => exact .cons r ih
  obtain ⟨c, hat⟩ := sortedAll_at s.heap its out.toArray
  have big : ((sortD bs).map (·.1)).length ≤ sizeLine := by
    rw [List.length_map, (sortD_perm bs).length_eq]
    rw [List.length_map] at hz
    exact hz
  exact ⟨.ref _, upd H (s.heap.objs.size + 1) (.lst ((sortD bs).map (·.1))), I.laid (t' := s.toks) (fun _ _ e => sortedAll_old e) (Nat.le_succ _) ⟨big, out, c, hv _ _ hE, hat⟩, rfl, q _ (I.hok.fresh (Nat.le_succ _))⟩
end
end My
namespace My
open PySem PySem.Spec PyProof.Rows L2 LamX
/-! sorted by a lambda among several tables: of a tuple by a property, of a list of tuples by the first -/
section
variable {X : Cx}
/-- sorted(xs, key=lambda x: x.f), f a property that returns a text of the instance -/
theorem pe_sortPropTT {T : List (Addr × Str)} {te : TE} {c P C p g : Addr} {k : Nat} {e : Expr} {params : Arguments} {scope : Scope} {x f fld y qual : Str} {st : Stmt} {fd : FuncData} {pp q1 q2 lpos kpos pos p1 p2 p3 : Pos}
    (hmT : (P, X.env.qual ++ "<lambda>") ∈ T) (hu : ∀ p ∈ T, p.1 = P → p.2 = X.env.qual ++ "<lambda>") (hg : Gl X "sorted") (hm : X.mg "sorted" = none) (ha : PE X e te) (TB : TabB X.base X.mg c P) (hcode : X.env.code = .ref c) (hr : Room k X.A)
    (cl : Cls X.K C) (hp : PropOf X.K C f p g) (F : Fun X.K y qual st g fd) (hb : Binds X.K fd ["self"] []) (n : NoAttr X.K C fld) (hbody : defBody st = [.Return (some (.Attribute (.Name "self" p1) fld p2)) p3] := by rfl)
    (hk2 : (defScope st).kind = .function := by rfl) (hco2 : (defScope st).isCoroutine = false := by rfl) (hge2 : (defScope st).isGenerator = false := by rfl) (hself : (defScope st).names.lookup ("self" : Str) = some NameKind.local := by rfl) (nocell : ∀ y ∈ (defScope st).names, y.2 ≠ .cell := by decide +kernel)
    (hdef : defaultsOf params X.env = ([], []) := by rfl) (hkind : scope.kind = .function := by rfl) (hco : scope.isCoroutine = false := by rfl) (hgen : scope.isGenerator = false := by rfl) (hnames : ∀ y ∈ scope.names, y.2 ≠ .free ∧ y.2 ≠ .cell := by decide +kernel) (hx : scope.names.lookup x = some .local := by rfl)
    (hbind : ∀ (q : Str) (cl : List (Str × Addr)) (pm cv ctv v : Value), bindArgs (PySem.W.kla_fn "<lambda>" q params (.Attribute (.Name x q1) f q2) scope cl pm cv ctv) ⟨[v], []⟩ = pure [(x, v)] := by intros; rfl)
    (hd : (x == ("__debug__" : Str)) = false := by decide) (hst : starEach [e] X.env = (false, eval e X.env) :: starEach [] X.env := by rfl) (he : backTo pos (starEach [e] X.env) = (false, eval e X.env) :: backTo pos (starEach [] X.env) := by rfl) (hpl : (backTo pos (starEach [e] X.env)).any (·.1) = false := by rfl) :
    PE X (.Call (.Name "sorted" pp) [e] [⟨some "key", .Lambda params (.Attribute (.Name x q1) f q2) scope lpos, kpos⟩] pos) (tSortLamT X.K T (RKi C fld) te) := by
  refine pe_sortLamTP (x := x) (R := InsK C fld) (RK := RKi C fld) (key_prop hkind hx hd cl hp F hk2 hco2 hge2 hb n hbody hself nocell) (fun pins s σ H b u v I r rv => ?_) (fun h h' v u e r => insK_keep e r) (fun H H' b u e r => ?_) hg hm ha TB hcode hmT hu hr hdef hkind hco hgen hnames hx hbind hst he hpl
  · obtain ⟨a, dx, fs, rfl, ea, l⟩ := r
    obtain rfl : v = .ref a := rv
    obtain ⟨mA, O, r, _, _, _⟩ := ins_get I.hok ea
    obtain ⟨t, ht, rt⟩ := RelO.some_of (v := .str u) (o := mA fld) (by rw [← l]; exact r fld)
    obtain ⟨tk, rfl⟩ := rt
    exact ⟨a, dx, mA, tk, rfl, O, ht⟩
  · obtain ⟨a, dx, fs, rfl, ea, l⟩ := r
    exact ⟨a, dx, fs, rfl, e _ _ ea (fun _ z => nomatch z), l⟩
/-- sorted(xs, key=lambda x: x[0]), the items tuples whose first is a text -/
theorem pe_sortFirstT {T : List (Addr × Str)} {te : TE} {c P : Addr} {k : Nat} {e : Expr} {params : Arguments} {scope : Scope} {x : Str} {j : Nat} {p p1 p2 p3 lpos kpos pos : Pos}
    (hmT : (P, X.env.qual ++ "<lambda>") ∈ T) (hu : ∀ p ∈ T, p.1 = P → p.2 = X.env.qual ++ "<lambda>") (hg : Gl X "sorted") (hm : X.mg "sorted" = none) (ha : PE X e te) (TB : TabB X.base X.mg c P) (hcode : X.env.code = .ref c) (hr : Room k X.A)
    (hdef : defaultsOf params X.env = ([], []) := by rfl) (hkind : scope.kind = .function := by rfl) (hco : scope.isCoroutine = false := by rfl) (hgen : scope.isGenerator = false := by rfl) (hnames : ∀ y ∈ scope.names, y.2 ≠ .free ∧ y.2 ≠ .cell := by decide +kernel) (hx : scope.names.lookup x = some .local := by rfl)
    (hbind : ∀ (q : Str) (cl : List (Str × Addr)) (pm cv ctv v : Value), bindArgs (PySem.W.kla_fn "<lambda>" q params (.Subscript (.Name x p1) (.Constant (.int 0) j p2) p3) scope cl pm cv ctv) ⟨[v], []⟩ = pure [(x, v)] := by intros; rfl)
    (hd : (x == ("__debug__" : Str)) = false := by decide) (hst : starEach [e] X.env = (false, eval e X.env) :: starEach [] X.env := by rfl) (he : backTo pos (starEach [e] X.env) = (false, eval e X.env) :: backTo pos (starEach [] X.env) := by rfl) (hpl : (backTo pos (starEach [e] X.env)).any (·.1) = false := by rfl) :
    PE X (.Call (.Name "sorted" p) [e] [⟨some "key", .Lambda params (.Subscript (.Name x p1) (.Constant (.int 0) j p2) p3) scope lpos, kpos⟩] pos) (tSortLam X.K T (RKt X.K) te) := by
  refine pe_sortLam (x := x) (R := TupK) (RK := RKt X.K) (key_first hkind hx hd) (fun pins s σ H b u v I r rv => ?_) (fun h h' v u e r => tupK_keep e r) (fun H H' b u e r => ?_) hg hm ha TB hcode hmT hu hr hdef hkind hco hgen hnames hx hbind hst he hpl
  · obtain ⟨t, xs, rfl, hT⟩ := r
    obtain rfl : v = .ref t := rv
    obtain ⟨its, vs, pl, _⟩ := I.tuple hT
    cases vs with
    | cons r1 r2 =>
      obtain ⟨tk, rfl⟩ := r1
      exact ⟨t, tk, _, rfl, pl⟩
  · obtain ⟨t, xs, rfl, hT⟩ := r
    exact ⟨t, xs, rfl, (extN_imm e).seqT hT⟩
end
end My
namespace My
open PySem PySem.Spec PyProof.Rows L2
section
variable {X : Cx} {K : PySem.W.Frag}
/-! t.count(x), t.index(x) of texts within a comprehension: K told -/
theorem mt_tup_countSK (h : X.K = K) : MtR X "tuple.count" (fun x xs H Q => ∃ (p : Addr) (ys : List Str) (z : Str), x = .ref p ∧ xs = [.str z] ∧ SqT K H p (ys.map V.str) ∧ Q (.int (ys.count z : Nat)) H) := by
  subst h
  exact mt_tup_countS
theorem mt_tup_indexK (h : X.K = K) : MtR X "tuple.index" (fun x xs H Q => ∃ p, ∃ ys : List Str, ∃ z j, x = .ref p ∧ xs = [.str z] ∧ SqT K H p (ys.map V.str) ∧ ys[j]? = some z ∧ (∀ m, m < j → ys[m]? ≠ some z) ∧ Q (.int (j : Nat)) H) := by
  subst h
  exact mt_tup_index
variable {o e : Expr} {es : List Expr} {to : TE} {t : TA} {name : Str} {apos cpos : Pos} {T id : String} {r : V → List V → Hp → VK → Prop}
theorem pe_bmK (h : X.K = K) (pa : PlainAttrs T) (slot : Slot T name id) (hty : typeOf (.builtin id) = pure (.type "method_descriptor")) (hm : MtR X id r) (ho : PE X o to) (ha : PA X (e :: es) t)
    (hbase : attributeBase o name X.env (eval o X.env) = eval o X.env := by rfl)
    (hfew : ((backTo cpos (starEach (e :: es) X.env)).all (fun x => !x.1) && (backToKw cpos (keywordEach [] X.env)).all (fun x => x.1.isSome)
      && decide ((e :: es).length + ([] : List Keyword).length + (if ([] : List Keyword).isEmpty then 0 else 1) < 30)) = true := by rfl)
    (hline : (apos.endLine == cpos.line) = true := by rfl) (hs : starEach (e :: es) X.env = (false, eval e X.env) :: starEach es X.env := by rfl) (hplain : (backTo cpos (starEach es X.env)).any (·.1) = false := by rfl) :
    PE X (.Call (.Attribute o name apos) (e :: es) [] cpos) (tBM K T r to t) := by
  subst h
  exact pe_bm pa slot hty hm ho ha hbase hfew hline hs hplain
theorem pe_bm0K (h : X.K = K) (pa : PlainAttrs T) (slot : Slot T name id) (hty : typeOf (.builtin id) = pure (.type "method_descriptor")) (hm : MtR X id r) (ho : PE X o to)
    (hbase : attributeBase o name X.env (eval o X.env) = eval o X.env := by rfl) (hline : (apos.endLine == cpos.line) = true := by rfl) : PE X (.Call (.Attribute o name apos) [] [] cpos) (tBM0 K T r to) := by
  subst h
  exact pe_bm0 pa slot hty hm ho hbase hline
end
end My
namespace My
open PySem PySem.Spec PyProof.Rows L2
/-! a tuple whose object is told (its dict is none): its methods can be called -/
def TupF (H : Hp) (a : Addr) (xs : List V) : Prop := ∃ o : Obj, H a = some (.frz o (.tup xs)) ∧ o.dict = none
theorem TupF.seq {K : PySem.W.Frag} {H : Hp} {a : Addr} {xs : List V} (h : TupF H a xs) : SqT K H a xs := by
  obtain ⟨o, h, _⟩ := h
  exact .inl (.inr ⟨o, h⟩)
theorem TupF.imm {H H' : Hp} {a : Addr} {xs : List V} (h : TupF H a xs) (i : Imm H H') : TupF H' a xs := by
  obtain ⟨o, h, e⟩ := h
  exact ⟨o, i _ _ h rfl, e⟩
theorem TupF.same {H H' : Hp} {a : Addr} {xs : List V} (h : TupF H a xs) (s : Same H H') : TupF H' a xs := h.imm s.imm
section
variable {X : Cx} {K : PySem.W.Frag}
theorem call_tuple_ofF : CallR X (.type "tuple") (fun xs H Q => ∃ p ys, xs = [.ref p] ∧ SqL X.K H p ys ∧ ∀ l o, H l = none → o.dict = none → Q (.ref l) (upd H l (.frz o (.tup ys)))) := by
  intro pins s σ H xs us Q I r h
  obtain ⟨p, ys, rfl, hq, q⟩ := h
  obtain ⟨u, rfl, rx⟩ := vals1 r
  cases rx
  obtain ⟨its, r', pl, hz⟩ := I.list hq
  have hlen := r'.length
  refine call_tuple_list pl.isList (fun h' kp => ?_) (by simp only [List.size_toArray] <;> omega)
  have I1 : Inv X pins σ H { s with heap := h' } := I.kept (t' := s.toks) kp
  have I2 : Inv X pins σ (upd H h'.objs.size (.frz { cls := .type "tuple", data := .seq its.toArray } (.tup ys))) { s with heap := h'.push { cls := .type "tuple", data := .seq its.toArray } } :=
    I1.laid (t' := s.toks) (fun b o e => Heap.get?_push_of_some _ e) (Nat.le_refl _) (show ObjOk X.prog X.w _ _ _ (.frz _ (.tup ys)) from ⟨Heap.get?_push_size _ rfl, hz, its, r', IsTup.new _ _⟩)
  exact ⟨.ref h'.objs.size, _, I2, rfl, q _ _ (I1.hok.fresh (Nat.le_refl _)) rfl⟩
theorem call_tuple_ofFK (h : X.K = K) : CallR X (.type "tuple") (fun xs H Q => ∃ p ys, xs = [.ref p] ∧ SqL K H p ys ∧ ∀ l o, H l = none → o.dict = none → Q (.ref l) (upd H l (.frz o (.tup ys)))) := by
  subst h
  exact call_tuple_ofF
variable {o e : Expr} {es : List Expr} {to : TE} {t : TA} {name : Str} {apos cpos : Pos} {id : String} {r : V → List V → Hp → VK → Prop}
def tBMT (r : V → List V → Hp → VK → Prop) (to : TE) (t : TA) : TE := fun σ H Q => to σ H fun x H1 => (∃ p ys, x = .ref p ∧ TupF H1 p ys) ∧ t σ H1 fun xs H2 => r x xs H2 Q
theorem pe_bmT (slot : Slot "tuple" name id) (hty : typeOf (.builtin id) = pure (.type "method_descriptor")) (hm : MtR X id r) (ho : PE X o to) (ha : PA X (e :: es) t)
    (hbase : attributeBase o name X.env (eval o X.env) = eval o X.env := by rfl)
    (hfew : ((backTo cpos (starEach (e :: es) X.env)).all (fun x => !x.1) && (backToKw cpos (keywordEach [] X.env)).all (fun x => x.1.isSome)
      && decide ((e :: es).length + ([] : List Keyword).length + (if ([] : List Keyword).isEmpty then 0 else 1) < 30)) = true := by rfl)
    (hline : (apos.endLine == cpos.line) = true := by rfl) (hs : starEach (e :: es) X.env = (false, eval e X.env) :: starEach es X.env := by rfl) (hplain : (backTo cpos (starEach es X.env)).any (·.1) = false := by rfl) :
    PE X (.Call (.Attribute o name apos) (e :: es) [] cpos) (tBMT r to t) := by
  refine ⟨fun pins s σ H Q I h => ?_⟩
  refine wpAny_Call_method_late hbase hfew hline rfl (thn (ho.run pins s σ H _ I h) fun v s1 ⟨x, H1, I1, r1, ty, q1⟩ => ?_)
  obtain ⟨p, ys, rfl, oo, hp, hd⟩ := ty
  obtain rfl : v = .ref p := r1
  obtain ⟨hg, hz⟩ := I1.hok _ _ hp
  obtain ⟨_, its, _, hT⟩ := hz
  have h1 : s1.TypeIs (.ref p) "tuple" := hT.typeIs
  have h2 : ∀ a, Value.ref p = .ref a → ∃ ob, s1.heap.get? a = some ob ∧ ob.dict = none := fun a e => by
    cases e
    exact ⟨oo, hg, hd⟩
  refine ⟨"tuple", id, PySem.F.plainAttrs_tuple, slot, hty, h1, h2, ?_⟩
  have hA := ha.run cpos pins s1 σ H1 _ I1 q1
  rw [hs] at hA ⊢
  refine Calls.callWith_builtin (by show (false || (backTo cpos (starEach es X.env)).any (·.1)) = false; rw [hplain] <;> rfl) (Calls.evalArgs_plain ?_)
  exact thn hA fun us s2 ⟨vs, H2, I2, r2, q2⟩ => hm pins s2 σ H2 (.ref p) vs _ us Q I2 rfl r2 q2
end
end My
namespace My
open PySem PySem.Spec PyProof.Rows L2
/-! None and None -/
def DNN : EqvB := fun x y b _ => x = .non ∧ y = .non ∧ b = true
theorem monB_nn : MonB DNN := fun _ _ _ _ _ _ d => d
section
variable {X : Cx} {n : Nat}
theorem rcB_nnNe : RcB X n true DNN := by
  intro A pins s σ H x y u v b sb I rx ry d
  obtain ⟨rfl, rfl, rfl⟩ := d
  cases rx
  cases ry
  exact PySem.EqNone.ne_none_none ⟨rfl, H, I, Ext.rfl'⟩
theorem rcB_nnEq : RcB X n false DNN := by
  intro A pins s σ H x y u v b sb I rx ry d
  obtain ⟨rfl, rfl, rfl⟩ := d
  cases rx
  cases ry
  exact PySem.EqNone.eq_none_none ⟨rfl, H, I, Ext.rfl'⟩
end
end My
/-! min(x, y) of two data -/
namespace My
open PySem PySem.W PySem.Spec PyProof.Rows
section
variable {prog : Program} {w : World} {A : Around} {E : Value → Shared → Prop} {s : Shared}
theorem call_min_twoH {a b : Value} {Q : Value → Shared → Prop}
    (h : wpAny (model prog w) A.in1 (pyIter (.ref s.heap.objs.size)) (fun it s₂ => ∃ I fp wr G n P St H bt, it = .ref I ∧ WalksS prog w A.in1 I fp wr G n P St ∧ St 0 s₂ ∧ (∀ b ∈ fp, b < s₂.heap.objs.size) ∧ 0 < n ∧
      (∀ b o, H.get? b = some o → b ∉ wr) ∧ (∀ b o, H.get? b = some o → s₂.heap.get? b = some o) ∧ CmpIn prog w A.in1 .Lt H P bt ∧ ∀ v s', P (argBest bt (n - 1)) v → Moved wr G s₂ s' → Q v s') E
      { s with heap := s.heap.push { cls := .type "tuple", data := .seq #[a, b] } }) :
    wpAny (model prog w) A (call (.builtin "min") [a, b]) Q E s := by
  have hname : (toString "min" ++ toString ".loop" : String) = "min.loop" := by decide
  refine call_function_tree PySem.F.kind_min PySem.F.plain_min PySem.F.entry_min (PySem.F.args_min2 _ _) ?_
  show wpAny _ A.in1 (Builtin.Builtins.bindParams "min" ["key", "default"] 0 ⟨[], []⟩ >>= _) _ _ s
  refine wpAny_bind (wpAny_of_eq (show Builtin.Builtins.bindParams "min" ["key", "default"] 0 ⟨[], []⟩ = pure [none, none] from rfl) ?_)
  show wpAny _ A.in1 (newTuple [a, b] >>= _) _ _ s
  refine wpAny_bind (wpAny_newObj_type ?_)
  refine wpAny_bind (wpAny_mono h (fun it s₂ h₂ => ?_) fun _ _ e => e)
  obtain ⟨I, fp, wr, G, n, P, St, H, bt, rfl, W, hst, hfp, hn, hw, hkeep, hcmp, hQ⟩ := h₂
  refine wpAny_bind (wpAny_newObj_type ?_)
  have hSf : s₂.heap.objs.size ∉ fp := fun hm => Nat.lt_irrefl _ (hfp _ hm)
  rw [hname]
  refine wpAny_pure ⟨plainId_quiet PySem.F.plain_min_loop _, codeAny_min_loop_firstH W H hw bt hcmp s₂.heap.objs.size hSf (fresh_in hkeep) _ hn (fun b o e => Heap.get?_push_of_some _ (hkeep b o e)) (W.frame 0 s₂ _ s₂.toks hst (Nat.le_refl _) fun b _ o e => Heap.get?_push_of_some _ e) (Heap.get?_push_size _ rfl) fun v s' hP hm => ?_⟩
  exact hQ v s' hP (Moved.drop_new (tk := s₂.toks) hm (Nat.le_refl _))
theorem min_two_data {a b : Value} {x y : PyData} {as bs : List Addr} {Q : Value → Shared → Prop} (hh : A.handled = none) (ra : Reads s.heap a x as) (rb : Reads s.heap b y bs) (al : AlikeAll [x, y]) (hu : A.units + 1 + PyData.depthAll [x, y] < cLine)
    (h : ∀ h' tk, (∀ b o, s.heap.get? b = some o → h'.get? b = some o) → Q (if dataLt y x = true then b else a) { s with heap := h', toks := tk }) :
    wpAny (model prog w) A (call (.builtin "min") [a, b]) Q E s := by
  have up : ∀ c o, s.heap.get? c = some o → (s.heap.push { cls := .type "tuple", data := .seq #[a, b] }).get? c = some o := fun c o e => Heap.get?_push_of_some _ e
  have hT : (s.heap.push { cls := .type "tuple", data := .seq #[a, b] }).IsTuple s.heap.objs.size #[a, b] := ⟨_, Heap.get?_push_size _ rfl, rfl, 0, rfl⟩
  have hr : ReadsAll (s.heap.push { cls := .type "tuple", data := .seq #[a, b] }) [a, b] [x, y] (as ++ (bs ++ [])) := .cons (Reads.keeps up ra) (.cons (Reads.keeps up rb) .nil)
  refine call_min_twoH (iter_tupleW (A := A.in1) hh hT fun s₂ e W st hfp hw hk => ?_)
  refine ⟨_, _, _, _, _, _, _, _, _, rfl, W, st, hfp, (show 0 < 2 by decide), hw, hk, cmpIn_lt (A := A.in1) (s := { s with heap := s.heap.push { cls := .type "tuple", data := .seq #[a, b] } }) hr al (by show A.units + 1 + _ < _; exact hu), fun v s' hP m => ?_⟩
  obtain ⟨h', tk, rfl, hk'⟩ := moved_old e rfl m
  have := h h' tk fun c o e => hk' c o (up c o e)
  have hv : v = if dataLt y x = true then b else a := by
    have hP' : (#[a, b] : Array Value)[argBest (fun i j => dataLt ([x, y].getD i .none) ([x, y].getD j .none)) 1]? = some v := hP
    have e1 : argBest (fun i j => dataLt ([x, y].getD i .none) ([x, y].getD j .none)) 1 = if dataLt y x = true then 1 else 0 := rfl
    rw [e1] at hP'
    by_cases hb : dataLt y x = true
    · rw [if_pos hb] at hP' ⊢
      exact (Option.some.inj hP').symm
    · rw [if_neg hb] at hP' ⊢
      exact (Option.some.inj hP').symm
  rw [hv]
  exact this
end
end My
namespace My
open PySem PySem.Spec PyProof.Rows L2
section
variable {X : Cx} {K : PySem.W.Frag}
def rMin2D (K : PySem.W.Frag) : List V → Hp → VK → Prop := fun vs H Q => ∃ (u v : V) (x y : PyData), vs = [u, v] ∧ Dp K H u x ∧ Dp K H v y ∧ PySem.W.AlikeAll [x, y] ∧ PyData.depthAll [x, y] ≤ 32 ∧ Q (if PySem.W.dataLt y x = true then v else u) H
theorem cr_min2D (hc : X.calm = true) (hu : X.A.units + 64 < cLine) : CallR X (.builtin "min") (rMin2D X.K) := by
  intro pins s σ H vs us Q I r h
  obtain ⟨u, v, x, y, rfl, hx, hy, al, hd, q⟩ := h
  obtain ⟨a, b, rfl, ra, rb⟩ := vals2 r
  obtain ⟨as, r1⟩ := Dp.reads I x u a hx ra
  obtain ⟨bs, r2⟩ := Dp.reads I y v b hy rb
  refine min_two_data (I.ok.hd hc) r1 r2 al (by omega) fun h' tk hk => ?_
  by_cases hb : PySem.W.dataLt y x = true
  · rw [if_pos hb] at q ⊢
    exact ⟨v, H, I.kept hk, rb, q⟩
  · rw [if_neg hb] at q ⊢
    exact ⟨u, H, I.kept hk, ra, q⟩
theorem cr_min2DK (h : X.K = K) (hc : X.calm = true) (hu : X.A.units + 64 < cLine) : CallR X (.builtin "min") (rMin2D K) := by
  subst h
  exact cr_min2D hc hu
end
end My
namespace My
open PySem PySem.Spec PyProof.Rows L2
section
variable {X : Cx}
/-! ### sorted(tuple of ints) -/
def rSortedTI (K : PySem.W.Frag) : List V → Hp → VK → Prop := fun xs H Q => ∃ (a : Addr) (ns : List Int), xs = [.ref a] ∧ SqT K H a (ns.map V.int) ∧ ns.length < 64 ∧
  ∀ (ms : List Int) (p : Addr), ms.Perm ns → ms.Pairwise (· ≤ ·) → H p = none → Q (.ref p) (upd H p (.lst (ms.map V.int)))
theorem cr_sortedTI : CallR X (.builtin "sorted") (rSortedTI X.K) := by
  intro pins s σ H xs us Q I r h
  obtain ⟨a, ns, rfl, hq, hl, q⟩ := h
  obtain rfl := Vals.ref1 r
  obtain ⟨its, rv, pt, hz⟩ := I.tuple hq
  have hlen : its.length = ns.length := by rw [← rv.length, List.length_map]
  obtain ⟨o, ho, hcl, n, hd⟩ := id pt
  refine Calls.call_function_entry kind_sorted plain_sorted entry_sorted (args_sorted1 _) ?_
  refine wpAny_bind (wpAny_pure ?_)
  have big : its.length ≤ sizeLine := by rw [hlen]; exact Nat.le_of_lt (sizeLine_of (by omega))
  refine wpAny_bind (wpAny_collect_seq a (.inr rfl) ho hcl hd (fun h' keep => ?_) (by rw [List.size_toArray]; exact big))
  have I1 : L2.Inv X pins σ H { s with heap := h' } := I.kept (t' := s.toks) keep
  refine wpAny_bind (wpAny_newList ?_ big)
  have I2 := I1.lnew (t' := s.toks) rv (by rw [List.length_map, ← hlen]; exact big)
  have hn1 : H h'.objs.size = none := I1.hok.fresh (Nat.le_refl _)
  refine wpAny_bind (wpAny_holding ?_)
  refine thn (mt_sort (X := inCx X) pins _ σ _ (.ref h'.objs.size) [] (.ref h'.objs.size) [] (fun v H' => ∃ ms : List Int, ms.Perm ns ∧ ms.Pairwise (· ≤ ·) ∧ H' = upd H h'.objs.size (.lst (ms.map V.int))) (inv_in I2) rfl .nil ⟨_, ns, rfl, rfl, upd_same, by omega, fun ms h1 h2 => ⟨ms, h1, h2, upd_upd⟩⟩) fun v s3 ⟨x, H3, I3, _, ms, py, sy, e3⟩ => ?_
  subst e3
  exact wpAny_pure ⟨_, rfl, .ref h'.objs.size, _, inv_out I3, rfl, q ms _ py sy hn1⟩
end
end My
/-! sorted(d) of a dict whose keys are tuples of ints -/
namespace My
open PySem PySem.Spec PyProof.Rows L2
theorem dataLe_tups {β : Type} (x : β → List Int) : PySem.W.dataLe false (fun b => .tuple ((x b).map .int)) = fun p q => decide (x p ≤ x q) := by
  funext p q
  show (!PySem.W.dataLt (.tuple ((x q).map .int)) (.tuple ((x p).map .int))) = _
  rw [PySem.W.dataLt_tuple]
  have := PySem.W.dataLt_ints (x q) (x p)
  unfold PySem.W.rowLt at this
  rw [this]
  by_cases h : x q < x p
  · have : ¬ x p ≤ x q := fun z => absurd h (List.not_lt.mpr z)
    simp [h, this]
  · have : x p ≤ x q := List.not_lt.mp h
    simp [h, this]
section
open PySem.W
variable {prog : Program} {w : World} {A : Around} {E : Value → Shared → Prop} {s : Shared}
theorem sorts_one {vs : List Value} {ds : List PyData} (e : EachIs (fun v d => ∃ as, Reads s.heap v d as) vs ds) (hal : AllAlike ds) (hn : ∀ d ∈ ds, d ≠ .none) (hl : vs.length ≤ 1) (hu : ∀ d, d ∈ ds → A.units + d.depth < cLine) : SortsAt prog w A s (dataKind s.heap ds) vs := by
  have room : ∀ {d d' : PyData}, d ∈ ds → A.units + min d.depth d'.depth < cLine := fun {d d'} hd => Nat.lt_of_le_of_lt (Nat.add_le_add_left (Nat.min_le_left _ _) _) (hu d hd)
  refine ⟨fun v hv => ?_, general', ?_, fun h2 => absurd h2 (by omega)⟩
  · obtain ⟨d, hd, as, r⟩ := e.left v hv
    exact ⟨_, dataKind_some hal hd r⟩
  · intro E x y a b Q ha hb hq
    obtain ⟨d, as, hd, ra, rfl⟩ := dataKind_inv ha
    obtain ⟨d', as', hd', rb, rfl⟩ := dataKind_inv hb
    show wpAny _ _ (oneLt' false x y) _ _ _
    exact oneLt_alike (fun z => nomatch z) ra rb (hal d hd d' hd') (hn d hd) (room hd) hq
theorem list_sort_dataG {β : Type} {R : Value → β → Prop} {enc : β → PyData} {vs : List Value} {bs : List β} {a : Addr} {n : Nat} {Q : Value → Shared → Prop} (ho : s.heap.get? a = some (seqObj "list" vs.toArray n)) (e : EachIs R vs bs) (er : EachIs (fun v b => ∃ as, Reads s.heap v (enc b) as ∧ a ∉ as) vs bs) (hal : AllAlike (bs.map enc)) (hk : Sortable (bs.map enc) ∨ (vs.length ≤ 1 ∧ ∀ d ∈ bs.map enc, d ≠ .none)) (hL : bs.length ≤ sizeLine)
    (hu : ∀ b, b ∈ bs → A.units + 1 + (enc b).depth < cLine) (h : ∀ out, out.length = bs.length → EachIs R out (bs.mergeSort (dataLe false enc)) → Q .none { s with heap := sortedHeap s.heap a vs (List.toArray out) }) :
    wpAny (model prog w) A (call (.builtin "list.sort") [.ref a]) Q E s := by
  have er' : EachIs (fun v b => ∃ as, Reads (sortingHeap s.heap a vs) v (enc b) as) vs bs := each_keepBut (h' := sortingHeap s.heap a vs) (fun _ _ hb q => sortingHeap_old hb q) (fun o q => by rw [ho] at q; rw [← Option.some.inj q]) hal er
  have em := each_map (R := fun v d => ∃ as, Reads (sortingHeap s.heap a vs) v d as) enc er'
  have S : SortsAt prog w A.in1 { s with heap := sortingHeap s.heap a vs } (dataKind (sortingHeap s.heap a vs) (bs.map enc)) vs := by
    rcases hk with hk | ⟨hl, hn⟩
    · exact SortsAt.data (s := { s with heap := sortingHeap s.heap a vs }) em hal hk (bound_map hu)
    · exact sorts_one (s := { s with heap := sortingHeap s.heap a vs }) em hal hn hl (bound_map hu)
  refine wpAny_call_entry slot_list_sort ⟨_, ho, rfl⟩ entry_list_sort (list_sort_vals (κ := dataKind (sortingHeap s.heap a vs) (bs.map enc)) ho S (by rw [e.length]; exact hL) ⟨.none, rfl, ?_⟩) (args_list_sort _)
  exact h _ (by rw [sortVals_length false rfl]; exact e.length) (sortVals_data false e er' hal)
end
theorem alike_intsH : ∀ xs ys : List Int, PySem.W.alikeAll (xs.map PyData.int) (ys.map PyData.int) = true
  | [], _ => by simp [PySem.W.alikeAll]
  | _ :: _, [] => by simp [PySem.W.alikeAll]
  | x :: xs, y :: ys => by
    show PySem.W.alikeAll (PyData.int x :: _) (PyData.int y :: _) = true
    simp only [PySem.W.alikeAll, PySem.W.alike, Bool.true_and]
    exact alike_intsH xs ys
theorem alike_tupsH (xs ys : List Int) : PySem.W.alike (.tuple (xs.map PyData.int)) (.tuple (ys.map PyData.int)) = true := by
  simp only [PySem.W.alike]
  exact alike_intsH xs ys
theorem reads_ints {h : Heap} : ∀ {ns : List Int} {us : List Value}, Vals (ns.map V.int) us → ReadsAll h us (ns.map PyData.int) []
  | [], _, r => by
    cases r
    exact .nil
  | n :: ns, _, r => by
    cases r with
    | cons r1 r2 =>
      obtain ⟨t, rfl⟩ := r1
      exact ReadsAll.cons (as := []) (bs := []) (.int n t) (reads_ints r2)
theorem each_zip {h : Heap} {D : Addr} : ∀ {ks : List (List Key × Addr × Value)} {ns : List (List Int)}, ks.length = ns.length → (∀ (j : Nat) x m, ks[j]? = some x → ns[j]? = some m → Reads h (.ref x.2.1) (.tuple (m.map PyData.int)) []) →
    PySem.W.EachIs (fun (v : Value) (b : Addr × List Int) => v = .ref b.1) (ks.map fun x => Value.ref x.2.1) ((ks.map fun x => x.2.1).zip ns) ∧ PySem.W.EachIs (fun (v : Value) (b : Addr × List Int) => ∃ as, Reads h v (.tuple (b.2.map PyData.int)) as ∧ D ∉ as) (ks.map fun x => Value.ref x.2.1) ((ks.map fun x => x.2.1).zip ns)
  | [], [], _, _ => ⟨.nil, .nil⟩
  | [], _ :: _, h, _ => by cases h
  | _ :: _, [], h, _ => by cases h
  | x :: ks, m :: ns, hl, g => by
    obtain ⟨h1, h2⟩ := each_zip (D := D) (ks := ks) (ns := ns) (Nat.succ.inj hl) fun j y z a b => g (j + 1) y z a b
    exact ⟨.cons rfl h1, .cons ⟨[], g 0 x m rfl rfl, fun z => nomatch z⟩ h2⟩
theorem each_refs {bs : List (Addr × List Int)} : ∀ {us : List Value}, PySem.W.EachIs (fun (v : Value) (b : Addr × List Int) => v = .ref b.1) us bs → Vals (bs.map fun b => V.ref b.1) us := fun {us} e => by
  induction e with
  | nil => exact .nil
  | cons r _ ih => exact .cons r ih
def rSortedDT : List V → Hp → VK → Prop := fun vs H Q => ∃ (d : Addr) (kvs : List (List Key × V)) (ns : List (List Int)), vs = [.ref d] ∧ Rd H d (.dT kvs) ∧ kvs.map (·.1) = ns.map (fun o => o.map Sum.inl) ∧ ((∀ n ∈ ns, n ≠ []) ∨ ns.length ≤ 1) ∧
  ∀ (p : Addr) (as : List Addr) (ms : List (List Int)), ms.Perm ns → ms.Pairwise (· ≤ ·) → as.length = ms.length → (∀ (i : Nat) a m, as[i]? = some a → ms[i]? = some m → H a = some (.tup (m.map V.int))) → H p = none → Q (.ref p) (upd H p (.lst (as.map V.ref)))
section
variable {X : Cx}
theorem cr_sortedDT (hc : X.calm = true) (hu : X.A.units + 64 < cLine) : CallR X (.builtin "sorted") rSortedDT := by
  intro pins s σ H xs us Q I r h
  obtain ⟨d, kvs, ns, rfl, hd, hkn, hne, q⟩ := h
  obtain ⟨u, rfl, rx⟩ := r.one
  cases rx
  obtain ⟨z, hs, ks, pr, o, es, ep, ho, hx, hdt, he, hn⟩ := (show ObjOk X.prog X.w H s.heap d (.dT kvs) from hd.ok I.hok)
  have l1 : es.size = ks.length := size_of_entries he
  have l2 : kvs.length = ks.length := Paired.length pr
  have l3 : ns.length = ks.length := by
    have := congrArg List.length hkn
    rw [List.length_map, List.length_map] at this
    omega
  refine Calls.call_function_entry PyProof.Rows.kind_sorted PyProof.Rows.plain_sorted PyProof.Rows.entry_sorted (PyProof.Rows.args_sorted1 _) ?_
  unfold Builtin.«sorted»
  refine wpAny_bind (m := checkCount "sorted" 1 1 _) (wpAny_pure ?_)
  refine wpAny_bind (PySem.W.kdu_collect (A := X.A.in1) (kdl_raw hs hx hdt) (I.ok.hd hc) ho (by omega) fun h' tk acc' kp it => ?_)
  have ea : acc'.toList = ks.map fun x => Value.ref x.2.1 := by
    have hl : acc'.toList.length = ks.length := by rw [Array.length_toList, it.1]; exact l1
    apply List.ext_getElem?
    intro j
    rw [List.getElem?_map]
    cases hj : acc'.toList[j]? with
    | none =>
      have h1 := List.getElem?_eq_none_iff.mp hj
      rw [List.getElem?_eq_none (by omega)]
      all_goals rfl
    | some v =>
      obtain ⟨en, hen, hv⟩ := it.2 j v (by rw [← Array.getElem?_toList]; exact hj)
      have qe := entry_at he j
      rw [hen] at qe
      cases hb : ks[j]? with
      | none =>
        rw [hb] at qe
        exact nomatch (show some en = none from qe)
      | some b =>
        rw [hb] at qe
        have e2 : en = entryOfKey (tupleKind (mixKind X.prog X.w)) b := Option.some.inj qe
        rw [hv, e2]
        all_goals rfl
  have I1 : Inv X pins σ H { s with heap := h', toks := tk } := I.kept kp
  have hal : acc'.toList.length = ks.length := by rw [ea, List.length_map]
  refine wpAny_bind (wpAny_newList ?_ (by omega))
  have hoL : (h'.push (seqObj "list" acc'.toList.toArray 0)).get? h'.objs.size = some (seqObj "list" acc'.toList.toArray 0) := Heap.get?_push_size _ rfl
  show wpAny _ _ _ _ _ { s with heap := h'.push (seqObj "list" acc'.toList.toArray 0), toks := tk }
  -- the items and their data
  have hit : ∀ (j : Nat) (x : List Key × Addr × Value) (m : List Int), ks[j]? = some x → ns[j]? = some m → H x.2.1 = some (.tup (m.map V.int)) := fun j x m h1 h2 => by
    have hj := (List.getElem?_eq_some_iff.mp h1).1
    have hkv : kvs[j]? = some (kvs[j]'(by omega)) := List.getElem?_eq_getElem _
    obtain ⟨x', hx', e1, e2, _⟩ := paired_get pr hkv
    obtain rfl := Option.some.inj (hx'.symm.trans h1)
    have e3 : (kvs.map (·.1))[j]? = some (kvs[j]'(by omega)).1 := by rw [List.getElem?_map, hkv]; rfl
    rw [hkn, List.getElem?_map, h2] at e3
    have e4 : (kvs[j]'(by omega)).1 = m.map Sum.inl := (Option.some.inj e3).symm
    rw [e2, e4, List.map_map]
    rfl
  have hrd : ∀ (j : Nat) (x : List Key × Addr × Value) (m : List Int), ks[j]? = some x → ns[j]? = some m → Reads (h'.push (seqObj "list" acc'.toList.toArray 0)) (.ref x.2.1) (.tuple (m.map PyData.int)) [] := fun j x m h1 h2 => by
    obtain ⟨_, us', r1, t1, ht1, hc1, n1, d1⟩ := I1.hok _ _ (hit j x m h1 h2)
    exact .tuple (Heap.get?_push_of_some _ ht1) hc1 d1 (by simpa using reads_ints r1)
  obtain ⟨g1, g2⟩ := each_zip (D := h'.objs.size) (by omega) hrd
  rw [← ea] at g1 g2
  have hbl : ((ks.map fun x => x.2.1).zip ns).length = ks.length := by rw [List.length_zip, List.length_map]; omega
  have hbm : ∀ b ∈ (ks.map fun x => x.2.1).zip ns, H b.1 = some (.tup (b.2.map V.int)) := fun b hb => by
    obtain ⟨j, hj⟩ := List.mem_iff_getElem?.mp hb
    obtain ⟨h1, h2⟩ := List.getElem?_zip_eq_some.mp hj
    rw [List.getElem?_map] at h1
    obtain ⟨x, hx1, e1⟩ := Option.map_eq_some_iff.mp h1
    rw [← e1]
    exact hit j x b.2 hx1 h2
  have hb2 : ((ks.map fun x => x.2.1).zip ns).map (·.2) = ns := List.map_snd_zip (by rw [List.length_map]; omega)
  generalize (ks.map fun x => x.2.1).zip ns = bs at *
  refine wpAny_bind (wpAny_holding (list_sort_dataG (A := X.A.in1) (s := { s with heap := h'.push (seqObj "list" acc'.toList.toArray 0), toks := tk }) (R := fun (v : Value) (b : Addr × List Int) => v = .ref b.1) (enc := fun b => .tuple (b.2.map PyData.int)) hoL g1 g2 (PySem.W.AllAlike.of fun b b' => ?_) ?_ (by omega) (fun b hb => ?_) fun out hlen hE => ?_))
  · exact alike_tupsH b.2 b'.2
  · rcases hne with hne | hne
    · refine .inl (.inl fun d hd => ?_)
      obtain ⟨b, hb, rfl⟩ := List.mem_map.mp hd
      have : b.2 ∈ ns := by rw [← hb2]; exact List.mem_map.mpr ⟨b, hb, rfl⟩
      cases e : b.2 with
      | nil => exact absurd e (hne _ this)
      | cons x r => exact ⟨.int x, r.map PyData.int, by rw [List.map_cons]⟩
    · refine .inr ⟨by omega, fun d hd => ?_⟩
      obtain ⟨b, hb, rfl⟩ := List.mem_map.mp hd
      exact nofun
  · have : (PyData.tuple (b.2.map PyData.int)).depth = 1 := by
      show PyData.depthAll (b.2.map PyData.int) + 1 = 1
      rw [dep_ints]
    have hu2 : X.A.in1.units + 1 + 1 < cLine := by show X.A.units + 1 + 1 + 1 < _; omega
    rw [this]
    exact hu2
  · rw [dataLe_tups] at hE
    have hpm := List.mergeSort_perm bs fun p q => decide (p.2 ≤ q.2)
    have hpw : (bs.mergeSort fun p q => decide (p.2 ≤ q.2)).Pairwise fun p q => decide (p.2 ≤ q.2) = true := List.pairwise_mergeSort (fun a b c h1 h2 => by
      simp only [decide_eq_true_eq] at *
      exact List.le_trans h1 h2) (fun a b => by
      simp only [Bool.or_eq_true, decide_eq_true_eq]
      exact List.le_total a.2 b.2) bs
    generalize bs.mergeSort (fun p q => decide (p.2 ≤ q.2)) = cs at *
    have hcl : cs.length = ks.length := by rw [hpm.length_eq, hbl]
    obtain ⟨e', he'⟩ := PyProof.Rows.sortedHeap_at (vs := acc'.toList) (out := out.toArray) hoL
    have hfin : (cs.map fun b => V.ref b.1).length ≤ sizeLine := by rw [List.length_map]; omega
    refine wpAny_pure ⟨_, rfl, .ref h'.objs.size, upd H h'.objs.size (.lst (cs.map fun b => V.ref b.1)), I1.laid (t' := tk) (fun b u e => ?_) (Nat.le_refl _)
      (show ObjOk X.prog X.w _ _ _ (.lst (cs.map fun b => V.ref b.1)) from ⟨hfin, out, e', each_refs hE, he'⟩), rfl, ?_⟩
    · have hb : b < h'.objs.size := Heap.lt_size e
      rw [PyProof.Rows.sortedHeap_old (Nat.ne_of_lt hb) (by rw [size_push']; exact Nat.lt_succ_of_lt hb)]
      exact Heap.get?_push_of_some _ e
    · have := q h'.objs.size (cs.map (·.1)) (cs.map (·.2)) ((hpm.map (·.2)).trans (by rw [hb2])) (List.pairwise_map.mpr (hpw.imp fun h => of_decide_eq_true h)) (by rw [List.length_map, List.length_map]) (fun i a m h1 h2 => ?_) (I1.hok.fresh (Nat.le_refl _))
      · rw [List.map_map] at this
        exact this
      · rw [List.getElem?_map] at h1 h2
        obtain ⟨b, hb, rfl⟩ := Option.map_eq_some_iff.mp h1
        rw [hb] at h2
        obtain rfl := Option.some.inj h2
        exact hbm b (hpm.mem_iff.mp (List.mem_of_getElem? hb))
end
end My
/-! try: return e / except X: return None -/
namespace My
open PySem L2 LamX PyProof.Rows
section
variable {X : Cx} {C : Addr} {e : Expr}
def xOne (K : PySem.W.Frag) (C : Addr) (Q : VK) : XK := fun cls _ H => PySem.W.exmOne K cls (.ref C) = some true ∧ Q .non H
theorem ps_tryR {x : Str} {sg : Scope} {np p3 p5 p6 p7 p8 : Pos} {j : Nat} {te : XK → TE} (hs : X.stack = X.env :: X.outer) (hf : X.env.frame = some X.env.locals) (hsc : X.env.scope = sg) (hg : sg.names.lookup x = some .globalImplicit) (hm : X.mg x = some (.ref C)) (hd : (x == ("__debug__" : Str)) = false)
    (call : ∀ (W : WX) (pn : List (Addr × Obj)) (xe : Value → Shared → Prop) (Ech : XK), Takes (X.tr pn xe) W → (∀ cls d σ H, Ech cls d H → W cls d σ H) → PE (X.tr pn xe) e (te Ech)) :
    PS X (.Try [.Return (some e) p3] [.ExceptHandler (some (.Name x np)) none [.Return (some (.Constant .none j p5)) p6] p7] [] [] p8) (fun D σ H => te (xOne X.K C D.rt) σ H D.rt) := by
  refine ⟨fun pins s σ H D I h => ?_⟩
  refine (ps_try_many (Wout := fun _ _ _ _ => False)
      (tb := fun W D σ H => ∃ Ech : XK, (∀ cls d σ' H', Ech cls d H' → W cls d σ' H') ∧ te Ech σ H D.rt)
      hs hf takes_none5 (fun W pn xe tk _ => ?_) (.cons ⟨by show X.env.scope.names.lookup _ = _; rw [hsc]; exact hg, hd, .inl hm⟩ (fun a oe cls d pn _ _ => pss_one (ps_ret pe_non)) .nil)).run pins s σ H D I ⟨xOne X.K C D.rt, fun cls d σ' H' z => ?_, h⟩
  · refine ⟨fun pins s' σ H' D I h' => ?_⟩
    obtain ⟨Ech, hW, h3⟩ := h'
    exact (pss_one (ps_ret (pos := p3) (call W pn xe Ech tk hW))).run pins s' σ H' D I h3
  · exact ⟨true, z.1, fun _ a _ => z.2, fun y => nomatch y⟩
end
end My
/-! min of a list of texts -/
namespace My
open PySem PySem.Spec PyProof.Rows L2
theorem strs_alike (ps : List Str) : PySem.W.AlikeAll (ps.map PyData.str) := by
  refine ⟨fun x hx y hy => ?_, fun x hx => ?_⟩
  · obtain ⟨p, _, rfl⟩ := List.mem_map.mp hx
    obtain ⟨q, _, rfl⟩ := List.mem_map.mp hy
    rfl
  · obtain ⟨p, _, rfl⟩ := List.mem_map.mp hx
    exact nofun
theorem strs_depth : ∀ ps : List Str, PyData.depthAll (ps.map PyData.str) = 0
  | [] => rfl
  | p :: ps => by
    show max 0 (PyData.depthAll (ps.map PyData.str)) = 0
    rw [strs_depth ps]
    rfl
def ltD (p q : Str) : Bool := PySem.W.dataLt (.str p) (.str q)
def minS (p : Str) (ps : List Str) : Str := ps.foldl (fun a y => if ltD y a = true then y else a) p
theorem minD_S : ∀ (ps : List Str) (p : Str), PySem.W.minD (.str p) (ps.map PyData.str) = .str (minS p ps)
  | [], _ => rfl
  | q :: ps, p => by
    show PySem.W.minD (if PySem.W.dataLt (.str q) (.str p) then .str q else .str p) (ps.map PyData.str) = .str (minS (if ltD q p = true then q else p) ps)
    have e : (if PySem.W.dataLt (.str q) (.str p) then PyData.str q else .str p) = .str (if ltD q p = true then q else p) := by
      unfold ltD
      split <;> rfl
    rw [e]
    exact minD_S ps _
theorem dp_strsH {K : PySem.W.Frag} {H : Hp} : ∀ ps : List Str, DpAll K H (ps.map V.str) (ps.map PyData.str)
  | [] => .nil
  | _ :: ps => .cons (.str _) (dp_strsH ps)
def rMinT (K : PySem.W.Frag) : List V → Hp → VK → Prop := fun vs H Q => ∃ (a : Addr) (p : Str) (ps : List Str), vs = [V.ref a] ∧ SqL K H a ((p :: ps).map V.str) ∧ Q (.str (minS p ps)) H
section
variable {X : Cx}
theorem cr_minT (hc : X.calm = true) (hu : X.A.units + 64 < cLine) : CallR X (.builtin "min") (rMinT X.K) := by
  intro pins s σ H vs us Q I r h
  obtain ⟨a, p, ps, rfl, hs, q⟩ := h
  obtain ⟨its, rv, hL, _⟩ := I.list hs
  rw [Vals.ref1 r]
  obtain ⟨as, ra⟩ := Dp.readsAll I ((p :: ps).map PyData.str) _ its (dp_strsH (p :: ps)) rv
  refine PySem.W.min_list_data (x := .str p) (xs := ps.map PyData.str) (I.ok.hd hc) hL.isList (by simpa using ra) (strs_alike (p :: ps)) (by have := strs_depth (p :: ps); show _ + 1 + PyData.depthAll ((p :: ps).map PyData.str) < _; omega) fun i v h' tk bs hv hR hk => ?_
  have hv' : its[i]? = some v := by simpa using hv
  have hi : i < its.length := (List.getElem?_eq_some_iff.mp hv').1
  have hx : i < ((p :: ps).map V.str).length := by rw [rv.length]; exact hi
  obtain ⟨v2, g1, rx⟩ := rv.get (List.getElem?_eq_getElem hx)
  rw [hv'] at g1
  obtain rfl := Option.some.inj g1
  rw [List.getElem_map] at rx
  obtain ⟨t, rfl⟩ := (show ∃ t, v = Value.str _ t from rx)
  rw [minD_S] at hR
  have e := reads_str hR
  refine ⟨.str (minS p ps), H, I.kept hk, ⟨t, by rw [e]⟩, q⟩
end
end My
/-! t.count(x) by an own == -/
namespace My
open PySem PySem.SeqAt PySem.Spec L2 LamX PyProof.Rows
open AutoSeq1 (wpAny_loadPart')
open MeetsSeq MeetsSeq2 MeetsSeq3 SeqRoads2
def cntB (n : Nat) (e : Nat → Bool) : Nat := (List.range n).countP e
theorem cntB_succ (n : Nat) (e : Nat → Bool) : cntB (n + 1) e = cntB n e + (if e n = true then 1 else 0) := by
  unfold cntB
  rw [List.range_succ, List.countP_append, List.countP_singleton]
section
variable {prog : Program} {w : World} {A : Around} {R : Result → Shared → Prop} {E : Value → Shared → Prop} {s : Shared}
theorem tup_countB (l : Addr) (xs : Array Value) (n : Nat) (dd : Option Addr) (sl : Array (Option Value)) (x : Value) (e : Nat → Bool) (I : Nat → Shared → Prop)
    (turn : ∀ i (h1 : i < xs.size) s, I i s → wpAny (model prog w) A.in1 (eqBool xs[i] x) (fun r s' => r = e i ∧ I (i + 1) s') (fun e s' => R (.error e) s') s)
    (f1 : ∀ s, I xs.size s → R (.ok (.ret (.int (cntB xs.size e : Nat) s.toks))) { s with toks := s.toks + 1 }) {s : Shared}
    (a1 : s.heap.get? l = some { cls := .type "tuple", dict := dd, data := .seq xs n, slots := sl }) (h : I 0 s) :
    wpAny (model prog w) A.in1 (Builtin.«tuple.count» ⟨[.ref l, x], []⟩) (FinB prog w A R) (fun e s' => R (.error e) s') s := by
  have h0 := h
  obtain ⟨hh, g, d, tk, os⟩ := s
  wp_walk using wpAny_loadPart' a1, wpAny_forIn_array _ (fun rest (b : Nat) s' => ∃ i, rest = xs.toList.drop i ∧ i ≤ xs.size ∧ I i s' ∧ b = cntB i e) _
  case turn =>
    rintro y rest b s' ⟨i, hz, hi, hI, rfl⟩
    have hlt : i < xs.toList.length := by
      rcases Nat.lt_or_ge i xs.toList.length with z | z
      · exact z
      · rw [List.drop_of_length_le z] at hz; cases hz
    have h1 : i < xs.size := by simpa using hlt
    rw [List.drop_eq_getElem_cons hlt] at hz
    injection hz with hyx hrest
    obtain rfl : y = xs[i] := by simpa using hyx
    refine wpAny_bind (wpAny_mono (turn i h1 s' hI) (fun r s2 q2 => ?_) fun _ _ x => x)
    obtain ⟨hr, q2⟩ := q2
    cases he : e i with
    | true =>
      rw [he] at hr
      subst hr
      wp_walk
      exact ⟨i + 1, hrest, h1, q2, by rw [cntB_succ, he]; rfl⟩
    | false =>
      rw [he] at hr
      subst hr
      wp_walk
      exact ⟨i + 1, hrest, h1, q2, by rw [cntB_succ, he]; rfl⟩
  case fin =>
    rintro b s' ⟨i, hz, hi, hI, rfl⟩
    have hge : xs.size ≤ i := by
      rcases Nat.lt_or_ge i xs.toList.length with z | z
      · rw [List.drop_eq_getElem_cons z] at hz; cases hz
      · simpa using z
    obtain rfl : i = xs.size := by omega
    have q := f1 s' hI
    obtain ⟨hh2, g2, d2, tk2, os2⟩ := s'
    wp_walk
    exact q
  case h =>
    exact ⟨0, rfl, Nat.zero_le _, h0, rfl⟩
end
section
variable {X : Cx} {n : Nat} {D : EqvB}
/-- t.count(x), told item by item -/
theorem mt_tup_countB (hD : MonB D) (h : EqB X n D) (hr : Room (n + 1) X.A) : MtR X "tuple.count" (fun x xs H Q => ∃ (p : Addr) (y : V) (ys : List V) (e : Nat → Bool), x = .ref p ∧ xs = [y] ∧ SqT X.K H p ys ∧ (∀ (i : Nat) z, ys[i]? = some z → D z y (e i) H) ∧ ∀ H', Ext H H' → Q (.int (cntB ys.length e : Nat)) H') := by
  intro pins s σ H x xs v us Q I rx rs hh
  obtain ⟨p, y, ys, e, rfl, rfl, hq, hd, q⟩ := hh
  cases rx
  obtain ⟨u, rfl, ru⟩ := vals1 rs
  obtain ⟨its, r, pl, hz⟩ := I.tuple hq
  obtain ⟨⟨cls, dd, dt, sl⟩, ho, hc, m, hd2⟩ := pl
  simp only at hc hd2
  subst hc
  subst hd2
  have hl : its.toArray.size = ys.length := by rw [List.size_toArray, ← r.length]
  have sb : L2.Sub X (n + 1) X.A := ⟨hr, rfl⟩
  refine GQ.call_here PySem.F.slot_tuple_count ⟨_, ho, rfl⟩ PySem.F.entry_tuple_count (PySem.F.args_tuple_count_2 _ _) ?_
  refine tup_countB (R := wants (EP X pins σ Q) X.xe) p its.toArray m dd sl u e (fun _ s' => LoopI X pins σ H s') (fun i h1 s' l => ?_) (fun s' l => ?_) ho ⟨H, I, Ext.rfl'⟩
  · obtain ⟨H1, I1, e1⟩ := l
    have k1 : i < ys.length := by rw [← hl]; exact h1
    obtain ⟨w, hw, rw'⟩ := r.get (List.getElem?_eq_getElem k1)
    have g1 : its[i]? = some its.toArray[i] := by
      have z : i < its.length := by simpa using h1
      rw [List.getElem?_eq_getElem z] <;> simp
    rw [g1] at hw
    rw [Option.some.inj hw]
    refine wpAny_mono (h X.A.in1 pins s' σ H1 _ _ w u _ sb.in1 I1 rw' ru (hD _ _ _ _ _ e1 (hd i _ (List.getElem?_eq_getElem k1)))) (fun b s2 q2 => ?_) fun _ _ x => x
    obtain ⟨hb, H2, I2, e2⟩ := q2
    exact ⟨hb, H2, I2, e1.trans e2⟩
  · obtain ⟨H1, I1, e1⟩ := l
    exact ⟨.int (cntB ys.length e : Nat), H1, I1.tok _, ⟨s'.toks, by rw [hl]⟩, q H1 e1⟩
/-- the same, K told -/
theorem mt_tup_countBK {K : PySem.W.Frag} (hK : X.K = K) (hD : MonB D) (h : EqB X n D) (hr : Room (n + 1) X.A) : MtR X "tuple.count" (fun x xs H Q => ∃ (p : Addr) (y : V) (ys : List V) (e : Nat → Bool), x = .ref p ∧ xs = [y] ∧ SqT K H p ys ∧ (∀ (i : Nat) z, ys[i]? = some z → D z y (e i) H) ∧ ∀ H', Ext H H' → Q (.int (cntB ys.length e : Nat)) H') := by
  subst hK
  exact mt_tup_countB hD h hr
end
section
variable {X : Cx}
/-- t + u of tuples whose objects are told -/
def rCatF : R2 := fun x y H Q => ∃ a b xs ys, x = .ref a ∧ y = .ref b ∧ TupF H a xs ∧ TupF H b ys ∧ xs.length + ys.length ≤ sizeLine ∧ ∀ p H', Same H H' → TupF H' p (xs ++ ys) → Q (.ref p) H'
theorem op_catF : OpR X (binaryOp .Add) rCatF := by
  intro pins s σ H x y v u Q I rx ry h
  obtain ⟨a, b, xs, ys, rfl, rfl, ha, hb, hz, q⟩ := h
  by_cases hx : xs = []
  · subst hx
    exact op_catA pins s σ H _ _ v u Q I rx ry ⟨a, b, [], ys, rfl, rfl, ha.seq (K := X.K), hb.seq, hz, fun _ => q b H (Same.refl _) hb, fun z => absurd rfl z, fun z => absurd rfl z⟩
  · cases rx
    cases ry
    obtain ⟨its, r1, p1, _⟩ := I.tuple (ha.seq (K := X.K))
    obtain ⟨its2, r2, p2, _⟩ := I.tuple (hb.seq (K := X.K))
    refine HT.cat_tup p1 p2 (fun z => hx (r1.nil_iff.mp z)) (fun z => ⟨.ref a, H, I, rfl, ?_⟩) (fun z => ?_) (by rw [← r1.length, ← r2.length]; exact hz)
    · have e := r2.nil_iff.mp z
      refine q a H (Same.refl _) ?_
      rw [e, List.append_nil]
      exact ha
    · have hfr : H s.heap.objs.size = none := I.hok.fresh (Nat.le_refl _)
      refine ⟨.ref s.heap.objs.size, _, I.laid (t' := s.toks) (o := .frz { cls := .type "tuple", data := .seq (its ++ its2).toArray } (.tup (xs ++ ys))) (fun b ob q => Heap.get?_push_of_some _ q) (Nat.le_refl _) ?_, rfl, q _ _ (same_new hfr) ⟨_, upd_same, rfl⟩⟩
      exact ⟨Heap.get?_push_size _ rfl, by rw [List.length_append]; exact hz, _, r1.append r2, IsTup.new _ _⟩
end
end My
namespace My
open PySem PySem.Spec PyProof.Rows L2
/-! ### min(xs, default=d) -/
def minOr (d : Int) : List Int → Int
  | [] => d
  | x :: r => r.foldl min x
def rMinDI (K : PySem.W.Frag) : List V → List V → Hp → VK → Prop := fun vs zs H Q => ∃ (a : Addr) (ns : List Int) (d : Int), vs = [.ref a] ∧ zs = [.int d] ∧ SqL K H a (ns.map V.int) ∧ Q (.int (minOr d ns)) H
theorem cr_minDI {X : Cx} (hc : X.calm = true) (hu : X.A.units + 64 < cLine) : CallRK X (.builtin "min") [Str.ofString "default"] (rMinDI X.K) := by
  intro pins s σ H vs zs us ws Q I r rz h
  obtain ⟨a, ns, d, rfl, rfl, hs, q⟩ := h
  obtain rfl := Vals.ref1 r
  obtain ⟨w1, rfl, t, rfl⟩ := vals1 rz
  obtain ⟨its, rv, hl, hz⟩ := I.list hs
  obtain ⟨as, hr⟩ := Dp.readsAll I (ns.map PyData.int) _ its (dpAll_ints ns) rv
  have al : PySem.W.AlikeAll (ns.map PyData.int) := by
    constructor
    · intro x hx y hy
      obtain ⟨i, _, rfl⟩ := List.mem_map.mp hx
      obtain ⟨j, _, rfl⟩ := List.mem_map.mp hy
      rfl
    · intro x hx
      obtain ⟨i, _, rfl⟩ := List.mem_map.mp hx
      intro z
      cases z
  refine PySem.W.min_list_default (I.ok.hd hc) hl.isList (by simpa using hr) al (by rw [dep_ints]; omega) (fun e h' tk hk => ?_) (fun y ys i v h' tk bs e hv hR hk => ?_)
  · have e' : ns = [] := List.map_eq_nil_iff.mp e
    subst e'
    exact ⟨.int d, H, I.kept hk, ⟨_, rfl⟩, q⟩
  · cases ns with
    | nil => cases e
    | cons n r =>
      obtain ⟨rfl, rfl⟩ := List.cons.inj e
      rw [PySem.W.minD_ints] at hR
      cases hR with
      | int j t => exact ⟨.int _, H, I.kept hk, ⟨_, rfl⟩, q⟩
theorem minOr_le {d : Int} : ∀ {ns : List Int} {y : Int}, y ∈ ns → minOr d ns ≤ y
  | x :: r, y, h => by
    have key : ∀ (r : List Int) (x y : Int), (y = x ∨ y ∈ r) → r.foldl min x ≤ y := by
      intro r
      induction r with
      | nil =>
        intro x y h
        rcases h with rfl | h
        · exact Int.le_refl _
        · cases h
      | cons z r ih =>
        intro x y h
        show r.foldl min (min x z) ≤ y
        rcases h with rfl | h
        · exact Int.le_trans (ih _ _ (.inl rfl)) (Int.min_le_left _ _)
        · rcases List.mem_cons.mp h with rfl | h
          · exact Int.le_trans (ih _ _ (.inl rfl)) (Int.min_le_right _ _)
          · exact ih _ _ (.inr h)
    exact key r x y (List.mem_cons.mp h)
theorem minOr_mem {d : Int} : ∀ {ns : List Int}, ns ≠ [] → minOr d ns ∈ ns
  | [], h => absurd rfl h
  | x :: r, _ => by
    have key : ∀ (r : List Int) (x : Int), r.foldl min x = x ∨ r.foldl min x ∈ r := by
      intro r
      induction r with
      | nil => exact fun x => .inl rfl
      | cons z r ih =>
        intro x
        show r.foldl min (min x z) = x ∨ r.foldl min (min x z) ∈ z :: r
        rcases ih (min x z) with e | e
        · rw [e]
          rcases Int.le_total x z with h | h
          · rw [Int.min_eq_left h]
            exact .inl rfl
          · rw [Int.min_eq_right h]
            exact .inr (List.mem_cons_self ..)
        · exact .inr (List.mem_cons_of_mem _ e)
    rcases key r x with e | e
    · show r.foldl min x ∈ x :: r
      rw [e]
      exact List.mem_cons_self ..
    · exact List.mem_cons_of_mem _ e
end My
/-! a dict comprehension assigned to a local on one line, as it is and locked from then on -/
namespace My
open PySem PySem.Spec PyProof.Rows L2
theorem sw_trueD {kx vx : Expr} {gs : List Comprehension} {scope : Scope} {pos py : Pos} {y : Str} {l : Nat} {env : Env} (hk : env.scope.kind = .function) (hy : env.scope.names.lookup y = some .local) (hl : (py.line == pos.line) = true)
    (ha : (scope.names.any fun (n, k) => n == y && (k == .local || k == .cell)) = false) : swapsWith (.DictComp kx vx gs scope pos) (some (.Name y py)) l env = pure true := by
  have ky : env.kindOf y = some .local := hy
  have hb : env.blockKind = .function := by unfold Env.blockKind; rw [hk]; rfl
  unfold swapsWith
  simp only [hb, ky, ha, Expr.pos, hl]
  rfl
section
variable {X : Cx}
theorem ps_setDc {i : Nat} {y : Str} {py : Pos} {kx vx tg iter : Expr} {ifs : List Expr} {scope : Scope} {own : List (Str × Nat)} {pos spos : Pos} {wi : TI} {g : TG} {tt : TT} {tk tv : TE} (hc : X.calm = true) (hN : X.N.Nodup) (hy : X.N[i]? = some y) (hyl : X.env.scope.names.lookup y = some .local)
    (hsw : swapsWith (.DictComp kx vx [⟨tg, iter, ifs, 0⟩] scope pos) (some (.Name y py)) spos.line X.env = pure true) (hi : PI X tg iter wi) (ok : BlkOk X.N X.env.scope scope own)
    (hg : ∀ (s : Shared) (H : Hp) (C : Addr) (cl : List (Str × Addr)) (fp : List Addr), PG (X.blk s H scope (compEnvC scope cl C X.env) fp) tg g) (ht : ∀ (s : Shared) (H : Hp) (C : Addr) (cl : List (Str × Addr)) (fp : List Addr), PTs (X.blk s H scope (compEnvC scope cl C X.env) fp) ifs tt)
    (hk : ∀ (s : Shared) (H : Hp) (C : Addr) (cl : List (Str × Addr)) (fp : List Addr), PE (X.blk s H scope (compEnvC scope cl C X.env) fp) kx tk)
    (he : ∀ (s : Shared) (H : Hp) (C : Addr) (cl : List (Str × Addr)) (fp : List Addr), PE (X.blk s H scope (compEnvC scope cl C X.env) fp) vx tv) (hs : ∀ x, foldedSetIterable iter X.env x = pure x := by intro _; rfl) :
    PS X (.Assign [.Name y py] (.DictComp kx vx [⟨tg, iter, ifs, 0⟩] scope pos) spos) (tAsg (tDc wi g tt tk tv (own.map (·.2))) (gName i)) := by
  refine ⟨fun pins s σ H D I h => ?_⟩
  rw [exec_Assign_Name_used _ _ _ _ hsw]
  refine wpAny_bind (wpAny_standAt (wpAny_bind ?_))
  show wpAny _ X.A (do let _ ← comprehension (.DictComp kx vx [⟨tg, iter, ifs, 0⟩] scope pos) scope X.env (firstIterPos [⟨tg, iter, ifs, 0⟩] pos) newDict false (eval iter X.env) (some (assign (.Name y py) X.env))) _ _ s
  have h : tDc wi g tt tk tv (own.map (·.2)) σ H (fun x H1 => gName i x σ H1 D.nx) := h
  refine wpAny_bind (thn (dc_core (Qf := fun _ s' => SP X pins D .next s') hc hN I hi ok hg ht hk he hs h fun L C s' m H' I' q hn f => ?_) fun _ s' hq => wpAny_pure (wpAny_pure hq))
  show wpAny _ _ (assign (.Name y py) X.env (.ref L)) _ _ _
  refine wpAny_assign_Name (store_ok2 (v := V.ref L) I' hN hy (.inl hyl) rfl (fun s2 I2 ⟨a, sb, ha⟩ => ?_) (.inr hyl))
  obtain ⟨f0, f1, f2, f3, f4, f5⟩ := f
  have haC : C ≠ a := by
    rcases ha with z | z
    · rw [z]; exact f1
    · exact fun e => f4 y a z e.symm
  refine ⟨m, hn.sameBut sb haC, fun h3 sb3 => ?_⟩
  exact ⟨_, H', I2.turned (t' := s2.toks) (fun b o hb e => (sb3.2 b hb).trans e) f0 f1 f3 f4 f5, q⟩
theorem ps_setDcF {i : Nat} {y : Str} {py : Pos} {kx vx tg iter : Expr} {ifs : List Expr} {scope : Scope} {own : List (Str × Nat)} {pos spos : Pos} {wi : TI} {g : TG} {tt : TT} {tk tv : TE} (hc : X.calm = true) (hN : X.N.Nodup) (hy : X.N[i]? = some y) (hyl : X.env.scope.names.lookup y = some .local)
    (hsw : swapsWith (.DictComp kx vx [⟨tg, iter, ifs, 0⟩] scope pos) (some (.Name y py)) spos.line X.env = pure true) (hi : PI X tg iter wi) (ok : BlkOk X.N X.env.scope scope own)
    (hg : ∀ (s : Shared) (H : Hp) (C : Addr) (cl : List (Str × Addr)) (fp : List Addr), PG (X.blk s H scope (compEnvC scope cl C X.env) fp) tg g) (ht : ∀ (s : Shared) (H : Hp) (C : Addr) (cl : List (Str × Addr)) (fp : List Addr), PTs (X.blk s H scope (compEnvC scope cl C X.env) fp) ifs tt)
    (hk : ∀ (s : Shared) (H : Hp) (C : Addr) (cl : List (Str × Addr)) (fp : List Addr), PE (X.blk s H scope (compEnvC scope cl C X.env) fp) kx tk)
    (he : ∀ (s : Shared) (H : Hp) (C : Addr) (cl : List (Str × Addr)) (fp : List Addr), PE (X.blk s H scope (compEnvC scope cl C X.env) fp) vx tv) (hs : ∀ x, foldedSetIterable iter X.env x = pure x := by intro _; rfl) :
    PS X (.Assign [.Name y py] (.DictComp kx vx [⟨tg, iter, ifs, 0⟩] scope pos) spos) (tAsg (tFrz (tDc wi g tt tk tv (own.map (·.2)))) (gName i)) := by
  refine ⟨fun pins s σ H D I h => ?_⟩
  rw [exec_Assign_Name_used _ _ _ _ hsw]
  refine wpAny_bind (wpAny_standAt (wpAny_bind ?_))
  show wpAny _ X.A (do let _ ← comprehension (.DictComp kx vx [⟨tg, iter, ifs, 0⟩] scope pos) scope X.env (firstIterPos [⟨tg, iter, ifs, 0⟩] pos) newDict false (eval iter X.env) (some (assign (.Name y py) X.env))) _ _ s
  have h : tDc wi g tt tk tv (own.map (·.2)) σ H (fun x H1 => ∃ d u, x = .ref d ∧ H1 d = some u ∧ Mut (some u) ∧ ∀ od, gName i x σ (upd H1 d (.frz od u)) D.nx) := h
  refine wpAny_bind (thn (dc_core (Qf := fun _ s' => SP X pins D .next s') hc hN I hi ok hg ht hk he hs h fun L C s' m H' I' q hn f => ?_) fun _ s' hq => wpAny_pure (wpAny_pure hq))
  show wpAny _ _ (assign (.Name y py) X.env (.ref L)) _ _ _
  refine wpAny_assign_Name (store_ok2 (v := V.ref L) I' hN hy (.inl hyl) rfl (fun s2 I2 ⟨a, sb, ha⟩ => ?_) (.inr hyl))
  obtain ⟨f0, f1, f2, f3, f4, f5⟩ := f
  obtain ⟨d, u, ed, hd, mu, q⟩ := q
  have haC : C ≠ a := by
    rcases ha with z | z
    · rw [z]; exact f1
    · exact fun e => f4 y a z e.symm
  refine ⟨m, hn.sameBut sb haC, fun h3 sb3 => ?_⟩
  obtain ⟨od, I3⟩ := (I2.turned (t' := s2.toks) (fun b o hb e => (sb3.2 b hb).trans e) f0 f1 f3 f4 f5).lock hd mu
  exact ⟨_, _, I3, q od⟩
end
end My
/-! min of a list of pairs of numbers -/
namespace My
open PySem PySem.Spec L2 LamX PyProof.Rows
section
variable {X : Cx} {n : Nat}
/-! ### min of pairs -/
def prI (p : Int × Int) : PyData := .tuple [.int p.1, .int p.2]
/-- the object holds this pair -/
def PairI (K : PySem.W.Frag) (H : Hp) (v : V) (p : Int × Int) : Prop := ∃ a, v = .ref a ∧ SqT K H a [.int p.1, .int p.2]
theorem pairI_dp {K : PySem.W.Frag} {H : Hp} {v : V} {p : Int × Int} (h : PairI K H v p) : Dp K H v (prI p) := by
  obtain ⟨a, rfl, h⟩ := h
  exact .tup h (.cons (.int _) (.cons (.int _) .nil))
theorem pairsI_dp {K : PySem.W.Frag} {H : Hp} : ∀ {xs : List V} {ps : List (Int × Int)}, xs.length = ps.length → (∀ (i : Nat) x p, xs[i]? = some x → ps[i]? = some p → PairI K H x p) → DpAll K H xs (ps.map prI)
  | [], [], _, _ => .nil
  | [], _ :: _, h, _ => by cases h
  | _ :: _, [], h, _ => by cases h
  | x :: xs, p :: ps, h, hp => .cons (pairI_dp (hp 0 x p rfl rfl)) (pairsI_dp (Nat.succ.inj h) fun i y q h1 h2 => hp (i + 1) y q h1 h2)
theorem pairsI_alike (ps : List (Int × Int)) : PySem.W.AlikeAll (ps.map prI) := by
  refine ⟨fun x hx y hy => ?_, fun x hx => ?_⟩
  · obtain ⟨p, _, rfl⟩ := List.mem_map.mp hx
    obtain ⟨q, _, rfl⟩ := List.mem_map.mp hy
    rfl
  · obtain ⟨p, _, rfl⟩ := List.mem_map.mp hx
    exact nofun
def ltI (p q : Int × Int) : Bool := PySem.W.dataLt (prI p) (prI q)
def minI (p : Int × Int) (ps : List (Int × Int)) : Int × Int := ps.foldl (fun a y => if ltI y a = true then y else a) p
theorem minD_I : ∀ (ps : List (Int × Int)) (p : Int × Int), PySem.W.minD (prI p) (ps.map prI) = prI (minI p ps)
  | [], _ => rfl
  | q :: ps, p => by
    show PySem.W.minD (if PySem.W.dataLt (prI q) (prI p) then prI q else prI p) (ps.map prI) = prI (minI (if ltI q p = true then q else p) ps)
    have e : (if PySem.W.dataLt (prI q) (prI p) then prI q else prI p) = prI (if ltI q p = true then q else p) := by
      unfold ltI
      split <;> rfl
    rw [e]
    exact minD_I ps _
def rMinI (K : PySem.W.Frag) : List V → Hp → VK → Prop := fun vs H Q => ∃ (a : Addr) (xs : List V) (p : Int × Int) (ps : List (Int × Int)), vs = [V.ref a] ∧ SqL K H a xs ∧ xs.length = ps.length + 1 ∧ (∀ (i : Nat) x q, xs[i]? = some x → (p :: ps)[i]? = some q → PairI K H x q) ∧
  ∀ v, v ∈ xs → PairI K H v (minI p ps) → Q v H
theorem pairsI_depth : ∀ ps : List (Int × Int), PyData.depthAll (ps.map prI) ≤ 2
  | [] => Nat.zero_le _
  | p :: ps => by
    show max (prI p).depth (PyData.depthAll (ps.map prI)) ≤ 2
    have := pairsI_depth ps
    have h2 : (prI p).depth ≤ 2 := by show (max 0 (max 0 0)) + 1 ≤ 2; decide
    omega
theorem cr_minI (hc : X.calm = true) (hu : X.A.units + 64 < cLine) : CallR X (.builtin "min") (rMinI X.K) := by
  intro pins s σ H vs us Q I r h
  obtain ⟨a, xs, p, ps, rfl, hs, hl, hp, q⟩ := h
  obtain ⟨its, rv, hL, _⟩ := I.list hs
  rw [Vals.ref1 r]
  have dp := pairsI_dp (ps := p :: ps) hl hp
  obtain ⟨as, ra⟩ := Dp.readsAll I ((p :: ps).map prI) xs its dp rv
  refine PySem.W.min_list_data (x := prI p) (xs := ps.map prI) (I.ok.hd hc) hL.isList (by simpa using ra) (pairsI_alike (p :: ps)) (by have := pairsI_depth (p :: ps); show _ + 1 + PyData.depthAll ((p :: ps).map prI) < _; omega) fun i v h' tk bs hv hR hk => ?_
  have hv' : its[i]? = some v := by simpa using hv
  have hi : i < its.length := (List.getElem?_eq_some_iff.mp hv').1
  have hx : i < xs.length := by rw [rv.length]; exact hi
  obtain ⟨v2, g1, rx⟩ := rv.get (List.getElem?_eq_getElem hx)
  rw [hv'] at g1
  obtain rfl := Option.some.inj g1
  have hq : i < (p :: ps).length := by rw [List.length_cons, ← hl]; exact hx
  obtain ⟨b, eb, hb⟩ := hp i _ _ (List.getElem?_eq_getElem hx) (List.getElem?_eq_getElem hq)
  refine ⟨xs[i], H, I.kept hk, rx, q _ (List.getElem_mem hx) ?_⟩
  refine ⟨b, eb, ?_⟩
  rw [eb] at rx
  obtain rfl : v = Value.ref b := rx
  rw [minD_I] at hR
  have e : minI p ps = (p :: ps)[i] := by
    obtain ⟨us', r1, t1, _⟩ := I.tuple hb
    obtain ⟨o, e1, _, n, d1⟩ := t1
    have e1' := hk _ _ e1
    unfold prI at hR
    cases hR with
    | tuple k1 k2 k3 k4 =>
      rename_i o2 vs2 n2
      obtain rfl := Option.some.inj (e1'.symm.trans k1)
      rw [d1] at k3
      injection k3 with k5 k6
      subst k5
      cases r1 with
      | cons a1 b1 =>
        cases b1 with
        | cons a2 b2 =>
          cases b2
          obtain ⟨t1, rfl⟩ := (show ∃ t, _ = Value.int _ t from a1)
          obtain ⟨t2, rfl⟩ := (show ∃ t, _ = Value.int _ t from a2)
          have k7 : ReadsAll h' [Value.int ((p :: ps)[i]).1 t1, Value.int ((p :: ps)[i]).2 t2] [.int (minI p ps).1, .int (minI p ps).2] bs := by simpa using k4
          cases k7 with
          | cons c1 c2 =>
            cases c2 with
            | cons c3 c4 =>
              have z1 : ((p :: ps)[i]).1 = (minI p ps).1 := reads_int c1
              have z2 : ((p :: ps)[i]).2 = (minI p ps).2 := reads_int c3
              exact (Prod.ext z1 z2).symm
  rw [e]
  exact hb
end
theorem cr_minIK {X : Cx} {K : PySem.W.Frag} (hK : X.K = K) (hc : X.calm = true) (hu : X.A.units + 64 < cLine) : CallR X (.builtin "min") (rMinI K) := by
  subst hK
  exact cr_minI hc hu
theorem minI_fst : ∀ (ps : List (Int × Int)) (p : Int × Int), (∀ q ∈ p :: ps, (minI p ps).1 ≤ q.1) ∧ minI p ps ∈ p :: ps
  | [], p => ⟨fun q h => by rw [List.mem_singleton.mp h]; exact Int.le_refl _, List.mem_cons_self⟩
  | q :: ps, p => by
    show (∀ z ∈ p :: q :: ps, (minI (if ltI q p = true then q else p) ps).1 ≤ z.1) ∧ minI (if ltI q p = true then q else p) ps ∈ p :: q :: ps
    obtain ⟨h1, h2⟩ := minI_fst ps (if ltI q p = true then q else p)
    have hlt : ltI q p = decide (q.1 < p.1 ∨ (q.1 = p.1 ∧ q.2 < p.2)) := PySem.W.dataLt_ii ..
    have h0 := h1 _ List.mem_cons_self
    refine ⟨fun z hz => ?_, ?_⟩
    · rcases List.mem_cons.mp hz with rfl | hz
      · refine Int.le_trans h0 ?_
        rw [hlt]
        split
        · rename_i h
          have := of_decide_eq_true h
          omega
        · exact Int.le_refl _
      · rcases List.mem_cons.mp hz with rfl | hz
        · refine Int.le_trans h0 ?_
          rw [hlt]
          split
          · exact Int.le_refl _
          · rename_i h
            have := of_decide_eq_false (Bool.eq_false_iff.mpr h)
            omega
        · exact h1 z (List.mem_cons_of_mem _ hz)
    · rcases List.mem_cons.mp h2 with e | h
      · rw [e]
        split
        · exact List.mem_cons_of_mem _ List.mem_cons_self
        · exact List.mem_cons_self
      · exact List.mem_cons_of_mem _ (List.mem_cons_of_mem _ h)
end My
/-! max of a list of numbers, K told -/
namespace My
open PySem PySem.Spec L2
theorem cr_maxK {X : Cx} {K : PySem.W.Frag} (hK : X.K = K) (hc : X.calm = true) : CallR X (.builtin "max") (rMax K) := by
  subst hK
  exact cr_max hc
end My
namespace My
open PySem L2
section
variable {P : Program} {w : World} {K : PySem.W.Frag} {mg : Str → Option Value} {base : Heap}
section
local macro_rules | `(tactic| walk_at "sl") => `(tactic| first | assumption | exact SqL.of upd_same | exact SqL.of (by assumption) | ((with_reducible apply sql_upd); (walk_at "sl"); (first | assumption | exact Ne.symm (by assumption))))
local macro_rules | `(tactic| walk_at "st") => `(tactic| first | assumption | exact SqT.of upd_same | exact SqT.of (by assumption))
local macro_rules | `(tactic| walk_at "sc") => `(tactic| first | rfl | assumption | (show (0 : Int) < _; first | assumption | decide | omega) | exact Or.inl ⟨by omega, by omega⟩ | exact Or.inr ⟨by omega, by omega⟩ | exact ⟨by decide, by decide⟩ | exact ⟨by decide, by decide, by decide⟩)
local macro_rules | `(tactic| walk_at "g1") => `(tactic| first
  | refine ⟨(_ : V), rfl, ?_⟩
  | refine ⟨(_ : Bool), rfl, ?_⟩
  | refine ⟨(_ : Int), (_ : Int), rfl, rfl, ?_⟩
  | refine ⟨(_ : Int), rfl, ?_⟩
  | refine ⟨(_ : Str), rfl, ?_⟩
  | refine ⟨(_ : Addr), (_ : List V), rfl, Or.inl (by walk_at "sl"), ?_⟩
  | refine ⟨(_ : Addr), (_ : List V), rfl, Or.inr (by walk_at "st"), ?_⟩
  | refine ⟨(_ : Addr), (_ : List V), (_ : Int), (_ : V), rfl, rfl, (by walk_at "sl"), (by first | rfl | assumption), ?_⟩
  | refine ⟨(_ : Addr), (_ : List V), (_ : Int), (_ : V), rfl, rfl, (by walk_at "st"), (by first | rfl | assumption), ?_⟩
  | refine ⟨(_ : Addr), (_ : List V), (_ : Int), (_ : Nat), rfl, rfl, upd_same, rfl, ?_⟩
  | refine ⟨(_ : Addr), (_ : List V), (_ : Int), (_ : Nat), rfl, rfl, (by assumption), rfl, ?_⟩
  | refine ⟨(_ : Addr), (_ : Addr), (_ : Addr), (_ : List (Str × V)), (_ : V), rfl, (by assumption), (by assumption), (by assumption), (by first | assumption | rfl), ?_⟩
  | refine Or.inl ⟨(_ : Int), rfl, ?_⟩
  | refine And.intro (by walk_at "sc") ?_
  | refine iteT ?_
  | refine iteF ?_)
def letters : Str := "abcdefghijklmnopqrstuvwxyz"
def isWord (t : Str) : Bool := (decide ((1 : Int) ≤ t.length) && decide ((t.length : Int) ≤ 8)) && t.cps.toList.all fun c => decide (c ∈ letters.cps.toList)
def spIsWord : Sp := fun vs H Q _ => ∃ t : Str, vs = [.str t] ∧ t.length ≤ 1000 ∧ ∀ H', Same H H' → Q (.bl (isWord t)) H'
theorem ok_is_word (T : Top K mg) : FnOk P w K mg base CX0 1 T.a_is_word T.fd_is_word ["text"] spIsWord := by
  refine T.F_is_word.ok sc_is_word (fun vs H Q E h => ?_) (fun cdv A outer s H vs Q E hr h => ?_)
  · obtain ⟨t, rfl, _⟩ := h
    rfl
  · obtain ⟨t, rfl, hl, k⟩ := h
    have hu := hu_of hr
    refine ⟨_, (pss_cons (ps_if (PW.pt (pw_or (pt_not (pt_val (pe_callB call_isi (by rfl) T.m_isinstance (by decide +kernel) (pa_cons (pv 0) (pa_cons (pe_bltn (v := .ty "str") (by rfl) T.m_str (by decide +kernel) rfl) pa_nil))))) (pw_or1 (pt_not (pt_chain op_le op_le pe_int (pe_callB call_len (by rfl) T.m_len (by decide +kernel) (pa_cons (pv 0) pa_nil)) (pe_glob rfl T.g_LONGEST_WORD T.r_LONGEST_WORD)))))) (pss_one (ps_ret pe_bl)) pss_nil)
      (pss_one (ps_ret (pe_callB (cr_all rfl) (by rfl) T.m_all (by decide +kernel) (pa_cons (pe_lc (own := [("letter", 1)]) (g := gName 1) (tt := tYes) rfl sc_is_word.nd (pi_str (pv 0)) (blkOk_by (N := N_is_word) (sc := defScope s_is_word) (by decide +kernel)) (fun _ _ _ _ _ => (pg_name (i := 1) sc_is_word.nd rfl (.inl rfl))) (fun _ _ _ _ _ => pts_nil) (fun _ _ _ _ _ => (pe_cmpR op_in_sign (pv 1) (pe_glob rfl T.g_LETTERS T.r_LETTERS) rfl))) pa_nil))))), ?_⟩
    repeat walk_at "g1"
    refine ⟨.str t, .ty "str", .type "str", .type "str", true, rfl, .ty _, .base (.str t), kit_ty (by decide +kernel), ?_⟩
    repeat walk_at "g1"
    refine ⟨_, _, rfl, ⟨by have := sizeLine_of (show t.length ≤ 1000000 by omega); omega, rfl⟩, ?_⟩
    have e1 : ∀ h : ¬ decide ((1 : Int) ≤ t.length) = true, isWord t = false := fun h => by
      unfold isWord
      rw [Bool.eq_false_iff.mpr h]
      rfl
    have e2 : ∀ h : ¬ decide ((t.length : Int) ≤ 8) = true, isWord t = false := fun h => by
      unfold isWord
      rw [Bool.eq_false_iff.mpr h, Bool.and_false]
      rfl
    repeat walk_at "g1"
    refine ite2 (fun h1 => ?_) (fun h1 => ?_)
    · repeat walk_at "g1"
      refine ite2 (fun h2 => ?_) (fun h2 => ?_)
      · have h2' : ¬ decide ((t.length : Int) ≤ 8) = true := by
          intro z
          rw [z] at h2
          exact absurd h2 (by decide)
        show Q (.bl false) H
        rw [← e2 h2']
        exact k H (Same.refl H)
      · have h2' : decide ((t.length : Int) ≤ 8) = true := by
          cases z : decide ((t.length : Int) ≤ 8) with
          | true => rfl
          | false => rw [z] at h2; exact absurd rfl h2
        refine ⟨.str t, rfl, t, rfl, fun D hD => lc_map walk_str (by show t.length ≤ _; omega) hD (fun i => V.bl (decide (t.cps.toList[i]?.getD 0 ∈ letters.cps.toList))) (fun _ _ => trivial) (fun i x H1 H2 hi s1 hy R r => ?_) (fun H1 s1 hd => ?_) gName_mono⟩
        · obtain ⟨rfl, c, hc, rfl⟩ := hy
          refine ⟨rfl, ?_⟩
          refine ⟨_, rfl, c, letters, rfl, rfl, ?_⟩
          have q := r _ (Same.refl _)
          rw [Array.getElem?_toList, hc] at q
          exact q
        · have el : (List.range t.cps.size).map (fun i => V.bl (decide (t.cps.toList[i]?.getD 0 ∈ letters.cps.toList))) = (t.cps.toList.map fun c => decide (c ∈ letters.cps.toList)).map V.bl := by
            rw [List.map_map]
            refine range_map t.cps.toList _ _ fun i x h => ?_
            rw [h]
            rfl
          refine ⟨D, _, rfl, SqL.of (by rw [hd, el]), ?_⟩
          have ew : isWord t = (t.cps.toList.map fun c => decide (c ∈ letters.cps.toList)).all id := by
            unfold isWord
            rw [h1, h2', List.all_map]
            rfl
          rw [← ew]
          exact k H1 s1
    · repeat walk_at "g1"
      show Q (.bl false) H
      rw [← e1 h1]
      exact k H (Same.refl H)
end
section
local macro_rules | `(tactic| walk_at "sl") => `(tactic| first | assumption | exact SqL.of upd_same | exact SqL.of (by assumption) | ((with_reducible apply sql_upd); (walk_at "sl"); (first | assumption | exact Ne.symm (by assumption))))
local macro_rules | `(tactic| walk_at "st") => `(tactic| first | assumption | exact SqT.of upd_same | exact SqT.of (by assumption))
local macro_rules | `(tactic| walk_at "sc") => `(tactic| first | rfl | assumption | (show (0 : Int) < _; first | assumption | decide | omega) | exact Or.inl ⟨by omega, by omega⟩ | exact Or.inr ⟨by omega, by omega⟩ | exact ⟨by decide, by decide⟩ | exact ⟨by decide, by decide, by decide⟩)
local macro_rules | `(tactic| walk_at "g1") => `(tactic| first
  | refine ⟨(_ : V), rfl, ?_⟩
  | refine ⟨(_ : Bool), rfl, ?_⟩
  | refine ⟨(_ : Int), (_ : Int), rfl, rfl, ?_⟩
  | refine ⟨(_ : Int), rfl, ?_⟩
  | refine ⟨(_ : Str), rfl, ?_⟩
  | refine ⟨(_ : Addr), (_ : List V), rfl, Or.inl (by walk_at "sl"), ?_⟩
  | refine ⟨(_ : Addr), (_ : List V), rfl, Or.inr (by walk_at "st"), ?_⟩
  | refine ⟨(_ : Addr), (_ : List V), (_ : Int), (_ : V), rfl, rfl, (by walk_at "sl"), (by first | rfl | assumption), ?_⟩
  | refine ⟨(_ : Addr), (_ : List V), (_ : Int), (_ : V), rfl, rfl, (by walk_at "st"), (by first | rfl | assumption), ?_⟩
  | refine ⟨(_ : Addr), (_ : List V), (_ : Int), (_ : Nat), rfl, rfl, upd_same, rfl, ?_⟩
  | refine ⟨(_ : Addr), (_ : List V), (_ : Int), (_ : Nat), rfl, rfl, (by assumption), rfl, ?_⟩
  | refine ⟨(_ : Addr), (_ : Addr), (_ : Addr), (_ : List (Str × V)), (_ : V), rfl, (by assumption), (by assumption), (by assumption), (by first | assumption | rfl), ?_⟩
  | refine Or.inl ⟨(_ : Int), rfl, ?_⟩
  | refine And.intro (by walk_at "sc") ?_
  | refine iteT ?_
  | refine iteF ?_)
/-! ### numbers -/
def isNum (n a b : Int) : Bool := decide (a ≤ n) && decide (n ≤ b)
def spIsNumber : Sp := fun vs H Q _ => ∃ n a b : Int, vs = [.int n, .int a, .int b] ∧ Q (.bl (isNum n a b)) H
theorem ok_is_number (T : Top K mg) : FnOk P w K mg base CX0 1 T.a_is_number T.fd_is_number ["number", "least", "greatest"] spIsNumber := by
  refine T.F_is_number.ok sc_is_number (fun vs H Q E h => ?_) (fun cdv A outer s H vs Q E hr h => ?_)
  · obtain ⟨n, a, b, rfl, _⟩ := h
    rfl
  · obtain ⟨n, a, b, rfl, k⟩ := h
    have hu := hu_of hr
    refine ⟨_, (pss_cons (ps_if (PW.pt (pw_or (pt_val (pe_callB call_isi (by rfl) T.m_isinstance (by decide +kernel) (pa_cons (pv 0) (pa_cons (pe_bltn (v := .ty "bool") (by rfl) T.m_bool (by decide +kernel) rfl) pa_nil)))) (pw_or1 (pt_not (pt_val (pe_callB call_isi (by rfl) T.m_isinstance (by decide +kernel) (pa_cons (pv 0) (pa_cons (pe_bltn (v := .ty "int") (by rfl) T.m_int (by decide +kernel) rfl) pa_nil)))))))) (pss_one (ps_ret pe_bl)) pss_nil)
      (pss_one (ps_ret (pe_chain op_le op_le (pv 1) (pv 0) (pv 2))))), ?_⟩
    repeat walk_at "g1"
    refine ⟨.int n, .ty "bool", .type "int", .type "bool", false, rfl, .ty _, .base (.int n), kit_ty (by decide +kernel), ?_⟩
    repeat walk_at "g1"
    refine ⟨.int n, .ty "int", .type "int", .type "int", true, rfl, .ty _, .base (.int n), kit_ty (by decide +kernel), ?_⟩
    repeat walk_at "g1"
    refine ite2 (fun h1 => ?_) (fun h1 => ?_)
    · repeat walk_at "g1"
      have e : isNum n a b = decide (n ≤ b) := by unfold isNum; rw [h1, Bool.true_and]
      rw [e] at k
      exact k
    · have e : isNum n a b = false := by unfold isNum; rw [Bool.eq_false_iff.mpr h1, Bool.false_and]
      rw [e] at k
      exact k
/-! ### the books of a card -/
def asc (bs : List Int) : Bool := (bs.zip (bs.drop 1)).all fun p => decide (p.1 < p.2)
def isBooks (bs : List Int) : Bool := decide (bs.length ≤ 6) && bs.all (fun b => isNum b 1 999) && asc bs
def spAreBooks (K : PySem.W.Frag) : Sp := fun vs H Q _ => ∃ (a : Addr) (bs : List Int), vs = [.ref a] ∧ SqT K H a (bs.map V.int) ∧ bs.length ≤ 1000 ∧ ∀ H', Same H H' → Q (.bl (isBooks bs)) H'
theorem cut1 (xs : List V) : cutV xs (some 1) none = xs.drop 1 := by
  unfold cutV
  rw [show HT.sIx xs.length 0 (some 1) = min 1 xs.length from HT.sIx_nat xs.length 0 1, HT.sIx_none]
  cases xs with
  | nil => rfl
  | cons x r =>
    rw [show min 1 (x :: r).length = 1 by rw [List.length_cons]; omega]
    exact List.take_of_length_le (by rw [List.length_drop]; exact Nat.le_refl _)
theorem gTup2_mono {K : PySem.W.Frag} {i j : Nat} : ∀ (x : V) (σ : St) (H : Hp) (A B : St → Hp → Prop), (∀ σ2 H2, A σ2 H2 → B σ2 H2) → gTup K 2 (gCons (gName i) (gCons (gName j) gNil)) x σ H A → gTup K 2 (gCons (gName i) (gCons (gName j) gNil)) x σ H B :=
  fun _ _ _ _ _ h ⟨a, xs, e, s, l, v, r, e2, v2, r2, e3, e4, q⟩ => ⟨a, xs, e, s, l, v, r, e2, v2, r2, e3, e4, h _ _ q⟩
theorem ok_are_books (T : Top K mg) : FnOk P w K mg base CX0 2 T.a_are_books T.fd_are_books ["books"] (spAreBooks K) := by
  refine T.F_are_books.ok sc_are_books (fun vs H Q E h => ?_) (fun cdv A outer s H vs Q E hr h => ?_)
  · obtain ⟨a, bs, rfl, _⟩ := h
    rfl
  · obtain ⟨a, bs, rfl, hS, hl, k⟩ := h
    have hu := hu_of hr
    refine ⟨_, (pss_cons (ps_if (PW.pt (pw_or (pt_not (pt_val (pe_callB call_isi (by rfl) T.m_isinstance (by decide +kernel) (pa_cons (pv 0) (pa_cons (pe_bltn (v := .ty "tuple") (by rfl) T.m_tuple (by decide +kernel) rfl) pa_nil))))) (pw_or1 (pt_cmpR op_gt (pe_callB call_len_seq (by rfl) T.m_len (by decide +kernel) (pa_cons (pv 0) pa_nil)) (pe_glob rfl T.g_MOST_BOOKS T.r_MOST_BOOKS) (nomark _))))) (pss_one (ps_ret pe_bl)) pss_nil)
      (pss_cons (ps_if (pt_not (pt_val (pe_callB (cr_all rfl) (by rfl) T.m_all (by decide +kernel) (pa_cons (pe_lc (own := [("book", 1)]) (g := gName 1) (tt := tYes) rfl sc_are_books.nd (pi_tup (pv 0)) (blkOk_by (N := N_are_books) (sc := defScope s_are_books) (by decide +kernel)) (fun _ _ _ _ _ => (pg_name (i := 1) sc_are_books.nd rfl (.inl rfl))) (fun _ _ _ _ _ => pts_nil) (fun _ _ _ _ _ => (pe_call (ok_is_number T) (hr.mono (by decide)) (by rfl) T.g_is_number T.F_is_number.kp (b_is_number T) .nil pass0 (pa_cons (pv 1) (pa_cons pe_int (pa_cons (pe_glob rfl T.g_LAST_BOOK T.r_LAST_BOOK) pa_nil)))))) pa_nil)))) (pss_one (ps_ret pe_bl)) pss_nil)
      (pss_one (ps_ret (pe_callB (cr_all rfl) (by rfl) T.m_all (by decide +kernel) (pa_cons (pe_lc (own := [("book", 1), ("later", 2)]) (g := gTup K 2 (gCons (gName 1) (gCons (gName 2) gNil))) (tt := tYes) rfl sc_are_books.nd (RZ.pi_zipA (by rfl) T.m_zip (pa_cons (pv 0) (pa_cons (pe_slice sl_tupA (pv 0) (po_some pe_int) po_none) pa_nil))) (blkOk_by (N := N_are_books) (sc := defScope s_are_books) (by decide +kernel)) (fun _ _ _ _ _ => (pg_tup rfl (pgs_cons (pg_name (i := 1) sc_are_books.nd rfl (.inl rfl)) (pgs_cons (pg_name (i := 2) sc_are_books.nd rfl (.inl rfl)) pgs_nil)))) (fun _ _ _ _ _ => pts_nil) (fun _ _ _ _ _ => (pe_cmpR op_lt (pv 1) (pv 2) (nomark _)))) pa_nil)))))), ?_⟩
    repeat walk_at "g1"
    refine ⟨.ref a, .ty "tuple", .type "tuple", .type "tuple", true, rfl, .ty _, ty_tup hS, kit_ty (by decide +kernel), ?_⟩
    repeat walk_at "g1"
    have hlen : (bs.map V.int).length = bs.length := List.length_map ..
    refine ite2 (fun h1 => ?_) (fun h1 => ?_)
    · repeat walk_at "g1"
      have e : isBooks bs = false := by
        have q := of_decide_eq_true h1
        rw [hlen] at q
        unfold isBooks
        rw [decide_eq_false (by omega), Bool.false_and, Bool.false_and]
      have q := k H (Same.refl H)
      rw [e] at q
      exact q
    · have h6 : decide (bs.length ≤ 6) = true := by
        refine decide_eq_true ?_
        have q := of_decide_eq_false (Bool.eq_false_iff.mpr h1)
        rw [hlen] at q
        omega
      -- all([is_number(book, 1, LAST_BOOK) for book in books])
      refine ⟨.ref a, rfl, a, rfl, ⟨_, hS⟩, fun D hD => lc_map walk_tup (by rw [hlen]; omega) hD (fun i => V.bl (isNum (bs[i]?.getD 0) 1 999)) (fun H1 s1 => s1.seqT hS) (fun i x H1 H2 hi s1 hy R r => ?_) (fun H1 s1 hd => ?_) gName_mono⟩
      · obtain ⟨rfl, hx⟩ := hy
        rw [List.getElem?_map] at hx
        obtain ⟨b, hb, rfl⟩ := Option.map_eq_some_iff.mp hx
        refine ⟨rfl, ?_⟩
        refine ⟨_, rfl, ?_⟩
        have q := r _ (Same.refl _)
        rw [hb] at q
        exact ⟨b, 1, 999, rfl, q⟩
      · have el : (List.range (bs.map V.int).length).map (fun i => V.bl (isNum (bs[i]?.getD 0) 1 999)) = (bs.map fun b => isNum b 1 999).map V.bl := by
          rw [hlen, List.map_map]
          refine range_map bs _ _ fun i x h => ?_
          rw [h]
          rfl
        rw [el] at hd
        refine ⟨D, _, rfl, SqL.of hd, ?_⟩
        repeat walk_at "g1"
        have eall : (bs.map fun b => isNum b 1 999).all id = bs.all fun b => isNum b 1 999 := by rw [List.all_map]; rfl
        rw [eall]
        cases h2 : bs.all fun b => isNum b 1 999 with
        | false =>
          repeat walk_at "g1"
          have e : isBooks bs = false := by
            unfold isBooks
            rw [h2, Bool.and_false, Bool.false_and]
          have q := k H1 s1
          rw [e] at q
          exact q
        | true =>
          repeat walk_at "g1"
          have hS1 := s1.seqT hS
          have asc0 : asc bs = (((List.range (min bs.length (bs.drop 1).length)).map fun i => decide (bs[i]?.getD 0 < (bs.drop 1)[i]?.getD 0)).all id) := by
            unfold asc
            rw [← List.length_zip, range_map (bs.zip (bs.drop 1)) (fun p => decide (p.1 < p.2)) _ fun i p h => ?_, List.all_map]
            · rfl
            · obtain ⟨q1, q2⟩ := List.getElem?_zip_eq_some.mp h
              rw [q1, q2]
              rfl
          have whole : ∀ (c : Addr) (H2 : Hp), Same H1 H2 → SqT K H2 c ((bs.map V.int).drop 1) → ∀ D2, H2 D2 = none → ∀ (Qd : Hp → Prop), (∀ H3, Same H1 H3 → SqL K H3 D2 (((List.range (min bs.length (bs.drop 1).length)).map fun i => decide (bs[i]?.getD 0 < (bs.drop 1)[i]?.getD 0)).map V.bl) → Qd H3) → _ :=
            fun c H2 s2 hC D2 hD2 Qd fin => lc_map (Qd := Qd) (σ := start N_are_books [.ref a]) (g := gTup K 2 (gCons (gName 1) (gCons (gName 2) gNil))) (te := tOp (rI0 fun i j => .bl (decide (i < j))) (tVar 1) (tVar 2)) (vs := [1, 2]) (walk_zipT (K := K) (a := a) (b := c) (xs := bs.map V.int) (ys := (bs.map V.int).drop 1) rfl) (by rw [hlen]; omega) hD2
              (fun i => V.bl (decide (bs[i]?.getD 0 < (bs.drop 1)[i]?.getD 0))) (fun H3 s3 => ⟨s3.seqT (s2.seqT hS1), s3.seqT hC⟩) (fun i x H3 H4 hi s3 hy R r => by
                obtain ⟨Tp, x1, x2, rfl, nT, rfl, e1, e2⟩ := hy
                replace e1 : (bs.map V.int)[i]? = some x1 := e1
                replace e2 : ((bs.map V.int).drop 1)[i]? = some x2 := e2
                rw [List.getElem?_map] at e1
                obtain ⟨b1, hb1, rfl⟩ := Option.map_eq_some_iff.mp e1
                rw [← List.map_drop, List.getElem?_map] at e2
                obtain ⟨b2, hb2, rfl⟩ := Option.map_eq_some_iff.mp e2
                refine ⟨Tp, _, rfl, SqT.of upd_same, rfl, _, _, rfl, _, _, rfl, rfl, rfl, ?_⟩
                refine ⟨_, rfl, _, rfl, b1, b2, rfl, rfl, ?_⟩
                have q := r (upd H3 Tp (.tup [.int b1, .int b2])) (same_new nT)
                rw [hb1, hb2] at q
                exact q) (fun H3 s3 hd3 => fin H3 (s2.trans s3) (SqL.of (by
                  rw [hd3, List.map_map]
                  rw [hlen, List.length_drop, hlen, List.length_drop]
                  rfl))) (gTup2_mono (K := K))
          have last : ∀ (H3 : Hp) (D2 : Addr), Same H1 H3 → SqL K H3 D2 (((List.range (min bs.length (bs.drop 1).length)).map fun i => decide (bs[i]?.getD 0 < (bs.drop 1)[i]?.getD 0)).map V.bl) → rAll K [.ref D2] H3 Q := fun H3 D2 s3 hd3 => by
            refine ⟨D2, _, rfl, hd3, ?_⟩
            rw [← asc0]
            have e : isBooks bs = asc bs := by
              unfold isBooks
              rw [h6, h2, Bool.true_and, Bool.true_and]
            rw [← e]
            exact k H3 (s1.trans s3)
          refine ⟨a, _, rfl, hS1, fun hw => ?_, fun hw c hc => ?_⟩
          · have hC : SqT K H1 a ((bs.map V.int).drop 1) := by
              rw [← cut1]
              have e : cutV (bs.map V.int) (some 1) none = bs.map V.int := by
                unfold cutV
                rw [hw.1, hw.2, Nat.sub_zero, List.drop_zero]
                exact List.take_length
              rw [e]
              exact hS1
            exact ⟨a, a, _, _, rfl, Or.inr ⟨hS1, hC, fun D2 hD2 => whole a H1 (Same.refl _) hC D2 hD2 _ fun H3 s3 q => last H3 D2 s3 q⟩⟩
          · have hC : SqT K (upd H1 c (.tup (cutV (bs.map V.int) (some 1) none))) c ((bs.map V.int).drop 1) := by
              rw [← cut1]
              exact SqT.of upd_same
            exact ⟨a, c, _, _, rfl, Or.inr ⟨(same_new hc).seqT hS1, hC, fun D2 hD2 => whole c _ (same_new hc) hC D2 hD2 _ fun H3 s3 q => last H3 D2 s3 q⟩⟩

/-! ### see, also -/
theorem dec_str {a b : Str} : (decide (V.str a = V.str b)) = decide (a = b) := by
  by_cases h : a = b
  · rw [decide_eq_true h, h]
    exact decide_eq_true rfl
  · rw [decide_eq_false h]
    exact decide_eq_false fun z => h (V.str.inj z)
def isTarget (see heading : Str) : Bool := decide (see = "") || (isWord see && !decide (see = heading))
def spIsTarget : Sp := fun vs H Q _ => ∃ a b : Str, vs = [.str a, .str b] ∧ a.length ≤ 1000 ∧ ∀ H', Same H H' → Q (.bl (isTarget a b)) H'
theorem ok_is_target (T : Top K mg) : FnOk P w K mg base CX0 2 T.a_is_target T.fd_is_target ["see", "heading"] spIsTarget := by
  refine T.F_is_target.ok sc_is_target (fun vs H Q E h => ?_) (fun cdv A outer s H vs Q E hr h => ?_)
  · obtain ⟨a, b, rfl, _⟩ := h
    rfl
  · obtain ⟨a, b, rfl, hl, k⟩ := h
    have hu := hu_of hr
    refine ⟨_, (pss_one (ps_ret (pe_or (pe_cmpR op_eq (pv 0) pe_str (nomark _)) (pe_one (pe_and (pe_call (ok_is_word T) (hr.mono (by decide)) (by rfl) T.g_is_word T.F_is_word.kp (b_is_word T) .nil pass0 (pa_cons (pv 0) pa_nil)) (pe_one (pe_cmpR op_ne (pv 0) (pv 1) (nomark _)))))))), ?_⟩
    repeat walk_at "g1"
    have e0 : (decide (V.str a = V.str "")) = decide (a = "") := by
      by_cases h : a = ""
      · rw [decide_eq_true h, h]
        exact decide_eq_true rfl
      · rw [decide_eq_false h]
        exact decide_eq_false fun z => h (V.str.inj z)
    have e1 : (decide (V.str a = V.str b)) = decide (a = b) := by
      by_cases h : a = b
      · rw [decide_eq_true h, h]
        exact decide_eq_true rfl
      · rw [decide_eq_false h]
        exact decide_eq_false fun z => h (V.str.inj z)
    refine ite2 (fun h1 => ?_) (fun h1 => ?_)
    · rw [show (Str.ofString "") = ("" : Str) from rfl, e0] at h1
      have e : isTarget a b = true := by
        unfold isTarget
        rw [h1, Bool.true_or]
      have q := k H (Same.refl H)
      rw [e] at q
      exact q
    · rw [show (Str.ofString "") = ("" : Str) from rfl, e0] at h1
      have eT : isTarget a b = (isWord a && !decide (a = b)) := by
        unfold isTarget
        rw [Bool.eq_false_iff.mpr h1, Bool.false_or]
      rw [eT] at k
      repeat walk_at "g1"
      intro H1 s1
      cases hw : isWord a with
      | false =>
        repeat walk_at "g1"
        have q := k H1 s1
        rw [hw, Bool.false_and] at q
        exact q
      | true =>
        repeat walk_at "g1"
        have q := k H1 s1
        rw [hw, Bool.true_and, ← e1] at q
        exact q
theorem nodup_le1 {ws : List Str} (h : ws.length ≤ 1) : ws.Nodup := by
  match ws, h with
  | [], _ => exact List.nodup_nil
  | [x], _ => exact List.nodup_cons.mpr ⟨by simp, List.nodup_nil⟩
theorem nodup_eq : ∀ {ws ks : List Str}, ks.Nodup → (∀ k, k ∈ ks ↔ k ∈ ws) → ks.length ≤ ws.length ∧ (ks.length = ws.length ↔ ws.Nodup)
  | [], ks, h, e => by
    have : ks = [] := List.eq_nil_iff_forall_not_mem.mpr fun k z => absurd ((e k).mp z) (List.not_mem_nil)
    subst this
    exact ⟨Nat.le_refl _, fun _ => List.nodup_nil, fun _ => rfl⟩
  | x :: r, ks, h, e => by
    by_cases hx : x ∈ r
    · obtain ⟨a, _⟩ := nodup_eq (ws := r) h fun k => (e k).trans ⟨fun z => (List.mem_cons.mp z).elim (fun y => y ▸ hx) id, List.mem_cons_of_mem _⟩
      refine ⟨Nat.le_succ_of_le a, fun q => ?_, fun q => absurd hx (List.nodup_cons.mp q).1⟩
      rw [List.length_cons] at q
      omega
    · have hm : x ∈ ks := (e x).mpr (List.mem_cons_self ..)
      have hl := List.length_erase_of_mem hm
      have hp := List.length_pos_of_mem hm
      obtain ⟨a, b⟩ := nodup_eq (ws := r) (h.erase x) fun k => by
        rw [h.mem_erase_iff, e k, List.mem_cons]
        exact ⟨fun ⟨n, z⟩ => z.elim (fun y => absurd y n) id, fun z => ⟨fun y => hx (y ▸ z), .inr z⟩⟩
      rw [List.length_cons, List.nodup_cons]
      refine ⟨by omega, fun q => ⟨hx, b.mp (by omega)⟩, fun q => ?_⟩
      have := b.mpr q.2
      omega
def isFurther (ws : List Str) (heading : Str) : Bool := decide (ws.length ≤ 4) && ws.all (fun x => isWord x && !decide (x = heading)) && decide ws.Nodup
def spAreFurther (K : PySem.W.Frag) : Sp := fun vs H Q _ => ∃ (a : Addr) (ws : List Str) (b : Str), vs = [.ref a, .str b] ∧ SqT K H a (ws.map V.str) ∧ ws.length ≤ 4 ∧ (∀ x ∈ ws, x.length ≤ 1000) ∧ ∀ H', Same H H' → Q (.bl (isFurther ws b)) H'
theorem ok_are_further (T : Top K mg) : FnOk P w K mg base CX0 2 T.a_are_further T.fd_are_further ["also", "heading"] (spAreFurther K) := by
  refine T.F_are_further.ok sc_are_further (fun vs H Q E h => ?_) (fun cdv A outer s H vs Q E hr h => ?_)
  · obtain ⟨a, ws, b, rfl, _⟩ := h
    rfl
  · obtain ⟨a, ws, b, rfl, hS, hl, hx, k⟩ := h
    have hu := hu_of hr
    refine ⟨_, (pss_cons (ps_if (PW.pt (pw_or (pt_not (pt_val (pe_callB call_isi (by rfl) T.m_isinstance (by decide +kernel) (pa_cons (pv 0) (pa_cons (pe_bltn (v := .ty "tuple") (by rfl) T.m_tuple (by decide +kernel) rfl) pa_nil))))) (pw_or1 (pt_cmpR op_gt (pe_callB call_len_seq (by rfl) T.m_len (by decide +kernel) (pa_cons (pv 0) pa_nil)) (pe_glob rfl T.g_MOST_ALSO T.r_MOST_ALSO) (nomark _))))) (pss_one (ps_ret pe_bl)) pss_nil)
      (pss_cons (ps_if (pt_not (pt_val (pe_callB (cr_all rfl) (by rfl) T.m_all (by decide +kernel) (pa_cons (pe_lc (own := [("word", 2)]) (g := gName 2) (tt := tYes) rfl sc_are_further.nd (pi_tup (pv 0)) (blkOk_by (N := N_are_further) (sc := defScope s_are_further) (by decide +kernel)) (fun _ _ _ _ _ => (pg_name (i := 2) sc_are_further.nd rfl (.inl rfl))) (fun _ _ _ _ _ => pts_nil) (fun _ _ _ _ _ => (pe_and (pe_call (ok_is_word T) (hr.mono (by decide)) (by rfl) T.g_is_word T.F_is_word.kp (b_is_word T) .nil pass0 (pa_cons (pv 2) pa_nil)) (pe_one (pe_cmpR op_ne (pv 2) (pv 1) (nomark _)))))) pa_nil)))) (pss_one (ps_ret pe_bl)) pss_nil)
      (pss_one (ps_ret (pe_cmpR op_eq (pe_callB call_lenSS (by rfl) T.m_len (by decide +kernel) (pa_cons (pe_callTy (call_setTSK (K := K) (P := P) (w := w) rfl rfl rfl rfl) (by rfl) T.m_set (by decide +kernel) (pa_cons (pv 0) pa_nil)) pa_nil)) (pe_callB call_len_seq (by rfl) T.m_len (by decide +kernel) (pa_cons (pv 0) pa_nil)) (nomark _)))))), ?_⟩
    repeat walk_at "g1"
    refine ⟨.ref a, .ty "tuple", .type "tuple", .type "tuple", true, rfl, .ty _, ty_tup hS, kit_ty (by decide +kernel), ?_⟩
    repeat walk_at "g1"
    have hlen : (ws.map V.str).length = ws.length := List.length_map ..
    refine ite2 (fun h1 => ?_) (fun h1 => ?_)
    · have q := of_decide_eq_true h1
      rw [hlen] at q
      omega
    · refine ⟨_, rfl, a, rfl, ⟨_, hS⟩, fun D hD => lc_map walk_tup (by rw [hlen]; omega) hD (fun i => V.bl (isWord (ws[i]?.getD ("" : Str)) && !decide ((ws[i]?.getD ("" : Str)) = b))) (fun H1 s1 => s1.seqT hS) (fun i x H1 H2 hi s1 hy R r => ?_) (fun H1 s1 hd => ?_) gName_mono⟩
      · obtain ⟨rfl, hv⟩ := hy
        rw [List.getElem?_map] at hv
        obtain ⟨z, hz, rfl⟩ := Option.map_eq_some_iff.mp hv
        rw [hz] at r
        refine ⟨rfl, ?_⟩
        refine ⟨_, rfl, z, rfl, hx z (List.mem_of_getElem? hz), fun H3 s3 => ?_⟩
        refine ⟨_, rfl, ?_⟩
        have q := r H3 s3
        cases hw : isWord z with
        | false =>
          repeat walk_at "g1"
          rw [show (some z).getD ("" : Str) = z from rfl, hw, Bool.false_and] at q
          exact q
        | true =>
          repeat walk_at "g1"
          rw [show (some z).getD ("" : Str) = z from rfl, hw, Bool.true_and, ← dec_str] at q
          exact q
      · have el : (List.range (ws.map V.str).length).map (fun i => V.bl (isWord (ws[i]?.getD ("" : Str)) && !decide ((ws[i]?.getD ("" : Str)) = b))) = (ws.map fun x => isWord x && !decide (x = b)).map V.bl := by
          rw [hlen, List.map_map]
          refine range_map ws _ _ fun i x h => ?_
          rw [h]
          rfl
        rw [el] at hd
        refine ⟨D, _, rfl, SqL.of hd, ?_⟩
        have eall : (ws.map fun x => isWord x && !decide (x = b)).all id = ws.all fun x => isWord x && !decide (x = b) := by rw [List.all_map]; rfl
        rw [eall]
        have h4 : decide (ws.length ≤ 4) = true := decide_eq_true (by omega)
        have eT : isFurther ws b = ((ws.all fun x => isWord x && !decide (x = b)) && decide ws.Nodup) := by
          unfold isFurther
          rw [h4, Bool.true_and]
        cases h2 : ws.all fun x => isWord x && !decide (x = b) with
        | false =>
          repeat walk_at "g1"
          have q := k H1 s1
          rw [eT, h2, Bool.false_and] at q
          exact q
        | true =>
          repeat walk_at "g1"
          refine ⟨a, ws, rfl, s1.seqT hS, by omega, fun p ks hp hnd hks => ?_⟩
          obtain ⟨n1, n2⟩ := nodup_eq hnd hks
          refine ⟨p, _, ks.length, rfl, upd_same, by omega, ?_⟩
          have s2 := s1.trans (same_new (o := SetSO P w p (fun j => decide (j ∈ ws)) ks.length) hp)
          refine ⟨_, rfl, a, _, rfl, .inr (s2.seqT hS), ?_⟩
          have q := k _ s2
          rw [eT, h2, Bool.true_and] at q
          refine ⟨rfl, ?_⟩
          have e : decide (V.int (ks.length : Int) = V.int ((ws.map V.str).length : Int)) = decide ws.Nodup := by
            rw [hlen]
            by_cases z : ws.Nodup
            · rw [decide_eq_true z, decide_eq_true (by rw [n2.mpr z])]
            · rw [decide_eq_false z, decide_eq_false fun y => z (n2.mp (by have := V.int.inj y; omega))]
          rw [e]
          exact q
end
section
local macro_rules | `(tactic| walk_at "sl") => `(tactic| first | assumption | exact SqL.of upd_same | exact SqL.of (by assumption) | ((with_reducible apply sql_upd); (walk_at "sl"); (first | assumption | exact Ne.symm (by assumption))))
local macro_rules | `(tactic| walk_at "st") => `(tactic| first | assumption | exact SqT.of upd_same | exact SqT.of (by assumption))
local macro_rules | `(tactic| walk_at "sc") => `(tactic| first | rfl | assumption | (show (0 : Int) < _; first | assumption | decide | omega) | exact Or.inl ⟨by omega, by omega⟩ | exact Or.inr ⟨by omega, by omega⟩ | exact ⟨by decide, by decide⟩ | exact ⟨by decide, by decide, by decide⟩)
local macro_rules | `(tactic| walk_at "g1") => `(tactic| first
  | refine ⟨(_ : V), rfl, ?_⟩
  | refine ⟨(_ : Bool), rfl, ?_⟩
  | refine ⟨(_ : Int), (_ : Int), rfl, rfl, ?_⟩
  | refine ⟨(_ : Int), rfl, ?_⟩
  | refine ⟨(_ : Str), rfl, ?_⟩
  | refine ⟨(_ : Addr), (_ : List V), rfl, Or.inl (by walk_at "sl"), ?_⟩
  | refine ⟨(_ : Addr), (_ : List V), rfl, Or.inr (by walk_at "st"), ?_⟩
  | refine ⟨(_ : Addr), (_ : List V), (_ : Int), (_ : V), rfl, rfl, (by walk_at "sl"), (by first | rfl | assumption), ?_⟩
  | refine ⟨(_ : Addr), (_ : List V), (_ : Int), (_ : V), rfl, rfl, (by walk_at "st"), (by first | rfl | assumption), ?_⟩
  | refine ⟨(_ : Addr), (_ : List V), (_ : Int), (_ : Nat), rfl, rfl, upd_same, rfl, ?_⟩
  | refine ⟨(_ : Addr), (_ : List V), (_ : Int), (_ : Nat), rfl, rfl, (by assumption), rfl, ?_⟩
  | refine ⟨(_ : Addr), (_ : Addr), (_ : Addr), (_ : List (Str × V)), (_ : V), rfl, (by assumption), (by assumption), (by assumption), (by first | assumption | rfl), ?_⟩
  | refine Or.inl ⟨(_ : Int), rfl, ?_⟩
  | refine And.intro (by walk_at "sc") ?_
  | refine iteT ?_
  | refine iteF ?_)
/-! ### cards -/
structure CD where
  heading : Str
  books : List Int
  see : Str
  also : List Str
/-- a card that is as it must be -/
structure CD.Good (c : CD) : Prop where
  h : isWord c.heading = true
  b : isBooks c.books = true
  t : isTarget c.see c.heading = true
  e : c.see = "" ∨ (c.books = [] ∧ c.also = [])
  a : isFurther c.also c.heading = true
theorem CD.Good.lh {c : CD} (g : c.Good) : c.heading.length ≤ 8 := by
  have q := g.h
  unfold isWord at q
  rw [Bool.and_eq_true, Bool.and_eq_true] at q
  have := of_decide_eq_true q.1.2
  omega
theorem word_len {x : Str} (g : isWord x = true) : x.length ≤ 8 := by
  unfold isWord at g
  rw [Bool.and_eq_true, Bool.and_eq_true] at g
  have := of_decide_eq_true g.1.2
  omega
theorem CD.Good.ls {c : CD} (g : c.Good) : c.see.length ≤ 8 := by
  have q := g.t
  unfold isTarget at q
  rw [Bool.or_eq_true, Bool.and_eq_true] at q
  rcases q with q | q
  · rw [of_decide_eq_true q]
    decide
  · exact word_len q.1
theorem CD.Good.lb {c : CD} (g : c.Good) : c.books.length ≤ 6 := by
  have q := g.b
  unfold isBooks at q
  rw [Bool.and_eq_true, Bool.and_eq_true] at q
  exact of_decide_eq_true q.1.1
theorem CD.Good.la {c : CD} (g : c.Good) : c.also.length ≤ 4 := by
  have q := g.a
  unfold isFurther at q
  rw [Bool.and_eq_true, Bool.and_eq_true] at q
  exact of_decide_eq_true q.1.1
theorem CD.Good.wa {c : CD} (g : c.Good) : ∀ x ∈ c.also, isWord x = true := fun x hx => by
  have q := g.a
  unfold isFurther at q
  rw [Bool.and_eq_true, Bool.and_eq_true] at q
  have q2 := List.all_eq_true.mp q.1.2 x hx
  rw [Bool.and_eq_true] at q2
  exact q2.1
def spWrongPart (K : PySem.W.Frag) : Sp := fun vs H Q _ => ∃ (c : CD) (b a : Addr), vs = [.str c.heading, .ref b, .str c.see, .ref a] ∧ c.Good ∧ SqT K H b (c.books.map V.int) ∧ SqT K H a (c.also.map V.str) ∧ c.also.length ≤ 4 ∧ ∀ H', Same H H' → Q .non H'
theorem ok_wrong_part (T : Top K mg) : FnOk P w K mg base CX0 3 T.a_wrong_part T.fd_wrong_part ["heading", "books", "see", "also"] (spWrongPart K) := by
  refine T.F_wrong_part.ok sc_wrong_part (fun vs H Q E h => ?_) (fun cdv A outer s H vs Q E hr h => ?_)
  · obtain ⟨c, b, a, rfl, _⟩ := h
    rfl
  · obtain ⟨c, b, a, rfl, g, hB, hA, hl, k⟩ := h
    have hu := hu_of hr
    refine ⟨_, (pss_cons (ps_if (pt_not (pt_val (pe_call (ok_is_word T) (hr.mono (by decide)) (by rfl) T.g_is_word T.F_is_word.kp (b_is_word T) .nil pass0 (pa_cons (pv 0) pa_nil)))) (pss_one (ps_ret pe_str)) pss_nil)
      (pss_cons (ps_if (pt_not (pt_val (pe_call (ok_are_books T) (hr.mono (by decide)) (by rfl) T.g_are_books T.F_are_books.kp (b_are_books T) .nil pass0 (pa_cons (pv 1) pa_nil)))) (pss_one (ps_ret pe_str)) pss_nil)
      (pss_cons (ps_if (pt_not (pt_val (pe_call (ok_is_target T) (hr.mono (by decide)) (by rfl) T.g_is_target T.F_is_target.kp (b_is_target T) .nil pass0 (pa_cons (pv 2) (pa_cons (pv 0) pa_nil))))) (pss_one (ps_ret pe_str)) pss_nil)
      (pss_cons (ps_if (PW.pt (pw_and (pt_cmpR op_ne (pv 2) pe_str (nomark _)) (pw_and1 (PW.pt (pw_or (pt_cmpR (op_neD hr.units) (pv 1) (pe_tup pa_nil) (nomark _)) (pw_or1 (pt_cmpR (op_neD hr.units) (pv 3) (pe_tup pa_nil) (nomark _)))))))) (pss_one (ps_ret pe_str)) pss_nil)
      (pss_cons (ps_if (pt_not (pt_val (pe_call (ok_are_further T) (hr.mono (by decide)) (by rfl) T.g_are_further T.F_are_further.kp (b_are_further T) .nil pass0 (pa_cons (pv 3) (pa_cons (pv 0) pa_nil))))) (pss_one (ps_ret pe_str)) pss_nil)
      (pss_one (ps_ret pe_non))))))), ?_⟩
    have l1 := g.lh
    have l2 := g.ls
    have l3 := g.lb
    refine ⟨_, rfl, c.heading, rfl, by omega, fun H1 s1 => ?_⟩
    rw [g.h]
    repeat walk_at "g1"
    refine ⟨b, c.books, rfl, s1.seqT hB, by omega, fun H2 s2 => ?_⟩
    rw [g.b]
    have s12 := s1.trans s2
    repeat walk_at "g1"
    refine ⟨c.see, c.heading, rfl, by omega, fun H3 s3 => ?_⟩
    rw [g.t]
    have s13 := s12.trans s3
    repeat walk_at "g1"
    by_cases hs : c.see = ""
    · have e : (!decide (V.str c.see = V.str (Str.ofString ""))) = false := by
        rw [hs]
        exact congrArg _ (decide_eq_true rfl)
      rw [e]
      refine iteF ?_
      repeat walk_at "g1"
      refine ⟨a, c.also, c.heading, rfl, s13.seqT hA, hl, fun x hx => by have := word_len (g.wa x hx); omega, fun H5 s5 => ?_⟩
      rw [g.a]
      repeat walk_at "g1"
      exact k H5 (s13.trans s5)
    · have e : (!decide (V.str c.see = V.str (Str.ofString ""))) = true := by
        have q : decide (V.str c.see = V.str (Str.ofString "")) = false := decide_eq_false fun z => hs (V.str.inj z)
        rw [q]
        rfl
      rw [e]
      refine iteT ?_
      obtain ⟨eb, ea⟩ := g.e.resolve_left hs
      refine ⟨_, rfl, Nat.zero_le _, fun p hp => ⟨.tuple (c.books.map .int), .tuple [], dp_tInts ((same_new hp).seqT (s13.seqT hB)), dp_nil (SqT.of upd_same), sh_tInts _, rfl, ?_⟩⟩
      rw [eb]
      repeat walk_at "g1"
      refine ⟨Nat.zero_le _, fun p2 hp2 => ⟨.tuple (c.also.map .str), .tuple [], dp_tStrs ((same_new hp2).seqT ((same_new hp).seqT (s13.seqT hA))), dp_nil (SqT.of upd_same), ?_, rfl, ?_⟩⟩
      · rw [ea]
        rfl
      rw [ea]
      repeat walk_at "g1"
      have s15 := (s13.trans (same_new (o := .tup []) hp)).trans (same_new (o := .tup []) hp2)
      repeat walk_at "g1"
      refine ⟨a, c.also, c.heading, rfl, s15.seqT hA, hl, fun x hx => by have := word_len (g.wa x hx); omega, fun H5 s5 => ?_⟩
      rw [g.a]
      repeat walk_at "g1"
      exact k H5 (s15.trans s5)

/-! ### a card as it stands -/
def cardFlds (h b s a : V) : List (Str × V) := putF "_also" a (putF "_see" s (putF "_books" b (putF "_heading" h [])))
theorem cf_eq (h b s a : V) : cardFlds h b s a = ([(("_heading" : Str), h), (("_books" : Str), b), (("_see" : Str), s), (("_also" : Str), a)] : List (Str × V)) := by
  rfl
theorem cf_heading (h b s a : V) : (cardFlds h b s a).lookup ("_heading" : Str) = some h := by rw [cf_eq]; rfl
theorem cf_books (h b s a : V) : (cardFlds h b s a).lookup ("_books" : Str) = some b := by rw [cf_eq]; rfl
theorem cf_see (h b s a : V) : (cardFlds h b s a).lookup ("_see" : Str) = some s := by rw [cf_eq]; rfl
theorem cf_also (h b s a : V) : (cardFlds h b s a).lookup ("_also" : Str) = some a := by rw [cf_eq]; rfl
/-- the card c of the class C stands at p -/
def CardAt (K : PySem.W.Frag) (C : Addr) (H : Hp) (p : Addr) (c : CD) : Prop := ∃ (dx b a : Addr), H p = some (.ins C dx (cardFlds (.str c.heading) (.ref b) (.str c.see) (.ref a))) ∧ SqT K H b (c.books.map V.int) ∧ SqT K H a (c.also.map V.str)
theorem CardAt.imm {C : Addr} {H H' : Hp} {p : Addr} {c : CD} (h : CardAt K C H p c) (s : Imm H H') : CardAt K C H' p c := by
  obtain ⟨dx, b, a, h1, h2, h3⟩ := h
  exact ⟨dx, b, a, s _ _ h1 rfl, s.seqT h2, s.seqT h3⟩
theorem CardAt.same {C : Addr} {H H' : Hp} {p : Addr} {c : CD} (h : CardAt K C H p c) (s : Same H H') : CardAt K C H' p c := h.imm s.imm
def spCardInit (K : PySem.W.Frag) (C : Addr) : Sp := fun vs H Q _ => ∃ (p dx : Addr) (c : CD) (b a : Addr), vs = [.ref p, .str c.heading, .ref b, .str c.see, .ref a] ∧ H p = some (.ins C dx []) ∧ c.Good ∧ SqT K H b (c.books.map V.int) ∧ SqT K H a (c.also.map V.str) ∧ c.also.length ≤ 4 ∧
  ∀ H', But p H H' → CardAt K C H' p c → Q .non H'
theorem But.upd2 {r : Addr} {H H1 : Hp} {o : HO} (a : But r H H1) : But r H (L2.upd H1 r o) := a.upd
theorem ok_Card_init (T : Top K mg) : FnOk P w K mg base CX0 4 T.a_Card_init T.fd_Card_init ["self", "heading", "books", "see", "also"] (spCardInit K T.c_Card) := by
  refine T.F_Card_init.ok sc_Card_init (fun vs H Q E h => ?_) (fun cdv A outer s H vs Q E hr h => ?_)
  · obtain ⟨p, dx, c, b, a, rfl, _⟩ := h
    rfl
  · obtain ⟨p, dx, c, b, a, rfl, hp, g, hB, hA, hl, k⟩ := h
    have hu := hu_of hr
    refine ⟨_, PSs.nox (pss_cons (ps_set (i := 5) sc_Card_init.nd rfl (.inl rfl) (pe_call (ok_wrong_part T) (hr.mono (by decide)) (by rfl) T.g_wrong_part T.F_wrong_part.kp (b_wrong_part T) .nil pass0 (pa_cons (pv 1) (pa_cons (pv 2) (pa_cons (pv 3) (pa_cons (pv 4) pa_nil))))))
      (pss_cons (ps_if (pt_cmpR op_notN (pv 5) pe_non (nomark _)) (pss_one (ps_never)) pss_nil)
      (pss_cons (ps_fld (pv 0) (pv 1) rfl)
      (pss_cons (ps_fld (pv 0) (pv 2) rfl)
      (pss_cons (ps_fld (pv 0) (pv 3) rfl)
      (pss_one (ps_fld (pv 0) (pv 4) rfl))))))), ?_⟩
    repeat walk_at "g1"
    refine ⟨c, b, a, rfl, g, hB, hA, hl, fun H1 s1 => ?_⟩
    repeat walk_at "g1"
    have hp1 := s1 _ _ hp
    refine ⟨p, T.c_Card, dx, [], rfl, hp1, T.cl_Card, T.n_Card__heading, (by show 0 < 1000; decide), ?_⟩
    repeat walk_at "g1"
    refine ⟨p, T.c_Card, dx, _, rfl, upd_same, T.cl_Card, T.n_Card__books, (by show 1 < 1000; decide), ?_⟩
    repeat walk_at "g1"
    refine ⟨p, T.c_Card, dx, _, rfl, upd_same, T.cl_Card, T.n_Card__see, (by show 2 < 1000; decide), ?_⟩
    repeat walk_at "g1"
    refine ⟨p, T.c_Card, dx, _, rfl, upd_same, T.cl_Card, T.n_Card__also, (by show 3 < 1000; decide), ?_⟩
    have nb : ∀ {q : Addr} {xs : List V}, SqT K H1 q xs → q ≠ p ∨ True := fun _ => .inr True.intro
    have st : ∀ {q : Addr} {xs : List V} {o : HO}, SqT K H1 q xs → SqT K (upd H1 p o) q xs := fun {q xs o} h => by
      rcases h with (h | ⟨u, h⟩) | h
      · exact .inl (.inl (by rw [upd_ne (ne_of h hp1 (by intro z; cases z))]; exact h))
      · exact .inl (.inr ⟨u, by rw [upd_ne (ne_of h hp1 (by intro z; cases z))]; exact h⟩)
      · exact .inr h
    have e4 : ∀ o1 o2 o3 o4 : HO, upd (upd (upd (upd H1 p o1) p o2) p o3) p o4 = upd H1 p o4 := fun o1 o2 o3 o4 => by rw [upd_upd, upd_upd, upd_upd]
    show Q .non (upd (upd (upd (upd H1 p _) p _) p _) p _)
    rw [e4]
    refine k _ (fun q o h n => ?_) ⟨dx, b, a, upd_same, st (s1.seqT hB), st (s1.seqT hA)⟩
    rw [upd_ne n]
    exact s1 _ _ h
/-! ### what a card tells -/
def spGet (K : PySem.W.Frag) (C : Addr) (f : Str) : Sp := fun vs H Q _ => ∃ (p dx : Addr) (fs : List (Str × V)) (v : V), vs = [.ref p] ∧ H p = some (.ins C dx fs) ∧ fs.lookup f = some v ∧ Q v H
theorem ok_Card_heading (T : Top K mg) : FnOk P w K mg base CX0 1 T.a_Card_heading T.fd_Card_heading ["self"] (spGet K T.c_Card "_heading") := by
  refine T.F_Card_heading.ok sc_Card_heading (fun vs H Q E h => ?_) (fun cdv A outer s H vs Q E hr h => ?_)
  · obtain ⟨p, dx, fs, v, rfl, _⟩ := h
    rfl
  · obtain ⟨p, dx, fs, v, rfl, hp, hv, k⟩ := h
    exact ⟨_, (pss_one (ps_ret (pe_fld (pv 0) rfl))), _, rfl, p, _, dx, fs, v, rfl, hp, T.cl_Card, T.n_Card__heading, hv, k⟩
end
section
local macro_rules | `(tactic| walk_at "sl") => `(tactic| first | assumption | exact SqL.of upd_same | exact SqL.of (by assumption) | ((with_reducible apply sql_upd); (walk_at "sl"); (first | assumption | exact Ne.symm (by assumption))))
local macro_rules | `(tactic| walk_at "st") => `(tactic| first | assumption | exact SqT.of upd_same | exact SqT.of (by assumption))
local macro_rules | `(tactic| walk_at "sc") => `(tactic| first | rfl | assumption | (show (0 : Int) < _; first | assumption | decide | omega) | exact Or.inl ⟨by omega, by omega⟩ | exact Or.inr ⟨by omega, by omega⟩ | exact ⟨by decide, by decide⟩ | exact ⟨by decide, by decide, by decide⟩)
local macro_rules | `(tactic| walk_at "g1") => `(tactic| first
  | refine ⟨(_ : V), rfl, ?_⟩
  | refine ⟨(_ : Bool), rfl, ?_⟩
  | refine ⟨(_ : Int), (_ : Int), rfl, rfl, ?_⟩
  | refine ⟨(_ : Int), rfl, ?_⟩
  | refine ⟨(_ : Str), rfl, ?_⟩
  | refine ⟨(_ : Addr), (_ : List V), rfl, Or.inl (by walk_at "sl"), ?_⟩
  | refine ⟨(_ : Addr), (_ : List V), rfl, Or.inr (by walk_at "st"), ?_⟩
  | refine ⟨(_ : Addr), (_ : List V), (_ : Int), (_ : V), rfl, rfl, (by walk_at "sl"), (by first | rfl | assumption), ?_⟩
  | refine ⟨(_ : Addr), (_ : List V), (_ : Int), (_ : V), rfl, rfl, (by walk_at "st"), (by first | rfl | assumption), ?_⟩
  | refine ⟨(_ : Addr), (_ : List V), (_ : Int), (_ : Nat), rfl, rfl, upd_same, rfl, ?_⟩
  | refine ⟨(_ : Addr), (_ : List V), (_ : Int), (_ : Nat), rfl, rfl, (by assumption), rfl, ?_⟩
  | refine ⟨(_ : Addr), (_ : Addr), (_ : Addr), (_ : List (Str × V)), (_ : V), rfl, (by assumption), (by assumption), (by assumption), (by first | assumption | rfl), ?_⟩
  | refine Or.inl ⟨(_ : Int), rfl, ?_⟩
  | refine And.intro (by walk_at "sc") ?_
  | refine iteT ?_
  | refine iteF ?_)
/-! ### drawers -/
def drawFlds (t : V) : List (Str × V) := putF "_cards" t []
theorem df_cards (t : V) : (drawFlds t).lookup ("_cards" : Str) = some t := rfl
def Cards (K : PySem.W.Frag) (C : Addr) (H : Hp) (ps : List Addr) (cs : List CD) : Prop := ps.length = cs.length ∧ ∀ (i : Nat) (q : Addr) (c : CD), ps[i]? = some q → cs[i]? = some c → CardAt K C H q c
theorem Cards.imm {C : Addr} {H H' : Hp} {ps : List Addr} {cs : List CD} (h : Cards K C H ps cs) (s : Imm H H') : Cards K C H' ps cs := ⟨h.1, fun i q c h1 h2 => (h.2 i q c h1 h2).imm s⟩
theorem Cards.get {C : Addr} {H : Hp} {ps : List Addr} {cs : List CD} (h : Cards K C H ps cs) {i : Nat} {q : Addr} (hi : ps[i]? = some q) : ∃ c, cs[i]? = some c ∧ CardAt K C H q c := by
  have l := (List.getElem?_eq_some_iff.mp hi).1
  rw [h.1] at l
  exact ⟨cs[i], List.getElem?_eq_getElem l, h.2 i q _ hi (List.getElem?_eq_getElem l)⟩
/-- the drawer of the cards cs stands at p -/
def DrawerAt (K : PySem.W.Frag) (CD' CC : Addr) (H : Hp) (p : Addr) (cs : List CD) : Prop := ∃ (dx t : Addr) (ps : List Addr), H p = some (.ins CD' dx (drawFlds (.ref t))) ∧ SqT K H t (ps.map V.ref) ∧ Cards K CC H ps cs
theorem DrawerAt.imm {D C : Addr} {H H' : Hp} {p : Addr} {cs : List CD} (h : DrawerAt K D C H p cs) (s : Imm H H') : DrawerAt K D C H' p cs := by
  obtain ⟨dx, t, ps, h1, h2, h3⟩ := h
  exact ⟨dx, t, ps, s _ _ h1 rfl, s.seqT h2, h3.imm s⟩
def spDrawerInit (K : PySem.W.Frag) (C : Addr) : Sp := fun vs H Q _ => ∃ (p dx t : Addr) (xs : List V), vs = [.ref p, .ref t] ∧ H p = some (.ins C dx []) ∧ SqT K H t xs ∧ xs.length ≤ 16 ∧
  ∀ H', But p H H' → H' p = some (.ins C dx (drawFlds (.ref t))) → Q .non H'
theorem ok_Drawer_init (T : Top K mg) : FnOk P w K mg base CX0 2 T.a_Drawer_init T.fd_Drawer_init ["self", "cards"] (spDrawerInit K T.c_Drawer) := by
  refine T.F_Drawer_init.ok sc_Drawer_init (fun vs H Q E h => ?_) (fun cdv A outer s H vs Q E hr h => ?_)
  · obtain ⟨p, dx, t, xs, rfl, _⟩ := h
    rfl
  · obtain ⟨p, dx, t, xs, rfl, hp, hT, hl, k⟩ := h
    have hu := hu_of hr
    refine ⟨_, (pss_cons (ps_if (pt_cmpR op_gt (pe_callB call_len_seq (by rfl) T.m_len (by decide +kernel) (pa_cons (pv 1) pa_nil)) (pe_glob rfl T.g_MOST_CARDS T.r_MOST_CARDS) (nomark _)) (pss_one (ps_never)) pss_nil)
      (pss_one (ps_fld (pv 0) (pe_callTy call_tupleT (by rfl) T.m_tuple (by decide +kernel) (pa_cons (pv 1) pa_nil)) rfl))), ?_⟩
    repeat walk_at "g1"
    refine ite2 (fun h1 => ?_) (fun h1 => ?_)
    · have q := of_decide_eq_true h1
      omega
    · repeat walk_at "g1"
      refine ⟨t, xs, rfl, hT, ?_⟩
      repeat walk_at "g1"
      refine ⟨p, T.c_Drawer, dx, [], rfl, hp, T.cl_Drawer, T.n_Drawer__cards, (by show 0 < 1000; decide), ?_⟩
      exact k _ (fun q o h n => by rw [upd_ne n]; exact h) upd_same
theorem ok_Drawer_cards (T : Top K mg) : FnOk P w K mg base CX0 1 T.a_Drawer_cards T.fd_Drawer_cards ["self"] (spGet K T.c_Drawer "_cards") := by
  refine T.F_Drawer_cards.ok sc_Drawer_cards (fun vs H Q E h => ?_) (fun cdv A outer s H vs Q E hr h => ?_)
  · obtain ⟨p, dx, fs, v, rfl, _⟩ := h
    rfl
  · obtain ⟨p, dx, fs, v, rfl, hp, hv, k⟩ := h
    exact ⟨_, (pss_one (ps_ret (pe_fld (pv 0) rfl))), _, rfl, p, _, dx, fs, v, rfl, hp, T.cl_Drawer, T.n_Drawer__cards, hv, k⟩
def heads (cs : List CD) : List Str := cs.map CD.heading
def spHeadings (K : PySem.W.Frag) (D C : Addr) : Sp := fun vs H Q _ => ∃ (p : Addr) (cs : List CD), vs = [.ref p] ∧ DrawerAt K D C H p cs ∧ cs.length ≤ 1000 ∧ ∀ (t : Addr) (H' : Hp), Same H H' → H t = none → H' t = some (.tup ((heads cs).map V.str)) → Q (.ref t) H'
theorem ok_headings_along (T : Top K mg) : FnOk P w K mg base CX0 3 T.a_headings_along T.fd_headings_along ["drawer"] (spHeadings K T.c_Drawer T.c_Card) := by
  refine T.F_headings_along.ok sc_headings_along (fun vs H Q E h => ?_) (fun cdv A outer s H vs Q E hr h => ?_)
  · obtain ⟨p, cs, rfl, _⟩ := h
    rfl
  · obtain ⟨p, cs, rfl, ⟨dx, t, ps, hp, hT, hC⟩, hl, k⟩ := h
    have hu := hu_of hr
    refine ⟨_, (pss_one (ps_ret (pe_callTy call_tuple_of (by rfl) T.m_tuple (by decide +kernel) (pa_cons (pe_lc (own := [("card", 1)]) (g := gName 1) (tt := tYes) rfl sc_headings_along.nd (pi_tup (pe_prop (pv 0) T.cl_Drawer T.P_Drawer_cards (ok_Drawer_cards T) (hr.mono (by decide)) (b_Drawer_cards T) .nil pass0 rfl)) (blkOk_by (N := N_headings_along) (sc := defScope s_headings_along) (by decide +kernel)) (fun _ _ _ _ _ => (pg_name (i := 1) sc_headings_along.nd rfl (.inl rfl))) (fun _ _ _ _ _ => pts_nil) (fun _ _ _ _ _ => (pe_prop (pv 1) T.cl_Card T.P_Card_heading (ok_Card_heading T) (hr.mono (by decide)) (b_Card_heading T) .nil pass0 rfl))) pa_nil)))), ?_⟩
    refine ⟨_, rfl, p, dx, _, rfl, hp, p, dx, _, _, rfl, hp, df_cards _, t, rfl, ⟨_, hT⟩, fun D hD => lc_map walk_tup (by rw [List.length_map, hC.1]; omega) hD (fun i => V.str ((heads cs)[i]?.getD "")) (fun H1 s1 => s1.seqT hT) (fun i x H1 H2 hi s1 hy R r => ?_) (fun H1 s1 hd => ?_) gName_mono⟩
    · obtain ⟨rfl, hx⟩ := hy
      rw [List.getElem?_map] at hx
      obtain ⟨q, hq, rfl⟩ := Option.map_eq_some_iff.mp hx
      obtain ⟨c, hc, ca⟩ := hC.get hq
      obtain ⟨dq, b, a, hq2, _, _⟩ := ca.same s1
      refine ⟨rfl, ?_⟩
      refine ⟨_, rfl, q, dq, _, rfl, hq2, q, dq, _, _, rfl, hq2, cf_heading _ _ _ _, ?_⟩
      have z := r _ (Same.refl _)
      have e : (heads cs)[i]? = some c.heading := by
        unfold heads
        rw [List.getElem?_map, hc]
        rfl
      rw [e] at z
      exact z
    · have el : (List.range (ps.map V.ref).length).map (fun i => V.str ((heads cs)[i]?.getD "")) = (heads cs).map V.str := by
        have e : (ps.map V.ref).length = (heads cs).length := by
          unfold heads
          rw [List.length_map, List.length_map, hC.1]
        rw [e]
        exact range_map (heads cs) _ _ fun i x h => by rw [h]; rfl
      rw [el] at hd
      refine ⟨D, _, rfl, .inl ⟨SqL.of hd, fun u hu' => ?_⟩⟩
      exact k u _ (s1.trans (same_new hu')) (s1.free hu') upd_same

/-- the order of texts -/
def leS (a b : Str) : Bool := !decide (b.cps.toList < a.cps.toList)
def risesBy (ws : List Str) : Bool := (ws.zip (ws.drop 1)).all fun p => leS p.1 p.2
end
section
local macro_rules | `(tactic| walk_at "sl") => `(tactic| first | assumption | exact SqL.of upd_same | exact SqL.of (by assumption) | ((with_reducible apply sql_upd); (walk_at "sl"); (first | assumption | exact Ne.symm (by assumption))))
local macro_rules | `(tactic| walk_at "st") => `(tactic| first | assumption | exact SqT.of upd_same | exact SqT.of (by assumption))
local macro_rules | `(tactic| walk_at "sc") => `(tactic| first | rfl | assumption | (show (0 : Int) < _; first | assumption | decide | omega) | exact Or.inl ⟨by omega, by omega⟩ | exact Or.inr ⟨by omega, by omega⟩ | exact ⟨by decide, by decide⟩ | exact ⟨by decide, by decide, by decide⟩)
local macro_rules | `(tactic| walk_at "g1") => `(tactic| first
  | refine ⟨(_ : V), rfl, ?_⟩
  | refine ⟨(_ : Bool), rfl, ?_⟩
  | refine ⟨(_ : Int), (_ : Int), rfl, rfl, ?_⟩
  | refine ⟨(_ : Int), rfl, ?_⟩
  | refine ⟨(_ : Str), rfl, ?_⟩
  | refine ⟨(_ : Addr), (_ : List V), rfl, Or.inl (by walk_at "sl"), ?_⟩
  | refine ⟨(_ : Addr), (_ : List V), rfl, Or.inr (by walk_at "st"), ?_⟩
  | refine ⟨(_ : Addr), (_ : List V), (_ : Int), (_ : V), rfl, rfl, (by walk_at "sl"), (by first | rfl | assumption), ?_⟩
  | refine ⟨(_ : Addr), (_ : List V), (_ : Int), (_ : V), rfl, rfl, (by walk_at "st"), (by first | rfl | assumption), ?_⟩
  | refine ⟨(_ : Addr), (_ : List V), (_ : Int), (_ : Nat), rfl, rfl, upd_same, rfl, ?_⟩
  | refine ⟨(_ : Addr), (_ : List V), (_ : Int), (_ : Nat), rfl, rfl, (by assumption), rfl, ?_⟩
  | refine ⟨(_ : Addr), (_ : Addr), (_ : Addr), (_ : List (Str × V)), (_ : V), rfl, (by assumption), (by assumption), (by assumption), (by first | assumption | rfl), ?_⟩
  | refine Or.inl ⟨(_ : Int), rfl, ?_⟩
  | refine And.intro (by walk_at "sc") ?_
  | refine iteT ?_
  | refine iteF ?_)
/-- the script: never the row -/
def Scr (K : PySem.W.Frag) (H : Hp) (r sc : Addr) (xs : List V) : Prop := (SqL K H sc xs ∧ sc ≠ r) ∨ ∀ H' : Hp, SqL K H' sc xs
theorem Scr.upd {H : Hp} {r sc : Addr} {xs : List V} {o : HO} (h : Scr K H r sc xs) : Scr K (L2.upd H r o) r sc xs := h.imp (fun z => ⟨sql_upd z.1 z.2, z.2⟩) id
theorem Scr.sql {H : Hp} {r sc : Addr} {xs : List V} (h : Scr K H r sc xs) : SqL K H sc xs := h.elim (fun z => z.1) fun z => z H
theorem Scr.new {H : Hp} {r sc : Addr} {xs : List V} {o : HO} (h : SqL K H sc xs) (hr : H r = none) : Scr K (L2.upd H r o) r sc xs := by
  rcases h with (h | ⟨u, h⟩) | h
  · exact .inl ⟨sql_upd (.inl (.inl h)) (ne_of_none h hr), ne_of_none h hr⟩
  · exact .inl ⟨sql_upd (.inl (.inr ⟨u, h⟩)) (ne_of_none h hr), ne_of_none h hr⟩
  · exact .inr fun H' => .inr h
local macro_rules | `(tactic| walk_at "sl") => `(tactic| first | exact Scr.sql (by assumption) | exact Scr.sql (Scr.upd (by assumption)) | exact Scr.sql (Scr.upd (Scr.upd (by assumption))) | exact Scr.sql (Scr.upd (Scr.upd (Scr.upd (by assumption)))))
/-- the law's row: the script, how many were taken, the seed, what is left of a great cell -/
def RowAt (K : PySem.W.Frag) (H : Hp) (r sc : Addr) (ns : List Int) : Prop := ∃ (n1 : Nat) (n2 n3 : Int), H r = some (.lst [.ref sc, .int n1, .int n2, .int n3]) ∧ Scr K H r sc (ns.map V.int) ∧ 0 ≤ n2 ∧ n2 < 2147483647
theorem RowAt.same {H H' : Hp} {r sc : Addr} {ns : List Int} (h : RowAt K H r sc ns) (s : Same H H') : RowAt K H' r sc ns := by
  obtain ⟨n1, n2, n3, h1, h2, h3⟩ := h
  exact ⟨n1, n2, n3, s _ _ h1, h2.imp (fun z => ⟨s.seq z.1, z.2⟩) id, h3⟩
theorem RowAt.at {H : Hp} {r sc : Addr} {ns : List Int} (h : RowAt K H r sc ns) : ∃ o, H r = some o ∧ immO o = false := by
  obtain ⟨n1, n2, n3, h1, _⟩ := h
  exact ⟨_, h1, rfl⟩
theorem RowAt.new {H : Hp} {r sc D : Addr} {ns : List Int} (h : RowAt K H r sc ns) (hD : H D = none) : D ≠ r ∧ (sc ≠ D ∨ ∀ H' : Hp, SqL K H' sc (ns.map V.int)) := by
  obtain ⟨n1, n2, n3, h1, h2, _⟩ := h
  refine ⟨fun e => (by rw [e, h1] at hD; cases hD), ?_⟩
  rcases h2 with ⟨(h | ⟨u, h⟩) | h, _⟩ | h
  · exact .inl (ne_of_none h hD)
  · exact .inl (ne_of_none h hD)
  · exact .inr fun H' => .inr h
  · exact .inr h
theorem RowAt.mut {H : Hp} {r sc D : Addr} {ns : List Int} {o : HO} (h : RowAt K H r sc ns) (hD : D ≠ r ∧ (sc ≠ D ∨ ∀ H' : Hp, SqL K H' sc (ns.map V.int))) : RowAt K (upd H D o) r sc ns := by
  obtain ⟨n1, n2, n3, h1, h2, h3⟩ := h
  refine ⟨n1, n2, n3, kn h1 hD.1.symm, ?_, h3⟩
  rcases hD.2 with h | h
  · exact h2.imp (fun z => ⟨sql_upd z.1 h, z.2⟩) id
  · exact .inr h
def spTaken (K : PySem.W.Frag) : Sp := fun vs H Q _ => ∃ (r sc : Addr) (ns : List Int) (m : Int), vs = [.ref r, .int m] ∧ 0 < m ∧ m < 1000 ∧ RowAt K H r sc ns ∧ ∀ (i : Nat) (H' : Hp), (i : Int) < m → But r H H' → RowAt K H' r sc ns → Q (.int i) H'
theorem ok_llaw_taken (T : Top K mg) : FnOk P w K mg base CX0 1 T.a_llaw_taken T.fd_llaw_taken ["_law_row", "_law_many"] (spTaken K) := by
  refine T.F_llaw_taken.ok sc_llaw_taken (fun vs H Q E h => ?_) (fun cdv A outer s H vs Q E hr h => ?_)
  · obtain ⟨r, sc, ns, m, rfl, _⟩ := h
    rfl
  · obtain ⟨r, sc, ns, m, rfl, hm0, hm1, ⟨n1, n2, n3, hR, hX, h2, h3⟩, k⟩ := h
    have hu := hu_of hr
    have hdv : ∀ i : Int, CDivW i m := fun i => wide_div (b := 10) hm0 (by omega) (by decide) (by decide)
    have hin : ∀ x : Int, ∃ i : Nat, (i : Int) < m ∧ V.int (x % m) = V.int i := fun x => ⟨(x % m).toNat, by
      have h1 := Int.emod_nonneg x (Int.ne_of_gt hm0)
      have h2 := Int.emod_lt_of_pos x hm0
      omega, by
      have h1 := Int.emod_nonneg x (Int.ne_of_gt hm0)
      rw [Int.toNat_of_nonneg h1]⟩
    have hmd : ∀ x : Int, 0 ≤ x % 2147483647 ∧ x % 2147483647 < 2147483647 := fun x => ⟨Int.emod_nonneg x (by decide), Int.emod_lt_of_pos x (by decide)⟩
    refine ⟨_, (pss_cons (ps_if (pt_cmpR op_gt (pe_ix ix_list (pv 0) pe_int (fun _ _ => rfl)) pe_int (nomark _)) (pss_cons (ps_set (i := 2) sc_llaw_taken.nd rfl (.inl rfl) (pe_op op_mod (pe_callTy call_int1 (by rfl) T.m_int (by decide +kernel) (pa_cons (pe_ix ix_list (pv 0) pe_int (fun _ _ => rfl)) pa_nil)) (pv 1)))
        (pss_cons (ps_asg (pe_op op_fdivW (pe_ix ix_list (pv 0) pe_int (fun _ _ => rfl)) (pv 1)) (pg_sub (pv 0) pe_int set_list))
        (pss_one (ps_ret (pv 2))))) pss_nil)
      (pss_cons (ps_asg (pe_op op_add (pe_ix ix_list (pv 0) pe_int (fun _ _ => rfl)) pe_int) (pg_sub (pv 0) pe_int set_list))
      (pss_cons (ps_if (pt_cmpR op_gt (pe_ix ix_list (pv 0) pe_int (fun _ _ => rfl)) (pe_callB call_len_seq (by rfl) T.m_len (by decide +kernel) (pa_cons (pe_ix ix_list (pv 0) pe_int (fun _ _ => rfl)) pa_nil)) (nomark _)) (pss_cons (ps_asg (pe_op op_mod (pe_callTy call_int1 (by rfl) T.m_int (by decide +kernel) (pa_cons (pe_op op_add (pe_op op_mul (pe_ix ix_list (pv 0) pe_int (fun _ _ => rfl)) pe_int) pe_int) pa_nil)) pe_int) (pg_sub (pv 0) pe_int set_list))
        (pss_one (ps_ret (pe_op op_mod (pe_callTy call_int1 (by rfl) T.m_int (by decide +kernel) (pa_cons (pe_op op_fdiv (pe_ix ix_list (pv 0) pe_int (fun _ _ => rfl)) pe_int) pa_nil)) (pv 1))))) pss_nil)
      (pss_cons (ps_set (i := 3) sc_llaw_taken.nd rfl (.inl rfl) (pe_ix ix_list (pe_ix ix_list (pv 0) pe_int (fun _ _ => rfl)) (pe_op op_sub (pe_ix ix_list (pv 0) pe_int (fun _ _ => rfl)) pe_int) (fun _ _ => rfl)))
      (pss_cons (ps_asg (pe_op op_mod (pe_callTy call_int1 (by rfl) T.m_int (by decide +kernel) (pa_cons (pe_op op_add (pe_op op_add (pe_op op_mul (pe_ix ix_list (pv 0) pe_int (fun _ _ => rfl)) pe_int) (pv 3)) pe_int) pa_nil)) pe_int) (pg_sub (pv 0) pe_int set_list))
      (pss_cons (ps_if (pt_cmpR op_ge (pv 3) (pe_op op_pow pe_int pe_int) (nomark _)) (pss_one (ps_asg (pe_op op_fdivW (pv 3) (pv 1)) (pg_sub (pv 0) pe_int set_list))) pss_nil)
      (pss_one (ps_ret (pe_op op_mod (pe_callTy call_int1 (by rfl) T.m_int (by decide +kernel) (pa_cons (pv 3) pa_nil)) (pv 1)))))))))), ?_⟩
    have hd3 := hdv n3
    repeat walk_at "g1"
    refine ite2 (fun _ => ?_) (fun _ => ?_)
    · repeat walk_at "g1"
      obtain ⟨i, hi, e⟩ := hin n3
      show Q (V.int (n3 % m)) _
      rw [e]
      exact k i _ hi But.refl.upd ⟨n1, n2, _, upd_same, hX.upd, h2, h3⟩
    · repeat walk_at "g1"
      have hx := hmd (n2 * 48271 + 11)
      refine ite2 (fun _ => ?_) (fun hlt => ?_)
      · repeat walk_at "g1"
        obtain ⟨i, hi, e⟩ := hin ((n2 * 48271 + 11) % 2147483647 / 7)
        show Q (V.int ((n2 * 48271 + 11) % 2147483647 / 7 % m)) _
        rw [e]
        exact k i _ hi But.refl.upd.upd ⟨n1 + 1, _, n3, upd_same, hX.upd.upd, hx.1, hx.2⟩
      · have hlt' : ¬ ((((ns.map V.int).length : Nat) : Int) < (n1 : Int) + 1) := fun z => hlt (decide_eq_true z)
        rw [List.length_map] at hlt'
        have hn1 : n1 < ns.length := by omega
        have hat : atI (ns.map V.int) ((n1 : Int) + 1 - 1) = some (.int ns[n1]) := by
          rw [Int.add_sub_cancel]
          exact atI_nat (by rw [List.getElem?_map, List.getElem?_eq_getElem hn1]; rfl)
        have hx := hmd (n2 * 48271 + ns[n1] + 11)
        have hdc := hdv ns[n1]
        obtain ⟨i, hi, e⟩ := hin ns[n1]
        repeat walk_at "g1"
        refine ite2 (fun _ => ?_) (fun _ => ?_)
        · repeat walk_at "g1"
          show Q (V.int (ns[n1] % m)) _
          rw [e]
          exact k i _ hi But.refl.upd.upd.upd ⟨n1 + 1, _, _, upd_same, hX.upd.upd.upd, hx.1, hx.2⟩
        · repeat walk_at "g1"
          show Q (V.int (ns[n1] % m)) _
          rw [e]
          exact k i _ hi But.refl.upd.upd ⟨n1 + 1, _, n3, upd_same, hX.upd.upd, hx.1, hx.2⟩
end
section
local macro_rules | `(tactic| walk_at "sl") => `(tactic| first | assumption | exact SqL.of upd_same | exact SqL.of (by assumption) | ((with_reducible apply sql_upd); (walk_at "sl"); (first | assumption | exact Ne.symm (by assumption))))
local macro_rules | `(tactic| walk_at "st") => `(tactic| first | assumption | exact SqT.of upd_same | exact SqT.of (by assumption))
local macro_rules | `(tactic| walk_at "sc") => `(tactic| first | rfl | assumption | (show (0 : Int) < _; first | assumption | decide | omega) | exact Or.inl ⟨by omega, by omega⟩ | exact Or.inr ⟨by omega, by omega⟩ | exact ⟨by decide, by decide⟩ | exact ⟨by decide, by decide, by decide⟩)
local macro_rules | `(tactic| walk_at "g1") => `(tactic| first
  | refine ⟨(_ : V), rfl, ?_⟩
  | refine ⟨(_ : Bool), rfl, ?_⟩
  | refine ⟨(_ : Int), (_ : Int), rfl, rfl, ?_⟩
  | refine ⟨(_ : Int), rfl, ?_⟩
  | refine ⟨(_ : Str), rfl, ?_⟩
  | refine ⟨(_ : Addr), (_ : List V), rfl, Or.inl (by walk_at "sl"), ?_⟩
  | refine ⟨(_ : Addr), (_ : List V), rfl, Or.inr (by walk_at "st"), ?_⟩
  | refine ⟨(_ : Addr), (_ : List V), (_ : Int), (_ : V), rfl, rfl, (by walk_at "sl"), (by first | rfl | assumption), ?_⟩
  | refine ⟨(_ : Addr), (_ : List V), (_ : Int), (_ : V), rfl, rfl, (by walk_at "st"), (by first | rfl | assumption), ?_⟩
  | refine ⟨(_ : Addr), (_ : List V), (_ : Int), (_ : Nat), rfl, rfl, upd_same, rfl, ?_⟩
  | refine ⟨(_ : Addr), (_ : List V), (_ : Int), (_ : Nat), rfl, rfl, (by assumption), rfl, ?_⟩
  | refine ⟨(_ : Addr), (_ : Addr), (_ : Addr), (_ : List (Str × V)), (_ : V), rfl, (by assumption), (by assumption), (by assumption), (by first | assumption | rfl), ?_⟩
  | refine Or.inl ⟨(_ : Int), rfl, ?_⟩
  | refine And.intro (by walk_at "sc") ?_
  | refine iteT ?_
  | refine iteF ?_)
/-! ### how headings are looked up -/
def ltS (a b : Str) : Bool := decide (a.cps.toList < b.cps.toList)
/-- one after another: the place, how many are looked at -/
def along (g : Bool) (h : Str) : Nat → List Str → Option Nat × Nat
  | i, [] => (none, i)
  | i, x :: r => if x = h then (some i, i + 1) else if (g && ltS h x) = true then (none, i + 1) else along g h (i + 1) r
/-- by halves: the place, the places that are looked at -/
def halves (ws : List Str) (h : Str) : Nat → Int → Int → List Int → Option Nat × List Int
  | 0, _, _, ps => (none, ps)
  | n + 1, lo, hi, ps => if lo ≤ hi then
      (if ws[((lo + hi) / 2).toNat]?.getD "" = h then (some ((lo + hi) / 2).toNat, ps ++ [(lo + hi) / 2])
       else if ltS h (ws[((lo + hi) / 2).toNat]?.getD "") = true then halves ws h n lo ((lo + hi) / 2 - 1) (ps ++ [(lo + hi) / 2])
       else halves ws h n ((lo + hi) / 2 + 1) hi (ps ++ [(lo + hi) / 2]))
     else (none, ps)
def upTo (n : Nat) : List Int := (List.range n).map fun (i : Nat) => (i : Int)
def alongOf (ws : List Str) (g : Bool) (h : Str) : Option Nat × List Int := ((along g h 0 ws).1, upTo (along g h 0 ws).2)
def halvesOf (ws : List Str) (h : Str) : Option Nat × List Int := halves ws h (ws.length + 1) 0 ((ws.length : Int) - 1) []
def seekOf (ws : List Str) (rule h : Str) : Option Nat × List Int := if rule = "half" then halvesOf ws h else alongOf ws (decide (rule = "leaf")) h
def onV : Option Nat → V
  | none => .non
  | some i => .int i
/-- what a look-up tells, at t -/
def Seen (K : PySem.W.Frag) (H : Hp) (t : Addr) (r : Option Nat × List Int) : Prop := ∃ p : Addr, SqT K H t [onV r.1, .ref p] ∧ SqT K H p (r.2.map V.int)
theorem Seen.imm {H H' : Hp} {t : Addr} {r : Option Nat × List Int} (h : Seen K H t r) (s : Imm H H') : Seen K H' t r := by
  obtain ⟨p, h1, h2⟩ := h
  exact ⟨p, s.seqT h1, s.seqT h2⟩
theorem rNe_to {x y : V} {b : Bool} {H : Hp} {Q : VK} (s : scal x y = true) (e : (!decide (x = y)) = b) (q : Q (.bl b) H) : rNe x y H Q := ⟨s, by rw [e]; exact q⟩
theorem rEq_to {x y : V} {b : Bool} {H : Hp} {Q : VK} (s : scal x y = true) (e : decide (x = y) = b) (q : Q (.bl b) H) : rEq x y H Q := ⟨s, by rw [e]; exact q⟩
theorem rEqD_to {x y : V} {d1 d2 : PyData} {b : Bool} {H : Hp} {Q : VK} (h1 : Dp K H x d1) (h2 : Dp K H y d2) (s1 : SeqAt.shaped d1 = true) (s2 : SeqAt.shaped d2 = true) (e : d1.eqv d2 = b) (q : Q (.bl b) H) : rEqD K x y H Q := ⟨d1, d2, h1, h2, s1, s2, by rw [e]; exact q⟩
theorem rNeD_to {x y : V} {d1 d2 : PyData} {b : Bool} {H : Hp} {Q : VK} (h1 : Dp K H x d1) (h2 : Dp K H y d2) (s1 : SeqAt.shaped d1 = true) (s2 : SeqAt.shaped d2 = true) (e : (!d1.eqv d2) = b) (q : Q (.bl b) H) : rNeD K x y H Q := ⟨d1, d2, h1, h2, s1, s2, by rw [e]; exact q⟩
theorem rI0_to {f : Int → Int → V} {i j : Int} {v : V} {H : Hp} {Q : VK} (e : f i j = v) (q : Q v H) : rI0 f (.int i) (.int j) H Q := ⟨i, j, rfl, rfl, by rw [e]; exact q⟩
theorem rgV_up (n : Nat) : rgV 0 (n : Int) = (upTo n).map V.int := by
  unfold rgV upTo
  rw [List.map_map]
  show (List.range ((n : Int) - 0).toNat).map _ = _
  rw [Int.sub_zero, Int.toNat_natCast]
  apply List.map_congr_left
  intro i _
  show V.int (0 + (i : Int)) = V.int i
  rw [Int.zero_add]
theorem along_bound (g : Bool) (h : Str) : ∀ (ws : List Str) (i : Nat), (along g h i ws).2 ≤ i + ws.length
  | [], i => Nat.le_refl _
  | x :: r, i => by
    unfold along
    rw [List.length_cons]
    split
    · show i + 1 ≤ _
      omega
    · split
      · show i + 1 ≤ _
        omega
      · have := along_bound g h r (i + 1)
        omega
def spSeekAlong (K : PySem.W.Frag) : Sp := fun vs H Q _ => ∃ (a : Addr) (ws : List Str) (h : Str) (g : Bool), vs = [.ref a, .str h, .bl g] ∧ SqT K H a (ws.map V.str) ∧ ws.length ≤ 1000 ∧ ∀ (t : Addr) (H' : Hp), Same H H' → Seen K H' t (alongOf ws g h) → Q (.ref t) H'
theorem ok_seek_along (T : Top K mg) : FnOk P w K mg base CX0 1 T.a_seek_along T.fd_seek_along ["row", "heading", "gives_up"] (spSeekAlong K) := by
  refine T.F_seek_along.ok sc_seek_along (fun vs H Q E h => ?_) (fun cdv A outer s H vs Q E hr h => ?_)
  · obtain ⟨a, ws, h, g, rfl, _⟩ := h
    rfl
  · obtain ⟨a, ws, h, g, rfl, hS, hl, k⟩ := h
    have hu := hu_of hr
    refine ⟨_, (pss_cons (ps_for PassesOwn.never rfl (pi_enumT (by rfl) T.m_enumerate (pa_cons (pv 0) pa_nil)) (pg_tup rfl (pgs_cons (pg_name (i := 3) sc_seek_along.nd rfl (.inl rfl)) (pgs_cons (pg_name (i := 4) sc_seek_along.nd rfl (.inl rfl)) pgs_nil)))
        (pss_cons (ps_if (pt_cmpR op_eq (pv 4) (pv 1) (nomark _)) (pss_one (ps_ret (pe_tup (pa_cons (pv 3) (pa_cons (pe_tupRg rfl (by rfl) T.m_tuple (prg_1 (by rfl) T.m_range (pe_op op_add (pv 3) pe_int))) pa_nil))))) pss_nil)
        (pss_one (ps_if (PW.pt (pw_and (pt_val (pv 2)) (pw_and1 (pt_cmpR op_gt_str (pv 4) (pv 1) (nomark _))))) (pss_one (ps_ret (pe_tup (pa_cons pe_non (pa_cons (pe_tupRg rfl (by rfl) T.m_tuple (prg_1 (by rfl) T.m_range (pe_op op_add (pv 3) pe_int))) pa_nil))))) pss_nil))))
      (pss_one (ps_ret (pe_tup (pa_cons pe_non (pa_cons (pe_tupRg rfl (by rfl) T.m_tuple (prg_1 (by rfl) T.m_range (pe_callB call_len_seq (by rfl) T.m_len (by decide +kernel) (pa_cons (pv 0) pa_nil)))) pa_nil)))))), ?_⟩
    have hlen : (ws.map V.str).length = ws.length := List.length_map ..
    -- the tuple that is told
    have tell : ∀ (H1 : Hp) (n : Nat) (o : Option Nat) (p t : Addr), Same H H1 → (o, n) = along g h 0 ws → H1 p = none → upd H1 p (.tup (rgV 0 (n : Int))) t = none → Q (.ref t) (upd (upd H1 p (.tup (rgV 0 (n : Int)))) t (.tup [onV o, .ref p])) := fun H1 n o p t s1 e hp ht => by
      refine k t _ ((s1.trans (same_new hp)).trans (same_new ht)) ⟨p, ?_, ?_⟩
      · show SqT K _ t [onV (along g h 0 ws).1, .ref p]
        rw [← e]
        exact SqT.of upd_same
      · show SqT K _ p ((upTo (along g h 0 ws).2).map V.int)
        rw [← e, ← rgV_up]
        exact SqT.of (kp upd_same ht)
    refine ⟨_, rfl, a, _, rfl, hS, for_it walk_enumT (fun i σ H1 => ∃ y3 y4, σ = [some (.ref a), some (.str h), some (.bl g), y3, y4] ∧ Same H H1 ∧ along g h 0 ws = along g h i (ws.drop i)) ⟨none, none, rfl, Same.refl _, rfl⟩ (fun i σ H1 _ ⟨_, _, _, s1, _⟩ => s1.seqT hS) (fun i x σ H1 H2 hi hP hy => ?_) (fun σ H1 hP => ?_)⟩
    · obtain ⟨y3, y4, rfl, s1, ea⟩ := hP
      obtain ⟨Tp, x1, x2, rfl, nT, rfl, ex1, ex2⟩ := hy
      rw [hlen] at hi
      obtain rfl : x1 = .int (i : Nat) := (Option.some.inj ex1).symm
      replace ex2 : (ws.map V.str)[i]? = some x2 := ex2
      rw [List.getElem?_map] at ex2
      obtain ⟨z, hz, rfl⟩ := Option.map_eq_some_iff.mp ex2
      have hd : ws.drop i = z :: ws.drop (i + 1) := by
        rw [List.drop_eq_getElem_cons hi]
        rw [List.getElem?_eq_getElem hi] at hz
        rw [Option.some.inj hz]
      rw [hd] at ea
      have s2 := s1.trans (same_new (o := .tup [.int (i : Nat), .str z]) nT)
      refine ⟨Tp, _, rfl, SqT.of upd_same, rfl, _, _, rfl, _, _, rfl, rfl, ?_⟩
      generalize upd H1 Tp (.tup [.int (i : Nat), .str z]) = H2 at *
      have ei : ((i : Int) + 1) = ((i + 1 : Nat) : Int) := by omega
      refine ⟨_, rfl, _, rfl, rfl, _, rfl, ite2 (fun he => ?_) (fun he => ?_)⟩
      · have he' : z = h := V.str.inj (of_decide_eq_true he)
        have e2 : (some i, i + 1) = along g h 0 ws := by
          rw [ea]
          unfold along
          rw [if_pos he']
        refine ⟨_, rfl, _, rfl, _, _, rfl, rfl, _, rfl, ⟨by omega, by omega, by omega, by omega, by omega⟩, fun p hp => ⟨by show 2 ≤ sizeLine; decide, fun t ht => ?_⟩⟩
        rw [ei] at ht ⊢
        exact tell _ (i + 1) (some i) p t s2 e2 hp ht
      · have he' : z ≠ h := fun e => he (decide_eq_true (congrArg V.str e))
        have e3 : along g h i (z :: ws.drop (i + 1)) = if (g && ltS h z) = true then (none, i + 1) else along g h (i + 1) (ws.drop (i + 1)) := by
          show (if z = h then _ else _) = _
          rw [if_neg he']
        rw [e3] at ea
        have next : (g && ltS h z) = false → ∃ y3 y4, [some (V.ref a), some (.str h), some (.bl g), some (.int (i : Nat)), some (.str z)] = [some (.ref a), some (.str h), some (.bl g), y3, y4] ∧ Same H H2 ∧ along g h 0 ws = along g h (i + 1) (ws.drop (i + 1)) := fun hb => by
          rw [hb] at ea
          exact ⟨_, _, rfl, s2, ea⟩
        refine ⟨_, rfl, _, rfl, ?_⟩
        cases hg : g with
        | false =>
          subst hg
          refine iteF ?_
          refine iteF ?_
          exact next rfl
        | true =>
          subst hg
          refine iteT ?_
          refine ⟨_, rfl, _, rfl, _, _, rfl, rfl, _, rfl, ite2 (fun hlt => ?_) (fun hlt => ?_)⟩
          · have hb : (true && ltS h z) = true := hlt
            have e2 : (none, i + 1) = along true h 0 ws := by rw [ea, if_pos hb]
            refine ⟨_, rfl, _, _, rfl, rfl, _, rfl, ⟨by omega, by omega, by omega, by omega, by omega⟩, fun p hp => ⟨by show 2 ≤ sizeLine; decide, fun t ht => ?_⟩⟩
            rw [ei] at ht ⊢
            exact tell _ (i + 1) none p t s2 e2 hp ht
          · exact next (Bool.eq_false_iff.mpr hlt)
    · obtain ⟨y3, y4, rfl, s1, ea⟩ := hP
      have e2 : (none, ws.length) = along g h 0 ws := by
        rw [ea, hlen, List.drop_length]
        rfl
      refine ⟨_, rfl, a, _, rfl, .inr (s1.seqT hS), _, rfl, ⟨by omega, by omega, by omega, by omega, by omega⟩, fun p hp => ⟨by show 2 ≤ sizeLine; decide, fun t ht => ?_⟩⟩
      rw [hlen] at ht ⊢
      exact tell _ ws.length none p t s1 e2 hp ht
def spSeekHalves (K : PySem.W.Frag) : Sp := fun vs H Q _ => ∃ (a : Addr) (ws : List Str) (h : Str), vs = [.ref a, .str h] ∧ SqT K H a (ws.map V.str) ∧ ws.length ≤ 1000 ∧ ∀ (t : Addr) (H' : Hp), Same H H' → Seen K H' t (halvesOf ws h) → Q (.ref t) H'
def midMu : St → Hp → Nat := fun σ _ => match σ with
  | [_, _, _, some (.int lo), some (.int hi), _] => (hi + 1 - lo).toNat
  | _ => 0
theorem ok_seek_by_halves (T : Top K mg) : FnOk P w K mg base CX0 1 T.a_seek_by_halves T.fd_seek_by_halves ["row", "heading"] (spSeekHalves K) := by
  refine T.F_seek_by_halves.ok sc_seek_by_halves (fun vs H Q E h => ?_) (fun cdv A outer s H vs Q E hr h => ?_)
  · obtain ⟨a, ws, h, rfl, _⟩ := h
    rfl
  · obtain ⟨a, ws, h, rfl, hS, hl, k⟩ := h
    have hu := hu_of hr
    refine ⟨_, (pss_cons (ps_set (i := 2) sc_seek_by_halves.nd rfl (.inl rfl) (pe_lst pa_nil))
      (pss_cons (ps_set (i := 3) sc_seek_by_halves.nd rfl (.inl rfl) pe_int)
      (pss_cons (ps_set (i := 4) sc_seek_by_halves.nd rfl (.inl rfl) (pe_op op_sub (pe_callB call_len_seq (by rfl) T.m_len (by decide +kernel) (pa_cons (pv 0) pa_nil)) pe_int))
      (pss_cons (ps_while PassesOwn.never (pt_cmpR op_le (pv 3) (pv 4) (nomark _))
        (pss_cons (ps_set (i := 5) sc_seek_by_halves.nd rfl (.inl rfl) (pe_op op_fdiv (pe_op op_add (pv 3) (pv 4)) pe_int))
        (pss_cons (ps_expr (pe_bm PySem.F.plainAttrs_list PySem.F.slot_list_append PySem.F.type_list_append mt_append (pv 2) (pa_cons (pv 5) pa_nil)))
        (pss_cons (ps_if (pt_cmpR op_eq (pe_ix ix_tup (pv 0) (pv 5) (fun _ _ => rfl)) (pv 1) (nomark _)) (pss_one (ps_ret (pe_tup (pa_cons (pv 5) (pa_cons (pe_callTy call_tuple_of (by rfl) T.m_tuple (by decide +kernel) (pa_cons (pv 2) pa_nil)) pa_nil))))) pss_nil)
        (pss_one (ps_if (pt_cmpR op_gt_str (pe_ix ix_tup (pv 0) (pv 5) (fun _ _ => rfl)) (pv 1) (nomark _)) (pss_one (ps_set (i := 4) sc_seek_by_halves.nd rfl (.inl rfl) (pe_op op_sub (pv 5) pe_int))) (pss_one (ps_set (i := 3) sc_seek_by_halves.nd rfl (.inl rfl) (pe_op op_add (pv 5) pe_int)))))))))
      (pss_one (ps_ret (pe_tup (pa_cons pe_non (pa_cons (pe_callTy call_tuple_of (by rfl) T.m_tuple (by decide +kernel) (pa_cons (pv 2) pa_nil)) pa_nil))))))))), ?_⟩
    have hlen : (ws.map V.str).length = ws.length := List.length_map ..
    refine ⟨Nat.zero_le _, fun l hl0 => ?_⟩
    refine ⟨_, rfl, a, _, rfl, .inr ((same_new hl0).seqT hS), ?_⟩
    refine ⟨_, _, rfl, rfl, ?_⟩
    refine while_by (fun σ H1 => ∃ (lo hi : Int) (ps : List Int) (y5 : Option V), σ = [some (.ref a), some (.str h), some (.ref l), some (.int lo), some (.int hi), y5] ∧ Same H H1 ∧ H1 l = some (.lst (ps.map V.int)) ∧ 0 ≤ lo ∧ hi < ws.length ∧ (∃ f, (hi + 1 - lo).toNat < f ∧ halvesOf ws h = halves ws h f lo hi ps) ∧ ps.length + (hi + 1 - lo).toNat ≤ ws.length) midMu
      ⟨0, ((ws.map V.str).length : Int) - 1, [], none, rfl, same_new hl0, upd_same, Int.le_refl _, by omega, ⟨ws.length + 1, by omega, by rw [hlen]; rfl⟩, by show 0 + _ ≤ _; omega⟩ (fun σ H1 hP => ?_) (fun σ H1 Q Q' hq hc => ?_)
    · obtain ⟨lo, hi, ps, y5, rfl, s1, el, h0, h1, ⟨f, hf, eq⟩, hb⟩ := hP
      obtain ⟨f, rfl⟩ : ∃ f', f = f' + 1 := ⟨f - 1, by omega⟩
      refine ⟨_, rfl, _, rfl, _, _, rfl, rfl, _, rfl, ite2 (fun hle => ?_) (fun hle => ?_)⟩
      · have hle' : lo ≤ hi := of_decide_eq_true hle
        have hm0 : 0 ≤ (lo + hi) / 2 := by omega
        have hm1 : lo ≤ (lo + hi) / 2 ∧ (lo + hi) / 2 ≤ hi := by omega
        have hmn : ((lo + hi) / 2).toNat < ws.length := by omega
        have heq : halvesOf ws h = if ws[((lo + hi) / 2).toNat]?.getD "" = h then (some ((lo + hi) / 2).toNat, ps ++ [(lo + hi) / 2])
            else if ltS h (ws[((lo + hi) / 2).toNat]?.getD "") = true then halves ws h f lo ((lo + hi) / 2 - 1) (ps ++ [(lo + hi) / 2])
            else halves ws h f ((lo + hi) / 2 + 1) hi (ps ++ [(lo + hi) / 2]) := by
          rw [eq]
          show (if lo ≤ hi then _ else _) = _
          rw [if_pos hle']
        rw [List.getElem?_eq_getElem hmn] at heq
        have hat : atI (ws.map V.str) ((lo + hi) / 2) = some (.str ws[((lo + hi) / 2).toNat]) := by
          have q := atI_nat (xs := ws.map V.str) (j := ((lo + hi) / 2).toNat) (v := .str ws[((lo + hi) / 2).toNat]) (by rw [List.getElem?_map, List.getElem?_eq_getElem hmn]; rfl)
          rw [Int.toNat_of_nonneg hm0] at q
          exact q
        refine ⟨_, rfl, _, rfl, _, _, rfl, rfl, _, _, rfl, rfl, ⟨by decide, by decide⟩, ?_⟩
        have hS1 := s1.seqT hS
        have hS2 : SqT K (upd H1 l (.lst (ps.map V.int ++ [.int ((lo + hi) / 2)]))) a (ws.map V.str) := (same_mut s1 hl0).seqT hS
        have el2 : (upd H1 l (.lst (ps.map V.int ++ [.int ((lo + hi) / 2)]))) l = some (.lst ((ps ++ [(lo + hi) / 2]).map V.int)) := by
          rw [upd_same, List.map_append]
          rfl
        refine ⟨_, rfl, .inl ⟨rfl, _, SqL.of el⟩, _, rfl, l, _, _, rfl, rfl, el, sizeLine_of (by rw [List.length_map]; omega), ?_⟩
        have s2 : Same H (upd H1 l (.lst (ps.map V.int ++ [.int ((lo + hi) / 2)]))) := same_mut s1 hl0
        generalize upd H1 l (.lst (ps.map V.int ++ [.int ((lo + hi) / 2)])) = H2 at *
        refine ⟨_, rfl, _, rfl, a, _, _, _, rfl, rfl, hS2, hat, _, rfl, rfl, _, rfl, ite2 (fun he => ?_) (fun he => ?_)⟩
        · have he' : ws[((lo + hi) / 2).toNat] = h := V.str.inj (of_decide_eq_true he)
          have e2 : halvesOf ws h = (some ((lo + hi) / 2).toNat, ps ++ [(lo + hi) / 2]) := by
            rw [heq]
            exact if_pos he'
          refine ⟨_, rfl, _, rfl, l, _, rfl, .inl ⟨SqL.of el2, fun p hp => ⟨by show 2 ≤ sizeLine; decide, fun t ht => ?_⟩⟩⟩
          refine k t _ ((s2.trans (same_new hp)).trans (same_new ht)) ⟨p, ?_, ?_⟩
          · rw [e2]
            show SqT K _ t [.int ((((lo + hi) / 2).toNat : Nat) : Int), .ref p]
            rw [Int.toNat_of_nonneg hm0]
            exact SqT.of upd_same
          · rw [e2]
            exact SqT.of (kp upd_same ht)
        · have he' : ¬ ws[((lo + hi) / 2).toNat] = h := fun e => he (decide_eq_true (congrArg V.str e))
          replace heq := heq.trans (if_neg he')
          refine ⟨_, rfl, _, rfl, a, _, _, _, rfl, rfl, hS2, hat, _, rfl, _, _, rfl, rfl, _, rfl, ite2 (fun hlt => ?_) (fun hlt => ?_)⟩
          · have heq := heq.trans (if_pos (show ltS h _ = true from hlt))
            refine ⟨_, rfl, _, _, rfl, rfl, ?_⟩
            refine ⟨⟨lo, (lo + hi) / 2 - 1, ps ++ [(lo + hi) / 2], _, rfl, s2, el2, h0, by omega, ⟨f, by omega, heq⟩, by rw [List.length_append, List.length_singleton]; omega⟩, ?_⟩
            show ((lo + hi) / 2 - 1 + 1 - lo).toNat < (hi + 1 - lo).toNat
            omega
          · have heq := heq.trans (if_neg (show ¬ ltS h _ = true from hlt))
            refine ⟨_, rfl, _, _, rfl, rfl, ?_⟩
            refine ⟨⟨(lo + hi) / 2 + 1, hi, ps ++ [(lo + hi) / 2], _, rfl, s2, el2, by omega, h1, ⟨f, by omega, heq⟩, by rw [List.length_append, List.length_singleton]; omega⟩, ?_⟩
            show (hi + 1 - ((lo + hi) / 2 + 1)).toNat < (hi + 1 - lo).toNat
            omega
      · have hle' : ¬ lo ≤ hi := fun z => hle (decide_eq_true z)
        have e2 : halvesOf ws h = (none, ps) := by
          rw [eq]
          show (if lo ≤ hi then _ else _) = _
          rw [if_neg hle']
        refine ⟨_, rfl, l, _, rfl, .inl ⟨SqL.of el, fun p hp => ⟨by show 2 ≤ sizeLine; decide, fun t ht => ?_⟩⟩⟩
        refine k t _ ((s1.trans (same_new hp)).trans (same_new ht)) ⟨p, ?_, ?_⟩
        · rw [e2]
          exact SqT.of upd_same
        · rw [e2]
          exact SqT.of (kp upd_same ht)
    · obtain ⟨x, hx, y, hy, i, j, rfl, rfl, b, hb, q⟩ := hc
      exact ⟨_, hx, _, hy, i, j, rfl, rfl, b, hb, hq _ _ q⟩
end
section
local macro_rules | `(tactic| walk_at "sl") => `(tactic| first | assumption | exact SqL.of upd_same | exact SqL.of (by assumption) | ((with_reducible apply sql_upd); (walk_at "sl"); (first | assumption | exact Ne.symm (by assumption))))
local macro_rules | `(tactic| walk_at "st") => `(tactic| first | assumption | exact SqT.of upd_same | exact SqT.of (by assumption))
local macro_rules | `(tactic| walk_at "sc") => `(tactic| first | rfl | assumption | (show (0 : Int) < _; first | assumption | decide | omega) | exact Or.inl ⟨by omega, by omega⟩ | exact Or.inr ⟨by omega, by omega⟩ | exact ⟨by decide, by decide⟩ | exact ⟨by decide, by decide, by decide⟩)
local macro_rules | `(tactic| walk_at "g1") => `(tactic| first
  | refine ⟨(_ : V), rfl, ?_⟩
  | refine ⟨(_ : Bool), rfl, ?_⟩
  | refine ⟨(_ : Int), (_ : Int), rfl, rfl, ?_⟩
  | refine ⟨(_ : Int), rfl, ?_⟩
  | refine ⟨(_ : Str), rfl, ?_⟩
  | refine ⟨(_ : Addr), (_ : List V), rfl, Or.inl (by walk_at "sl"), ?_⟩
  | refine ⟨(_ : Addr), (_ : List V), rfl, Or.inr (by walk_at "st"), ?_⟩
  | refine ⟨(_ : Addr), (_ : List V), (_ : Int), (_ : V), rfl, rfl, (by walk_at "sl"), (by first | rfl | assumption), ?_⟩
  | refine ⟨(_ : Addr), (_ : List V), (_ : Int), (_ : V), rfl, rfl, (by walk_at "st"), (by first | rfl | assumption), ?_⟩
  | refine ⟨(_ : Addr), (_ : List V), (_ : Int), (_ : Nat), rfl, rfl, upd_same, rfl, ?_⟩
  | refine ⟨(_ : Addr), (_ : List V), (_ : Int), (_ : Nat), rfl, rfl, (by assumption), rfl, ?_⟩
  | refine ⟨(_ : Addr), (_ : Addr), (_ : Addr), (_ : List (Str × V)), (_ : V), rfl, (by assumption), (by assumption), (by assumption), (by first | assumption | rfl), ?_⟩
  | refine Or.inl ⟨(_ : Int), rfl, ?_⟩
  | refine And.intro (by walk_at "sc") ?_
  | refine iteT ?_
  | refine iteF ?_)
def rules3 : List Str := ["all", "leaf", "half"]
def spSeek (K : PySem.W.Frag) : Sp := fun vs H Q _ => ∃ (a : Addr) (ws : List Str) (rule h : Str), vs = [.ref a, .str rule, .str h] ∧ SqT K H a (ws.map V.str) ∧ ws.length ≤ 1000 ∧ ∀ (t : Addr) (H' : Hp), Same H H' → Seen K H' t (seekOf ws rule h) → Q (.ref t) H'
theorem ok_seek (T : Top K mg) : FnOk P w K mg base CX0 2 T.a_seek T.fd_seek ["row", "rule", "heading"] (spSeek K) := by
  refine T.F_seek.ok sc_seek (fun vs H Q E h => ?_) (fun cdv A outer s H vs Q E hr h => ?_)
  · obtain ⟨a, ws, r, h, rfl, _⟩ := h
    rfl
  · obtain ⟨a, ws, r, h, rfl, hS, hl, k⟩ := h
    have hu := hu_of hr
    refine ⟨_, (pss_cons (ps_if (pt_cmpR op_eq (pv 1) pe_str (nomark _)) (pss_one (ps_ret (pe_call (ok_seek_by_halves T) (hr.mono (by decide)) (by rfl) T.g_seek_by_halves T.F_seek_by_halves.kp (b_seek_by_halves T) .nil pass0 (pa_cons (pv 0) (pa_cons (pv 2) pa_nil))))) pss_nil)
      (pss_one (ps_ret (pe_call (ok_seek_along T) (hr.mono (by decide)) (by rfl) T.g_seek_along T.F_seek_along.kp (b_seek_along T) .nil pass0 (pa_cons (pv 0) (pa_cons (pv 2) (pa_cons (pe_cmpR op_eq (pv 1) pe_str (nomark _)) pa_nil))))))), ?_⟩
    refine ⟨_, rfl, rfl, _, rfl, ite2 (fun he => ?_) (fun he => ?_)⟩
    · have e : seekOf ws r h = halvesOf ws h := if_pos (V.str.inj (of_decide_eq_true he))
      refine ⟨_, rfl, _, rfl, a, ws, h, rfl, hS, hl, fun t H' s' q => ?_⟩
      rw [← e] at q
      exact k t H' s' q
    · have e : seekOf ws r h = alongOf ws (decide (r = "leaf")) h := if_neg fun z => he (decide_eq_true (congrArg V.str z))
      refine ⟨_, rfl, _, rfl, _, rfl, rfl, a, ws, h, decide (r = "leaf"), ?_, hS, hl, fun t H' s' q => ?_⟩
      · have q : decide (V.str r = V.str "leaf") = decide (r = "leaf") := by
          by_cases e2 : r = "leaf"
          · rw [decide_eq_true e2, decide_eq_true (congrArg V.str e2)]
          · rw [decide_eq_false e2, decide_eq_false fun z => e2 (V.str.inj z)]
        show [V.ref a, V.str h, V.bl (decide (V.str r = V.str "leaf"))] = _
        rw [q]
      · rw [← e] at q
        exact k t H' s' q
def spRule : Sp := fun vs H Q _ => ∃ r : Str, vs = [.str r] ∧ r ∈ rules3 ∧ Q .non H
theorem ok_check_rule (T : Top K mg) : FnOk P w K mg base CX0 1 T.a_check_rule T.fd_check_rule ["rule"] spRule := by
  refine T.F_check_rule.ok sc_check_rule (fun vs H Q E h => ?_) (fun cdv A outer s H vs Q E hr h => ?_)
  · obtain ⟨r, rfl, _⟩ := h
    rfl
  · obtain ⟨r, rfl, hm, k⟩ := h
    have hu := hu_of hr
    refine ⟨_, (pss_one (ps_if (pt_cmpR op_notIn_seq (pv 0) (pe_glob rfl T.g_RULES T.r_RULES) rfl) (pss_one (ps_never)) pss_nil)), ?_⟩
    refine ⟨_, rfl, T.a_RULES, _, rfl, .inr (T.t_RULES H), rfl, rfl, ?_⟩
    have hv : inV (V.str r) [V.str "all", V.str "leaf", V.str "half"] = true := by
      unfold rules3 at hm
      rcases List.mem_cons.mp hm with rfl | hm
      · rfl
      · rcases List.mem_cons.mp hm with rfl | hm
        · rfl
        · rw [List.mem_singleton.mp hm]
          rfl
    rw [hv]
    refine ⟨_, rfl, iteF ?_⟩
    exact k
end
section
local macro_rules | `(tactic| walk_at "sl") => `(tactic| first | assumption | exact SqL.of upd_same | exact SqL.of (by assumption) | ((with_reducible apply sql_upd); (walk_at "sl"); (first | assumption | exact Ne.symm (by assumption))))
local macro_rules | `(tactic| walk_at "st") => `(tactic| first | assumption | exact SqT.of upd_same | exact SqT.of (by assumption))
local macro_rules | `(tactic| walk_at "sc") => `(tactic| first | rfl | assumption | (show (0 : Int) < _; first | assumption | decide | omega) | exact Or.inl ⟨by omega, by omega⟩ | exact Or.inr ⟨by omega, by omega⟩ | exact ⟨by decide, by decide⟩ | exact ⟨by decide, by decide, by decide⟩)
local macro_rules | `(tactic| walk_at "g1") => `(tactic| first
  | refine ⟨(_ : V), rfl, ?_⟩
  | refine ⟨(_ : Bool), rfl, ?_⟩
  | refine ⟨(_ : Int), (_ : Int), rfl, rfl, ?_⟩
  | refine ⟨(_ : Int), rfl, ?_⟩
  | refine ⟨(_ : Str), rfl, ?_⟩
  | refine ⟨(_ : Addr), (_ : List V), rfl, Or.inl (by walk_at "sl"), ?_⟩
  | refine ⟨(_ : Addr), (_ : List V), rfl, Or.inr (by walk_at "st"), ?_⟩
  | refine ⟨(_ : Addr), (_ : List V), (_ : Int), (_ : V), rfl, rfl, (by walk_at "sl"), (by first | rfl | assumption), ?_⟩
  | refine ⟨(_ : Addr), (_ : List V), (_ : Int), (_ : V), rfl, rfl, (by walk_at "st"), (by first | rfl | assumption), ?_⟩
  | refine ⟨(_ : Addr), (_ : List V), (_ : Int), (_ : Nat), rfl, rfl, upd_same, rfl, ?_⟩
  | refine ⟨(_ : Addr), (_ : List V), (_ : Int), (_ : Nat), rfl, rfl, (by assumption), rfl, ?_⟩
  | refine ⟨(_ : Addr), (_ : Addr), (_ : Addr), (_ : List (Str × V)), (_ : V), rfl, (by assumption), (by assumption), (by assumption), (by first | assumption | rfl), ?_⟩
  | refine Or.inl ⟨(_ : Int), rfl, ?_⟩
  | refine And.intro (by walk_at "sc") ?_
  | refine iteT ?_
  | refine iteF ?_)
def spHeading : Sp := fun vs H Q _ => ∃ h : Str, vs = [.str h] ∧ isWord h = true ∧ h.length ≤ 1000 ∧ ∀ H', Same H H' → Q .non H'
theorem ok_check_heading (T : Top K mg) : FnOk P w K mg base CX0 2 T.a_check_heading T.fd_check_heading ["heading"] spHeading := by
  refine T.F_check_heading.ok sc_check_heading (fun vs H Q E h => ?_) (fun cdv A outer s H vs Q E hr h => ?_)
  · obtain ⟨r, rfl, _⟩ := h
    rfl
  · obtain ⟨h, rfl, hw, hn, k⟩ := h
    have hu := hu_of hr
    refine ⟨_, (pss_one (ps_if (pt_not (pt_val (pe_call (ok_is_word T) (hr.mono (by decide)) (by rfl) T.g_is_word T.F_is_word.kp (b_is_word T) .nil pass0 (pa_cons (pv 0) pa_nil)))) (pss_one (ps_never)) pss_nil)), ?_⟩
    refine ⟨_, rfl, h, rfl, hn, fun H' s' => ⟨_, rfl, ?_⟩⟩
    rw [hw]
    refine iteF ?_
    exact k H' s'
end
section
local macro_rules | `(tactic| walk_at "sl") => `(tactic| first | assumption | exact SqL.of upd_same | exact SqL.of (by assumption) | ((with_reducible apply sql_upd); (walk_at "sl"); (first | assumption | exact Ne.symm (by assumption))))
local macro_rules | `(tactic| walk_at "st") => `(tactic| first | assumption | exact SqT.of upd_same | exact SqT.of (by assumption))
local macro_rules | `(tactic| walk_at "sc") => `(tactic| first | rfl | assumption | (show (0 : Int) < _; first | assumption | decide | omega) | exact Or.inl ⟨by omega, by omega⟩ | exact Or.inr ⟨by omega, by omega⟩ | exact ⟨by decide, by decide⟩ | exact ⟨by decide, by decide, by decide⟩)
local macro_rules | `(tactic| walk_at "g1") => `(tactic| first
  | refine ⟨(_ : V), rfl, ?_⟩
  | refine ⟨(_ : Bool), rfl, ?_⟩
  | refine ⟨(_ : Int), (_ : Int), rfl, rfl, ?_⟩
  | refine ⟨(_ : Int), rfl, ?_⟩
  | refine ⟨(_ : Str), rfl, ?_⟩
  | refine ⟨(_ : Addr), (_ : List V), rfl, Or.inl (by walk_at "sl"), ?_⟩
  | refine ⟨(_ : Addr), (_ : List V), rfl, Or.inr (by walk_at "st"), ?_⟩
  | refine ⟨(_ : Addr), (_ : List V), (_ : Int), (_ : V), rfl, rfl, (by walk_at "sl"), (by first | rfl | assumption), ?_⟩
  | refine ⟨(_ : Addr), (_ : List V), (_ : Int), (_ : V), rfl, rfl, (by walk_at "st"), (by first | rfl | assumption), ?_⟩
  | refine ⟨(_ : Addr), (_ : List V), (_ : Int), (_ : Nat), rfl, rfl, upd_same, rfl, ?_⟩
  | refine ⟨(_ : Addr), (_ : List V), (_ : Int), (_ : Nat), rfl, rfl, (by assumption), rfl, ?_⟩
  | refine ⟨(_ : Addr), (_ : Addr), (_ : Addr), (_ : List (Str × V)), (_ : V), rfl, (by assumption), (by assumption), (by assumption), (by first | assumption | rfl), ?_⟩
  | refine Or.inl ⟨(_ : Int), rfl, ?_⟩
  | refine And.intro (by walk_at "sc") ?_
  | refine iteT ?_
  | refine iteF ?_)
/-! ### places; a drawer without some cards -/
/-- the cards but those of some places -/
def lessAt {α : Type} (cs : List α) (ns : List Int) : List α := (List.range cs.length).filterMap fun (i : Nat) => if ((i : Int) ∈ ns) then none else cs[i]?
theorem lessAt_map {α β : Type} (f : α → β) (cs : List α) (ns : List Int) : lessAt (cs.map f) ns = (lessAt cs ns).map f := by
  unfold lessAt
  rw [List.length_map, List.map_filterMap]
  congr 1
  funext i
  rw [List.getElem?_map]
  split <;> rfl
theorem lessAt_sub {α : Type} {cs : List α} {ns : List Int} {x : α} (h : x ∈ lessAt cs ns) : x ∈ cs := by
  unfold lessAt at h
  obtain ⟨i, _, e⟩ := List.mem_filterMap.mp h
  split at e
  · cases e
  · exact List.mem_of_getElem? e
theorem lessAt_len {α : Type} (cs : List α) (ns : List Int) : (lessAt cs ns).length ≤ cs.length := by
  unfold lessAt
  have q := List.length_filterMap_le (fun (i : Nat) => if ((i : Int) ∈ ns) then none else cs[i]?) (List.range cs.length)
  rw [List.length_range] at q
  exact q
theorem Cards.zip {C : Addr} {H : Hp} {ps : List Addr} {cs : List CD} (h : Cards K C H ps cs) : ps = (ps.zip cs).map Prod.fst ∧ cs = (ps.zip cs).map Prod.snd ∧ ∀ z ∈ ps.zip cs, CardAt K C H z.1 z.2 := by
  refine ⟨(List.map_fst_zip (Nat.le_of_eq h.1)).symm, (List.map_snd_zip (Nat.le_of_eq h.1.symm)).symm, fun z hz => ?_⟩
  obtain ⟨i, hi⟩ := List.getElem?_of_mem hz
  obtain ⟨h1, h2⟩ := List.getElem?_zip_eq_some.mp hi
  exact h.2 i _ _ h1 h2
theorem Cards.of_zip {C : Addr} {H : Hp} {zs : List (Addr × CD)} (h : ∀ z ∈ zs, CardAt K C H z.1 z.2) : Cards K C H (zs.map Prod.fst) (zs.map Prod.snd) := by
  refine ⟨by rw [List.length_map, List.length_map], fun i q c h1 h2 => ?_⟩
  rw [List.getElem?_map] at h1 h2
  obtain ⟨z, hz, rfl⟩ := Option.map_eq_some_iff.mp h1
  rw [hz] at h2
  cases h2
  exact h z (List.mem_of_getElem? hz)
theorem Cards.less {C : Addr} {H : Hp} {ps : List Addr} {cs : List CD} (h : Cards K C H ps cs) (ns : List Int) : Cards K C H (lessAt ps ns) (lessAt cs ns) := by
  obtain ⟨e1, e2, h3⟩ := h.zip
  rw [e1]
  generalize hz : ps.zip cs = zs at *
  rw [e2, lessAt_map, lessAt_map]
  exact Cards.of_zip fun z hz' => h3 z (lessAt_sub hz')
theorem inV_int {i : Int} : ∀ ns : List Int, inV (.int i) (ns.map V.int) = decide (i ∈ ns)
  | [] => rfl
  | n :: r => by
    show (eqV (.int n) (.int i) || inV (.int i) (r.map V.int)) = _
    rw [inV_int r]
    show ((n == i) || _) = _
    by_cases e : n = i
    · subst e
      simp
    · have e2 : (n == i) = false := beq_eq_false_iff_ne.mpr e
      rw [e2, Bool.false_or]
      by_cases e3 : i ∈ r
      · rw [decide_eq_true e3, decide_eq_true (List.mem_cons_of_mem _ e3)]
      · rw [decide_eq_false e3, decide_eq_false fun z => (List.mem_cons.mp z).elim (fun z => e z.symm) e3]
theorem flat_ints : ∀ ns : List Int, (ns.map V.int).all flatV = true
  | [] => rfl
  | _ :: r => flat_ints r
end
section
local macro_rules | `(tactic| walk_at "sl") => `(tactic| first | assumption | exact SqL.of upd_same | exact SqL.of (by assumption) | ((with_reducible apply sql_upd); (walk_at "sl"); (first | assumption | exact Ne.symm (by assumption))))
local macro_rules | `(tactic| walk_at "st") => `(tactic| first | assumption | exact SqT.of upd_same | exact SqT.of (by assumption))
local macro_rules | `(tactic| walk_at "sc") => `(tactic| first | rfl | assumption | (show (0 : Int) < _; first | assumption | decide | omega) | exact Or.inl ⟨by omega, by omega⟩ | exact Or.inr ⟨by omega, by omega⟩ | exact ⟨by decide, by decide⟩ | exact ⟨by decide, by decide, by decide⟩)
local macro_rules | `(tactic| walk_at "g1") => `(tactic| first
  | refine ⟨(_ : V), rfl, ?_⟩
  | refine ⟨(_ : Bool), rfl, ?_⟩
  | refine ⟨(_ : Int), (_ : Int), rfl, rfl, ?_⟩
  | refine ⟨(_ : Int), rfl, ?_⟩
  | refine ⟨(_ : Str), rfl, ?_⟩
  | refine ⟨(_ : Addr), (_ : List V), rfl, Or.inl (by walk_at "sl"), ?_⟩
  | refine ⟨(_ : Addr), (_ : List V), rfl, Or.inr (by walk_at "st"), ?_⟩
  | refine ⟨(_ : Addr), (_ : List V), (_ : Int), (_ : V), rfl, rfl, (by walk_at "sl"), (by first | rfl | assumption), ?_⟩
  | refine ⟨(_ : Addr), (_ : List V), (_ : Int), (_ : V), rfl, rfl, (by walk_at "st"), (by first | rfl | assumption), ?_⟩
  | refine ⟨(_ : Addr), (_ : List V), (_ : Int), (_ : Nat), rfl, rfl, upd_same, rfl, ?_⟩
  | refine ⟨(_ : Addr), (_ : List V), (_ : Int), (_ : Nat), rfl, rfl, (by assumption), rfl, ?_⟩
  | refine ⟨(_ : Addr), (_ : Addr), (_ : Addr), (_ : List (Str × V)), (_ : V), rfl, (by assumption), (by assumption), (by assumption), (by first | assumption | rfl), ?_⟩
  | refine Or.inl ⟨(_ : Int), rfl, ?_⟩
  | refine And.intro (by walk_at "sc") ?_
  | refine iteT ?_
  | refine iteF ?_)
def spLookUp (K : PySem.W.Frag) (D C : Addr) : Sp := fun vs H Q _ => ∃ (p : Addr) (cs : List CD) (r h : Str), vs = [.ref p, .str r, .str h] ∧ DrawerAt K D C H p cs ∧ cs.length ≤ 1000 ∧ r ∈ rules3 ∧ isWord h = true ∧ h.length ≤ 1000 ∧ ∀ (t : Addr) (H' : Hp), Same H H' → Seen K H' t (seekOf (heads cs) r h) → Q (.ref t) H'
theorem ok_look_up (T : Top K mg) : FnOk P w K mg base CX0 4 T.a_look_up T.fd_look_up ["drawer", "rule", "heading"] (spLookUp K T.c_Drawer T.c_Card) := by
  refine T.F_look_up.ok sc_look_up (fun vs H Q E h => ?_) (fun cdv A outer s H vs Q E hr h => ?_)
  · obtain ⟨p, cs, r, h, rfl, _⟩ := h
    rfl
  · obtain ⟨p, cs, r, h, rfl, hD, hl, hr3, hw, hn, k⟩ := h
    have hu := hu_of hr
    refine ⟨_, (pss_cons (ps_expr (pe_call (ok_check_rule T) (hr.mono (by decide)) (by rfl) T.g_check_rule T.F_check_rule.kp (b_check_rule T) .nil pass0 (pa_cons (pv 1) pa_nil)))
      (pss_cons (ps_expr (pe_call (ok_check_heading T) (hr.mono (by decide)) (by rfl) T.g_check_heading T.F_check_heading.kp (b_check_heading T) .nil pass0 (pa_cons (pv 2) pa_nil)))
      (pss_one (ps_ret (pe_call (ok_seek T) (hr.mono (by decide)) (by rfl) T.g_seek T.F_seek.kp (b_seek T) .nil pass0 (pa_cons (pe_call (ok_headings_along T) (hr.mono (by decide)) (by rfl) T.g_headings_along T.F_headings_along.kp (b_headings_along T) .nil pass0 (pa_cons (pv 0) pa_nil)) (pa_cons (pv 1) (pa_cons (pv 2) pa_nil)))))))), ?_⟩
    refine ⟨_, rfl, r, rfl, hr3, ?_⟩
    refine ⟨_, rfl, h, rfl, hw, hn, fun H1 s1 => ?_⟩
    refine ⟨_, rfl, p, cs, rfl, hD.imm s1.imm, hl, fun t H2 s2 tn te => ?_⟩
    refine ⟨_, rfl, _, rfl, t, heads cs, r, h, rfl, SqT.of te, by unfold heads; rw [List.length_map]; exact hl, fun u H3 s3 q => ?_⟩
    exact k u H3 ((s1.trans s2).trans s3) q
end
section
local macro_rules | `(tactic| walk_at "sl") => `(tactic| first | assumption | exact SqL.of upd_same | exact SqL.of (by assumption) | ((with_reducible apply sql_upd); (walk_at "sl"); (first | assumption | exact Ne.symm (by assumption))))
local macro_rules | `(tactic| walk_at "st") => `(tactic| first | assumption | exact SqT.of upd_same | exact SqT.of (by assumption))
local macro_rules | `(tactic| walk_at "sc") => `(tactic| first | rfl | assumption | (show (0 : Int) < _; first | assumption | decide | omega) | exact Or.inl ⟨by omega, by omega⟩ | exact Or.inr ⟨by omega, by omega⟩ | exact ⟨by decide, by decide⟩ | exact ⟨by decide, by decide, by decide⟩)
local macro_rules | `(tactic| walk_at "g1") => `(tactic| first
  | refine ⟨(_ : V), rfl, ?_⟩
  | refine ⟨(_ : Bool), rfl, ?_⟩
  | refine ⟨(_ : Int), (_ : Int), rfl, rfl, ?_⟩
  | refine ⟨(_ : Int), rfl, ?_⟩
  | refine ⟨(_ : Str), rfl, ?_⟩
  | refine ⟨(_ : Addr), (_ : List V), rfl, Or.inl (by walk_at "sl"), ?_⟩
  | refine ⟨(_ : Addr), (_ : List V), rfl, Or.inr (by walk_at "st"), ?_⟩
  | refine ⟨(_ : Addr), (_ : List V), (_ : Int), (_ : V), rfl, rfl, (by walk_at "sl"), (by first | rfl | assumption), ?_⟩
  | refine ⟨(_ : Addr), (_ : List V), (_ : Int), (_ : V), rfl, rfl, (by walk_at "st"), (by first | rfl | assumption), ?_⟩
  | refine ⟨(_ : Addr), (_ : List V), (_ : Int), (_ : Nat), rfl, rfl, upd_same, rfl, ?_⟩
  | refine ⟨(_ : Addr), (_ : List V), (_ : Int), (_ : Nat), rfl, rfl, (by assumption), rfl, ?_⟩
  | refine ⟨(_ : Addr), (_ : Addr), (_ : Addr), (_ : List (Str × V)), (_ : V), rfl, (by assumption), (by assumption), (by assumption), (by first | assumption | rfl), ?_⟩
  | refine Or.inl ⟨(_ : Int), rfl, ?_⟩
  | refine And.intro (by walk_at "sc") ?_
  | refine iteT ?_
  | refine iteF ?_)
/-! ### the law's own searcher -/
def hereOf (r : Str) (lo hi : Int) : Int := if r = "half" then (lo + hi - 1) / 2 else lo
def J (ws : List Str) (r h : Str) (lo hi : Int) (ps : List Int) : Prop :=
  (r = "half" ∧ ∃ f, (hi - lo).toNat < f ∧ halvesOf ws h = halves ws h f lo (hi - 1) ps) ∨
  (r ≠ "half" ∧ ((hi = ws.length ∧ ps = upTo lo.toNat ∧ along (decide (r = "leaf")) h 0 ws = along (decide (r = "leaf")) h lo.toNat (ws.drop lo.toNat)) ∨ (hi ≤ lo ∧ alongOf ws (decide (r = "leaf")) h = (none, ps))))
theorem upTo_succ (n : Nat) : upTo (n + 1) = upTo n ++ [(n : Int)] := by
  unfold upTo
  rw [List.range_succ, List.map_append]
  rfl
theorem J_start (ws : List Str) (r h : Str) : J ws r h 0 ws.length [] := by
  by_cases e : r = "half"
  · exact .inl ⟨e, ws.length + 1, by omega, rfl⟩
  · exact .inr ⟨e, .inl ⟨rfl, rfl, rfl⟩⟩
theorem J_stop {ws : List Str} {r h : Str} {lo hi : Int} {ps : List Int} (j : J ws r h lo hi ps) (h0 : 0 ≤ lo) (hs : hi ≤ lo) : seekOf ws r h = (none, ps) := by
  rcases j with ⟨e, f, hf, q⟩ | ⟨e, ⟨h1, h2, h3⟩ | ⟨_, h2⟩⟩
  · unfold seekOf
    rw [if_pos e, q]
    cases f with
    | zero => rfl
    | succ f =>
      show (if lo ≤ hi - 1 then _ else _) = _
      rw [if_neg (by omega)]
  · unfold seekOf
    rw [if_neg e]
    unfold alongOf
    have hl : ws.length ≤ lo.toNat := by omega
    rw [h3, List.drop_eq_nil_of_le hl, h2]
    rfl
  · unfold seekOf
    rw [if_neg e, h2]
theorem J_in {ws : List Str} {r h : Str} {lo hi : Int} {ps : List Int} (j : J ws r h lo hi ps) (h0 : 0 ≤ lo) (hs : lo < hi) (hn : hi ≤ ws.length) : 0 ≤ hereOf r lo hi ∧ lo ≤ hereOf r lo hi ∧ hereOf r lo hi < hi := by
  unfold hereOf
  split
  · omega
  · omega
theorem J_half {ws : List Str} {h : Str} {lo hi : Int} {ps : List Int} {f : Nat} {x : Str} (h0 : 0 ≤ lo) (hs : lo < hi) (hx : ws[((lo + hi - 1) / 2).toNat]? = some x) :
    halves ws h (f + 1) lo (hi - 1) ps = if x = h then (some ((lo + hi - 1) / 2).toNat, ps ++ [(lo + hi - 1) / 2]) else if ltS h x = true then halves ws h f lo ((lo + hi - 1) / 2 - 1) (ps ++ [(lo + hi - 1) / 2]) else halves ws h f ((lo + hi - 1) / 2 + 1) (hi - 1) (ps ++ [(lo + hi - 1) / 2]) := by
  have e : lo + (hi - 1) = lo + hi - 1 := by omega
  show (if lo ≤ hi - 1 then (if ws[((lo + (hi - 1)) / 2).toNat]?.getD "" = h then _ else _) else _) = _
  rw [if_pos (by omega), e, hx]
  rfl
theorem J_along {ws : List Str} {g : Bool} {h : Str} {n : Nat} {x : Str} (hx : ws[n]? = some x) : along g h n (ws.drop n) = if x = h then (some n, n + 1) else if (g && ltS h x) = true then (none, n + 1) else along g h (n + 1) (ws.drop (n + 1)) := by
  have hn := (List.getElem?_eq_some_iff.mp hx).1
  have hd : ws.drop n = x :: ws.drop (n + 1) := by
    rw [List.drop_eq_getElem_cons hn]
    rw [List.getElem?_eq_getElem hn] at hx
    rw [Option.some.inj hx]
  rw [hd]
  rfl
theorem J_hit {ws : List Str} {r h : Str} {lo hi : Int} {ps : List Int} (j : J ws r h lo hi ps) (h0 : 0 ≤ lo) (hs : lo < hi) (hx : ws[(hereOf r lo hi).toNat]? = some h) : seekOf ws r h = (some (hereOf r lo hi).toNat, ps ++ [hereOf r lo hi]) := by
  rcases j with ⟨e, f, hf, q⟩ | ⟨e, ⟨h1, h2, h3⟩ | ⟨h4, _⟩⟩
  · have eh : hereOf r lo hi = (lo + hi - 1) / 2 := if_pos e
    rw [eh] at hx ⊢
    obtain ⟨f, rfl⟩ : ∃ f', f = f' + 1 := ⟨f - 1, by omega⟩
    unfold seekOf
    rw [if_pos e, q, J_half h0 hs hx, if_pos rfl]
  · have eh : hereOf r lo hi = lo := if_neg e
    rw [eh] at hx ⊢
    unfold seekOf
    rw [if_neg e]
    unfold alongOf
    rw [h3, J_along hx, if_pos rfl, upTo_succ, Int.toNat_of_nonneg h0, h2]
  · omega
theorem J_up {ws : List Str} {r h x : Str} {lo hi : Int} {ps : List Int} (hr : r ∈ rules3) (j : J ws r h lo hi ps) (h0 : 0 ≤ lo) (hs : lo < hi) (hx : ws[(hereOf r lo hi).toNat]? = some x) (hne : x ≠ h) (hlt : ltS h x = true) (ha : r ≠ "all") :
    J ws r h lo (if r = "half" then hereOf r lo hi else lo) (ps ++ [hereOf r lo hi]) := by
  rcases j with ⟨e, f, hf, q⟩ | ⟨e, ⟨h1, h2, h3⟩ | ⟨h4, _⟩⟩
  · have eh : hereOf r lo hi = (lo + hi - 1) / 2 := if_pos e
    rw [if_pos e]
    rw [eh] at hx ⊢
    obtain ⟨f, rfl⟩ : ∃ f', f = f' + 1 := ⟨f - 1, by omega⟩
    rw [J_half h0 hs hx, if_neg hne, if_pos hlt] at q
    exact .inl ⟨e, f, by omega, q⟩
  · have eh : hereOf r lo hi = lo := if_neg e
    rw [if_neg e]
    rw [eh] at hx ⊢
    have hl : r = "leaf" := by
      unfold rules3 at hr
      rcases List.mem_cons.mp hr with h | hr
      · exact absurd h ha
      · rcases List.mem_cons.mp hr with h | hr
        · exact h
        · exact absurd (List.mem_singleton.mp hr) e
    refine .inr ⟨e, .inr ⟨Int.le_refl _, ?_⟩⟩
    unfold alongOf
    rw [h3, J_along hx, if_neg hne, if_pos (by rw [decide_eq_true hl, hlt]; rfl), upTo_succ, Int.toNat_of_nonneg h0, h2]
  · omega
theorem J_down {ws : List Str} {r h x : Str} {lo hi : Int} {ps : List Int} (hr : r ∈ rules3) (j : J ws r h lo hi ps) (h0 : 0 ≤ lo) (hs : lo < hi) (hx : ws[(hereOf r lo hi).toNat]? = some x) (hne : x ≠ h) (hno : ¬ (ltS h x = true ∧ r ≠ "all")) :
    J ws r h (hereOf r lo hi + 1) hi (ps ++ [hereOf r lo hi]) := by
  rcases j with ⟨e, f, hf, q⟩ | ⟨e, ⟨h1, h2, h3⟩ | ⟨h4, _⟩⟩
  · have eh : hereOf r lo hi = (lo + hi - 1) / 2 := if_pos e
    have ha : r ≠ "all" := by
      rw [e]
      decide
    rw [eh] at hx ⊢
    obtain ⟨f, rfl⟩ : ∃ f', f = f' + 1 := ⟨f - 1, by omega⟩
    rw [J_half h0 hs hx, if_neg hne, if_neg (fun z => hno ⟨z, ha⟩)] at q
    exact .inl ⟨e, f, by omega, q⟩
  · have eh : hereOf r lo hi = lo := if_neg e
    rw [eh] at hx ⊢
    have hb : ¬ (decide (r = "leaf") && ltS h x) = true := fun z => by
      rw [Bool.and_eq_true] at z
      refine hno ⟨z.2, fun ha => ?_⟩
      have := of_decide_eq_true z.1
      rw [ha] at this
      exact absurd this (by decide)
    rw [J_along hx, if_neg hne, if_neg hb] at h3
    have e1 : (lo + 1).toNat = lo.toNat + 1 := by omega
    refine .inr ⟨e, .inl ⟨h1, ?_, ?_⟩⟩
    · rw [e1, upTo_succ, Int.toNat_of_nonneg h0, h2]
    · rw [e1]
      exact h3
  · omega
theorem tC_to {v : V} {σ : St} {H : Hp} {Q : VK} (q : Q v H) : tC v σ H Q := q
theorem ifE {c : Bool} {ta tb : TE} {σ : St} {H : Hp} {Q : VK} (v : V) (H' : Hp) (q : Q v H') (a : c = true → Q v H' → ta σ H Q) (b : ¬ c = true → Q v H' → tb σ H Q) : if c = true then ta σ H Q else tb σ H Q := by
  split
  · exact a (by assumption) q
  · exact b (by assumption) q
theorem str_dec (a b : Str) : decide (V.str a = V.str b) = decide (a = b) := by
  by_cases e : a = b
  · rw [decide_eq_true e, decide_eq_true (congrArg V.str e)]
  · rw [decide_eq_false e, decide_eq_false fun z => e (V.str.inj z)]
end
section
local macro_rules | `(tactic| walk_at "sl") => `(tactic| first | assumption | exact SqL.of upd_same | exact SqL.of (by assumption) | ((with_reducible apply sql_upd); (walk_at "sl"); (first | assumption | exact Ne.symm (by assumption))))
local macro_rules | `(tactic| walk_at "st") => `(tactic| first | assumption | exact SqT.of upd_same | exact SqT.of (by assumption))
local macro_rules | `(tactic| walk_at "sc") => `(tactic| first | rfl | assumption | (show (0 : Int) < _; first | assumption | decide | omega) | exact Or.inl ⟨by omega, by omega⟩ | exact Or.inr ⟨by omega, by omega⟩ | exact ⟨by decide, by decide⟩ | exact ⟨by decide, by decide, by decide⟩)
local macro_rules | `(tactic| walk_at "g1") => `(tactic| first
  | refine ⟨(_ : V), rfl, ?_⟩
  | refine ⟨(_ : Bool), rfl, ?_⟩
  | refine ⟨(_ : Int), (_ : Int), rfl, rfl, ?_⟩
  | refine ⟨(_ : Int), rfl, ?_⟩
  | refine ⟨(_ : Str), rfl, ?_⟩
  | refine ⟨(_ : Addr), (_ : List V), rfl, Or.inl (by walk_at "sl"), ?_⟩
  | refine ⟨(_ : Addr), (_ : List V), rfl, Or.inr (by walk_at "st"), ?_⟩
  | refine ⟨(_ : Addr), (_ : List V), (_ : Int), (_ : V), rfl, rfl, (by walk_at "sl"), (by first | rfl | assumption), ?_⟩
  | refine ⟨(_ : Addr), (_ : List V), (_ : Int), (_ : V), rfl, rfl, (by walk_at "st"), (by first | rfl | assumption), ?_⟩
  | refine ⟨(_ : Addr), (_ : List V), (_ : Int), (_ : Nat), rfl, rfl, upd_same, rfl, ?_⟩
  | refine ⟨(_ : Addr), (_ : List V), (_ : Int), (_ : Nat), rfl, rfl, (by assumption), rfl, ?_⟩
  | refine ⟨(_ : Addr), (_ : Addr), (_ : Addr), (_ : List (Str × V)), (_ : V), rfl, (by assumption), (by assumption), (by assumption), (by first | assumption | rfl), ?_⟩
  | refine Or.inl ⟨(_ : Int), rfl, ?_⟩
  | refine And.intro (by walk_at "sc") ?_
  | refine iteT ?_
  | refine iteF ?_)
/-! ### the law's cards -/
open LamX
def w6 : List Str := ["ant", "bee", "cat", "dog", "elk", "fox"]
def g1 : List Str := ["gnu"]
def w7 : List Str := ["ant", "bee", "cat", "dog", "elk", "fox", "gnu"]
structure GoodL (c : CD) : Prop where
  good : c.Good
  h : c.heading ∈ w7
  s : c.see = "" ∨ c.see ∈ w7
  a : ∀ x ∈ c.also, x ∈ w7
theorem w7_word : ∀ x ∈ w7, isWord x = true := by decide +kernel
theorem w7_nodup : w7.Nodup := by decide +kernel
theorem tabs_but {T : List (Addr × Str)} {H H' : Hp} {r sc : Addr} {ns : List Int} (h : Tabs T H) (b : But r H H') (R : RowAt K H r sc ns) : Tabs T H' := fun p hp => by
  obtain ⟨n1, n2, n3, hr, _⟩ := R
  obtain ⟨ps, h1, h2, h3⟩ := h p hp
  refine ⟨ps, b _ _ h1 fun e => ?_, h2, fun pos cv hc => ?_⟩
  · rw [e, hr] at h1
    cases h1
  · obtain ⟨c, e1, e2⟩ := h3 pos cv hc
    refine ⟨c, e1, b _ _ e2 fun e => ?_⟩
    rw [e, hr] at e2
    cases e2
theorem fm_filter (z : Str) : ∀ l : List Str, l.filterMap (fun y => if y = z then none else some (V.str y)) = (l.filter fun y => !decide (y = z)).map V.str
  | [] => rfl
  | y :: l => by
    rw [List.filterMap_cons, List.filter_cons, fm_filter z l]
    by_cases h : y = z
    · rw [if_pos h, decide_eq_true h]
      rfl
    · rw [if_neg h, decide_eq_false h]
      rfl
def othersOf (z : Str) (nm : List Str) : List Str := (nm ++ g1).filter fun y => !decide (y = z)
theorem int_dec (a b : Int) : decide (V.int a = V.int b) = decide (a = b) := by
  by_cases h : a = b
  · rw [decide_eq_true h, decide_eq_true (congrArg V.int h)]
  · rw [decide_eq_false h, decide_eq_false fun z => h (V.int.inj z)]
theorem good_see {z y : Str} (hz : z ∈ w7) (hy : y ∈ w7) (hne : y ≠ z) : GoodL ⟨z, [], y, []⟩ := by
  refine ⟨⟨w7_word z hz, (show isBooks [] = true by decide), ?_, .inr ⟨rfl, rfl⟩, rfl⟩, hz, .inr hy, nofun⟩
  show isTarget y z = true
  unfold isTarget
  rw [w7_word y hy, decide_eq_false hne]
  simp
theorem good_entry {z : Str} {bs : List Int} {hs : List Str} (hz : z ∈ w7) (hb : isBooks bs = true) (ha : ∀ x ∈ hs, x ∈ w7 ∧ x ≠ z) (hn : hs.Nodup) (hl : hs.length ≤ 4) : GoodL ⟨z, bs, "", hs⟩ := by
  refine ⟨⟨w7_word z hz, hb, ?_, .inl rfl, ?_⟩, hz, .inl rfl, fun x hx => (ha x hx).1⟩
  · show isTarget "" z = true
    unfold isTarget
    rw [decide_eq_true rfl, Bool.true_or]
  · show isFurther hs z = true
    unfold isFurther
    rw [decide_eq_true hl, decide_eq_true hn, Bool.and_true, Bool.true_and, List.all_eq_true]
    intro x hx
    rw [w7_word x (ha x hx).1, decide_eq_false (ha x hx).2]
    rfl
theorem nodup_leI : ∀ {ks ws : List Int}, ks.Nodup → (∀ k ∈ ks, k ∈ ws) → ks.length ≤ ws.length
  | [], _, _, _ => Nat.zero_le _
  | k :: ks, ws, hn, hs => by
    have hk := hs k (.head _)
    obtain ⟨h1, h2⟩ := List.nodup_cons.mp hn
    have := nodup_leI (ws := ws.erase k) h2 fun x hx => (List.mem_erase_of_ne fun e => h1 (by rw [← e]; exact hx)).mpr (hs x (.tail _ hx))
    rw [List.length_erase_of_mem hk] at this
    have := List.length_pos_of_mem hk
    rw [List.length_cons]
    omega
theorem asc_of : ∀ {ms : List Int}, ms.Pairwise (· < ·) → asc ms = true
  | [], _ => rfl
  | [_], _ => rfl
  | a :: b :: ms, h => by
    obtain ⟨h1, h2⟩ := List.pairwise_cons.mp h
    have q := asc_of h2
    show (decide (a < b) && ((b :: ms).zip ms).all fun p => decide (p.1 < p.2)) = true
    rw [decide_eq_true (h1 b (.head _)), Bool.true_and]
    exact q
theorem books_ok {ms : List Int} (hl : ms.length ≤ 6) (hb : ∀ k ∈ ms, 1 ≤ k ∧ k ≤ 999) (h : ms.Pairwise (· < ·)) : isBooks ms = true := by
  unfold isBooks
  rw [decide_eq_true hl, asc_of h, Bool.and_true, Bool.true_and, List.all_eq_true]
  intro k hk
  unfold isNum
  rw [decide_eq_true (hb k hk).1, decide_eq_true (hb k hk).2]
  rfl
/-- the cards, filed -/
def cardLe (a b : CD) : Bool := PySem.W.dataLe false keyD (.non, a.heading) (.non, b.heading)
def fileOf (cs : List CD) : List CD := cs.mergeSort cardLe
theorem fileOf_perm (cs : List CD) : (fileOf cs).Perm cs := List.mergeSort_perm _ _
theorem but_mut {r p : Addr} {H H1 : Hp} {o : HO} (b : But r H H1) (n : H p = none) : But r H (upd H1 p o) := fun c x h hn => by
  rw [upd_ne (ne_of_none h n)]
  exact b c x h hn
theorem seq_nat {n i : Nat} (h : i < n) : seqIndex? (i : Int) n = some i := by
  unfold seqIndex?
  show (if (decide (0 ≤ (if (i : Int) < 0 then (i : Int) + n else i)) && decide ((if (i : Int) < 0 then (i : Int) + n else i) < (n : Int))) = true then some (if (i : Int) < 0 then (i : Int) + n else i).toNat else none) = some i
  rw [if_neg (by omega : ¬ (i : Int) < 0), decide_eq_true (by omega : (0 : Int) ≤ i), decide_eq_true (by omega : (i : Int) < n)]
  rfl
theorem erase_map {α β : Type} (f : α → β) : ∀ (l : List α) (i : Nat), (l.map f).eraseIdx i = (l.eraseIdx i).map f
  | [], _ => rfl
  | _ :: _, 0 => rfl
  | x :: l, i + 1 => by
    show f x :: (l.map f).eraseIdx i = f x :: (l.eraseIdx i).map f
    rw [erase_map f l i]
theorem erase_perm {α : Type} : ∀ {l : List α} {i : Nat} (h : i < l.length), (l[i] :: l.eraseIdx i).Perm l
  | x :: l, 0, _ => List.Perm.refl _
  | x :: l, i + 1, h => (List.Perm.swap x (l[i]'(Nat.lt_of_succ_lt_succ h)) (l.eraseIdx i)).trans ((erase_perm (l := l) (Nat.lt_of_succ_lt_succ h)).cons x)
def lenAtH (a : Addr) : St → Hp → Nat := fun _ H => match H a with
  | some (.lst xs) => xs.length
  | _ => 0
end
section
local macro_rules | `(tactic| walk_at "sl") => `(tactic| first | assumption | exact SqL.of upd_same | exact SqL.of (by assumption) | ((with_reducible apply sql_upd); (walk_at "sl"); (first | assumption | exact Ne.symm (by assumption))))
local macro_rules | `(tactic| walk_at "st") => `(tactic| first | assumption | exact SqT.of upd_same | exact SqT.of (by assumption))
local macro_rules | `(tactic| walk_at "sc") => `(tactic| first | rfl | assumption | (show (0 : Int) < _; first | assumption | decide | omega) | exact Or.inl ⟨by omega, by omega⟩ | exact Or.inr ⟨by omega, by omega⟩ | exact ⟨by decide, by decide⟩ | exact ⟨by decide, by decide, by decide⟩)
local macro_rules | `(tactic| walk_at "g1") => `(tactic| first
  | refine ⟨(_ : V), rfl, ?_⟩
  | refine ⟨(_ : Bool), rfl, ?_⟩
  | refine ⟨(_ : Int), (_ : Int), rfl, rfl, ?_⟩
  | refine ⟨(_ : Int), rfl, ?_⟩
  | refine ⟨(_ : Str), rfl, ?_⟩
  | refine ⟨(_ : Addr), (_ : List V), rfl, Or.inl (by walk_at "sl"), ?_⟩
  | refine ⟨(_ : Addr), (_ : List V), rfl, Or.inr (by walk_at "st"), ?_⟩
  | refine ⟨(_ : Addr), (_ : List V), (_ : Int), (_ : V), rfl, rfl, (by walk_at "sl"), (by first | rfl | assumption), ?_⟩
  | refine ⟨(_ : Addr), (_ : List V), (_ : Int), (_ : V), rfl, rfl, (by walk_at "st"), (by first | rfl | assumption), ?_⟩
  | refine ⟨(_ : Addr), (_ : List V), (_ : Int), (_ : Nat), rfl, rfl, upd_same, rfl, ?_⟩
  | refine ⟨(_ : Addr), (_ : List V), (_ : Int), (_ : Nat), rfl, rfl, (by assumption), rfl, ?_⟩
  | refine ⟨(_ : Addr), (_ : Addr), (_ : Addr), (_ : List (Str × V)), (_ : V), rfl, (by assumption), (by assumption), (by assumption), (by first | assumption | rfl), ?_⟩
  | refine Or.inl ⟨(_ : Int), rfl, ?_⟩
  | refine And.intro (by walk_at "sc") ?_
  | refine iteT ?_
  | refine iteF ?_)
/-! ### the law's own card -/
theorem kb3_Card (T : Top K mg) : ∃ ds, Vals [.ref T.e_Card_init_2] ds ∧ Binds K T.fd_Card_init ["self", "heading", "books", "see", "also"] ds :=
  T.F_Card_init.binds1 (ps := ["self", "heading", "books", "see", "also"]) 4 2 (by simp) rfl (fun T kV doc pm an cdv ct us its l1 l2 => match us, its, l1, l2 with | [_, _, _, _], [_, _, _], _, _ => ⟨_, rfl, rfl⟩)
theorem kb4_Card (T : Top K mg) : Binds K T.fd_Card_init ["self", "heading", "books", "see", "also"] [] := by
  obtain ⟨ds, h1, h2⟩ := T.F_Card_init.binds1 (ps := ["self", "heading", "books", "see", "also"]) 5 3 (by simp) rfl (fun T kV doc pm an cdv ct us its l1 l2 => match us, its, l1, l2 with | [_, _, _, _, _], [_, _, _], _, _ => ⟨_, rfl, rfl⟩)
  cases h1
  exact h2
def p5 : List Str := ["ant", "bee", "cat", "dog", "elk"]
/-- a card whose heading is one of the five -/
def GoodP (c : CD) : Prop := GoodL c ∧ c.heading ∈ p5
def spPCard (K : PySem.W.Frag) (C : Addr) : Sp := fun vs H Q _ => ∃ (r sc : Addr) (ns : List Int), vs = [.ref r] ∧ RowAt K H r sc ns ∧
  ∀ (q : Addr) (H' : Hp) (c : CD), But r H H' → RowAt K H' r sc ns → CardAt K C H' q c → GoodP c → q ≠ r → Q (.ref q) H'
def oth5 (z : Str) : List Str := w6.filter fun y => !decide (y = z)
def b4 : List Int := [1, 2, 3, 300]
theorem oth5_len : ∀ z ∈ p5, (oth5 z).length = 5 := by decide +kernel
theorem oth5_mem {z x : Str} (h : x ∈ oth5 z) : x ∈ w7 ∧ x ≠ z := by
  obtain ⟨h1, h2⟩ := List.mem_filter.mp h
  exact ⟨List.mem_append_left g1 h1, fun e => by rw [decide_eq_true e] at h2; cases h2⟩
theorem p5_w7 : ∀ x ∈ p5, x ∈ w7 := by decide +kernel
theorem w6_nodup : w6.Nodup := by decide +kernel
theorem b4_asc : b4.Pairwise (· < ·) := by decide +kernel
theorem b4_in : ∀ k ∈ b4, 1 ≤ k ∧ k ≤ 999 := by decide +kernel
/-- a comprehension that takes from the row for each item: a part of the items -/
theorem sub_snoc {α : Type} {ys xs : List α} {i : Nat} {x : α} (h : ys.Sublist (xs.take i)) (hx : xs[i]? = some x) : (ys ++ [x]).Sublist (xs.take (i + 1)) := by
  rw [List.take_add_one, hx]
  exact h.append (List.Sublist.refl _)
theorem sub_more {α : Type} {ys xs : List α} {i : Nat} (h : ys.Sublist (xs.take i)) : ys.Sublist (xs.take (i + 1)) := by
  rw [List.take_add_one]
  exact h.trans (List.sublist_append_left _ _)
theorem ok_llaw_card (T : Top K mg) : FnOk P w K mg base CX0 6 T.a_llaw_card T.fd_llaw_card ["_law_row"] (spPCard K T.c_Card) := by
  refine T.F_llaw_card.ok sc_llaw_card (fun vs H Q E h => ?_) (fun cdv A outer s H vs Q E hr h => ?_)
  · obtain ⟨r, sc, ns, rfl, _⟩ := h
    rfl
  · obtain ⟨r, sc, ns, rfl, hR, k⟩ := h
    have hu := hu_of hr
    obtain ⟨ds3, hv3, hb3⟩ := kb3_Card T
    refine ⟨_, (pss_cons (ps_set (i := 1) sc_llaw_card.nd rfl (.inl rfl) (pe_lst (pa_cons pe_str (pa_cons pe_str (pa_cons pe_str (pa_cons pe_str (pa_cons pe_str pa_nil)))))))
      (pss_cons (ps_asg (pe_tup (pa_cons (pe_ix ix_list (pv 1) (pe_call (ok_llaw_taken T) (hr.mono (by decide)) (by rfl) T.g_llaw_taken T.F_llaw_taken.kp (b_llaw_taken T) .nil pass0 (pa_cons (pv 0) (pa_cons pe_int pa_nil))) (fun _ _ => rfl)) (pa_cons (pe_call (ok_llaw_taken T) (hr.mono (by decide)) (by rfl) T.g_llaw_taken T.F_llaw_taken.kp (b_llaw_taken T) .nil pass0 (pa_cons (pv 0) (pa_cons pe_int pa_nil))) pa_nil))) (pg_tup rfl (pgs_cons (pg_name (i := 2) sc_llaw_card.nd rfl (.inr rfl)) (pgs_cons (pg_name (i := 3) sc_llaw_card.nd rfl (.inl rfl)) pgs_nil))))
      (pss_cons (ps_setLc (i := 4) (own := [("_law_other", 6)]) (g := gName 6) rfl sc_llaw_card.nd rfl rfl (sw_true rfl rfl rfl (by decide +kernel)) (pi_list (pe_op op_cat (pv 1) (pe_lst (pa_cons pe_str pa_nil)))) (blkOk_by (N := N_llaw_card) (sc := defScope s_llaw_card) (by decide +kernel)) (fun _ _ _ _ _ => (pg_name (i := 6) sc_llaw_card.nd rfl (.inl rfl))) (fun _ _ _ _ _ => (pts_one (pt_cmpR op_ne (pv 6) (pv 2) (nomark _)))) (fun _ _ _ _ _ => (pv 6)))
      (pss_cons (ps_if (pt_cmpR op_eq (pv 3) pe_int (nomark _)) (pss_one (ps_ret (pe_make T.Mk_Card (ok_Card_init T) (hr.mono (by decide)) (by rfl) T.g_Card hb3 hv3 pass0 (pa_cons (pv 2) (pa_cons (pe_tup pa_nil) (pa_cons (pe_ix ix_list (pv 4) (pe_call (ok_llaw_taken T) (hr.mono (by decide)) (by rfl) T.g_llaw_taken T.F_llaw_taken.kp (b_llaw_taken T) .nil pass0 (pa_cons (pv 0) (pa_cons pe_int pa_nil))) (fun _ _ => rfl)) pa_nil)))))) pss_nil)
      (pss_cons (ps_set (i := 5) sc_llaw_card.nd rfl (.inl rfl) (pe_callTy call_tuple_of (by rfl) T.m_tuple (by decide +kernel) (pa_cons (pe_slice sl_list (pe_lc (own := [("_law_other", 6)]) (g := gName 6) rfl sc_llaw_card.nd (pi_list (pv 4)) (blkOk_by (N := N_llaw_card) (sc := defScope s_llaw_card) (by decide +kernel)) (fun _ _ _ _ _ => (pg_name (i := 6) sc_llaw_card.nd rfl (.inl rfl))) (fun _ _ _ _ _ => (pts_one (pt_cmpR op_eq (pe_call (ok_llaw_taken T) (hr.mono (by decide)) (by rfl) T.g_llaw_taken T.F_llaw_taken.kp (b_llaw_taken T) .nil pass0 (pa_cons (pv 0) (pa_cons pe_int pa_nil))) pe_int (nomark _)))) (fun _ _ _ _ _ => (pv 6))) po_none (po_some pe_int)) pa_nil)))
      (pss_one (ps_ret (pe_make T.Mk_Card (ok_Card_init T) (hr.mono (by decide)) (by rfl) T.g_Card (kb4_Card T) .nil pass0 (pa_cons (pv 2) (pa_cons (pe_callTy call_tuple_of (by rfl) T.m_tuple (by decide +kernel) (pa_cons (pe_lc (own := [("_law_one", 7)]) (g := gName 7) rfl sc_llaw_card.nd (pi_tup (pe_tup (pa_cons pe_int (pa_cons pe_int (pa_cons pe_int (pa_cons pe_int pa_nil)))))) (blkOk_by (N := N_llaw_card) (sc := defScope s_llaw_card) (by decide +kernel)) (fun _ _ _ _ _ => (pg_name (i := 7) sc_llaw_card.nd rfl (.inl rfl))) (fun _ _ _ _ _ => (pts_one (pt_cmpR op_eq (pe_call (ok_llaw_taken T) (hr.mono (by decide)) (by rfl) T.g_llaw_taken T.F_llaw_taken.kp (b_llaw_taken T) .nil pass0 (pa_cons (pv 0) (pa_cons pe_int pa_nil))) pe_int (nomark _)))) (fun _ _ _ _ _ => (pv 7))) pa_nil)) (pa_cons pe_str (pa_cons (pv 5) pa_nil)))))))))))), ?_⟩
    refine ⟨by show 5 ≤ sizeLine; decide, fun ln hln => ?_⟩
    have R1 : RowAt K (upd H ln (.lst (p5.map V.str))) r sc ns := hR.same (same_new hln)
    have e1 : (upd H ln (.lst (p5.map V.str))) ln = some (.lst (p5.map V.str)) := upd_same
    have hlr : ln ≠ r := (hR.new hln).1
    have b1 : But r H (upd H ln (.lst (p5.map V.str))) := (same_new hln).but
    show gName 1 (.ref ln) (L2.start N_llaw_card [V.ref r]) (upd H ln (.lst (p5.map V.str))) _
    generalize upd H ln (.lst (p5.map V.str)) = H1 at *
    refine ⟨_, rfl, _, rfl, r, sc, ns, 5, rfl, by decide, by decide, R1, fun n1 H2 hn1 b2 R2 => ?_⟩
    have h15 : n1 < p5.length := by show n1 < 5; omega
    have hz : p5[n1]? = some p5[n1] := List.getElem?_eq_getElem h15
    have hzm : p5[n1] ∈ p5 := List.getElem_mem h15
    have e2 := b2 _ _ e1 hlr
    refine ⟨ln, _, (n1 : Nat), .str p5[n1], rfl, rfl, SqL.of e2, atI_nat (by rw [List.getElem?_map, hz]; rfl), ?_⟩
    generalize p5[n1] = z at *
    refine ⟨_, rfl, r, sc, ns, 3, rfl, by decide, by decide, R2, fun n2 H3 hn2 b3 R3 => ?_⟩
    refine ⟨by show 2 ≤ sizeLine; decide, fun t2 ht2 => ?_⟩
    have t2q : SqT K (upd H3 t2 (.tup [.str z, .int (n2 : Nat)])) t2 [.str z, .int (n2 : Nat)] := SqT.of upd_same
    have s4 : Same H3 (upd H3 t2 (.tup [.str z, .int (n2 : Nat)])) := same_new ht2
    have e4 := s4 _ _ (b3 _ _ e2 hlr)
    have R4 := R3.same s4
    have b4' : But r H (upd H3 t2 (.tup [.str z, .int (n2 : Nat)])) := ((b1.trans b2).trans b3).same s4
    generalize upd H3 t2 (.tup [.str z, .int (n2 : Nat)]) = H4 at *
    refine ⟨t2, _, rfl, t2q, rfl, ?_⟩
    refine ⟨_, _, rfl, _, _, rfl, rfl, ?_⟩
    clear t2q ht2 s4 R1 R2 R3 e1 e2 b1 b2 b3 h15 hz hn1 hln
    refine ⟨_, rfl, by show 1 ≤ sizeLine; decide, fun lg hlg => ?_⟩
    refine ⟨ln, lg, _, _, rfl, rfl, kp e4 hlg, upd_same, Nat.le_of_lt (sizeLine_of (by show 6 ≤ 1000000; decide)), fun lo hlo => ?_⟩
    have s5 : Same H4 (upd (upd H4 lg (.lst [.str "fox"])) lo (.lst (p5.map V.str ++ [.str "fox"]))) := (same_new hlg).trans (same_new hlo)
    have ho : (upd (upd H4 lg (.lst [.str "fox"])) lo (.lst (p5.map V.str ++ [.str "fox"]))) lo = some (.lst (w6.map V.str)) := upd_same
    generalize upd (upd H4 lg (.lst [.str "fox"])) lo (.lst (p5.map V.str ++ [.str "fox"])) = H5 at *
    refine ⟨lo, rfl, ⟨_, SqL.of ho⟩, fun D hD => lc_fn (walk_list (xs := w6.map V.str)) (by show 6 ≤ 1000000; decide) hD (fun j => (w6[j]?.bind fun y => if y = z then none else some (V.str y))) (fun H' s' => s'.seq (SqL.of ho)) (fun i x H10 H11 hi s10 hy Rr R0 r1 r0 => ?_) (fun H6 s6 hd => ?_)⟩
    · obtain ⟨rfl, hx⟩ := hy
      rw [List.getElem?_map] at hx
      obtain ⟨y, hy, rfl⟩ := Option.map_eq_some_iff.mp hx
      rw [hy] at r1 r0
      refine ⟨rfl, ?_⟩
      refine ⟨_, rfl, _, rfl, rNe_to (b := !decide (y = z)) rfl (by rw [str_dec]) ?_⟩
      refine ⟨_, rfl, ?_⟩
      by_cases hyz : y = z
      · rw [decide_eq_true hyz]
        exact iteF (r0 _ (if_pos hyz) (Same.refl _))
      · rw [decide_eq_false hyz]
        exact iteT ⟨_, rfl, r1 _ _ (if_neg hyz) (Same.refl _)⟩
    have hd2 : H6 D = some (.lst ((oth5 z).map V.str)) := by
      rw [hd, List.length_map, range_fm w6 (fun y => if y = z then none else some (V.str y)) _ (fun i x h => by rw [h]; rfl), fm_filter]
      rfl
    have R6 := R4.same (s5.trans s6)
    have b6 : But r H H6 := b4'.same (s5.trans s6)
    have hDr : D ≠ r := ((R4.same s5).new hD).1
    clear hd s5 s6 ho R4 b4' e4 hlg hlo hD
    have hz7 := p5_w7 z hzm
    refine ⟨_, rfl, tC_to (rEq_to (b := decide ((n2 : Int) = 0)) rfl (by rw [int_dec]) ?_)⟩
    refine ⟨_, rfl, ?_⟩
    by_cases h0 : (n2 : Int) = 0
    · rw [decide_eq_true h0]
      refine iteT ?_
      refine ⟨_, rfl, Nat.zero_le _, fun t0 ht0 => ?_⟩
      have R7 := R6.same (same_new (o := .tup []) ht0)
      have d7 := (same_new (o := .tup []) ht0) _ _ hd2
      have z7 : SqT K (upd H6 t0 (.tup [])) t0 (([] : List Int).map V.int) := SqT.of upd_same
      have b7 : But r H (upd H6 t0 (.tup [])) := b6.same (same_new ht0)
      have nt0 : t0 ≠ r := (R6.new ht0).1
      generalize upd H6 t0 (.tup []) = H7 at *
      refine ⟨_, rfl, _, rfl, r, sc, ns, 5, rfl, by decide, by decide, R7, fun n5 H8 hn5 b8 R8 => ?_⟩
      have h5 : n5 < (oth5 z).length := by rw [oth5_len z hzm]; omega
      have hy : (oth5 z)[n5]? = some (oth5 z)[n5] := List.getElem?_eq_getElem h5
      obtain ⟨hy7, hyz⟩ := oth5_mem (List.getElem_mem h5)
      refine ⟨D, _, (n5 : Nat), .str (oth5 z)[n5], rfl, rfl, SqL.of (b8 _ _ d7 hDr), atI_nat (by rw [List.getElem?_map, hy]; rfl), ?_⟩
      generalize (oth5 z)[n5] = y at *
      have z8 := b8.seqT nt0 z7
      have b08 := b7.trans b8
      clear d7 z7 R7 b7 b8 hd2 b6 R6 hy h5 ht0
      intro q dx hq hdx hne
      have sN : Same H8 (upd (upd H8 dx (.own q)) q (.ins T.c_Card dx [])) := fun b o e => by
        rw [upd_ne (ne_of_none e hq), upd_ne (ne_of_none e hdx)]
        exact e
      have hg := good_see hz7 hy7 hyz
      refine ⟨q, dx, ⟨z, [], y, []⟩, t0, T.e_Card_init_2, rfl, upd_same, hg.good, sN.seqT z8, T.ek_Card_init_2 _, Nat.zero_le _, fun H9 b9 c9 => ⟨rfl, ?_⟩⟩
      have s9 : Same H8 H9 := fun b o e => b9 b o (sN b o e) (ne_of_none e hq)
      exact k q H9 _ (b08.same s9) (R8.same s9) c9 ⟨hg, hzm⟩ (R8.new hq).1
    · rw [decide_eq_false h0]
      refine iteF ?_
      refine ⟨_, rfl, D, rfl, ⟨_, SqL.of hd2⟩, fun D2 hD2 => lc_it (walk_list (xs := (oth5 z).map V.str)) (fun i H7 => But r H6 H7 ∧ RowAt K H7 r sc ns ∧ D2 ≠ r ∧ ∃ ys : List Str, ys.Sublist ((oth5 z).take i) ∧ H7 D2 = some (.lst (ys.map V.str)))
        ⟨(same_new hD2).but, R6.same (same_new hD2), (R6.new hD2).1, [], List.nil_sublist _, upd_same⟩ (fun i H7 _ hP => hP.1.seq hDr (SqL.of hd2)) (fun i x H7 H8 hi hP hy => ?_) (fun H7 hP => ?_)⟩
      · obtain ⟨b7, R7, nD2, ys, hys, e7⟩ := hP
        obtain ⟨rfl, hx⟩ := hy
        rw [List.getElem?_map] at hx
        obtain ⟨y, hy, rfl⟩ := Option.map_eq_some_iff.mp hx
        have h5 := oth5_len z hzm
        have hyl : ys.length ≤ 5 := by
          have := hys.length_le
          rw [List.length_take] at this
          omega
        refine ⟨rfl, ?_⟩
        refine ⟨_, rfl, r, sc, ns, 4, rfl, by decide, by decide, R7, fun n H9 hn b9 R9 => ?_⟩
        refine tC_to (rEq_to (b := decide ((n : Int) = 0)) rfl (by rw [int_dec]) ?_)
        refine ⟨_, rfl, ?_⟩
        have e9 := b9 _ _ e7 nD2
        by_cases h0 : (n : Int) = 0
        · rw [decide_eq_true h0]
          refine iteT ?_
          exact ⟨_, rfl, _, e9, sizeLine_of (by rw [List.length_map]; omega), but_mut (b7.trans b9) hD2, R9.mut (R6.new hD2), nD2, ys ++ [y], sub_snoc hys hy, by rw [upd_same, List.map_append]; rfl⟩
        · rw [decide_eq_false h0]
          refine iteF ?_
          exact ⟨b7.trans b9, R9, nD2, ys, sub_more hys, e9⟩
      · obtain ⟨b7, R7, nD2, ys, hys, e7⟩ := hP
        have hys5 : ys.Sublist (oth5 z) := hys.trans (List.take_sublist _ _)
        clear hys
        refine ⟨_, rfl, D2, ys.map V.str, rfl, SqL.of e7, fun n4 hn4 => ?_⟩
        have hcut : cutV (ys.map V.str) none (some 4) = (ys.take 4).map V.str := by
          rw [List.map_take]
          exact cut_take (ys.map V.str) 4
        rw [hcut]
        have hs4 : (ys.take 4).Sublist (oth5 z) := (List.take_sublist _ _).trans hys5
        have hl4 : (ys.take 4).length ≤ 4 := by rw [List.length_take]; omega
        generalize ys.take 4 = hs at *
        refine ⟨n4, _, rfl, .inl ⟨SqL.of upd_same, fun th hth => ?_⟩⟩
        have s8 : Same H7 (upd (upd H7 n4 (.lst (hs.map V.str))) th (.tup (hs.map V.str))) := (same_new hn4).trans (same_new hth)
        have t8 : SqT K (upd (upd H7 n4 (.lst (hs.map V.str))) th (.tup (hs.map V.str))) th (hs.map V.str) := SqT.of upd_same
        have nth : th ≠ r := ((R7.same (same_new (o := .lst (hs.map V.str)) hn4)).new hth).1
        have R8 := R7.same s8
        have b8 : But r H (upd (upd H7 n4 (.lst (hs.map V.str))) th (.tup (hs.map V.str))) := (b6.trans b7).same s8
        generalize upd (upd H7 n4 (.lst (hs.map V.str))) th (.tup (hs.map V.str)) = H8 at *
        clear s8 R7 b7 e7 hn4 hth hcut hys5 b6 R6 hd2 hD2 nD2
        refine ⟨_, rfl, by show 4 ≤ sizeLine; decide, fun t4 ht4 => ?_⟩
        have nt4 : t4 ≠ r := (R8.new ht4).1
        have R9 := R8.same (same_new (o := .tup [.int 1, .int 2, .int 3, .int 300]) ht4)
        have b9 : But r H (upd H8 t4 (.tup [.int 1, .int 2, .int 3, .int 300])) := b8.same (same_new ht4)
        have t9 := (same_new (o := .tup [.int 1, .int 2, .int 3, .int 300]) ht4).seqT t8
        have q9 : SqT K (upd H8 t4 (.tup [.int 1, .int 2, .int 3, .int 300])) t4 (b4.map V.int) := SqT.of upd_same
        generalize upd H8 t4 (.tup [.int 1, .int 2, .int 3, .int 300]) = H9 at *
        clear R8 b8 t8 ht4
        refine ⟨t4, rfl, ⟨_, q9⟩, fun D3 hD3 => lc_it (walk_tup (xs := b4.map V.int)) (fun i H10 => But r H9 H10 ∧ RowAt K H10 r sc ns ∧ D3 ≠ r ∧ ∃ bs : List Int, bs.Sublist (b4.take i) ∧ H10 D3 = some (.lst (bs.map V.int)))
          ⟨(same_new hD3).but, R9.same (same_new hD3), (R9.new hD3).1, [], List.nil_sublist _, upd_same⟩ (fun i H10 _ hP => hP.1.seqT nt4 q9) (fun i x H10 H11 hi hP hy => ?_) (fun H10 hP => ?_)⟩
        · obtain ⟨b10, R10, nD3, bs, hbs, e10⟩ := hP
          obtain ⟨rfl, hx⟩ := hy
          rw [List.getElem?_map] at hx
          obtain ⟨b, hb, rfl⟩ := Option.map_eq_some_iff.mp hx
          have hbl : bs.length ≤ 4 := by
            have := hbs.length_le
            rw [List.length_take] at this
            have : b4.length = 4 := rfl
            omega
          refine ⟨rfl, ?_⟩
          refine ⟨_, rfl, r, sc, ns, 3, rfl, by decide, by decide, R10, fun n H12 hn b12 R12 => ?_⟩
          refine tC_to (rEq_to (b := decide ((n : Int) = 0)) rfl (by rw [int_dec]) ?_)
          refine ⟨_, rfl, ?_⟩
          have e12 := b12 _ _ e10 nD3
          by_cases h0 : (n : Int) = 0
          · rw [decide_eq_true h0]
            refine iteT ?_
            exact ⟨_, rfl, _, e12, sizeLine_of (by rw [List.length_map]; omega), but_mut (b10.trans b12) hD3, R12.mut (R9.new hD3), nD3, bs ++ [b], sub_snoc hbs hb, by rw [upd_same, List.map_append]; rfl⟩
          · rw [decide_eq_false h0]
            refine iteF ?_
            exact ⟨b10.trans b12, R12, nD3, bs, sub_more hbs, e12⟩
        · obtain ⟨b10, R10, nD3, bs, hbs, e10⟩ := hP
          have hbs4 : bs.Sublist b4 := hbs.trans (List.take_sublist _ _)
          have hbl : bs.length ≤ 6 := by
            have := hbs4.length_le
            have : b4.length = 4 := rfl
            omega
          refine ⟨D3, _, rfl, .inl ⟨SqL.of e10, fun tb htb => ?_⟩⟩
          have t11 := (b10.same (same_new (o := .tup (bs.map V.int)) htb)).seqT nth t9
          have q11 : SqT K (upd H10 tb (.tup (bs.map V.int))) tb (bs.map V.int) := SqT.of upd_same
          have R11 := R10.same (same_new (o := .tup (bs.map V.int)) htb)
          have b11 : But r H (upd H10 tb (.tup (bs.map V.int))) := (b9.trans b10).same (same_new htb)
          generalize upd H10 tb (.tup (bs.map V.int)) = H11 at *
          clear R10 b10 b9 R9 t9 q9 e10 hD3 hbs htb
          refine ⟨_, rfl, ?_⟩
          intro q dx hq hdx hne
          have sN : Same H11 (upd (upd H11 dx (.own q)) q (.ins T.c_Card dx [])) := fun b o e => by
            rw [upd_ne (ne_of_none e hq), upd_ne (ne_of_none e hdx)]
            exact e
          have hg : GoodL ⟨z, bs, "", hs⟩ := good_entry hz7 (books_ok hbl (fun k hk => b4_in k (hbs4.subset hk)) (b4_asc.sublist hbs4)) (fun x hx => oth5_mem (hs4.subset hx)) ((w6_nodup.sublist List.filter_sublist).sublist hs4) hl4
          refine ⟨q, dx, ⟨z, bs, "", hs⟩, tb, th, rfl, upd_same, hg.good, sN.seqT q11, sN.seqT t11, hl4, fun H12 b12 c12 => ⟨rfl, ?_⟩⟩
          have s12 : Same H11 H12 := fun b o e => b12 b o (sN b o e) (ne_of_none e hq)
          exact k q H12 _ (b11.same s12) (R11.same s12) c12 ⟨hg, hzm⟩ (R11.new hq).1
end
section
local macro_rules | `(tactic| walk_at "sl") => `(tactic| first | assumption | exact SqL.of upd_same | exact SqL.of (by assumption) | ((with_reducible apply sql_upd); (walk_at "sl"); (first | assumption | exact Ne.symm (by assumption))))
local macro_rules | `(tactic| walk_at "st") => `(tactic| first | assumption | exact SqT.of upd_same | exact SqT.of (by assumption))
local macro_rules | `(tactic| walk_at "sc") => `(tactic| first | rfl | assumption | (show (0 : Int) < _; first | assumption | decide | omega) | exact Or.inl ⟨by omega, by omega⟩ | exact Or.inr ⟨by omega, by omega⟩ | exact ⟨by decide, by decide⟩ | exact ⟨by decide, by decide, by decide⟩)
local macro_rules | `(tactic| walk_at "g1") => `(tactic| first
  | refine ⟨(_ : V), rfl, ?_⟩
  | refine ⟨(_ : Bool), rfl, ?_⟩
  | refine ⟨(_ : Int), (_ : Int), rfl, rfl, ?_⟩
  | refine ⟨(_ : Int), rfl, ?_⟩
  | refine ⟨(_ : Str), rfl, ?_⟩
  | refine ⟨(_ : Addr), (_ : List V), rfl, Or.inl (by walk_at "sl"), ?_⟩
  | refine ⟨(_ : Addr), (_ : List V), rfl, Or.inr (by walk_at "st"), ?_⟩
  | refine ⟨(_ : Addr), (_ : List V), (_ : Int), (_ : V), rfl, rfl, (by walk_at "sl"), (by first | rfl | assumption), ?_⟩
  | refine ⟨(_ : Addr), (_ : List V), (_ : Int), (_ : V), rfl, rfl, (by walk_at "st"), (by first | rfl | assumption), ?_⟩
  | refine ⟨(_ : Addr), (_ : List V), (_ : Int), (_ : Nat), rfl, rfl, upd_same, rfl, ?_⟩
  | refine ⟨(_ : Addr), (_ : List V), (_ : Int), (_ : Nat), rfl, rfl, (by assumption), rfl, ?_⟩
  | refine ⟨(_ : Addr), (_ : Addr), (_ : Addr), (_ : List (Str × V)), (_ : V), rfl, (by assumption), (by assumption), (by assumption), (by first | assumption | rfl), ?_⟩
  | refine Or.inl ⟨(_ : Int), rfl, ?_⟩
  | refine And.intro (by walk_at "sc") ?_
  | refine iteT ?_
  | refine iteF ?_)
/-! ### the law's own drawer -/
open LamX
theorem cards_sort {C : Addr} {H : Hp} {ps : List Addr} {cs : List CD} (h : Cards K C H ps cs) : ∃ bs : List (V × Str), bs.map (·.1) = ps.map V.ref ∧ (∀ b ∈ bs, RKi C "_heading" H b.1 b.2) ∧ ∃ ps' : List Addr, (sortBy bs).map (·.1) = ps'.map V.ref ∧ ∀ H', Imm H H' → Cards K C H' ps' (fileOf cs) := by
  obtain ⟨e1, e2, hz⟩ := h.zip
  generalize ps.zip cs = zs at *
  subst e1 e2
  refine ⟨zs.map fun z => (V.ref z.1, z.2.heading), by rw [List.map_map, List.map_map]; rfl, fun b hb => ?_, (zs.mergeSort fun z z' => cardLe z.2 z'.2).map Prod.fst, ?_, fun H' im => ?_⟩
  · obtain ⟨z, hm, rfl⟩ := List.mem_map.mp hb
    obtain ⟨dx, b, a, e, _⟩ := hz z hm
    exact ⟨z.1, dx, _, rfl, e, cf_heading _ _ _ _⟩
  · have q1 : sortBy (zs.map fun z => (V.ref z.1, z.2.heading)) = (zs.mergeSort fun z z' => cardLe z.2 z'.2).map fun z => (V.ref z.1, z.2.heading) := (List.map_mergeSort (r := fun (z z' : Addr × CD) => cardLe z.2 z'.2) (s := PySem.W.dataLe false keyD) (f := fun (z : Addr × CD) => (V.ref z.1, z.2.heading)) (fun a _ b _ => rfl)).symm
    rw [q1, List.map_map, List.map_map]
    rfl
  · have q2 : fileOf (zs.map Prod.snd) = (zs.mergeSort fun z z' => cardLe z.2 z'.2).map Prod.snd := (List.map_mergeSort (r := fun (z z' : Addr × CD) => cardLe z.2 z'.2) (s := cardLe) (f := Prod.snd) (fun a _ b _ => rfl)).symm
    rw [q2]
    exact Cards.of_zip fun z hm => (hz z ((List.mergeSort_perm _ _).mem_iff.mp hm)).imm im
theorem cards_snoc {C : Addr} {H H' : Hp} {ps : List Addr} {cs : List CD} {q : Addr} {c : CD} (I : Cards K C H ps cs) (im : Imm H H') (hv : CardAt K C H' q c) : Cards K C H' (ps ++ [q]) (cs ++ [c]) := by
  have I9 := I.imm im
  refine ⟨by rw [List.length_append, List.length_append, I.1]; rfl, fun m u d h1 h2 => ?_⟩
  by_cases hm : m < ps.length
  · rw [List.getElem?_append_left hm] at h1
    rw [List.getElem?_append_left (by rw [← I.1]; exact hm)] at h2
    exact I9.2 m u d h1 h2
  · have hl := (List.getElem?_eq_some_iff.mp h1).1
    rw [List.length_append, List.length_singleton] at hl
    obtain rfl : m = ps.length := by omega
    rw [List.getElem?_append_right (Nat.le_refl _), Nat.sub_self] at h1
    rw [I.1, List.getElem?_append_right (Nat.le_refl _), Nat.sub_self] at h2
    cases h1
    cases h2
    exact hv
abbrev lamP : Str := "_law_drawer" ++ ".<locals>." ++ "<lambda>"
def spPDrawer (K : PySem.W.Frag) (D C tP : Addr) : Sp := fun vs H Q _ => ∃ (r sc : Addr) (ns : List Int) (m : Nat), vs = [.ref r, .int (m : Nat)] ∧ m ≤ 16 ∧ RowAt K H r sc ns ∧ Tabs [(tP, lamP)] H ∧
  ∀ (q : Addr) (H' : Hp) (cs : List CD), cs.length ≤ m → ButN r H H' → Tabs [(tP, lamP)] H' → RowAt K H' r sc ns → DrawerAt K D C H' q cs → (∀ c ∈ cs, GoodP c) → q ≠ r → Q (.ref q) H'
theorem rowAt_ext {H H' : Hp} {r sc : Addr} {ns : List Int} (R : RowAt K H r sc ns) (e : ExtN H H') : RowAt K H' r sc ns := by
  obtain ⟨n1, n2, n3, h1, h2, h3⟩ := R
  exact ⟨n1, n2, n3, e _ _ h1 (fun _ z => nomatch z), h2.imp (fun z => ⟨extN_sql e z.1, z.2⟩) id, h3⟩
theorem ok_llaw_drawer (T : Top K mg) {c tP : Addr} (hcode : T.fd_llaw_drawer.code = .ref c) (TB : TabB base mg c tP) : FnOk P w K mg base CX0 7 T.a_llaw_drawer T.fd_llaw_drawer ["_law_row", "_law_most"] (spPDrawer K T.c_Drawer T.c_Card tP) := by
  refine T.F_llaw_drawer.okC sc_llaw_drawer (fun vs H Q E h => ?_) (fun A outer s H vs Q E hr h => ?_)
  · obtain ⟨r, sc, ns, m, rfl, _⟩ := h
    rfl
  · obtain ⟨r, sc, ns, m, rfl, hm, hR, hT, k⟩ := h
    have hu := hu_of hr
    refine ⟨_, (pss_cons (ps_setLc (i := 2) (own := [("_law_k", 3)]) (g := gName 3) (tt := tYes) rfl sc_llaw_drawer.nd rfl rfl (sw_true rfl rfl rfl (by decide +kernel)) (pi_range1 (by rfl) T.m_range (pa_cons (pe_call (ok_llaw_taken T) (hr.mono (by decide)) (by rfl) T.g_llaw_taken T.F_llaw_taken.kp (b_llaw_taken T) .nil pass0 (pa_cons (pv 0) (pa_cons (pe_op op_add (pv 1) pe_int) pa_nil))) pa_nil)) (blkOk_by (N := N_llaw_drawer) (sc := defScope s_llaw_drawer) (by decide +kernel)) (fun _ _ _ _ _ => (pg_name (i := 3) sc_llaw_drawer.nd rfl (.inl rfl))) (fun _ _ _ _ _ => pts_nil) (fun _ _ _ _ _ => (pe_call (ok_llaw_card T) (hr.mono (by decide)) (by rfl) T.g_llaw_card T.F_llaw_card.kp (b_llaw_card T) .nil pass0 (pa_cons (pv 0) pa_nil))))
      (pss_cons (ps_mid (ps_if (pt_cmpR op_eq (pe_call (ok_llaw_taken T) (hr.mono (by decide)) (by rfl) T.g_llaw_taken T.F_llaw_taken.kp (b_llaw_taken T) .nil pass0 (pa_cons (pv 0) (pa_cons pe_int pa_nil))) pe_int (nomark _)) (pss_one (ps_set (i := 2) sc_llaw_drawer.nd rfl (.inl rfl) (pe_sortProp (by rfl) T.m_sorted (pv 2) TB hcode hr T.cl_Card T.P_Card_heading T.F_Card_heading (b_Card_heading T) T.n_Card__heading))) pss_nil))
      (pss_one (ps_ret (pe_make T.Mk_Drawer (ok_Drawer_init T) (hr.mono (by decide)) (by rfl) T.g_Drawer (b_Drawer_init T) .nil pass0 (pa_cons (pe_callTy call_tuple_of (by rfl) T.m_tuple (by decide +kernel) (pa_cons (pv 2) pa_nil)) pa_nil)))))), ?_⟩
    refine ⟨_, rfl, _, rfl, _, _, rfl, rfl, ?_⟩
    refine ⟨r, sc, ns, (m : Int) + 1, rfl, by omega, by omega, hR, fun n H1 hn b1 R1 => ?_⟩
    refine ⟨_, rfl, by omega, by omega, fun D hD => ?_⟩
    have hDr := R1.new hD
    refine lc_it (walk_range (n := n)) (fun i H2 => But r H1 H2 ∧ RowAt K H2 r sc ns ∧ ∃ (ps : List Addr) (cs : List CD), cs.length = i ∧ (∀ c ∈ cs, GoodP c) ∧ H2 D = some (.lst (ps.map V.ref)) ∧ Cards K T.c_Card H2 ps cs)
      ⟨(same_new hD).but, R1.same (same_new hD), [], [], rfl, (fun _ h => nomatch h), upd_same, ⟨rfl, fun i q c h _ => nomatch h⟩⟩ (fun _ _ _ _ => trivial) (fun i x H2 H3 hi hP hy => ?_) (fun H2 hP => ?_)
    · obtain ⟨b2, R2, ps, cs, hcl, hG, e2, C2⟩ := hP
      obtain ⟨rfl, rfl⟩ := hy
      refine ⟨rfl, tYes_of ?_⟩
      refine ⟨_, rfl, r, sc, ns, rfl, R2, fun q H4 c b4 R4 c4 hg hqr => ?_⟩
      have e4 := b4 _ _ e2 hDr.1
      obtain ⟨o, ho1, ho2⟩ := R2.at
      have im4 : Imm _ (upd H4 D (.lst (ps.map V.ref ++ [.ref q]))) := (b4.imm ho1 ho2).mut e4 rfl
      have hpl := C2.1
      refine ⟨_, e4, sizeLine_of (by rw [List.length_map]; omega), but_mut (b2.trans b4) hD, R4.mut hDr, ps ++ [q], cs ++ [c], by rw [List.length_append, hcl]; rfl, fun c' hc' => ?_, by rw [upd_same, List.map_append]; rfl, cards_snoc C2 im4 (c4.imm (Imm.refl.mut e4 rfl))⟩
      rcases List.mem_append.mp hc' with h | h
      · exact hG c' h
      · rw [List.mem_singleton.mp h]
        exact hg
    · obtain ⟨b2, R2, ps, cs, hcl, hG, e2, C2⟩ := hP
      have b02 : But r H H2 := b1.trans b2
      clear b1 R1 hD b2
      refine ⟨fun σ H3 => ∃ (fl : Addr) (ps : List Addr) (cs : List CD) (y3 : Option V), σ = [some (.ref r), some (.int (m : Nat)), some (.ref fl), y3] ∧ cs.length ≤ m ∧ ButN r H H3 ∧ Tabs [(tP, lamP)] H3 ∧ RowAt K H3 r sc ns ∧ H3 fl = some (.lst (ps.map V.ref)) ∧ Cards K T.c_Card H3 ps cs ∧ ∀ c ∈ cs, GoodP c, ?_, fun σ H3 hP => ?_⟩
      · refine ⟨_, rfl, r, sc, ns, 2, rfl, by decide, by decide, R2, fun n4 H3 hn4 b3 R3 => ?_⟩
        refine tC_to (rEq_to (b := decide ((n4 : Int) = 0)) rfl (by rw [int_dec]) ?_)
        refine ⟨_, rfl, ?_⟩
        have e3 := b3 _ _ e2 hDr.1
        have b03 : But r H H3 := b02.trans b3
        obtain ⟨o, ho1, ho2⟩ := R2.at
        have C3 := C2.imm (b3.imm ho1 ho2)
        have T3 : Tabs [(tP, lamP)] H3 := tabs_but hT b03 hR
        by_cases h4 : (n4 : Int) = 0
        · rw [decide_eq_true h4]
          refine iteT ?_
          obtain ⟨bs, eb, hb, ps', es, hs⟩ := cards_sort C3
          refine ⟨_, rfl, T3, D, bs, rfl, by rw [eb]; exact SqL.of e3, hb, fun p H4 e4 T4 hp => ?_⟩
          have s5 : Same H4 (upd H4 p (.lst ((sortBy bs).map (·.1)))) := same_new hp
          refine ⟨p, ps', fileOf cs, _, rfl, by rw [(fileOf_perm cs).length_eq]; omega, ButN.ext b03 fun b o h n => s5 _ _ (e4 b o h n), T4.ext s5, (rowAt_ext R3 e4).same s5, by rw [upd_same, es], hs _ ((extN_imm e4).trans s5.imm), fun c hc => hG c ((fileOf_perm cs).mem_iff.mp hc)⟩
        · rw [decide_eq_false h4]
          refine iteF ?_
          exact ⟨D, ps, cs, _, rfl, by omega, ButN.of b03, T3, R3, e3, C3, hG⟩
      · obtain ⟨fl, ps, cs, y3, rfl, hcm, b3, T3, R3, e3, C3, hG⟩ := hP
        refine ⟨_, rfl, fl, _, rfl, .inl ⟨SqL.of e3, fun u hu' => ?_⟩⟩
        intro x dx hx hdx hne
        have s6 : Same H3 (upd H3 u (.tup (ps.map V.ref))) := same_new hu'
        have s7 : Same (upd H3 u (.tup (ps.map V.ref))) (upd (upd (upd H3 u (.tup (ps.map V.ref))) dx (.own x)) x (.ins T.c_Drawer dx [])) := fun b o e => by
          rw [upd_ne (ne_of_none e hx), upd_ne (ne_of_none e hdx)]
          exact e
        refine ⟨x, dx, u, _, rfl, upd_same, s7.seqT (SqT.of upd_same), by rw [List.length_map, C3.1]; omega, fun H7 b7 h7 => ⟨rfl, ?_⟩⟩
        have s8 : Same (upd H3 u (.tup (ps.map V.ref))) H7 := fun b o e => b7 b o (s7 b o e) (ne_of_none e hx)
        have s9 := s6.trans s8
        exact k x H7 cs hcm (fun b o e n m => s9 _ _ (b3 b o e n m)) (T3.ext s9) (R3.same s9) ⟨dx, u, ps, h7, s8.seqT (SqT.of upd_same), C3.imm s9.imm⟩ hG ((R3.same s6).new hx).1
end
section
local macro_rules | `(tactic| walk_at "sl") => `(tactic| first | assumption | exact SqL.of upd_same | exact SqL.of (by assumption) | ((with_reducible apply sql_upd); (walk_at "sl"); (first | assumption | exact Ne.symm (by assumption))))
local macro_rules | `(tactic| walk_at "st") => `(tactic| first | assumption | exact SqT.of upd_same | exact SqT.of (by assumption))
local macro_rules | `(tactic| walk_at "sc") => `(tactic| first | rfl | assumption | (show (0 : Int) < _; first | assumption | decide | omega) | exact Or.inl ⟨by omega, by omega⟩ | exact Or.inr ⟨by omega, by omega⟩ | exact ⟨by decide, by decide⟩ | exact ⟨by decide, by decide, by decide⟩)
local macro_rules | `(tactic| walk_at "g1") => `(tactic| first
  | refine ⟨(_ : V), rfl, ?_⟩
  | refine ⟨(_ : Bool), rfl, ?_⟩
  | refine ⟨(_ : Int), (_ : Int), rfl, rfl, ?_⟩
  | refine ⟨(_ : Int), rfl, ?_⟩
  | refine ⟨(_ : Str), rfl, ?_⟩
  | refine ⟨(_ : Addr), (_ : List V), rfl, Or.inl (by walk_at "sl"), ?_⟩
  | refine ⟨(_ : Addr), (_ : List V), rfl, Or.inr (by walk_at "st"), ?_⟩
  | refine ⟨(_ : Addr), (_ : List V), (_ : Int), (_ : V), rfl, rfl, (by walk_at "sl"), (by first | rfl | assumption), ?_⟩
  | refine ⟨(_ : Addr), (_ : List V), (_ : Int), (_ : V), rfl, rfl, (by walk_at "st"), (by first | rfl | assumption), ?_⟩
  | refine ⟨(_ : Addr), (_ : List V), (_ : Int), (_ : Nat), rfl, rfl, upd_same, rfl, ?_⟩
  | refine ⟨(_ : Addr), (_ : List V), (_ : Int), (_ : Nat), rfl, rfl, (by assumption), rfl, ?_⟩
  | refine ⟨(_ : Addr), (_ : Addr), (_ : Addr), (_ : List (Str × V)), (_ : V), rfl, (by assumption), (by assumption), (by assumption), (by first | assumption | rfl), ?_⟩
  | refine Or.inl ⟨(_ : Int), rfl, ?_⟩
  | refine And.intro (by walk_at "sc") ?_
  | refine iteT ?_
  | refine iteF ?_)
/-! ### what is found has the heading that was sought -/
theorem along_sound (g : Bool) (h : Str) : ∀ (ws : List Str) (i j : Nat), (along g h i ws).1 = some j → i ≤ j ∧ ws[j - i]? = some h
  | [], i, j, e => by
    unfold along at e
    cases e
  | x :: r, i, j, e => by
    unfold along at e
    by_cases hx : x = h
    · rw [if_pos hx] at e
      obtain rfl : i = j := Option.some.inj e
      rw [Nat.sub_self, hx]
      exact ⟨Nat.le_refl _, rfl⟩
    · rw [if_neg hx] at e
      split at e
      · cases e
      · obtain ⟨h1, h2⟩ := along_sound g h r (i + 1) j e
        refine ⟨by omega, ?_⟩
        rw [show j - i = (j - (i + 1)) + 1 by omega]
        exact h2
theorem halves_sound (ws : List Str) (h : Str) : ∀ (n : Nat) (lo hi : Int) (ps : List Int) (j : Nat), 0 ≤ lo → hi < ws.length → (halves ws h n lo hi ps).1 = some j → ws[j]? = some h
  | 0, _, _, _, _, _, _, e => by
    unfold halves at e
    cases e
  | n + 1, lo, hi, ps, j, h0, h1, e => by
    unfold halves at e
    by_cases hl : lo ≤ hi
    · rw [if_pos hl] at e
      have hm : ((lo + hi) / 2).toNat < ws.length := by omega
      rw [List.getElem?_eq_getElem hm] at e
      split at e
      · rename_i q
        obtain rfl := Option.some.inj e
        rw [List.getElem?_eq_getElem hm]
        exact congrArg some q
      · split at e
        · exact halves_sound ws h n lo _ _ j h0 (by omega) e
        · exact halves_sound ws h n _ hi _ j (by omega) h1 e
    · rw [if_neg hl] at e
      cases e
theorem seek_sound {ws : List Str} {r h : Str} {j : Nat} (e : (seekOf ws r h).1 = some j) : ws[j]? = some h := by
  unfold seekOf at e
  split at e
  · exact halves_sound ws h _ _ _ _ j (Int.le_refl 0) (by omega) e
  · exact (along_sound _ h ws 0 j e).2
/-! ### data that look-ups tell -/
def onD : Option Nat → PyData
  | none => .none
  | some i => .int i
def seenD (r : Option Nat × List Int) : PyData := .tuple [onD r.1, .tuple (r.2.map PyData.int)]
theorem dp_on {H : Hp} (o : Option Nat) : Dp K H (onV o) (onD o) := by
  cases o with
  | none => exact .non
  | some i => exact .int i
theorem dp_seen {H : Hp} {t : Addr} {r : Option Nat × List Int} (h : Seen K H t r) : Dp K H (.ref t) (seenD r) := by
  obtain ⟨p, h1, h2⟩ := h
  exact .tup h1 (.cons (dp_on r.1) (.cons (dp_tInts h2) .nil))
theorem sh_seen (r : Option Nat × List Int) : SeqAt.shaped (seenD r) = true := by
  have h1 : (onD r.1).canLay0 = true := by cases r.1 <;> rfl
  have h2 : (onD r.1).depth = 0 := by cases r.1 <;> rfl
  show ((onD r.1).canLay0 && (PyData.canLayAll0 (r.2.map PyData.int) && true) && decide (max (onD r.1).depth (max (PyData.depthAll (r.2.map PyData.int) + 1) 0) + 1 ≤ 64)) = true
  rw [h1, h2, can_ints, dep_ints]
  rfl
theorem inV_on {i : Nat} : ∀ os : List (Option Nat), inV (.int i) (os.map onV) = decide (some i ∈ os)
  | [] => rfl
  | o :: r => by
    show (eqV (onV o) (.int i) || inV (.int i) (r.map onV)) = _
    rw [inV_on r]
    have q : eqV (onV o) (.int i) = decide (some i = o) := by
      cases o with
      | none => rfl
      | some j =>
        show (((j : Nat) : Int) == (i : Int)) = _
        by_cases e : i = j
        · subst e
          simp
        · rw [decide_eq_false (fun z => e (Option.some.inj z))]
          exact beq_eq_false_iff_ne.mpr fun z => e (by omega)
    rw [q]
    by_cases e : some i = o
    · subst e
      rw [decide_eq_true rfl, Bool.true_or, decide_eq_true (List.mem_cons_self ..)]
    · rw [decide_eq_false e, Bool.false_or]
      by_cases e3 : some i ∈ r
      · rw [decide_eq_true e3, decide_eq_true (List.mem_cons_of_mem _ e3)]
      · rw [decide_eq_false e3, decide_eq_false fun z => (List.mem_cons.mp z).elim e e3]
theorem flat_on : ∀ os : List (Option Nat), (os.map onV).all flatV = true
  | [] => rfl
  | o :: r => by
    show (flatV (onV o) && (r.map onV).all flatV) = true
    rw [flat_on r, Bool.and_true]
    cases o <;> rfl
end
section
local macro_rules | `(tactic| walk_at "sl") => `(tactic| first | assumption | exact SqL.of upd_same | exact SqL.of (by assumption) | ((with_reducible apply sql_upd); (walk_at "sl"); (first | assumption | exact Ne.symm (by assumption))))
local macro_rules | `(tactic| walk_at "st") => `(tactic| first | assumption | exact SqT.of upd_same | exact SqT.of (by assumption))
local macro_rules | `(tactic| walk_at "sc") => `(tactic| first | rfl | assumption | (show (0 : Int) < _; first | assumption | decide | omega) | exact Or.inl ⟨by omega, by omega⟩ | exact Or.inr ⟨by omega, by omega⟩ | exact ⟨by decide, by decide⟩ | exact ⟨by decide, by decide, by decide⟩)
local macro_rules | `(tactic| walk_at "g1") => `(tactic| first
  | refine ⟨(_ : V), rfl, ?_⟩
  | refine ⟨(_ : Bool), rfl, ?_⟩
  | refine ⟨(_ : Int), (_ : Int), rfl, rfl, ?_⟩
  | refine ⟨(_ : Int), rfl, ?_⟩
  | refine ⟨(_ : Str), rfl, ?_⟩
  | refine ⟨(_ : Addr), (_ : List V), rfl, Or.inl (by walk_at "sl"), ?_⟩
  | refine ⟨(_ : Addr), (_ : List V), rfl, Or.inr (by walk_at "st"), ?_⟩
  | refine ⟨(_ : Addr), (_ : List V), (_ : Int), (_ : V), rfl, rfl, (by walk_at "sl"), (by first | rfl | assumption), ?_⟩
  | refine ⟨(_ : Addr), (_ : List V), (_ : Int), (_ : V), rfl, rfl, (by walk_at "st"), (by first | rfl | assumption), ?_⟩
  | refine ⟨(_ : Addr), (_ : List V), (_ : Int), (_ : Nat), rfl, rfl, upd_same, rfl, ?_⟩
  | refine ⟨(_ : Addr), (_ : List V), (_ : Int), (_ : Nat), rfl, rfl, (by assumption), rfl, ?_⟩
  | refine ⟨(_ : Addr), (_ : Addr), (_ : Addr), (_ : List (Str × V)), (_ : V), rfl, (by assumption), (by assumption), (by assumption), (by first | assumption | rfl), ?_⟩
  | refine Or.inl ⟨(_ : Int), rfl, ?_⟩
  | refine And.intro (by walk_at "sc") ?_
  | refine iteT ?_
  | refine iteF ?_)
/-! ### wear: what is looked at, what is left -/
theorem along_bnd (g : Bool) (h : Str) : ∀ (ws : List Str) (i : Nat), (along g h i ws).2 ≤ i + ws.length
  | [], i => Nat.le_refl _
  | x :: r, i => by
    unfold along
    split
    · show i + 1 ≤ i + (r.length + 1); omega
    · split
      · show i + 1 ≤ i + (r.length + 1); omega
      · have := along_bnd g h r (i + 1)
        show _ ≤ i + (r.length + 1)
        omega
theorem along_some (g : Bool) (h : Str) {ws : List Str} (i : Nat) (hw : ws ≠ []) : i < (along g h i ws).2 := by
  have key : ∀ (ws : List Str) (i : Nat), i ≤ (along g h i ws).2 := fun ws => by
    induction ws with
    | nil => exact fun i => Nat.le_refl _
    | cons x r ih =>
      intro i
      unfold along
      split
      · exact Nat.le_succ i
      · split
        · exact Nat.le_succ i
        · exact Nat.le_trans (Nat.le_succ i) (ih (i + 1))
  cases ws with
  | nil => exact absurd rfl hw
  | cons x r =>
    unfold along
    split
    · exact Nat.lt_succ_self i
    · split
      · exact Nat.lt_succ_self i
      · exact key r (i + 1)
theorem upTo_mem {n : Nat} {x : Int} (h : x ∈ upTo n) : 0 ≤ x ∧ x < n := by
  obtain ⟨i, hi, rfl⟩ := List.mem_map.mp h
  have := List.mem_range.mp hi
  omega
theorem upTo_nodup (n : Nat) : (upTo n).Nodup := List.Pairwise.map _ (fun a b h e => h (Int.ofNat.inj e)) List.nodup_range
theorem halves_seen (ws : List Str) (h : Str) : ∀ (n : Nat) (lo hi : Int) (ps : List Int), 0 ≤ lo → hi < ws.length → (∀ x ∈ ps, 0 ≤ x ∧ x < ws.length ∧ (x < lo ∨ hi < x)) → ps.Nodup → (∀ x ∈ (halves ws h n lo hi ps).2, 0 ≤ x ∧ x < ws.length) ∧ (halves ws h n lo hi ps).2.Nodup
  | 0, lo, hi, ps, _, _, hp, hn => ⟨fun x hx => ⟨(hp x hx).1, (hp x hx).2.1⟩, hn⟩
  | n + 1, lo, hi, ps, h0, hl, hp, hn => by
    unfold halves
    by_cases hlh : lo ≤ hi
    · rw [if_pos hlh]
      have m1 : lo ≤ (lo + hi) / 2 := by omega
      have m2 : (lo + hi) / 2 ≤ hi := by omega
      generalize (lo + hi) / 2 = m at *
      have np : (ps ++ [m]).Nodup := List.nodup_append.mpr ⟨hn, by simp, fun x hx y hy e => by
        rw [List.mem_singleton.mp hy] at e
        have := (hp x hx).2.2
        omega⟩
      have inn : ∀ x ∈ ps ++ [m], 0 ≤ x ∧ x < ws.length := fun x hx => by
        rcases List.mem_append.mp hx with z | z
        · exact ⟨(hp x z).1, (hp x z).2.1⟩
        · rw [List.mem_singleton.mp z]
          omega
      split
      · exact ⟨inn, np⟩
      · split
        · refine halves_seen ws h n lo (m - 1) _ h0 (by omega) (fun x hx => ?_) np
          refine ⟨(inn x hx).1, (inn x hx).2, ?_⟩
          rcases List.mem_append.mp hx with z | z
          · have := (hp x z).2.2; omega
          · have := List.mem_singleton.mp z; omega
        · refine halves_seen ws h n (m + 1) hi _ (by omega) hl (fun x hx => ?_) np
          refine ⟨(inn x hx).1, (inn x hx).2, ?_⟩
          rcases List.mem_append.mp hx with z | z
          · have := (hp x z).2.2; omega
          · have := List.mem_singleton.mp z; omega
    · rw [if_neg hlh]
      exact ⟨fun x hx => ⟨(hp x hx).1, (hp x hx).2.1⟩, hn⟩
theorem halves_more (ws : List Str) (h : Str) : ∀ (n : Nat) (lo hi : Int) (ps : List Int), ps.length ≤ (halves ws h n lo hi ps).2.length
  | 0, _, _, _ => Nat.le_refl _
  | n + 1, lo, hi, ps => by
    unfold halves
    split
    · split
      · rw [List.length_append]; omega
      · split
        · exact Nat.le_trans (by rw [List.length_append]; omega) (halves_more ws h n _ _ (ps ++ [(lo + hi) / 2]))
        · exact Nat.le_trans (by rw [List.length_append]; omega) (halves_more ws h n _ _ (ps ++ [(lo + hi) / 2]))
    · exact Nat.le_refl _
theorem seen_ok (ws : List Str) (r h : Str) : (∀ x ∈ (seekOf ws r h).2, 0 ≤ x ∧ x < ws.length) ∧ (seekOf ws r h).2.Nodup := by
  unfold seekOf
  split
  · exact halves_seen ws h _ 0 _ [] (Int.le_refl 0) (by omega) (fun _ h => nomatch h) List.nodup_nil
  · refine ⟨fun x hx => ?_, upTo_nodup _⟩
    have h1 := upTo_mem hx
    have h2 := along_bnd (decide (r = "leaf")) h ws 0
    omega
theorem seen_ne {ws : List Str} (r h : Str) (hw : ws ≠ []) : (seekOf ws r h).2 ≠ [] := by
  have hl : 0 < ws.length := List.length_pos_iff.mpr hw
  unfold seekOf
  split
  · unfold halvesOf halves
    rw [if_pos (by omega)]
    have key : ∀ ps : List Int, 1 ≤ ps.length → ps ≠ [] := fun ps hp e => by rw [e] at hp; exact absurd hp (by decide)
    split
    · exact key _ (by simp)
    · split
      · exact key _ (Nat.le_trans (by simp) (halves_more ws h _ _ _ _))
      · exact key _ (Nat.le_trans (by simp) (halves_more ws h _ _ _ _))
  · have := along_some (decide (r = "leaf")) h 0 hw
    intro e
    have e' := congrArg List.length e
    show False
    unfold alongOf upTo at e'
    rw [List.length_map, List.length_range] at e'
    exact absurd e' (by simp; omega)
theorem nodup_leN {α : Type} [DecidableEq α] : ∀ {ks ns : List α}, ks.Nodup → (∀ k ∈ ks, k ∈ ns) → ks.length ≤ ns.length
  | [], _, _, _ => Nat.zero_le _
  | k :: ks, ns, h, hm => by
    obtain ⟨h1, h2⟩ := List.nodup_cons.mp h
    have hk := hm k (.head _)
    have ih := nodup_leN (ns := ns.erase k) h2 fun x hx => (List.mem_erase_of_ne (fun (e : x = k) => h1 (e ▸ hx))).mpr (hm x (.tail _ hx))
    rw [List.length_erase_of_mem hk] at ih
    have : 0 < ns.length := List.length_pos_of_mem hk
    rw [List.length_cons]
    omega
abbrev LS := List (Nat × Int)
def keysL (ls : LS) : List Nat := ls.map Prod.fst
def hdsL (ws : List Str) (ks : List Nat) : List Str := ks.map fun k => ws[k]?.getD ""
def lookN (ws : List Str) (r h : Str) (ks : List Nat) : List Nat := (seekOf (hdsL ws ks) r h).2.map fun i => ks[i.toNat]?.getD 0
def fndN (ws : List Str) (r h : Str) (ks : List Nat) : Bool := (seekOf (hdsL ws ks) r h).1.isSome
theorem hds_len (ws : List Str) (ks : List Nat) : (hdsL ws ks).length = ks.length := List.length_map ..
theorem look_at {ws : List Str} {r h : Str} {ks : List Nat} {i : Int} (hi : i ∈ (seekOf (hdsL ws ks) r h).2) : ∃ k, ks[i.toNat]? = some k ∧ i = (i.toNat : Nat) := by
  have h1 := (seen_ok (hdsL ws ks) r h).1 i hi
  rw [hds_len] at h1
  exact ⟨_, List.getElem?_eq_getElem (show i.toNat < ks.length by omega), by omega⟩
theorem look_mem {ws : List Str} {r h : Str} {ks : List Nat} {p : Nat} (hp : p ∈ lookN ws r h ks) : p ∈ ks := by
  obtain ⟨i, hi, rfl⟩ := List.mem_map.mp hp
  obtain ⟨k, hk, _⟩ := look_at hi
  rw [hk]
  exact List.mem_of_getElem? hk
theorem look_nodup {ws : List Str} {r h : Str} {ks : List Nat} (hn : ks.Nodup) : (lookN ws r h ks).Nodup := by
  refine List.pairwise_map.mpr ((seen_ok (hdsL ws ks) r h).2.imp_of_mem fun {a b} ha hb hne e => hne ?_)
  obtain ⟨k, hk, ea⟩ := look_at ha
  obtain ⟨l, hl, eb⟩ := look_at hb
  rw [hk, hl] at e
  obtain rfl : k = l := e
  obtain ⟨h1, e1⟩ := List.getElem?_eq_some_iff.mp hk
  obtain ⟨h2, e2⟩ := List.getElem?_eq_some_iff.mp hl
  have := (List.getElem_inj hn).mp (e1.trans e2.symm)
  omega
theorem look_ne {ws : List Str} {ks : List Nat} (r h : Str) (hk : ks ≠ []) : lookN ws r h ks ≠ [] := fun e => seen_ne (ws := hdsL ws ks) r h (fun z => hk (List.map_eq_nil_iff.mp z)) (List.map_eq_nil_iff.mp e)
theorem fnd_ne {ws : List Str} {r h : Str} {ks : List Nat} (hf : fndN ws r h ks = true) : ks ≠ [] := fun e => by
  subst e
  have : fndN ws r h [] = false := by
    unfold fndN hdsL
    cases hs : (seekOf ([] : List Str) r h).1 with
    | none => show (seekOf ([] : List Str) r h).1.isSome = false; rw [hs]; rfl
    | some j => exact absurd (seek_sound hs) nofun
  rw [this] at hf
  cases hf
/-! one request -/
def wornL (ls : LS) (lk : List Nat) : LS := (ls.map fun p => (p.1, if p.1 ∈ lk then p.2 - 1 else p.2)).filter fun p => decide (0 < p.2)
def stepL (ws : List Str) (r h : Str) (ls : LS) : LS := wornL ls (lookN ws r h (keysL ls))
theorem step_pos {ws : List Str} {r h : Str} {ls : LS} : ∀ p ∈ stepL ws r h ls, 0 < p.2 := fun p hp => of_decide_eq_true (List.mem_filter.mp hp).2
theorem step_keys {ws : List Str} {r h : Str} {ls : LS} : (keysL (stepL ws r h ls)).Sublist (keysL ls) := by
  unfold keysL stepL wornL
  have h1 : ((ls.map fun p => (p.1, if p.1 ∈ lookN ws r h (ls.map Prod.fst) then p.2 - 1 else p.2)).map Prod.fst) = ls.map Prod.fst := by rw [List.map_map]; rfl
  rw [← h1]
  exact List.filter_sublist.map _
theorem step_full {ws : List Str} {r h : Str} {ls : LS} (hp : ∀ p ∈ ls, 0 < (if p.1 ∈ lookN ws r h (keysL ls) then p.2 - 1 else p.2)) : stepL ws r h ls = ls.map fun p => (p.1, if p.1 ∈ lookN ws r h (keysL ls) then p.2 - 1 else p.2) := by
  unfold stepL wornL
  refine List.filter_eq_self.mpr fun q hq => ?_
  obtain ⟨p, hm, rfl⟩ := List.mem_map.mp hq
  exact decide_eq_true (hp p hm)
theorem step_same {ws : List Str} {r h : Str} {ls : LS} (e : keysL (stepL ws r h ls) = keysL ls) : stepL ws r h ls = ls.map fun p => (p.1, if p.1 ∈ lookN ws r h (keysL ls) then p.2 - 1 else p.2) := by
  have hl : (stepL ws r h ls).length = ls.length := by
    have := congrArg List.length e
    unfold keysL at this
    rw [List.length_map, List.length_map] at this
    exact this
  unfold stepL wornL at hl ⊢
  refine List.filter_eq_self.mpr ?_
  have := List.length_filter_eq_length_iff.mp (hl.trans (List.length_map ..).symm)
  exact this
/-! a row of requests -/
def runL (ws : List Str) (r : Str) (hs : List Str) (ls : LS) : LS := hs.foldl (fun l h => stepL ws r h l) ls
def cntR (ws : List Str) (r : Str) (ks : List Nat) : List Str → Nat → Int
  | [], _ => 0
  | h :: t, p => (if p ∈ lookN ws r h ks then 1 else 0) + cntR ws r ks t p
theorem cnt_ge (ws : List Str) (r : Str) (ks : List Nat) : ∀ (hs : List Str) (p : Nat), 0 ≤ cntR ws r ks hs p
  | [], _ => Int.le_refl _
  | h :: t, p => by
    have := cnt_ge ws r ks t p
    unfold cntR
    split <;> omega
theorem cnt_app (ws : List Str) (r : Str) (ks : List Nat) (p : Nat) : ∀ (hs gs : List Str), cntR ws r ks (hs ++ gs) p = cntR ws r ks hs p + cntR ws r ks gs p
  | [], gs => (Int.zero_add _).symm
  | h :: t, gs => by
    show _ + cntR ws r ks (t ++ gs) p = (_ + cntR ws r ks t p) + _
    rw [cnt_app ws r ks p t gs]
    omega
theorem cnt_le_len (ws : List Str) (r : Str) (ks : List Nat) (p : Nat) : ∀ hs : List Str, cntR ws r ks hs p ≤ hs.length
  | [] => Int.le_refl _
  | h :: t => by
    have := cnt_le_len ws r ks p t
    show (if p ∈ lookN ws r h ks then 1 else 0) + cntR ws r ks t p ≤ ((t.length + 1 : Nat) : Int)
    split <;> omega
def subL (ls : LS) (f : Nat → Int) : LS := ls.map fun p => (p.1, p.2 - f p.1)
theorem sub_keys (ls : LS) (f : Nat → Int) : keysL (subL ls f) = keysL ls := by
  unfold keysL subL
  rw [List.map_map]
  rfl
theorem sub_sub (ls : LS) (f g : Nat → Int) : subL (subL ls f) g = subL ls fun p => f p + g p := by
  unfold subL
  rw [List.map_map]
  refine List.map_congr_left fun p _ => ?_
  show (p.1, p.2 - f p.1 - g p.1) = (p.1, p.2 - (f p.1 + g p.1))
  rw [Int.sub_sub]
theorem run_sub {ws : List Str} {r : Str} : ∀ {hs : List Str} {ls : LS}, (∀ p ∈ ls, 1 ≤ p.2 - cntR ws r (keysL ls) hs p.1) → runL ws r hs ls = subL ls (cntR ws r (keysL ls) hs)
  | [], ls, _ => by
    unfold runL subL cntR
    show ls = ls.map fun p => (p.1, p.2 - 0)
    exact (List.map_id' ls).symm.trans (List.map_congr_left fun p _ => by show p = (p.1, p.2 - 0); rw [Int.sub_zero])
  | h :: t, ls, hp => by
    have e1 : stepL ws r h ls = subL ls fun p => if p ∈ lookN ws r h (keysL ls) then 1 else 0 := by
      rw [step_full fun p hm => by
        have h1 := hp p hm
        have h2 := cnt_ge ws r (keysL ls) t p.1
        unfold cntR at h1
        split at h1 <;> split <;> first | contradiction | omega]
      unfold subL
      refine List.map_congr_left fun p _ => ?_
      show (p.1, if p.1 ∈ lookN ws r h (keysL ls) then p.2 - 1 else p.2) = (p.1, p.2 - (if p.1 ∈ lookN ws r h (keysL ls) then 1 else 0))
      split
      · rfl
      · rw [Int.sub_zero]
    show runL ws r t (stepL ws r h ls) = _
    rw [e1]
    have ih := run_sub (ws := ws) (r := r) (hs := t) (ls := subL ls fun p => if p ∈ lookN ws r h (keysL ls) then 1 else 0) (fun q hq => by
      rw [sub_keys]
      obtain ⟨p, hm, rfl⟩ := List.mem_map.mp hq
      have h1 := hp p hm
      show 1 ≤ p.2 - (if p.1 ∈ lookN ws r h (keysL ls) then 1 else 0) - cntR ws r (keysL ls) t p.1
      unfold cntR at h1
      omega)
    rw [ih, sub_keys, sub_sub]
    rfl
/-- if no card falls out, that is what is left -/
theorem run_same {ws : List Str} {r : Str} : ∀ {hs : List Str} {ls : LS}, (∀ i ≤ hs.length, keysL (runL ws r (hs.take i) ls) = keysL ls) → runL ws r hs ls = subL ls (cntR ws r (keysL ls) hs)
  | [], ls, _ => by
    unfold runL subL cntR
    show ls = ls.map fun p => (p.1, p.2 - 0)
    exact (List.map_id' ls).symm.trans (List.map_congr_left fun p _ => by show p = (p.1, p.2 - 0); rw [Int.sub_zero])
  | h :: t, ls, hk => by
    have k1 : keysL (stepL ws r h ls) = keysL ls := hk 1 (by show 1 ≤ t.length + 1; omega)
    have e1 : stepL ws r h ls = subL ls fun p => if p ∈ lookN ws r h (keysL ls) then 1 else 0 := by
      rw [step_same k1]
      unfold subL
      refine List.map_congr_left fun p _ => ?_
      show (p.1, if p.1 ∈ lookN ws r h (keysL ls) then p.2 - 1 else p.2) = (p.1, p.2 - (if p.1 ∈ lookN ws r h (keysL ls) then 1 else 0))
      split
      · rfl
      · rw [Int.sub_zero]
    have ih := run_same (ws := ws) (r := r) (hs := t) (ls := stepL ws r h ls) (fun i hi => by
      rw [k1]
      exact hk (i + 1) (by show i + 1 ≤ t.length + 1; omega))
    show runL ws r t (stepL ws r h ls) = _
    rw [ih, k1, e1, sub_sub]
    rfl
theorem run_keys {ws : List Str} {r : Str} : ∀ (hs : List Str) (ls : LS), (keysL (runL ws r hs ls)).Sublist (keysL ls)
  | [], ls => List.Sublist.refl _
  | h :: t, ls => (run_keys t (stepL ws r h ls)).trans step_keys
theorem run_app (ws : List Str) (r : Str) (hs gs : List Str) (ls : LS) : runL ws r (hs ++ gs) ls = runL ws r gs (runL ws r hs ls) := List.foldl_append ..
theorem run_pos {ws : List Str} {r : Str} : ∀ {hs : List Str} {ls : LS}, (∀ p ∈ ls, 0 < p.2) → ∀ p ∈ runL ws r hs ls, 0 < p.2
  | [], _, h => h
  | _ :: t, _, _ => run_pos (hs := t) step_pos
/-! all requests, again and again -/
def rq (rs : List Str) (n : Nat) : Str := rs[n % rs.length]?.getD ""
def st0 (n : Nat) (S : Int) : LS := (List.range n).map fun k => (k, S)
def stN (ws : List Str) (r : Str) (rs : List Str) (S : Int) : Nat → LS
  | 0 => st0 ws.length S
  | n + 1 => stepL ws r (rq rs n) (stN ws r rs S n)
def fdN (ws : List Str) (r : Str) (rs : List Str) (S : Int) (n : Nat) : Bool := fndN ws r (rq rs n) (keysL (stN ws r rs S n))
theorem st0_keys (n : Nat) (S : Int) : keysL (st0 n S) = List.range n := by
  unfold keysL st0
  rw [List.map_map]
  exact List.map_id' _
theorem stN_keys (ws : List Str) (r : Str) (rs : List Str) (S : Int) : ∀ n, (keysL (stN ws r rs S n)).Sublist (List.range ws.length)
  | 0 => by rw [show stN ws r rs S 0 = st0 ws.length S from rfl, st0_keys]; exact List.Sublist.refl _
  | n + 1 => step_keys.trans (stN_keys ws r rs S n)
theorem stN_nodup (ws : List Str) (r : Str) (rs : List Str) (S : Int) (n : Nat) : (keysL (stN ws r rs S n)).Nodup := List.nodup_range.sublist (stN_keys ws r rs S n)
theorem stN_pos {ws : List Str} {r : Str} {rs : List Str} {S : Int} (hS : 1 ≤ S) : ∀ n, ∀ p ∈ stN ws r rs S n, 0 < p.2
  | 0 => fun p hp => by
    obtain ⟨k, _, rfl⟩ := List.mem_map.mp hp
    show 0 < S
    omega
  | n + 1 => step_pos
theorem rq_at {rs : List Str} {m i : Nat} (hm : rs.length ∣ m) (hi : i < rs.length) : rs[i]? = some (rq rs (m + i)) := by
  unfold rq
  rw [Nat.add_mod, Nat.mod_eq_zero_of_dvd hm, Nat.zero_add, Nat.mod_mod, Nat.mod_eq_of_lt hi, List.getElem?_eq_getElem hi]
  rfl
theorem stN_run {ws : List Str} {r : Str} {rs : List Str} {S : Int} {m : Nat} (hm : rs.length ∣ m) : ∀ i ≤ rs.length, stN ws r rs S (m + i) = runL ws r (rs.take i) (stN ws r rs S m)
  | 0, _ => rfl
  | i + 1, hi => by
    show stepL ws r (rq rs (m + i)) (stN ws r rs S (m + i)) = _
    rw [stN_run hm i (by omega), List.take_add_one, rq_at hm (by omega), run_app]
    rfl
/-- rounds in which no card falls out -/
theorem stN_rounds {ws : List Str} {r : Str} {rs : List Str} {S : Int} {m : Nat} (hm : rs.length ∣ m) : ∀ k : Nat, (∀ p ∈ stN ws r rs S m, 1 ≤ p.2 - k * cntR ws r (keysL (stN ws r rs S m)) rs p.1) →
    stN ws r rs S (m + k * rs.length) = subL (stN ws r rs S m) (fun p => k * cntR ws r (keysL (stN ws r rs S m)) rs p) ∧ ∀ j < k * rs.length, keysL (stN ws r rs S (m + j)) = keysL (stN ws r rs S m)
  | 0, _ => by
    refine ⟨?_, fun j hj => by rw [Nat.zero_mul] at hj; exact absurd hj (Nat.not_lt_zero j)⟩
    rw [Nat.zero_mul]
    unfold subL
    refine (List.map_id' _).symm.trans (List.map_congr_left fun p _ => ?_)
    show p = (p.1, p.2 - ((0 : Nat) : Int) * _)
    rw [Int.natCast_zero, Int.zero_mul, Int.sub_zero]
  | k + 1, hp => by
    have hk : ((k + 1 : Nat) : Int) = (k : Int) + 1 := by omega
    have ex : ∀ c : Int, ((k + 1 : Nat) : Int) * c = (k : Int) * c + c := fun c => by rw [hk, Int.add_mul, Int.one_mul]
    obtain ⟨e1, e2⟩ := stN_rounds hm k fun p hpm => by
      have h1 := hp p hpm
      have h2 := cnt_ge ws r (keysL (stN ws r rs S m)) rs p.1
      rw [ex] at h1
      omega
    have hd : rs.length ∣ m + k * rs.length := Nat.dvd_add hm (Nat.dvd_mul_left _ _)
    have part : ∀ i ≤ rs.length, stN ws r rs S (m + k * rs.length + i) = subL (subL (stN ws r rs S m) fun p => k * cntR ws r (keysL (stN ws r rs S m)) rs p) (cntR ws r (keysL (stN ws r rs S m)) (rs.take i)) := fun i hi => by
      rw [stN_run hd i hi, e1]
      rw [run_sub fun q hq => ?_, sub_keys]
      rw [sub_keys]
      obtain ⟨p, hpm, rfl⟩ := List.mem_map.mp hq
      have h1 := hp p hpm
      rw [ex] at h1
      have h3 : cntR ws r (keysL (stN ws r rs S m)) rs p.1 = cntR ws r (keysL (stN ws r rs S m)) (rs.take i) p.1 + cntR ws r (keysL (stN ws r rs S m)) (rs.drop i) p.1 := by
        rw [← cnt_app, List.take_append_drop]
      have h4 := cnt_ge ws r (keysL (stN ws r rs S m)) (rs.drop i) p.1
      show 1 ≤ p.2 - k * cntR ws r (keysL (stN ws r rs S m)) rs p.1 - cntR ws r (keysL (stN ws r rs S m)) (rs.take i) p.1
      omega
    refine ⟨?_, fun j hj => ?_⟩
    · have := part rs.length (Nat.le_refl _)
      rw [List.take_length, sub_sub] at this
      rw [show m + (k + 1) * rs.length = m + k * rs.length + rs.length by rw [Nat.add_mul, Nat.one_mul]; omega, this]
      unfold subL
      refine List.map_congr_left fun p _ => ?_
      show (p.1, p.2 - (k * cntR ws r (keysL (stN ws r rs S m)) rs p.1 + cntR ws r (keysL (stN ws r rs S m)) rs p.1)) = (p.1, p.2 - ((k + 1 : Nat) : Int) * cntR ws r (keysL (stN ws r rs S m)) rs p.1)
      rw [ex]
    · rcases Nat.lt_or_ge j (k * rs.length) with z | z
      · exact e2 j z
      · rw [Nat.add_mul, Nat.one_mul] at hj
        have := part (j - k * rs.length) (by omega)
        rw [show m + k * rs.length + (j - k * rs.length) = m + j by omega] at this
        rw [this, sub_keys, sub_keys]
theorem sub_full {α : Type} {xs ys : List α} (h : xs.Sublist ys) (hl : ys.length ≤ xs.length) : xs = ys := h.eq_of_length_le hl
/-- a round in which no card falls out is one after which all keys stand -/
theorem keys_between {ws : List Str} {r : Str} {rs : List Str} {ls : LS} (e : keysL (runL ws r rs ls) = keysL ls) : ∀ i ≤ rs.length, keysL (runL ws r (rs.take i) ls) = keysL ls := fun i _ => by
  refine sub_full (run_keys _ ls) ?_
  have : (keysL (runL ws r rs ls)).Sublist (keysL (runL ws r (rs.take i) ls)) := by
    conv => lhs; rw [← List.take_append_drop i rs, run_app]
    exact run_keys _ _
  have := this.length_le
  rw [e] at this
  exact this
theorem cnt_pos {ws : List Str} {r : Str} {ks : List Nat} {rs : List Str} (hr : rs ≠ []) (hk : ks ≠ []) : ∃ p ∈ ks, 0 < cntR ws r ks rs p := by
  cases rs with
  | nil => exact absurd rfl hr
  | cons h t =>
    obtain ⟨p, hp⟩ := List.exists_mem_of_ne_nil _ (look_ne (ws := ws) r h hk)
    refine ⟨p, look_mem hp, ?_⟩
    have := cnt_ge ws r ks t p
    unfold cntR
    rw [if_pos hp]
    omega
/-! how many rounds are ahead -/
def quotL (ls : LS) (f : Nat → Int) : List Int := (ls.filter fun p => decide (0 < f p.1)).map fun p => (p.2 - 1) / f p.1
def aheadL (ls : LS) (f : Nat → Int) : Int := minOr 0 (quotL ls f)
theorem ahead_le {ls : LS} {f : Nat → Int} (hf : ∀ p, 0 ≤ f p) (hp : ∀ p ∈ ls, 0 < p.2) : 0 ≤ aheadL ls f ∧ ∀ p ∈ ls, 1 ≤ p.2 - aheadL ls f * f p.1 := by
  have h0 : 0 ≤ aheadL ls f := by
    unfold aheadL
    by_cases he : quotL ls f = []
    · rw [he]; exact Int.le_refl _
    · obtain ⟨p, hm, e⟩ := List.mem_map.mp (minOr_mem (d := 0) he)
      have e : (p.2 - 1) / f p.1 = minOr 0 (quotL ls f) := e
      rw [← e]
      obtain ⟨h1, h2⟩ := List.mem_filter.mp hm
      have h3 := hp p h1
      exact Int.ediv_nonneg (by omega) (hf p.1)
  refine ⟨h0, fun p hm => ?_⟩
  have h3 := hp p hm
  by_cases hz : 0 < f p.1
  · have hq : (p.2 - 1) / f p.1 ∈ quotL ls f := List.mem_map.mpr ⟨p, List.mem_filter.mpr ⟨hm, decide_eq_true hz⟩, rfl⟩
    have h4 : aheadL ls f ≤ (p.2 - 1) / f p.1 := minOr_le hq
    have h5 : aheadL ls f * f p.1 ≤ (p.2 - 1) / f p.1 * f p.1 := Int.mul_le_mul_of_nonneg_right h4 (hf p.1)
    have h6 := Int.ediv_mul_le (p.2 - 1) (Int.ne_of_gt hz)
    omega
  · have : f p.1 = 0 := by have := hf p.1; omega
    rw [this, Int.mul_zero]
    omega
theorem ahead_at {ls : LS} {f : Nat → Int} (he : ∃ p ∈ keysL ls, 0 < f p) : ∃ p ∈ ls, 0 < f p.1 ∧ p.2 - aheadL ls f * f p.1 ≤ f p.1 := by
  obtain ⟨k, hk, hf⟩ := he
  obtain ⟨p0, hp0, rfl⟩ := List.mem_map.mp hk
  have hne : quotL ls f ≠ [] := fun e => by
    have : (p0.2 - 1) / f p0.1 ∈ quotL ls f := List.mem_map.mpr ⟨p0, List.mem_filter.mpr ⟨hp0, decide_eq_true hf⟩, rfl⟩
    rw [e] at this
    cases this
  obtain ⟨p, hm, e⟩ := List.mem_map.mp (minOr_mem (d := 0) hne)
  obtain ⟨h1, h2⟩ := List.mem_filter.mp hm
  have h2 := of_decide_eq_true h2
  refine ⟨p, h1, h2, ?_⟩
  show p.2 - minOr 0 (quotL ls f) * f p.1 ≤ f p.1
  have e : (p.2 - 1) / f p.1 = minOr 0 (quotL ls f) := e
  rw [← e]
  have h3 := Int.lt_ediv_add_one_mul_self (p.2 - 1) h2
  rw [Int.add_mul, Int.one_mul] at h3
  omega
/-- behind the rounds ahead some card falls out in a round -/
theorem ahead_falls {ws : List Str} {r : Str} {rs : List Str} {ls : LS} (hr : rs ≠ []) (hk : keysL ls ≠ []) (hp : ∀ p ∈ ls, 0 < p.2) :
    keysL (runL ws r rs (subL ls fun p => aheadL ls (cntR ws r (keysL ls) rs) * cntR ws r (keysL ls) rs p)) ≠ keysL ls := fun e => by
  have e' : keysL (runL ws r rs (subL ls fun p => aheadL ls (cntR ws r (keysL ls) rs) * cntR ws r (keysL ls) rs p)) = keysL (subL ls fun p => aheadL ls (cntR ws r (keysL ls) rs) * cntR ws r (keysL ls) rs p) := by rw [sub_keys]; exact e
  have h1 := run_same (keys_between e')
  rw [sub_keys, sub_sub] at h1
  obtain ⟨p, hpm, hf, hle⟩ := ahead_at (cnt_pos (ws := ws) (r := r) hr hk)
  have hpos := run_pos (ws := ws) (r := r) (hs := rs) (ls := subL ls fun p => aheadL ls (cntR ws r (keysL ls) rs) * cntR ws r (keysL ls) rs p) (fun q hq => by
    obtain ⟨p, hpm, rfl⟩ := List.mem_map.mp hq
    have := (ahead_le (fun p => cnt_ge ws r (keysL ls) rs p) hp).2 p hpm
    show 0 < p.2 - aheadL ls (cntR ws r (keysL ls) rs) * cntR ws r (keysL ls) rs p.1
    omega)
  rw [h1] at hpos
  have := hpos _ (List.mem_map.mpr ⟨p, hpm, rfl⟩)
  have this : 0 < p.2 - (aheadL ls (cntR ws r (keysL ls) rs) * cntR ws r (keysL ls) rs p.1 + cntR ws r (keysL ls) rs p.1) := this
  omega
end
section
local macro_rules | `(tactic| walk_at "sl") => `(tactic| first | assumption | exact SqL.of upd_same | exact SqL.of (by assumption) | ((with_reducible apply sql_upd); (walk_at "sl"); (first | assumption | exact Ne.symm (by assumption))))
local macro_rules | `(tactic| walk_at "st") => `(tactic| first | assumption | exact SqT.of upd_same | exact SqT.of (by assumption))
local macro_rules | `(tactic| walk_at "sc") => `(tactic| first | rfl | assumption | (show (0 : Int) < _; first | assumption | decide | omega) | exact Or.inl ⟨by omega, by omega⟩ | exact Or.inr ⟨by omega, by omega⟩ | exact ⟨by decide, by decide⟩ | exact ⟨by decide, by decide, by decide⟩)
local macro_rules | `(tactic| walk_at "g1") => `(tactic| first
  | refine ⟨(_ : V), rfl, ?_⟩
  | refine ⟨(_ : Bool), rfl, ?_⟩
  | refine ⟨(_ : Int), (_ : Int), rfl, rfl, ?_⟩
  | refine ⟨(_ : Int), rfl, ?_⟩
  | refine ⟨(_ : Str), rfl, ?_⟩
  | refine ⟨(_ : Addr), (_ : List V), rfl, Or.inl (by walk_at "sl"), ?_⟩
  | refine ⟨(_ : Addr), (_ : List V), rfl, Or.inr (by walk_at "st"), ?_⟩
  | refine ⟨(_ : Addr), (_ : List V), (_ : Int), (_ : V), rfl, rfl, (by walk_at "sl"), (by first | rfl | assumption), ?_⟩
  | refine ⟨(_ : Addr), (_ : List V), (_ : Int), (_ : V), rfl, rfl, (by walk_at "st"), (by first | rfl | assumption), ?_⟩
  | refine ⟨(_ : Addr), (_ : List V), (_ : Int), (_ : Nat), rfl, rfl, upd_same, rfl, ?_⟩
  | refine ⟨(_ : Addr), (_ : List V), (_ : Int), (_ : Nat), rfl, rfl, (by assumption), rfl, ?_⟩
  | refine ⟨(_ : Addr), (_ : Addr), (_ : Addr), (_ : List (Str × V)), (_ : V), rfl, (by assumption), (by assumption), (by assumption), (by first | assumption | rfl), ?_⟩
  | refine Or.inl ⟨(_ : Int), rfl, ?_⟩
  | refine And.intro (by walk_at "sc") ?_
  | refine iteT ?_
  | refine iteF ?_)
/-! ### what is left, as a dict that is locked -/
def dvs (ls : LS) : List (Key × V) := ls.map fun p => (Sum.inl ((p.1 : Nat) : Int), V.int p.2)
def LeftF (H : Hp) (q : Addr) (ls : LS) : Prop := ∃ od, H q = some (.frz od (.dK (dvs ls)))
theorem LeftF.imm {H H' : Hp} {q : Addr} {ls : LS} (h : LeftF H q ls) (s : Imm H H') : LeftF H' q ls := by
  obtain ⟨od, h⟩ := h
  exact ⟨od, s _ _ h rfl⟩
theorem LeftF.same {H H' : Hp} {q : Addr} {ls : LS} (h : LeftF H q ls) (s : Same H H') : LeftF H' q ls := h.imm s.imm
theorem dvs_len (ls : LS) : (dvs ls).length = ls.length := List.length_map ..
theorem dvs_at {ls : LS} {i : Nat} {k : Key} {v : V} (h : (dvs ls)[i]? = some (k, v)) : ∃ p, ls[i]? = some p ∧ k = Sum.inl ((p.1 : Nat) : Int) ∧ v = .int p.2 := by
  unfold dvs at h
  rw [List.getElem?_map] at h
  obtain ⟨p, hp, e⟩ := Option.map_eq_some_iff.mp h
  cases e
  exact ⟨p, hp, rfl, rfl⟩
theorem dvs_keys (ls : LS) : (dvs ls).map (·.1) = (keysL ls).map fun k => (Sum.inl ((k : Nat) : Int) : Key) := by
  unfold dvs keysL
  rw [List.map_map, List.map_map]
  rfl
theorem keys_nodup {ks : List Nat} (h : ks.Nodup) : (ks.map fun k => (Sum.inl ((k : Nat) : Int) : Key)).Nodup := List.Pairwise.map _ (fun a b h e => h (Int.ofNat.inj (Sum.inl.inj e))) h
theorem dvs_val {ls : LS} (hn : (keysL ls).Nodup) {p : Nat × Int} (hp : p ∈ ls) : valV (dvs ls) (Sum.inl ((p.1 : Nat) : Int)) = some (.int p.2) := by
  have : ((dvs ls).map (·.1)).Nodup := by rw [dvs_keys]; exact keys_nodup hn
  exact L2.val_nodup this _ (List.mem_map.mpr ⟨p, hp, rfl⟩)
theorem dvs_none {ls : LS} {k : Nat} (h : k ∉ keysL ls) : valV (dvs ls) (Sum.inl ((k : Nat) : Int)) = none := by
  cases hv : valV (dvs ls) (Sum.inl ((k : Nat) : Int)) with
  | none => rfl
  | some v =>
    have := L2.valV_in hv
    rw [dvs_keys] at this
    obtain ⟨j, hj, e⟩ := List.mem_map.mp this
    obtain rfl : j = k := Int.ofNat.inj (Sum.inl.inj e)
    exact absurd hj h
theorem dvs_put {ls : LS} {k : Nat} (h : k ∉ keysL ls) (n : Int) : putK (dvs ls) (Sum.inl ((k : Nat) : Int)) (.int n) = dvs (ls ++ [(k, n)]) := by
  rw [L2.putK_new _ (dvs_none h)]
  unfold dvs
  rw [List.map_append]
  rfl
/-- a dict comprehension over something that is walked: new keys only -/
theorem dc_it {J : It} {n : Nat} {G : Hp → Prop} {Y : Nat → Hp → V → Hp → Prop} (w : Walk J n G Y) {g : TG} {tt : TT} {tk tv : TE} {vs : List Nat} {σ : L2.St} {H1 : Hp} {D : Addr} {Qd : Hp → Prop} (Pv : Nat → Hp → Prop) (h0 : Pv 0 (upd H1 D (.dK []))) (hG : ∀ i H, i ≤ n → Pv i H → G H)
    (hs : ∀ i x H H', i < n → Pv i H → Y i H x H' → g x (wipe σ vs) H' fun σ2 H2 => wipe σ2 vs = wipe σ vs ∧ tt σ2 H2 fun b H3 =>
      if b = true then tk σ2 H3 fun y H4 => tv σ2 H4 fun z H5 => ∃ kvs k, y = kV k ∧ H5 D = some (.dK kvs) ∧ kvs.length < sizeLine ∧ Pv (i + 1) (upd H5 D (.dK (putK kvs k z))) else Pv (i + 1) H3) (hd : ∀ H, Pv n H → Qd H) :
    ∃ W : Nat → Nat → Hp → Prop, (∃ m, W 0 m (upd H1 D (.dK []))) ∧ ∀ i m H, W i m H →
      (J.stop i H ∧ Qd H) ∨ (J.go i H ∧ ∃ Nx : Hp → Prop, (∀ H', Nx H' → ∃ m', m' < m ∧ W (i + 1) m' H') ∧ ∀ x H', J.yld i H x H' → g x (wipe σ vs) H' fun σ2 H2 => wipe σ2 vs = wipe σ vs ∧ tt σ2 H2 fun b H3 =>
        if b = true then tk σ2 H3 fun y H4 => tv σ2 H4 fun z H5 => ∃ kvs k, y = kV k ∧ H5 D = some (.dK kvs) ∧ kvs.length < sizeLine ∧ Nx (upd H5 D (.dK (putK kvs k z))) else Nx H3) := by
  refine ⟨fun i m H => m = n - i ∧ i ≤ n ∧ Pv i H, ⟨n, by simp, Nat.zero_le _, h0⟩, ?_⟩
  rintro i m H ⟨rfl, hi, p⟩
  have q := hG i H hi p
  by_cases hlt : i < n
  · refine .inr ⟨w.goes i H hlt q, Pv (i + 1), fun H' p' => ⟨n - (i + 1), by omega, rfl, hlt, p'⟩, fun x H' y => hs i x H H' hlt p (w.yields i H x H' hlt q y)⟩
  · have e : i = n := by omega
    subst e
    exact .inl ⟨w.stops H q, hd H p⟩
/-! #### headings_left -/
def spHL (K : PySem.W.Frag) : Sp := fun vs H Q _ => ∃ (a q : Addr) (ws : List Str) (ls : LS), vs = [.ref a, .ref q] ∧ SqT K H a (ws.map V.str) ∧ LeftF H q ls ∧ (∀ k ∈ keysL ls, k < ws.length) ∧ ls.length ≤ 100 ∧ ∀ t H', Same H H' → SqT K H' t ((hdsL ws (keysL ls)).map V.str) → Q (.ref t) H'
theorem ok_headings_left (T : Top K mg) : FnOk P w K mg base CX0 1 T.a_headings_left T.fd_headings_left ["row", "left"] (spHL K) := by
  refine T.F_headings_left.ok sc_headings_left (fun vs H Q E h => ?_) (fun cdv A outer s H vs Q E hr h => ?_)
  · obtain ⟨a, q, ws, ls, rfl, _⟩ := h
    rfl
  · obtain ⟨a, q, ws, ls, rfl, hA, ⟨od, hq⟩, hk, hl, k⟩ := h
    have hu := hu_of hr
    refine ⟨_, (pss_one (ps_ret (pe_callTy call_tuple_of (by rfl) T.m_tuple (by decide +kernel) (pa_cons (pe_lc (own := [("place", 2)]) (g := gName 2) (tt := tYes) rfl sc_headings_left.nd (pi_keys (pv 1)) (blkOk_by (N := N_headings_left) (sc := defScope s_headings_left) (by decide +kernel)) (fun _ _ _ _ _ => (pg_name (i := 2) sc_headings_left.nd rfl (.inl rfl))) (fun _ _ _ _ _ => pts_nil) (fun _ _ _ _ _ => (pe_ix (ix_tupK (K := K) rfl) (pv 0) (pv 2) (fun _ _ => rfl)))) pa_nil)))), ?_⟩
    refine ⟨_, rfl, q, od, rfl, .inl ⟨dvs ls, hq, fun D hD => lc_map (walk_keys (kvs := dvs ls)) (by rw [dvs_len]; omega) hD (fun i => V.str ((hdsL ws (keysL ls))[i]?.getD "")) (fun H1 s1 => s1 _ _ hq) (fun i x H1 H2 hi s1 hy R r => ?_) (fun H1 s1 hd => ?_) gName_mono⟩⟩
    · obtain ⟨rfl, kk, vv, hkv, rfl⟩ := hy
      obtain ⟨p, hp, rfl, rfl⟩ := dvs_at hkv
      refine ⟨rfl, ?_⟩
      have hpk : p.1 ∈ keysL ls := List.mem_map.mpr ⟨p, List.mem_of_getElem? hp, rfl⟩
      have hpw := hk _ hpk
      have hw : ws[p.1]? = some ws[p.1] := List.getElem?_eq_getElem hpw
      refine ⟨_, rfl, _, rfl, a, _, ((p.1 : Nat) : Int), .str ws[p.1], rfl, rfl, s1.seqT hA, atI_nat (by rw [List.getElem?_map, hw]; rfl), ?_⟩
      have z := r _ (Same.refl _)
      have e : (hdsL ws (keysL ls))[i]? = some ws[p.1] := by
        unfold hdsL keysL
        rw [List.getElem?_map, List.getElem?_map, hp]
        show some (ws[p.1]?.getD "") = _
        rw [hw]
        rfl
      rw [e] at z
      exact z
    · have el : (List.range (dvs ls).length).map (fun i => V.str ((hdsL ws (keysL ls))[i]?.getD "")) = (hdsL ws (keysL ls)).map V.str := by
        have e : (dvs ls).length = (hdsL ws (keysL ls)).length := by rw [dvs_len, hds_len]; exact (List.length_map _).symm
        rw [e]
        exact range_map _ _ _ fun i x h => by rw [h]; rfl
      rw [el] at hd
      refine ⟨D, _, rfl, .inl ⟨SqL.of hd, fun u hu' => ?_⟩⟩
      exact k u _ (s1.trans (same_new hu')) (SqT.of upd_same)
/-! #### request_worn -/
def spRW (K : PySem.W.Frag) : Sp := fun vs H Q _ => ∃ (a q : Addr) (ws : List Str) (r h : Str) (ls : LS), vs = [.ref a, .str r, .str h, .ref q] ∧ SqT K H a (ws.map V.str) ∧ LeftF H q ls ∧ (keysL ls).Nodup ∧ (∀ k ∈ keysL ls, k < ws.length) ∧ ls.length ≤ 100 ∧
  ∀ t q' H', Same H H' → SqT K H' t [.bl (fndN ws r h (keysL ls)), .ref q'] → LeftF H' q' (stepL ws r h ls) → Q (.ref t) H'
theorem worn_take {ls : LS} {lk : List Nat} {i : Nat} {p : Nat × Int} (h : ls[i]? = some p) : wornL (ls.take (i + 1)) lk = wornL (ls.take i) lk ++ (if 0 < (if p.1 ∈ lk then p.2 - 1 else p.2) then [(p.1, if p.1 ∈ lk then p.2 - 1 else p.2)] else []) := by
  unfold wornL
  rw [List.take_add_one, h, List.map_append, List.filter_append]
  congr 1
  show List.filter _ [_] = _
  rw [List.filter_cons, List.filter_nil]
  by_cases hz : 0 < (if p.1 ∈ lk then p.2 - 1 else p.2)
  · rw [if_pos hz, if_pos (decide_eq_true hz)]
  · rw [if_neg hz, if_neg (by rw [decide_eq_false hz]; exact Bool.false_ne_true)]
theorem worn_keys (ls : LS) (lk : List Nat) : (keysL (wornL ls lk)).Sublist (keysL ls) := by
  unfold keysL wornL
  have h1 : ((ls.map fun p => (p.1, if p.1 ∈ lk then p.2 - 1 else p.2)).map Prod.fst) = ls.map Prod.fst := by rw [List.map_map]; rfl
  rw [← h1]
  exact List.filter_sublist.map _
theorem mem_decN (k : Nat) : ∀ ks : List Nat, inV (.int ((k : Nat) : Int)) (ks.map fun (j : Nat) => V.int ((j : Nat) : Int)) = decide (k ∈ ks)
  | [] => by simp [inV]
  | j :: ks => by
    have ih := mem_decN k ks
    show (eqV (.int ((j : Nat) : Int)) (.int ((k : Nat) : Int)) || inV (.int ((k : Nat) : Int)) (ks.map fun (j : Nat) => V.int ((j : Nat) : Int))) = _
    rw [ih]
    have e : eqV (.int ((j : Nat) : Int)) (.int ((k : Nat) : Int)) = decide (k = j) := by
      show decide (((j : Nat) : Int) = ((k : Nat) : Int)) = _
      exact decide_eq_decide.mpr ⟨fun h => (Int.ofNat.inj h).symm, fun h => by rw [h]⟩
    rw [e]
    by_cases h1 : k = j
    · simp [h1]
    · by_cases h2 : k ∈ ks <;> simp [h1, h2]
theorem flat_nats (ks : List Nat) : (ks.map fun (j : Nat) => V.int ((j : Nat) : Int)).all flatV = true := List.all_eq_true.mpr fun v hv => by
  obtain ⟨j, _, rfl⟩ := List.mem_map.mp hv
  rfl
theorem ok_request_worn (T : Top K mg) : FnOk P w K mg base CX0 3 T.a_request_worn T.fd_request_worn ["row", "rule", "heading", "left"] (spRW K) := by
  refine T.F_request_worn.ok sc_request_worn (fun vs H Q E h => ?_) (fun cdv A outer s H vs Q E hr h => ?_)
  · obtain ⟨a, q, ws, r, h, ls, rfl, _⟩ := h
    rfl
  · obtain ⟨a, q, ws, r, h, ls, rfl, hA, hq, hn, hk, hl, k⟩ := h
    have hu := hu_of hr
    obtain ⟨od, hqo⟩ := id hq
    have hkl : (keysL ls).length = ls.length := List.length_map ..
    refine ⟨_, (pss_cons (ps_set (i := 4) sc_request_worn.nd rfl (.inr rfl) (pe_callTy (call_listD rfl) (by rfl) T.m_list (by decide +kernel) (pa_cons (pv 3) pa_nil)))
      (pss_cons (ps_asg (pe_call (ok_seek T) (hr.mono (by decide)) (by rfl) T.g_seek T.F_seek.kp (b_seek T) .nil pass0 (pa_cons (pe_call (ok_headings_left T) (hr.mono (by decide)) (by rfl) T.g_headings_left T.F_headings_left.kp (b_headings_left T) .nil pass0 (pa_cons (pv 0) (pa_cons (pv 3) pa_nil))) (pa_cons (pv 1) (pa_cons (pv 2) pa_nil)))) (pg_tup rfl (pgs_cons (pg_name (i := 5) sc_request_worn.nd rfl (.inl rfl)) (pgs_cons (pg_name (i := 6) sc_request_worn.nd rfl (.inl rfl)) pgs_nil))))
      (pss_cons (ps_setLc (i := 7) (own := [("index", 12)]) (g := gName 12) (tt := tYes) rfl sc_request_worn.nd rfl rfl (sw_true rfl rfl rfl (by decide +kernel)) (pi_tup (pv 6)) (blkOk_by (N := N_request_worn) (sc := defScope s_request_worn) (by decide +kernel)) (fun _ _ _ _ _ => (pg_name (i := 12) sc_request_worn.nd rfl (.inl rfl))) (fun _ _ _ _ _ => pts_nil) (fun _ _ _ _ _ => (pe_ix (ix_listK (K := K) rfl) (pv 4) (pv 12) (fun _ _ => rfl))))
      (pss_cons (ps_set (i := 8) sc_request_worn.nd rfl (.inl rfl) pe_dnewK)
      (pss_cons (ps_for PassesOwn.never rfl (pi_items (pv 3)) (pg_tup rfl (pgs_cons (pg_name (i := 9) sc_request_worn.nd rfl (.inl rfl)) (pgs_cons (pg_name (i := 10) sc_request_worn.nd rfl (.inl rfl)) pgs_nil)))
        (pss_cons (ps_mid (ps_set (i := 11) sc_request_worn.nd rfl (.inl rfl) (pe_ifExp (pt_cmpR op_in_seq (pv 9) (pv 7) rfl) (pe_op op_sub (pv 10) pe_int) (pv 10))))
        (pss_one (ps_if (pt_cmpR op_gt (pv 11) pe_int (nomark _)) (pss_one (ps_dput hu (pv 8) (pv 9) (pv 11) rfl)) pss_nil))))
      (pss_one (ps_ret (pe_tup (pa_cons (pe_cmpR op_notN (pv 5) pe_non (nomark _)) (pa_cons (pe_frz (pv 8)) pa_nil)))))))))), ?_⟩
    refine ⟨_, rfl, q, dvs ls, rfl, .inr ⟨od, hqo⟩, fun lt hlt => ?_⟩
    have s1 := same_new (o := .lst ((dvs ls).map fun kv => kV kv.1)) hlt
    have e1 : (upd H lt (.lst ((dvs ls).map fun kv => kV kv.1))) lt = some (.lst ((keysL ls).map fun (j : Nat) => V.int ((j : Nat) : Int))) := by
      rw [upd_same]
      unfold dvs keysL
      rw [List.map_map, List.map_map]
      rfl
    generalize upd H lt (.lst ((dvs ls).map fun kv => kV kv.1)) = H1 at *
    refine ⟨_, rfl, _, rfl, a, q, ws, ls, rfl, s1.seqT hA, hq.same s1, hk, hl, fun th H2 s2 hth => ?_⟩
    refine ⟨_, rfl, _, rfl, th, hdsL ws (keysL ls), r, h, rfl, hth, by rw [hds_len]; omega, fun ts H3 s3 hS => ?_⟩
    obtain ⟨pl, hts, hpl⟩ := hS
    refine ⟨ts, _, rfl, hts, rfl, _, _, rfl, _, _, rfl, rfl, ?_⟩
    have s13 := s2.trans s3
    have e3 := s13 _ _ e1
    have so := seen_ok (hdsL ws (keysL ls)) r h
    have sl : (seekOf (hdsL ws (keysL ls)) r h).2.length ≤ 100 := by
      have := nodup_leN (ks := (seekOf (hdsL ws (keysL ls)) r h).2.map Int.toNat) (ns := List.range (hdsL ws (keysL ls)).length) (List.pairwise_map.mpr (so.2.imp_of_mem fun {x y} hx hy hne e => hne (by
        have h1 := so.1 x hx
        have h2 := so.1 y hy
        omega))) (fun k hk => by
        obtain ⟨x, hx, rfl⟩ := List.mem_map.mp hk
        have := so.1 x hx
        exact List.mem_range.mpr (by omega))
      rw [List.length_map, List.length_range, hds_len] at this
      omega
    generalize hse : seekOf (hdsL ws (keysL ls)) r h = se at *
    refine ⟨_, rfl, pl, rfl, ⟨_, hpl⟩, fun D hD => lc_map (walk_tup (xs := se.2.map V.int)) (by rw [List.length_map]; omega) hD (fun i => V.int (((lookN ws r h (keysL ls))[i]?.getD 0 : Nat) : Int)) (fun H' s' => s'.seqT hpl) (fun i x H' H'' hi s' hy R rr => ?_) (fun H4 s4 hd => ?_) gName_mono⟩
    · obtain ⟨rfl, hx⟩ := hy
      rw [List.getElem?_map] at hx
      obtain ⟨z, hz, rfl⟩ := Option.map_eq_some_iff.mp hx
      obtain ⟨kk, hkk, hzz⟩ := look_at (ws := ws) (r := r) (h := h) (ks := keysL ls) (i := z) (by rw [hse]; exact List.mem_of_getElem? hz)
      refine ⟨rfl, ?_⟩
      refine ⟨_, rfl, _, rfl, lt, _, ((z.toNat : Nat) : Int), .int ((kk : Nat) : Int), rfl, by rw [hzz]; rfl, SqL.of (s' _ _ e3), atI_nat (by rw [List.getElem?_map, hkk]; rfl), ?_⟩
      have q := rr _ (Same.refl _)
      have e : (lookN ws r h (keysL ls))[i]? = some kk := by
        unfold lookN
        rw [hse, List.getElem?_map, hz]
        show some ((keysL ls)[z.toNat]?.getD 0) = _
        rw [hkk]
        rfl
      rw [e] at q
      exact q
    have hlo : H4 D = some (.lst ((lookN ws r h (keysL ls)).map fun (j : Nat) => V.int ((j : Nat) : Int))) := by
      rw [hd]
      have e : (se.2.map V.int).length = (lookN ws r h (keysL ls)).length := by
        unfold lookN
        rw [hse, List.length_map, List.length_map]
      rw [e]
      congr 2
      exact range_map _ _ _ fun i x h => by rw [h]; rfl
    generalize hlk : lookN ws r h (keysL ls) = lk at *
    have s14 := s13.trans s4
    clear hd e3 hD hlt
    intro ld hld
    have s5 := same_new (o := .dK []) hld
    have d5 : (upd H4 ld (.dK [])) ld = some (.dK (dvs (wornL (ls.take 0) lk))) := upd_same
    have q5 := (hq.same (s1.trans s14)).same s5
    have l5 := s5 _ _ hlo
    have nDl : D ≠ ld := ne_of_none hlo hld
    have nql : q ≠ ld := by
      obtain ⟨od, hq⟩ := hq.same (s1.trans s14)
      exact ne_of_none hq hld
    have s05 : Same H (upd H4 ld (.dK [])) := (s1.trans s14).trans s5
    have hldH : H ld = none := (s1.trans s14).free hld
    generalize upd H4 ld (.dK []) = H5 at *
    obtain ⟨od, hq5⟩ := id q5
    refine ⟨_, rfl, q, od, dvs ls, rfl, hq5, for_items (kvs := dvs ls) (fun i σ H6 => ∃ y9 y10 y11, σ = [some (.ref a), some (.str r), some (.str h), some (.ref q), some (.ref lt), some (onV se.1), some (.ref pl), some (.ref D), some (.ref ld), y9, y10, y11, none] ∧ But ld H5 H6 ∧ H6 ld = some (.dK (dvs (wornL (ls.take i) lk)))) ⟨_, _, _, rfl, But.refl, d5⟩ (fun i σ H6 _ ⟨_, _, _, _, b6, _⟩ => b6 _ _ hq5 nql) (fun i kk vv Tt σ H6 hkv hP hT => ?_) (fun σ H6 hP => ?_)⟩
    · obtain ⟨y9, y10, y11, rfl, b6, d6⟩ := hP
      obtain ⟨p, hp, rfl, rfl⟩ := dvs_at hkv
      have s7 := same_new (o := .tup [kV (Sum.inl ((p.1 : Nat) : Int)), V.int p.2]) hT
      refine ⟨Tt, _, rfl, SqT.of upd_same, rfl, _, _, rfl, _, _, rfl, rfl, ?_⟩
      have d7 := s7 _ _ d6
      have l7 := s7 _ _ (b6 _ _ l5 nDl)
      have b7 := b6.same s7
      generalize upd H6 Tt (.tup [kV (Sum.inl ((p.1 : Nat) : Int)), V.int p.2]) = H7 at *
      refine ⟨fun σ' H' => σ' = [some (.ref a), some (.str r), some (.str h), some (.ref q), some (.ref lt), some (onV se.1), some (.ref pl), some (.ref D), some (.ref ld), some (.int ((p.1 : Nat) : Int)), some (.int p.2), some (.int (if p.1 ∈ lk then p.2 - 1 else p.2)), none] ∧ H' = H7, ?_, fun σ' H' hP' => ?_⟩
      · refine ⟨_, rfl, _, rfl, D, _, rfl, .inl (SqL.of l7), rfl, flat_nats _, ?_⟩
        refine ⟨_, rfl, ?_⟩
        show if inV (V.int ((p.1 : Nat) : Int)) (lk.map fun (j : Nat) => V.int ((j : Nat) : Int)) = true then _ else _
        rw [mem_decN]
        by_cases hm : p.1 ∈ lk
        · rw [decide_eq_true hm, if_pos hm]
          exact iteT ⟨_, rfl, _, _, rfl, rfl, rfl, rfl⟩
        · rw [decide_eq_false hm, if_neg hm]
          exact iteF ⟨_, rfl, rfl, rfl⟩
      obtain ⟨rfl, rfl⟩ := hP'
      have hw := worn_take (lk := lk) hp
      generalize hnn : (if p.1 ∈ lk then p.2 - 1 else p.2) = nn at *
      refine ⟨_, rfl, _, _, rfl, rfl, _, rfl, ?_⟩
      have hnk : p.1 ∉ keysL (wornL (ls.take i) lk) := fun hm => by
        have h1 := (worn_keys (ls.take i) lk).subset hm
        unfold keysL at h1 hn
        rw [List.map_take] at h1
        obtain ⟨j, hj⟩ := List.mem_iff_getElem?.mp h1
        have hji : j < i := by
          have := (List.getElem?_eq_some_iff.mp hj).1
          rw [List.length_take] at this
          omega
        rw [List.getElem?_take_of_lt hji] at hj
        have hi : (ls.map Prod.fst)[i]? = some p.1 := by rw [List.getElem?_map, hp]; rfl
        obtain ⟨g1, e1⟩ := List.getElem?_eq_some_iff.mp hj
        obtain ⟨g2, e2⟩ := List.getElem?_eq_some_iff.mp hi
        have := (List.getElem_inj hn).mp (e1.trans e2.symm)
        omega
      by_cases hz : 0 < nn
      · rw [decide_eq_true hz]
        rw [if_pos hz] at hw
        refine iteT ?_
        refine ⟨_, rfl, _, rfl, _, rfl, ld, _, rfl, DPut.k (k := Sum.inl ((p.1 : Nat) : Int)) d7 (sizeLine_of ?_), ?_⟩
        · have := List.length_filter_le (fun p : Nat × Int => decide (0 < p.2)) ((ls.take i).map fun p => (p.1, if p.1 ∈ lk then p.2 - 1 else p.2))
          rw [dvs_len]
          unfold wornL
          rw [List.length_map, List.length_take] at this
          omega
        · refine ⟨_, _, _, rfl, b7.upd, ?_⟩
          rw [upd_same, hw, dvs_put hnk]
      · rw [decide_eq_false hz]
        rw [if_neg hz, List.append_nil] at hw
        refine iteF ⟨_, _, _, rfl, b7, ?_⟩
        rw [hw]
        exact d7
    · obtain ⟨y9, y10, y11, rfl, b6, d6⟩ := hP
      rw [dvs_len, List.take_length] at d6
      refine ⟨_, rfl, rfl, _, rfl, ld, _, rfl, d6, trivial, fun od' => ?_⟩
      have s6 : Same H (upd H6 ld (.frz od' (.dK (dvs (wornL ls lk))))) := fun b o hb => by
        have nb := ne_of_none hb hldH
        rw [upd_ne nb]
        exact b6 _ _ (s05 _ _ hb) nb
      have f6 : LeftF (upd H6 ld (.frz od' (.dK (dvs (wornL ls lk))))) ld (wornL ls lk) := ⟨od', upd_same⟩
      refine ⟨by show 2 ≤ sizeLine; decide, fun t ht => ?_⟩
      have s7 := same_new (o := .tup [.bl (!decide (onV se.1 = V.non)), .ref ld]) ht
      refine k t ld _ (s6.trans s7) ?_ ?_
      · have e : (!decide (onV se.1 = V.non)) = fndN ws r h (keysL ls) := by
          unfold fndN
          rw [hse]
          cases se.1 <;> rfl
        rw [← e]
        exact SqT.of upd_same
      · unfold stepL
        rw [hlk]
        exact f6.same s7
end
section
local macro_rules | `(tactic| walk_at "sl") => `(tactic| first | assumption | exact SqL.of upd_same | exact SqL.of (by assumption) | ((with_reducible apply sql_upd); (walk_at "sl"); (first | assumption | exact Ne.symm (by assumption))))
local macro_rules | `(tactic| walk_at "st") => `(tactic| first | assumption | exact SqT.of upd_same | exact SqT.of (by assumption))
local macro_rules | `(tactic| walk_at "sc") => `(tactic| first | rfl | assumption | (show (0 : Int) < _; first | assumption | decide | omega) | exact Or.inl ⟨by omega, by omega⟩ | exact Or.inr ⟨by omega, by omega⟩ | exact ⟨by decide, by decide⟩ | exact ⟨by decide, by decide, by decide⟩)
local macro_rules | `(tactic| walk_at "g1") => `(tactic| first
  | refine ⟨(_ : V), rfl, ?_⟩
  | refine ⟨(_ : Bool), rfl, ?_⟩
  | refine ⟨(_ : Int), (_ : Int), rfl, rfl, ?_⟩
  | refine ⟨(_ : Int), rfl, ?_⟩
  | refine ⟨(_ : Str), rfl, ?_⟩
  | refine ⟨(_ : Addr), (_ : List V), rfl, Or.inl (by walk_at "sl"), ?_⟩
  | refine ⟨(_ : Addr), (_ : List V), rfl, Or.inr (by walk_at "st"), ?_⟩
  | refine ⟨(_ : Addr), (_ : List V), (_ : Int), (_ : V), rfl, rfl, (by walk_at "sl"), (by first | rfl | assumption), ?_⟩
  | refine ⟨(_ : Addr), (_ : List V), (_ : Int), (_ : V), rfl, rfl, (by walk_at "st"), (by first | rfl | assumption), ?_⟩
  | refine ⟨(_ : Addr), (_ : List V), (_ : Int), (_ : Nat), rfl, rfl, upd_same, rfl, ?_⟩
  | refine ⟨(_ : Addr), (_ : List V), (_ : Int), (_ : Nat), rfl, rfl, (by assumption), rfl, ?_⟩
  | refine ⟨(_ : Addr), (_ : Addr), (_ : Addr), (_ : List (Str × V)), (_ : V), rfl, (by assumption), (by assumption), (by assumption), (by first | assumption | rfl), ?_⟩
  | refine Or.inl ⟨(_ : Int), rfl, ?_⟩
  | refine And.intro (by walk_at "sc") ?_
  | refine iteT ?_
  | refine iteF ?_)
/-! #### wear_of_round, rounds_ahead -/
def WNL (ls : LS) (f : Nat → Int) : LS := ls.map fun p => (p.1, f p.1)
theorem wnl_keys (ls : LS) (f : Nat → Int) : keysL (WNL ls f) = keysL ls := by
  unfold keysL WNL
  rw [List.map_map]
  rfl
theorem wnl_congr {ls : LS} {f g : Nat → Int} (h : ∀ k ∈ keysL ls, f k = g k) : WNL ls f = WNL ls g := List.map_congr_left fun p hp => by rw [h p.1 (List.mem_map.mpr ⟨p, hp, rfl⟩)]
theorem wnl_put {ls : LS} {f : Nat → Int} {k : Nat} (hk : k ∈ keysL ls) (n : Int) : putK (dvs (WNL ls f)) (Sum.inl ((k : Nat) : Int)) (.int n) = dvs (WNL ls fun p => if p = k then n else f p) := by
  obtain ⟨p, hp, rfl⟩ := List.mem_map.mp hk
  have hany : ((dvs (WNL ls f)).any fun kv => decide (kv.1 = Sum.inl ((p.1 : Nat) : Int))) = true := by
    refine List.any_eq_true.mpr ⟨(Sum.inl ((p.1 : Nat) : Int), .int (f p.1)), ?_, decide_eq_true rfl⟩
    unfold dvs WNL
    rw [List.map_map]
    exact List.mem_map.mpr ⟨p, hp, rfl⟩
  unfold putK
  rw [if_pos hany]
  unfold dvs WNL
  rw [List.map_map, List.map_map, List.map_map]
  refine List.map_congr_left fun x _ => ?_
  show (if (Sum.inl ((x.1 : Nat) : Int) : Key) = Sum.inl ((p.1 : Nat) : Int) then (Sum.inl ((x.1 : Nat) : Int), V.int n) else (Sum.inl ((x.1 : Nat) : Int), V.int (f x.1))) = (Sum.inl ((x.1 : Nat) : Int), V.int (if x.1 = p.1 then n else f x.1))
  by_cases hx : x.1 = p.1
  · rw [if_pos hx, if_pos (by rw [hx])]
  · rw [if_neg hx, if_neg (show ¬ ((Sum.inl ((x.1 : Nat) : Int) : Key) = Sum.inl ((p.1 : Nat) : Int)) from fun e => hx (Int.ofNat.inj (Sum.inl.inj e)))]
theorem wnl_val {ls : LS} {f : Nat → Int} (hn : (keysL ls).Nodup) {k : Nat} (hk : k ∈ keysL ls) : valV (dvs (WNL ls f)) (Sum.inl ((k : Nat) : Int)) = some (.int (f k)) := by
  obtain ⟨p, hp, rfl⟩ := List.mem_map.mp hk
  have : (p.1, f p.1) ∈ WNL ls f := List.mem_map.mpr ⟨p, hp, rfl⟩
  exact dvs_val (by rw [wnl_keys]; exact hn) this
def spWR (K : PySem.W.Frag) : Sp := fun vs H Q _ => ∃ (a b q : Addr) (ws rs : List Str) (r : Str) (ls : LS), vs = [.ref a, .str r, .ref b, .ref q] ∧ SqT K H a (ws.map V.str) ∧ SqT K H b (rs.map V.str) ∧ LeftF H q ls ∧ (keysL ls).Nodup ∧ (∀ k ∈ keysL ls, k < ws.length) ∧ ls.length ≤ 100 ∧ rs.length ≤ 100 ∧
  ∀ q' H', Same H H' → LeftF H' q' (WNL ls (cntR ws r (keysL ls) rs)) → Q (.ref q') H'
theorem ok_wear_of_round (T : Top K mg) : FnOk P w K mg base CX0 3 T.a_wear_of_round T.fd_wear_of_round ["row", "rule", "requests", "left"] (spWR K) := by
  refine T.F_wear_of_round.ok sc_wear_of_round (fun vs H Q E h => ?_) (fun cdv A outer s H vs Q E hr h => ?_)
  · obtain ⟨a, b, q, ws, rs, r, ls, rfl, _⟩ := h
    rfl
  · obtain ⟨a, b, q, ws, rs, r, ls, rfl, hA, hB, hq, hn, hk, hl, hrl, k⟩ := h
    have hu := hu_of hr
    obtain ⟨od, hqo⟩ := id hq
    have hkl : (keysL ls).length = ls.length := List.length_map ..
    refine ⟨_, (pss_cons (ps_set (i := 4) sc_wear_of_round.nd rfl (.inl rfl) (pe_callTy (call_listD rfl) (by rfl) T.m_list (by decide +kernel) (pa_cons (pv 3) pa_nil)))
      (pss_cons (ps_setDc (i := 5) (own := [("place", 8)]) (g := gName 8) (tt := tYes) rfl sc_wear_of_round.nd rfl rfl (sw_trueD rfl rfl rfl (by decide +kernel)) (pi_list (pv 4)) (blkOk_by (N := N_wear_of_round) (sc := defScope s_wear_of_round) (by decide +kernel)) (fun _ _ _ _ _ => (pg_name (i := 8) sc_wear_of_round.nd rfl (.inl rfl))) (fun _ _ _ _ _ => pts_nil) (fun _ _ _ _ _ => (pv 8)) (fun _ _ _ _ _ => pe_int))
      (pss_cons (ps_for PassesOwn.never rfl (pi_tup (pv 2)) (pg_name (i := 6) sc_wear_of_round.nd rfl (.inl rfl))
        (pss_one (ps_for PassesOwn.never rfl (pi_tup (pe_ix ix_tup (pe_call (ok_seek T) (hr.mono (by decide)) (by rfl) T.g_seek T.F_seek.kp (b_seek T) .nil pass0 (pa_cons (pe_call (ok_headings_left T) (hr.mono (by decide)) (by rfl) T.g_headings_left T.F_headings_left.kp (b_headings_left T) .nil pass0 (pa_cons (pv 0) (pa_cons (pv 3) pa_nil))) (pa_cons (pv 1) (pa_cons (pv 6) pa_nil)))) pe_int (fun _ _ => rfl))) (pg_name (i := 7) sc_wear_of_round.nd rfl (.inl rfl))
          (pss_one (ps_daug (hu_of hr) (pv 5) (pe_ix ix_list (pv 4) (pv 7) (fun _ _ => rfl)) pe_int ip_add (by intros; rfl))))))
      (pss_one (ps_ret (pe_frz (pv 5))))))), ?_⟩
    refine ⟨_, rfl, q, dvs ls, rfl, .inr ⟨od, hqo⟩, fun lt hlt => ?_⟩
    have s1 := same_new (o := .lst ((dvs ls).map fun kv => kV kv.1)) hlt
    have e1 : (upd H lt (.lst ((dvs ls).map fun kv => kV kv.1))) lt = some (.lst ((keysL ls).map fun (j : Nat) => V.int ((j : Nat) : Int))) := by
      rw [upd_same]
      unfold dvs keysL
      rw [List.map_map, List.map_map]
      rfl
    generalize upd H lt (.lst ((dvs ls).map fun kv => kV kv.1)) = H1 at *
    refine ⟨_, rfl, lt, rfl, ⟨_, SqL.of e1⟩, fun D hD => dc_it (walk_list (K := K) (a := lt) (xs := (keysL ls).map fun (j : Nat) => V.int ((j : Nat) : Int))) (fun i H' => Same H1 H' ∧ H' D = some (.dK (dvs (WNL (ls.take i) fun _ => 0)))) ⟨same_new hD, upd_same⟩ (fun i H' _ hP => SqL.of (hP.1 _ _ e1)) (fun i x H' H'' hi hP hy => ?_) (fun H2 hP => ?_)⟩
    · obtain ⟨s2, d2⟩ := hP
      obtain ⟨rfl, hx⟩ := hy
      rw [List.getElem?_map] at hx
      obtain ⟨j, hj, rfl⟩ := Option.map_eq_some_iff.mp hx
      have hjp : ∃ p, ls[i]? = some p ∧ p.1 = j := by
        unfold keysL at hj
        rw [List.getElem?_map] at hj
        exact Option.map_eq_some_iff.mp hj
      obtain ⟨p, hp, rfl⟩ := hjp
      rw [List.length_map, hkl] at hi
      refine ⟨rfl, tYes_of ?_⟩
      refine ⟨_, rfl, _, Sum.inl ((p.1 : Nat) : Int), rfl, d2, sizeLine_of ?_, same_mut s2 hD, ?_⟩
      · rw [dvs_len]
        unfold WNL
        rw [List.length_map, List.length_take]
        omega
      · have hnk : p.1 ∉ keysL (WNL (ls.take i) fun _ => 0) := fun hm => by
          rw [wnl_keys] at hm
          unfold keysL at hm hn
          rw [List.map_take] at hm
          obtain ⟨j, hj'⟩ := List.mem_iff_getElem?.mp hm
          have hji : j < i := by
            have := (List.getElem?_eq_some_iff.mp hj').1
            rw [List.length_take] at this
            omega
          rw [List.getElem?_take_of_lt hji] at hj'
          have hi' : (ls.map Prod.fst)[i]? = some p.1 := by rw [List.getElem?_map, hp]; rfl
          obtain ⟨g1, e1⟩ := List.getElem?_eq_some_iff.mp hj'
          obtain ⟨g2, e2⟩ := List.getElem?_eq_some_iff.mp hi'
          have := (List.getElem_inj hn).mp (e1.trans e2.symm)
          omega
        rw [upd_same, dvs_put hnk]
        unfold WNL
        rw [List.take_add_one, hp, List.map_append]
        rfl
    obtain ⟨s2, d2⟩ := hP
    rw [List.length_map, hkl, List.take_length] at d2
    have e2 := s2 _ _ e1
    have q2 := hq.same (s1.trans s2)
    have s02 := s1.trans s2
    have hDH : H D = none := s1.free hD
    have A2 := s02.seqT hA
    have B2 := s02.seqT hB
    have nlD : lt ≠ D := ne_of_none e1 hD
    have nqD : q ≠ D := ne_of_none (s1 _ _ hqo) hD
    have hqo2 := s02 _ _ hqo
    clear e1 s1 s2 hlt hD hq hqo hA hB H1
    have imD : ∀ {H3 : Hp}, But D H2 H3 → Imm H2 H3 := fun b => b.imm d2 rfl
    refine ⟨_, rfl, b, rfl, ⟨_, B2⟩, for_tup (K := K) (a := b) (xs := rs.map V.str) (fun i σ H3 => ∃ y6 y7 y8, σ = [some (.ref a), some (.str r), some (.ref b), some (.ref q), some (.ref lt), some (.ref D), y6, y7, y8] ∧ But D H2 H3 ∧ H3 D = some (.dK (dvs (WNL ls (cntR ws r (keysL ls) (rs.take i)))))) ⟨_, _, _, rfl, But.refl, d2⟩ (fun i σ H3 _ ⟨_, _, _, _, b3, _⟩ => (imD b3).seqT B2) (fun i x σ H3 hi hP => ?_) (fun σ H3 hP => ?_)⟩
    · obtain ⟨y6, y7, y8, rfl, b3, d3⟩ := hP
      rw [List.getElem?_map] at hi
      obtain ⟨h, hh, rfl⟩ := Option.map_eq_some_iff.mp hi
      have im3 := imD b3
      refine ⟨_, rfl, _, rfl, a, q, ws, ls, rfl, im3.seqT A2, q2.imm im3, hk, hl, fun th H4 s4 hth => ?_⟩
      refine ⟨_, rfl, _, rfl, th, hdsL ws (keysL ls), r, h, rfl, hth, by rw [hds_len]; omega, fun ts H5 s5 hS => ?_⟩
      obtain ⟨pl, hts, hpl⟩ := hS
      refine ⟨ts, _, ((1 : Nat) : Int), _, rfl, rfl, hts, atI_nat rfl, ?_⟩
      have b5 := (b3.same s4).same s5
      have d5 := s5 _ _ (s4 _ _ d3)
      have hlook : ∀ z, z ∈ (seekOf (hdsL ws (keysL ls)) r h).2 → ∃ kk, (keysL ls)[z.toNat]? = some kk ∧ z = (z.toNat : Nat) := fun z hz => look_at hz
      have hlk : lookN ws r h (keysL ls) = (seekOf (hdsL ws (keysL ls)) r h).2.map fun i => (keysL ls)[i.toNat]?.getD 0 := rfl
      have hnd := look_nodup (ws := ws) (r := r) (h := h) hn
      have hcs : cntR ws r (keysL ls) (rs.take (i + 1)) = fun p => cntR ws r (keysL ls) (rs.take i) p + (if p ∈ lookN ws r h (keysL ls) then 1 else 0) := by
        funext p
        rw [List.take_add_one, hh, cnt_app]
        show _ + ((if p ∈ lookN ws r h (keysL ls) then 1 else 0) + 0) = _
        rw [Int.add_zero]
      rw [hcs]
      generalize (seekOf (hdsL ws (keysL ls)) r h).2 = se at *
      generalize lookN ws r h (keysL ls) = lk at *
      generalize cntR ws r (keysL ls) (rs.take i) = f at *
      refine ⟨pl, rfl, ⟨_, hpl⟩, for_tup (K := K) (a := pl) (xs := se.map V.int) (fun j σ H6 => ∃ y7 y8, σ = [some (.ref a), some (.str r), some (.ref b), some (.ref q), some (.ref lt), some (.ref D), some (.str h), y7, y8] ∧ But D H5 H6 ∧ H6 D = some (.dK (dvs (WNL ls fun p => f p + (if p ∈ lk.take j then 1 else 0))))) ⟨_, _, rfl, But.refl, ?_⟩ (fun j σ H6 _ ⟨_, _, _, b6, _⟩ => (b6.imm d5 rfl).seqT hpl) (fun j x σ H6 hj hP => ?_) (fun σ H6 hP => ?_)⟩
      · rw [wnl_congr (ls := ls) (f := fun p => f p + (if p ∈ lk.take 0 then 1 else 0)) (g := f) fun k _ => by rw [List.take_zero, if_neg List.not_mem_nil, Int.add_zero]]
        exact d5
      · obtain ⟨y7, y8, rfl, b6, d6⟩ := hP
        rw [List.getElem?_map] at hj
        obtain ⟨z, hz, rfl⟩ := Option.map_eq_some_iff.mp hj
        obtain ⟨kk, hkk, hzz⟩ := hlook z (List.mem_of_getElem? hz)
        have hkm : kk ∈ keysL ls := List.mem_of_getElem? hkk
        have hlj : lk[j]? = some kk := by
          rw [hlk, List.getElem?_map, hz]
          show some ((keysL ls)[z.toNat]?.getD 0) = _
          rw [hkk]
          rfl
        have hnot : kk ∉ lk.take j := fun hm => by
          obtain ⟨m, hm'⟩ := List.mem_iff_getElem?.mp hm
          have hmj : m < j := by
            have := (List.getElem?_eq_some_iff.mp hm').1
            rw [List.length_take] at this
            omega
          rw [List.getElem?_take_of_lt hmj] at hm'
          obtain ⟨g1, e1⟩ := List.getElem?_eq_some_iff.mp hm'
          obtain ⟨g2, e2⟩ := List.getElem?_eq_some_iff.mp hlj
          have := (List.getElem_inj hnd).mp (e1.trans e2.symm)
          omega
        have l6 : H6 lt = some (.lst ((keysL ls).map fun (j : Nat) => V.int ((j : Nat) : Int))) := b6 _ _ (s5 _ _ (s4 _ _ (b3 _ _ e2 nlD))) nlD
        refine ⟨_, rfl, _, rfl, _, rfl, lt, _, ((z.toNat : Nat) : Int), .int ((kk : Nat) : Int), rfl, by rw [hzz]; rfl, SqL.of l6, atI_nat (by rw [List.getElem?_map, hkk]; rfl), D, .int (f kk + (if kk ∈ lk.take j then 1 else 0)), rfl, .inl ⟨_, Sum.inl ((kk : Nat) : Int), .inl d6, rfl, (wnl_val (f := fun p => f p + (if p ∈ lk.take j then 1 else 0)) hn hkm).symm⟩, ?_⟩
        refine ⟨_, _, rfl, rfl, _, DPut.k (k := Sum.inl ((kk : Nat) : Int)) d6 (sizeLine_of (by rw [dvs_len]; unfold WNL; rw [List.length_map]; omega)), ?_⟩
        refine ⟨_, _, rfl, b6.upd, ?_⟩
        rw [upd_same, wnl_put hkm]
        congr 2
        congr 1
        refine wnl_congr fun p _ => ?_
        rw [List.take_add_one, hlj]
        show (if p = kk then f kk + (if kk ∈ lk.take j then 1 else 0) + 1 else f p + (if p ∈ lk.take j then 1 else 0)) = f p + (if p ∈ lk.take j ++ [kk] then 1 else 0)
        rw [if_neg hnot, Int.add_zero]
        by_cases hp : p = kk
        · rw [if_pos hp, hp, if_pos (List.mem_append_right _ (List.mem_singleton.mpr rfl))]
        · rw [if_neg hp]
          by_cases hm : p ∈ lk.take j
          · rw [if_pos hm, if_pos (List.mem_append_left _ hm)]
          · rw [if_neg hm, if_neg fun z => (List.mem_append.mp z).elim hm fun z => hp (List.mem_singleton.mp z)]
      · obtain ⟨y7, y8, rfl, b6, d6⟩ := hP
        have e : lk.take (se.map V.int).length = lk := List.take_of_length_le (by rw [hlk, List.length_map, List.length_map]; exact Nat.le_refl _)
        rw [e] at d6
        exact ⟨_, _, _, rfl, b5.trans b6, d6⟩
    · obtain ⟨y6, y7, y8, rfl, b3, d3⟩ := hP
      rw [List.length_map, List.take_length] at d3
      refine ⟨_, rfl, D, _, rfl, d3, trivial, fun od' => ?_⟩
      refine k D _ (fun b o hb => ?_) ⟨od', upd_same⟩
      have nb := ne_of_none hb hDH
      rw [upd_ne nb]
      exact b3 _ _ (s02 _ _ hb) nb
end
section
local macro_rules | `(tactic| walk_at "sl") => `(tactic| first | assumption | exact SqL.of upd_same | exact SqL.of (by assumption) | ((with_reducible apply sql_upd); (walk_at "sl"); (first | assumption | exact Ne.symm (by assumption))))
local macro_rules | `(tactic| walk_at "st") => `(tactic| first | assumption | exact SqT.of upd_same | exact SqT.of (by assumption))
local macro_rules | `(tactic| walk_at "sc") => `(tactic| first | rfl | assumption | (show (0 : Int) < _; first | assumption | decide | omega) | exact Or.inl ⟨by omega, by omega⟩ | exact Or.inr ⟨by omega, by omega⟩ | exact ⟨by decide, by decide⟩ | exact ⟨by decide, by decide, by decide⟩)
local macro_rules | `(tactic| walk_at "g1") => `(tactic| first
  | refine ⟨(_ : V), rfl, ?_⟩
  | refine ⟨(_ : Bool), rfl, ?_⟩
  | refine ⟨(_ : Int), (_ : Int), rfl, rfl, ?_⟩
  | refine ⟨(_ : Int), rfl, ?_⟩
  | refine ⟨(_ : Str), rfl, ?_⟩
  | refine ⟨(_ : Addr), (_ : List V), rfl, Or.inl (by walk_at "sl"), ?_⟩
  | refine ⟨(_ : Addr), (_ : List V), rfl, Or.inr (by walk_at "st"), ?_⟩
  | refine ⟨(_ : Addr), (_ : List V), (_ : Int), (_ : V), rfl, rfl, (by walk_at "sl"), (by first | rfl | assumption), ?_⟩
  | refine ⟨(_ : Addr), (_ : List V), (_ : Int), (_ : V), rfl, rfl, (by walk_at "st"), (by first | rfl | assumption), ?_⟩
  | refine ⟨(_ : Addr), (_ : List V), (_ : Int), (_ : Nat), rfl, rfl, upd_same, rfl, ?_⟩
  | refine ⟨(_ : Addr), (_ : List V), (_ : Int), (_ : Nat), rfl, rfl, (by assumption), rfl, ?_⟩
  | refine ⟨(_ : Addr), (_ : Addr), (_ : Addr), (_ : List (Str × V)), (_ : V), rfl, (by assumption), (by assumption), (by assumption), (by first | assumption | rfl), ?_⟩
  | refine Or.inl ⟨(_ : Int), rfl, ?_⟩
  | refine And.intro (by walk_at "sc") ?_
  | refine iteT ?_
  | refine iteF ?_)
/-! #### rounds_ahead -/
theorem range_filterMap {α γ : Type} (xs : List α) (f : α → Option γ) : (List.range xs.length).filterMap (fun i => (xs[i]?).bind f) = xs.filterMap f := by
  have e : xs.map some = (List.range xs.length).map fun i => xs[i]? := by
    apply List.ext_getElem?
    intro i
    rw [List.getElem?_map, List.getElem?_map]
    rcases Nat.lt_or_ge i xs.length with h | h
    · rw [List.getElem?_range h, List.getElem?_eq_getElem h]
      show some (some xs[i]) = some xs[i]?
      rw [List.getElem?_eq_getElem h]
    · rw [List.getElem?_eq_none h, List.getElem?_eq_none (by rw [List.length_range]; exact h)]
      rfl
  have h1 : (List.range xs.length).filterMap (fun i => (xs[i]?).bind f) = ((List.range xs.length).map fun i => xs[i]?).filterMap fun o => o.bind f := by
    rw [List.filterMap_map]
    rfl
  rw [h1, ← e, List.filterMap_map]
  rfl
theorem quot_fm (ls : LS) (f : Nat → Int) : ls.filterMap (fun p => if 0 < f p.1 then some (V.int ((p.2 - 1) / f p.1)) else none) = (quotL ls f).map V.int := by
  unfold quotL
  induction ls with
  | nil => rfl
  | cons p t ih =>
    by_cases h : 0 < f p.1
    · rw [List.filterMap_cons_some (f := fun p : Nat × Int => if 0 < f p.1 then some (V.int ((p.2 - 1) / f p.1)) else none) (show (if 0 < f p.1 then some (V.int ((p.2 - 1) / f p.1)) else none) = some _ from if_pos h), List.filter_cons_of_pos (p := fun p : Nat × Int => decide (0 < f p.1)) (decide_eq_true h), ih]
      rfl
    · rw [List.filterMap_cons_none (f := fun p : Nat × Int => if 0 < f p.1 then some (V.int ((p.2 - 1) / f p.1)) else none) (show (if 0 < f p.1 then some (V.int ((p.2 - 1) / f p.1)) else none) = none from if_neg h), List.filter_cons_of_neg (p := fun p : Nat × Int => decide (0 < f p.1)) (fun z => h (of_decide_eq_true z)), ih]
def bigN : Int := 1000000000000000000
theorem pow_big {n : Int} (h0 : 0 ≤ n) (h : n ≤ bigN) : n.natAbs < 2 ^ 64 := by
  unfold bigN at h
  omega
theorem rI_of {C : Int → Int → Prop} {f : Int → Int → V} {i j : Int} {v : V} {H : Hp} {Q : VK} (c : C i j) (e : f i j = v) (q : Q v H) : rI C f (.int i) (.int j) H Q := ⟨i, j, rfl, rfl, c, by rw [e]; exact q⟩
def spRA (K : PySem.W.Frag) : Sp := fun vs H Q _ => ∃ (a b q : Addr) (ws rs : List Str) (r : Str) (ls : LS), vs = [.ref a, .str r, .ref b, .ref q] ∧ SqT K H a (ws.map V.str) ∧ SqT K H b (rs.map V.str) ∧ LeftF H q ls ∧ (keysL ls).Nodup ∧ (∀ k ∈ keysL ls, k < ws.length) ∧ ls.length ≤ 100 ∧ rs.length ≤ 100 ∧ (∀ p ∈ ls, 0 < p.2 ∧ p.2 ≤ bigN) ∧
  ∀ t q' H', Same H H' → SqT K H' t [.int (aheadL ls (cntR ws r (keysL ls) rs)), .ref q'] → LeftF H' q' (subL ls fun p => aheadL ls (cntR ws r (keysL ls) rs) * cntR ws r (keysL ls) rs p) → Q (.ref t) H'
theorem sub_put {ls : LS} (hn : (keysL ls).Nodup) {f : Nat → Int} {i : Nat} {p : Nat × Int} (hp : ls[i]? = some p) : putK (dvs (subL (ls.take i) f)) (Sum.inl ((p.1 : Nat) : Int)) (.int (p.2 - f p.1)) = dvs (subL (ls.take (i + 1)) f) := by
  have hnk : p.1 ∉ keysL (subL (ls.take i) f) := fun hm => by
    rw [sub_keys] at hm
    unfold keysL at hm hn
    rw [List.map_take] at hm
    obtain ⟨j, hj'⟩ := List.mem_iff_getElem?.mp hm
    have hji : j < i := by
      have := (List.getElem?_eq_some_iff.mp hj').1
      rw [List.length_take] at this
      omega
    rw [List.getElem?_take_of_lt hji] at hj'
    have hi' : (ls.map Prod.fst)[i]? = some p.1 := by rw [List.getElem?_map, hp]; rfl
    obtain ⟨g1, e1⟩ := List.getElem?_eq_some_iff.mp hj'
    obtain ⟨g2, e2⟩ := List.getElem?_eq_some_iff.mp hi'
    have := (List.getElem_inj hn).mp (e1.trans e2.symm)
    omega
  rw [dvs_put hnk]
  unfold subL
  rw [List.take_add_one, hp, List.map_append]
  rfl
theorem ok_rounds_ahead (T : Top K mg) : FnOk P w K mg base CX0 4 T.a_rounds_ahead T.fd_rounds_ahead ["row", "rule", "requests", "left"] (spRA K) := by
  refine T.F_rounds_ahead.ok sc_rounds_ahead (fun vs H Q E h => ?_) (fun cdv A outer s H vs Q E hr h => ?_)
  · obtain ⟨a, b, q, ws, rs, r, ls, rfl, _⟩ := h
    rfl
  · obtain ⟨a, b, q, ws, rs, r, ls, rfl, hA, hB, hq, hn, hk, hl, hrl, hp0, k⟩ := h
    have hu := hu_of hr
    have hcl := fun p => cnt_le_len ws r (keysL ls) p rs
    have hcg := fun p => cnt_ge ws r (keysL ls) rs p
    refine ⟨_, (pss_cons (ps_set (i := 4) sc_rounds_ahead.nd rfl (.inr rfl) (pe_call (ok_wear_of_round T) (hr.mono (by decide)) (by rfl) T.g_wear_of_round T.F_wear_of_round.kp (b_wear_of_round T) .nil pass0 (pa_cons (pv 0) (pa_cons (pv 1) (pa_cons (pv 2) (pa_cons (pv 3) pa_nil))))))
      (pss_cons (ps_set (i := 5) sc_rounds_ahead.nd rfl (.inr rfl) (pe_callBK (cr_minDI rfl hr.units) (by rfl) T.m_min (by decide +kernel) (pa_cons (pe_lc (own := [("place", 6), ("many", 7)]) (g := gTup K 2 (gCons (gName 6) (gCons (gName 7) gNil))) rfl sc_rounds_ahead.nd (pi_items (pv 4)) (blkOk_by (N := N_rounds_ahead) (sc := defScope s_rounds_ahead) (by decide +kernel)) (fun _ _ _ _ _ => (pg_tup rfl (pgs_cons (pg_name (i := 6) sc_rounds_ahead.nd rfl (.inl rfl)) (pgs_cons (pg_name (i := 7) sc_rounds_ahead.nd rfl (.inl rfl)) pgs_nil)))) (fun _ _ _ _ _ => (pts_one (pt_cmpR op_gt (pv 7) pe_int (nomark _)))) (fun _ _ _ _ _ => (pe_op op_fdivW (pe_op op_sub (pe_dget (hu_of hr) (pv 3) (pv 6) (fun _ _ => rfl)) pe_int) (pv 7)))) pa_nil) (pk_cons pe_int pk_nil)))
      (pss_one (ps_ret (pe_tup (pa_cons (pv 5) (pa_cons (pe_frz (pe_dc (own := [("place", 6)]) (g := gName 6) (tt := tYes) rfl sc_rounds_ahead.nd (pi_keys (pv 3)) (blkOk_by (N := N_rounds_ahead) (sc := defScope s_rounds_ahead) (by decide +kernel)) (fun _ _ _ _ _ => (pg_name (i := 6) sc_rounds_ahead.nd rfl (.inl rfl))) (fun _ _ _ _ _ => pts_nil) (fun _ _ _ _ _ => (pv 6)) (fun _ _ _ _ _ => (pe_op op_sub (pe_dget (hu_of hr) (pv 3) (pv 6) (fun _ _ => rfl)) (pe_op op_mulW (pv 5) (pe_dget (hu_of hr) (pv 4) (pv 6) (fun _ _ => rfl))))))) pa_nil))))))), ?_⟩
    refine ⟨_, rfl, _, rfl, _, rfl, _, rfl, a, b, q, ws, rs, r, ls, rfl, hA, hB, hq, hn, hk, hl, hrl, fun q1 H1 s1 hq1 => ?_⟩
    generalize cntR ws r (keysL ls) rs = f at *
    have hq01 := hq.same s1
    obtain ⟨od1, hq1o⟩ := id hq1
    obtain ⟨od0, hq0o⟩ := id hq01
    refine ⟨_, rfl, q1, od1, dvs (WNL ls f), rfl, hq1o, fun D hD => lc_fn (walk_items (kvs := dvs (WNL ls f))) (by rw [dvs_len]; unfold WNL; rw [List.length_map]; omega) hD (fun i => (ls[i]?).bind fun p => if 0 < f p.1 then some (V.int ((p.2 - 1) / f p.1)) else none) (fun H2 s2 => s2 _ _ hq1o) (fun i x H2 H3 hi s2 hy R R0 r1 r0 => ?_) (fun H2 s2 hd => ?_)⟩
    · obtain ⟨tp, x1, x2, rfl, htp, rfl, hx1, hx2⟩ := hy
      obtain ⟨p, hp⟩ : ∃ p, ls[i]? = some p := by
        rw [dvs_len] at hi
        unfold WNL at hi
        rw [List.length_map] at hi
        exact ⟨_, List.getElem?_eq_getElem hi⟩
      have hdv : (dvs (WNL ls f))[i]? = some (Sum.inl ((p.1 : Nat) : Int), V.int (f p.1)) := by
        unfold dvs WNL
        rw [List.getElem?_map, List.getElem?_map, hp]
        rfl
      have hx1 : ((dvs (WNL ls f))[i]?).map (fun kv => kV kv.1) = some x1 := hx1
      have hx2 : ((dvs (WNL ls f))[i]?).map Prod.snd = some x2 := hx2
      rw [hdv] at hx1 hx2
      obtain rfl : kV (Sum.inl ((p.1 : Nat) : Int)) = x1 := Option.some.inj hx1
      obtain rfl : V.int (f p.1) = x2 := Option.some.inj hx2
      have hpm : p ∈ ls := List.mem_of_getElem? hp
      have s3 : Same H2 (upd H2 tp (.tup [kV (Sum.inl ((p.1 : Nat) : Int)), V.int (f p.1)])) := same_new htp
      have et : SqT K (upd H2 tp (.tup [kV (Sum.inl ((p.1 : Nat) : Int)), V.int (f p.1)])) tp [kV (Sum.inl ((p.1 : Nat) : Int)), V.int (f p.1)] := SqT.of upd_same
      generalize upd H2 tp (.tup [kV (Sum.inl ((p.1 : Nat) : Int)), V.int (f p.1)]) = H3 at *
      have ef : ((ls[i]?).bind fun p => if 0 < f p.1 then some (V.int ((p.2 - 1) / f p.1)) else none) = if 0 < f p.1 then some (V.int ((p.2 - 1) / f p.1)) else none := by
        rw [hp]
        rfl
      rw [ef] at r1 r0
      obtain ⟨g1, g2⟩ := hp0 p hpm
      have g3 := hcl p.1
      refine ⟨tp, _, rfl, et, rfl, _, _, rfl, _, _, rfl, rfl, rfl, ?_⟩
      by_cases hz : 0 < f p.1
      · rw [if_pos hz] at r1 r0
        refine ⟨_, rfl, _, _, rfl, rfl, _, rfl, ?_⟩
        rw [decide_eq_true hz]
        refine iteT ?_
        refine ⟨_, rfl, _, rfl, q, .int p.2, rfl, .inl ⟨dvs ls, Sum.inl ((p.1 : Nat) : Int), .inr ⟨od0, s3 _ _ (s2 _ _ hq0o)⟩, rfl, (dvs_val hn hpm).symm⟩, _, _, rfl, rfl, ?_⟩
        refine ⟨_, rfl, rI_of (wide_div (b := 64) hz (by omega) (by decide) (by decide)) rfl ?_⟩
        exact r1 _ _ rfl s3
      · rw [if_neg hz] at r1 r0
        refine ⟨_, rfl, _, _, rfl, rfl, _, rfl, ?_⟩
        rw [decide_eq_false hz]
        exact iteF (r0 _ rfl s3)
    · have el : (dvs (WNL ls f)).length = ls.length := by
        rw [dvs_len]
        exact List.length_map ..
      rw [el, range_filterMap ls fun p => if 0 < f p.1 then some (V.int ((p.2 - 1) / f p.1)) else none, quot_fm] at hd
      refine ⟨D, quotL ls f, 0, rfl, rfl, SqL.of hd, ?_⟩
      have hah := ahead_le hcg fun p hp => (hp0 p hp).1
      have hab : aheadL ls f ≤ bigN ∧ ∀ p ∈ ls, aheadL ls f * f p.1 ≤ bigN := by
        refine ⟨?_, fun p hp => ?_⟩
        · unfold aheadL
          by_cases he : quotL ls f = []
          · rw [he]; decide
          · obtain ⟨p, hm, e⟩ := List.mem_map.mp (minOr_mem (d := 0) he)
            have e : (p.2 - 1) / f p.1 = minOr 0 (quotL ls f) := e
            rw [← e]
            obtain ⟨h1, h2⟩ := List.mem_filter.mp hm
            have h2 := of_decide_eq_true h2
            have h3 := hp0 p h1
            have := Int.ediv_le_self (f p.1) (show 0 ≤ p.2 - 1 by omega)
            omega
        · have h1 := hah.2 p hp
          have h2 := hp0 p hp
          omega
      have s02 := s1.trans s2
      have hqo2 := s2 _ _ hq0o
      have hq1o2 := s2 _ _ hq1o
      refine ⟨_, rfl, _, rfl, q, od0, rfl, .inl ⟨dvs ls, hqo2, fun D2 hD2 => dc_it (walk_keys (kvs := dvs ls)) (fun i H' => Same H2 H' ∧ H' D2 = some (.dK (dvs (subL (ls.take i) fun p => aheadL ls f * f p)))) ⟨same_new hD2, upd_same⟩ (fun i H' _ hP => hP.1 _ _ hqo2) (fun i x H' H'' hi hP hy => ?_) (fun H3 hP => ?_)⟩⟩
      · obtain ⟨s3, d3⟩ := hP
        obtain ⟨rfl, kk, vv, hkv, rfl⟩ := hy
        obtain ⟨p, hp, rfl, rfl⟩ := dvs_at hkv
        have hpm : p ∈ ls := List.mem_of_getElem? hp
        rw [dvs_len] at hi
        refine ⟨rfl, tYes_of ?_⟩
        have hpk : p.1 ∈ keysL ls := List.mem_map.mpr ⟨p, hpm, rfl⟩
        obtain ⟨g1, g2⟩ := hp0 p hpm
        have g3 := hcl p.1
        have e6 : aheadL ls f = minOr 0 (quotL ls f) := rfl
        refine ⟨_, rfl, _, rfl, _, rfl, q, .int p.2, rfl, .inl ⟨dvs ls, Sum.inl ((p.1 : Nat) : Int), .inr ⟨od0, s3 _ _ hqo2⟩, rfl, (dvs_val hn hpm).symm⟩, ?_⟩
        refine ⟨_, rfl, _, rfl, _, rfl, q1, .int (f p.1), rfl, .inl ⟨dvs (WNL ls f), Sum.inl ((p.1 : Nat) : Int), .inr ⟨od1, s3 _ _ hq1o2⟩, rfl, (wnl_val (f := f) hn hpk).symm⟩, ?_⟩
        refine rI_of (wide_mul (a := 64) (b := 64) (pow_big (by rw [← e6]; exact hah.1) (by rw [← e6]; exact hab.1)) (by have := hcg p.1; omega) (by decide) (by decide) (by decide)) rfl ?_
        refine ⟨_, _, rfl, rfl, _, Sum.inl ((p.1 : Nat) : Int), rfl, d3, sizeLine_of ?_, same_mut s3 hD2, ?_⟩
        · rw [dvs_len]
          unfold subL
          rw [List.length_map, List.length_take]
          omega
        · rw [upd_same]
          exact congrArg (fun z => some (HO.dK z)) (sub_put hn (f := fun p => aheadL ls f * f p) hp)
      · obtain ⟨s3, d3⟩ := hP
        rw [dvs_len, List.take_length] at d3
        refine ⟨D2, _, rfl, d3, trivial, fun od' => ?_⟩
        have s05 : Same H (upd H3 D2 (.frz od' (.dK (dvs (subL ls fun p => aheadL ls f * f p))))) := fun b o hb => by
          rw [upd_ne (ne_of_none (s02 _ _ hb) hD2)]
          exact s3 _ _ (s02 _ _ hb)
        have f5 : LeftF (upd H3 D2 (.frz od' (.dK (dvs (subL ls fun p => aheadL ls f * f p))))) D2 (subL ls fun p => aheadL ls f * f p) := ⟨od', upd_same⟩
        refine ⟨by show 2 ≤ sizeLine; decide, fun t ht => ?_⟩
        have s6 := same_new (o := .tup [.int (minOr 0 (quotL ls f)), .ref D2]) ht
        exact k t D2 _ (s05.trans s6) (SqT.of upd_same) (f5.same s6)
end
section
local macro_rules | `(tactic| walk_at "sl") => `(tactic| first | assumption | exact SqL.of upd_same | exact SqL.of (by assumption) | ((with_reducible apply sql_upd); (walk_at "sl"); (first | assumption | exact Ne.symm (by assumption))))
local macro_rules | `(tactic| walk_at "st") => `(tactic| first | assumption | exact SqT.of upd_same | exact SqT.of (by assumption))
local macro_rules | `(tactic| walk_at "sc") => `(tactic| first | rfl | assumption | (show (0 : Int) < _; first | assumption | decide | omega) | exact Or.inl ⟨by omega, by omega⟩ | exact Or.inr ⟨by omega, by omega⟩ | exact ⟨by decide, by decide⟩ | exact ⟨by decide, by decide, by decide⟩)
local macro_rules | `(tactic| walk_at "g1") => `(tactic| first
  | refine ⟨(_ : V), rfl, ?_⟩
  | refine ⟨(_ : Bool), rfl, ?_⟩
  | refine ⟨(_ : Int), (_ : Int), rfl, rfl, ?_⟩
  | refine ⟨(_ : Int), rfl, ?_⟩
  | refine ⟨(_ : Str), rfl, ?_⟩
  | refine ⟨(_ : Addr), (_ : List V), rfl, Or.inl (by walk_at "sl"), ?_⟩
  | refine ⟨(_ : Addr), (_ : List V), rfl, Or.inr (by walk_at "st"), ?_⟩
  | refine ⟨(_ : Addr), (_ : List V), (_ : Int), (_ : V), rfl, rfl, (by walk_at "sl"), (by first | rfl | assumption), ?_⟩
  | refine ⟨(_ : Addr), (_ : List V), (_ : Int), (_ : V), rfl, rfl, (by walk_at "st"), (by first | rfl | assumption), ?_⟩
  | refine ⟨(_ : Addr), (_ : List V), (_ : Int), (_ : Nat), rfl, rfl, upd_same, rfl, ?_⟩
  | refine ⟨(_ : Addr), (_ : List V), (_ : Int), (_ : Nat), rfl, rfl, (by assumption), rfl, ?_⟩
  | refine ⟨(_ : Addr), (_ : Addr), (_ : Addr), (_ : List (Str × V)), (_ : V), rfl, (by assumption), (by assumption), (by assumption), (by first | assumption | rfl), ?_⟩
  | refine Or.inl ⟨(_ : Int), rfl, ?_⟩
  | refine And.intro (by walk_at "sc") ?_
  | refine iteT ?_
  | refine iteF ?_)
/-! ### requests and numbers that can be -/
def spReqs (K : PySem.W.Frag) : Sp := fun vs H Q _ => ∃ (t : Addr) (rs : List Str), vs = [.ref t] ∧ SqT K H t (rs.map V.str) ∧ rs.length ≤ 12 ∧ (∀ x ∈ rs, isWord x = true) ∧ ∀ H', Same H H' → Q .non H'
def spFirstWrong (K : PySem.W.Frag) : Sp := fun vs H Q _ => ∃ (t : Addr) (rs : List Str) (m : Int), vs = [.ref t, .int m] ∧ SqT K H t (rs.map V.str) ∧ (rs.length : Int) ≤ m ∧ (∀ x ∈ rs, isWord x = true) ∧ ∀ H', Same H H' → Q .non H'
theorem ok_first_wrong_request (T : Top K mg) : FnOk P w K mg base CX0 2 T.a_first_wrong_request T.fd_first_wrong_request ["requests", "most"] (spFirstWrong K) := by
  refine T.F_first_wrong_request.ok sc_first_wrong_request (fun vs H Q E h => ?_) (fun cdv A outer s H vs Q E hr h => ?_)
  · obtain ⟨t, rs, m, rfl, _⟩ := h
    rfl
  · obtain ⟨t, rs, m, rfl, hT, hm, hw, k⟩ := h
    have hu := hu_of hr
    refine ⟨_, (pss_cons (ps_for PassesOwn.never rfl (pi_enumT (by rfl) T.m_enumerate (pa_cons (pv 0) pa_nil)) (pg_tup rfl (pgs_cons (pg_name (i := 2) sc_first_wrong_request.nd rfl (.inl rfl)) (pgs_cons (pg_name (i := 3) sc_first_wrong_request.nd rfl (.inl rfl)) pgs_nil)))
        (pss_one (ps_if (PW.pt (pw_or (pt_cmpR op_eq (pv 2) (pv 1) (nomark _)) (pw_or1 (pt_not (pt_val (pe_call (ok_is_word T) (hr.mono (by decide)) (by rfl) T.g_is_word T.F_is_word.kp (b_is_word T) .nil pass0 (pa_cons (pv 3) pa_nil))))))) (pss_one (ps_ret (pv 2))) pss_nil)))
      (pss_one (ps_ret pe_non))), ?_⟩
    refine ⟨_, rfl, t, _, rfl, hT, for_enumT (K := K) (a := t) (xs := rs.map V.str) (fun i σ H2 => ∃ y2 y3, σ = [some (.ref t), some (.int m), y2, y3] ∧ Same H H2) ⟨_, _, rfl, Same.refl _⟩ (fun i σ H2 _ ⟨_, _, _, s⟩ => s.seqT hT) (fun i x tp σ H2 hi hP ht => ?_) (fun σ H2 hP => ?_)⟩
    · obtain ⟨y2, y3, rfl, s2⟩ := hP
      rw [List.getElem?_map] at hi
      obtain ⟨h, hh, rfl⟩ := Option.map_eq_some_iff.mp hi
      have s3 := s2.trans (same_new (o := .tup [.int (i : Nat), .str h]) ht)
      have hil := (List.getElem?_eq_some_iff.mp hh).1
      have hwd := hw h (List.mem_of_getElem? hh)
      refine ⟨tp, _, rfl, SqT.of upd_same, rfl, _, _, rfl, _, _, rfl, rfl, ?_⟩
      refine ⟨_, rfl, _, rfl, rEq_to (b := false) rfl (by rw [int_dec]; exact decide_eq_false (by omega)) ?_⟩
      refine ⟨_, rfl, iteF ?_⟩
      refine ⟨_, rfl, h, rfl, by have := word_len hwd; omega, fun H3 s4 => ?_⟩
      rw [hwd]
      refine ⟨_, rfl, iteF ?_⟩
      exact ⟨_, _, rfl, s3.trans s4⟩
    · obtain ⟨y2, y3, rfl, s2⟩ := hP
      exact k H2 s2
theorem ok_check_requests (T : Top K mg) : FnOk P w K mg base CX0 3 T.a_check_requests T.fd_check_requests ["requests"] (spReqs K) := by
  refine T.F_check_requests.ok sc_check_requests (fun vs H Q E h => ?_) (fun cdv A outer s H vs Q E hr h => ?_)
  · obtain ⟨t, rs, rfl, _⟩ := h
    rfl
  · obtain ⟨t, rs, rfl, hT, hm, hw, k⟩ := h
    have hu := hu_of hr
    refine ⟨_, (pss_cons (ps_set (i := 1) sc_check_requests.nd rfl (.inl rfl) (pe_call (ok_first_wrong_request T) (hr.mono (by decide)) (by rfl) T.g_first_wrong_request T.F_first_wrong_request.kp (b_first_wrong_request T) .nil pass0 (pa_cons (pv 0) (pa_cons (pe_glob rfl T.g_MOST_REQUESTS T.r_MOST_REQUESTS) pa_nil))))
      (pss_one (ps_if (pt_cmpR op_notN (pv 1) pe_non (nomark _)) (pss_one (ps_never)) pss_nil))), ?_⟩
    refine ⟨_, rfl, t, rs, 12, rfl, hT, by omega, hw, fun H1 s1 => ?_⟩
    refine ⟨_, rfl, rfl, _, rfl, iteF ?_⟩
    exact k H1 s1
theorem ok_check_number (T : Top K mg) : FnOk P w K mg base CX0 2 T.a_check_number T.fd_check_number ["number", "least", "greatest"] (fun vs H Q _ => ∃ n a b : Int, vs = [.int n, .int a, .int b] ∧ a ≤ n ∧ n ≤ b ∧ Q .non H) := by
  refine T.F_check_number.ok sc_check_number (fun vs H Q E h => ?_) (fun cdv A outer s H vs Q E hr h => ?_)
  · obtain ⟨n, a, b, rfl, _⟩ := h
    rfl
  · obtain ⟨n, a, b, rfl, h1, h2, k⟩ := h
    have hu := hu_of hr
    refine ⟨_, (pss_one (ps_if (pt_not (pt_val (pe_call (ok_is_number T) (hr.mono (by decide)) (by rfl) T.g_is_number T.F_is_number.kp (b_is_number T) .nil pass0 (pa_cons (pv 0) (pa_cons (pv 1) (pa_cons (pv 2) pa_nil)))))) (pss_one (ps_never)) pss_nil)), ?_⟩
    refine ⟨_, rfl, _, rfl, _, rfl, n, a, b, rfl, ?_⟩
    have : isNum n a b = true := by
      unfold isNum
      rw [decide_eq_true h1, decide_eq_true h2]
      rfl
    rw [this]
    refine ⟨_, rfl, iteF ?_⟩
    exact k
end
section
local macro_rules | `(tactic| walk_at "sl") => `(tactic| first | assumption | exact SqL.of upd_same | exact SqL.of (by assumption) | ((with_reducible apply sql_upd); (walk_at "sl"); (first | assumption | exact Ne.symm (by assumption))))
local macro_rules | `(tactic| walk_at "st") => `(tactic| first | assumption | exact SqT.of upd_same | exact SqT.of (by assumption))
local macro_rules | `(tactic| walk_at "sc") => `(tactic| first | rfl | assumption | (show (0 : Int) < _; first | assumption | decide | omega) | exact Or.inl ⟨by omega, by omega⟩ | exact Or.inr ⟨by omega, by omega⟩ | exact ⟨by decide, by decide⟩ | exact ⟨by decide, by decide, by decide⟩)
local macro_rules | `(tactic| walk_at "g1") => `(tactic| first
  | refine ⟨(_ : V), rfl, ?_⟩
  | refine ⟨(_ : Bool), rfl, ?_⟩
  | refine ⟨(_ : Int), (_ : Int), rfl, rfl, ?_⟩
  | refine ⟨(_ : Int), rfl, ?_⟩
  | refine ⟨(_ : Str), rfl, ?_⟩
  | refine ⟨(_ : Addr), (_ : List V), rfl, Or.inl (by walk_at "sl"), ?_⟩
  | refine ⟨(_ : Addr), (_ : List V), rfl, Or.inr (by walk_at "st"), ?_⟩
  | refine ⟨(_ : Addr), (_ : List V), (_ : Int), (_ : V), rfl, rfl, (by walk_at "sl"), (by first | rfl | assumption), ?_⟩
  | refine ⟨(_ : Addr), (_ : List V), (_ : Int), (_ : V), rfl, rfl, (by walk_at "st"), (by first | rfl | assumption), ?_⟩
  | refine ⟨(_ : Addr), (_ : List V), (_ : Int), (_ : Nat), rfl, rfl, upd_same, rfl, ?_⟩
  | refine ⟨(_ : Addr), (_ : List V), (_ : Int), (_ : Nat), rfl, rfl, (by assumption), rfl, ?_⟩
  | refine ⟨(_ : Addr), (_ : Addr), (_ : Addr), (_ : List (Str × V)), (_ : V), rfl, (by assumption), (by assumption), (by assumption), (by first | assumption | rfl), ?_⟩
  | refine Or.inl ⟨(_ : Int), rfl, ?_⟩
  | refine And.intro (by walk_at "sc") ?_
  | refine iteT ?_
  | refine iteF ?_)
/-! #### finds_all, check_wear -/
def spFindsB (K : PySem.W.Frag) : Sp := fun vs H Q _ => ∃ (a b : Addr) (ws hs : List Str) (r : Str), vs = [.ref a, .str r, .ref b] ∧ SqT K H a (ws.map V.str) ∧ SqT K H b (hs.map V.str) ∧ ws.length ≤ 1000 ∧ ∀ H', Same H H' → Q (.bl (hs.all fun h => (seekOf ws r h).1.isSome)) H'
theorem ok_finds_all (T : Top K mg) : FnOk P w K mg base CX0 3 T.a_finds_all T.fd_finds_all ["row", "rule", "headings"] (spFindsB K) := by
  refine T.F_finds_all.ok sc_finds_all (fun vs H Q E h => ?_) (fun cdv A outer s H vs Q E hr h => ?_)
  · obtain ⟨a, b, ws, hs, r, rfl, _⟩ := h
    rfl
  · obtain ⟨a, b, ws, hs, r, rfl, hA, hB, hl, k⟩ := h
    have hu := hu_of hr
    refine ⟨_, (pss_cons (ps_for PassesOwn.never rfl (pi_tup (pv 2)) (pg_name (i := 3) sc_finds_all.nd rfl (.inl rfl))
        (pss_one (ps_if (pt_cmpR op_isN (pe_ix ix_tup (pe_call (ok_seek T) (hr.mono (by decide)) (by rfl) T.g_seek T.F_seek.kp (b_seek T) .nil pass0 (pa_cons (pv 0) (pa_cons (pv 1) (pa_cons (pv 3) pa_nil)))) pe_int (fun _ _ => rfl)) pe_non (nomark _)) (pss_one (ps_ret pe_bl)) pss_nil)))
      (pss_one (ps_ret pe_bl))), ?_⟩
    refine ⟨_, rfl, b, rfl, ⟨_, hB⟩, for_tup (K := K) (a := b) (xs := hs.map V.str) (fun i σ H1 => ∃ y, σ = [some (.ref a), some (.str r), some (.ref b), y] ∧ Same H H1 ∧ ((hs.take i).all fun h => (seekOf ws r h).1.isSome) = true) ⟨_, rfl, Same.refl _, rfl⟩ (fun i σ H1 _ ⟨_, _, s, _⟩ => s.seqT hB) (fun i x σ H1 hi hP => ?_) (fun σ H1 hP => ?_)⟩
    · obtain ⟨y, rfl, s1, ha⟩ := hP
      rw [List.getElem?_map] at hi
      obtain ⟨h, hhi, rfl⟩ := Option.map_eq_some_iff.mp hi
      refine ⟨_, rfl, _, rfl, _, rfl, a, ws, r, h, rfl, s1.seqT hA, hl, fun t H2 s2 hS => ?_⟩
      obtain ⟨pl, hts, hpl⟩ := hS
      refine ⟨t, _, ((0 : Nat) : Int), _, rfl, rfl, hts, atI_nat rfl, ?_⟩
      refine ⟨rfl, ?_⟩
      have htk : hs.take (i + 1) = hs.take i ++ [h] := by rw [List.take_add_one, hhi]; rfl
      cases hso : (seekOf ws r h).1 with
      | none =>
        refine ⟨_, rfl, iteT ?_⟩
        have e : (hs.all fun h => (seekOf ws r h).1.isSome) = false := by
          rw [Bool.eq_false_iff]
          intro z
          have := List.all_eq_true.mp z h (List.mem_of_getElem? hhi)
          rw [hso] at this
          cases this
        have z := k H2 (s1.trans s2)
        rw [e] at z
        exact z
      | some j =>
        refine ⟨_, rfl, iteF ?_⟩
        refine ⟨_, rfl, s1.trans s2, ?_⟩
        rw [htk, List.all_append, ha]
        show (true && ((seekOf ws r h).1.isSome && true)) = true
        rw [hso]
        rfl
    · obtain ⟨y, rfl, s1, ha⟩ := hP
      rw [List.length_map, List.take_length] at ha
      have z := k H1 s1
      rw [ha] at z
      exact z
def spCheckW (K : PySem.W.Frag) : Sp := fun vs H Q _ => ∃ (t : Addr) (r : Str) (rs : List Str) (S : Int), vs = [.str r, .ref t, .int S] ∧ r ∈ rules3 ∧ SqT K H t (rs.map V.str) ∧ rs.length ≤ 12 ∧ (∀ x ∈ rs, isWord x = true) ∧ 1 ≤ S ∧ S ≤ bigN ∧ ∀ H', Same H H' → Q .non H'
theorem ok_check_wear (T : Top K mg) : FnOk P w K mg base CX0 4 T.a_check_wear T.fd_check_wear ["rule", "requests", "strength"] (spCheckW K) := by
  refine T.F_check_wear.ok sc_check_wear (fun vs H Q E h => ?_) (fun cdv A outer s H vs Q E hr h => ?_)
  · obtain ⟨t, r, rs, S, rfl, _⟩ := h
    rfl
  · obtain ⟨t, r, rs, S, rfl, hrr, hT, hm, hw, h1, h2, k⟩ := h
    have hu := hu_of hr
    refine ⟨_, (pss_cons (ps_expr (pe_call (ok_check_rule T) (hr.mono (by decide)) (by rfl) T.g_check_rule T.F_check_rule.kp (b_check_rule T) .nil pass0 (pa_cons (pv 0) pa_nil)))
      (pss_cons (ps_expr (pe_call (ok_check_requests T) (hr.mono (by decide)) (by rfl) T.g_check_requests T.F_check_requests.kp (b_check_requests T) .nil pass0 (pa_cons (pv 1) pa_nil)))
      (pss_one (ps_expr (pe_call (ok_check_number T) (hr.mono (by decide)) (by rfl) T.g_check_number T.F_check_number.kp (b_check_number T) .nil pass0 (pa_cons (pv 2) (pa_cons pe_int (pa_cons (pe_glob rfl T.g_MOST_STRENGTH T.r_MOST_STRENGTH) pa_nil)))))))), ?_⟩
    refine ⟨_, rfl, _, rfl, hrr, ?_⟩
    refine ⟨_, rfl, t, rs, rfl, hT, hm, hw, fun H2 s2 => ?_⟩
    refine ⟨_, rfl, S, 1, bigN, rfl, h1, h2, ?_⟩
    exact k H2 s2
end
section
local macro_rules | `(tactic| walk_at "sl") => `(tactic| first | assumption | exact SqL.of upd_same | exact SqL.of (by assumption) | ((with_reducible apply sql_upd); (walk_at "sl"); (first | assumption | exact Ne.symm (by assumption))))
local macro_rules | `(tactic| walk_at "st") => `(tactic| first | assumption | exact SqT.of upd_same | exact SqT.of (by assumption))
local macro_rules | `(tactic| walk_at "sc") => `(tactic| first | rfl | assumption | (show (0 : Int) < _; first | assumption | decide | omega) | exact Or.inl ⟨by omega, by omega⟩ | exact Or.inr ⟨by omega, by omega⟩ | exact ⟨by decide, by decide⟩ | exact ⟨by decide, by decide, by decide⟩)
local macro_rules | `(tactic| walk_at "g1") => `(tactic| first
  | refine ⟨(_ : V), rfl, ?_⟩
  | refine ⟨(_ : Bool), rfl, ?_⟩
  | refine ⟨(_ : Int), (_ : Int), rfl, rfl, ?_⟩
  | refine ⟨(_ : Int), rfl, ?_⟩
  | refine ⟨(_ : Str), rfl, ?_⟩
  | refine ⟨(_ : Addr), (_ : List V), rfl, Or.inl (by walk_at "sl"), ?_⟩
  | refine ⟨(_ : Addr), (_ : List V), rfl, Or.inr (by walk_at "st"), ?_⟩
  | refine ⟨(_ : Addr), (_ : List V), (_ : Int), (_ : V), rfl, rfl, (by walk_at "sl"), (by first | rfl | assumption), ?_⟩
  | refine ⟨(_ : Addr), (_ : List V), (_ : Int), (_ : V), rfl, rfl, (by walk_at "st"), (by first | rfl | assumption), ?_⟩
  | refine ⟨(_ : Addr), (_ : List V), (_ : Int), (_ : Nat), rfl, rfl, upd_same, rfl, ?_⟩
  | refine ⟨(_ : Addr), (_ : List V), (_ : Int), (_ : Nat), rfl, rfl, (by assumption), rfl, ?_⟩
  | refine ⟨(_ : Addr), (_ : Addr), (_ : Addr), (_ : List (Str × V)), (_ : V), rfl, (by assumption), (by assumption), (by assumption), (by first | assumption | rfl), ?_⟩
  | refine Or.inl ⟨(_ : Int), rfl, ?_⟩
  | refine And.intro (by walk_at "sc") ?_
  | refine iteT ?_
  | refine iteF ?_)
/-! #### served -/
theorem st_le (ws : List Str) (r : Str) (rs : List Str) (S : Int) : ∀ n, ∀ p ∈ stN ws r rs S n, p.2 ≤ S
  | 0 => fun p hp => by
    obtain ⟨k, _, rfl⟩ := List.mem_map.mp hp
    exact Int.le_refl S
  | n + 1 => fun p hp => by
    obtain ⟨q, hq, rfl⟩ := List.mem_map.mp (List.mem_filter.mp hp).1
    have := st_le ws r rs S n q hq
    show (if q.1 ∈ _ then q.2 - 1 else q.2) ≤ S
    split <;> omega
theorem st_lt {ws : List Str} {r : Str} {rs : List Str} {S : Int} {n : Nat} {k : Nat} (h : k ∈ keysL (stN ws r rs S n)) : k < ws.length := List.mem_range.mp ((stN_keys ws r rs S n).subset h)
theorem st_len (ws : List Str) (r : Str) (rs : List Str) (S : Int) (n : Nat) : (stN ws r rs S n).length ≤ ws.length := by
  have := (stN_keys ws r rs S n).length_le
  rw [List.length_range] at this
  exact Nat.le_trans (Nat.le_of_eq (List.length_map ..).symm) this
theorem rq_mem {rs : List Str} (hr : rs ≠ []) (n : Nat) : rq rs n ∈ rs := by
  have : n % rs.length < rs.length := Nat.mod_lt _ (List.length_pos_iff.mpr hr)
  unfold rq
  rw [List.getElem?_eq_getElem this]
  exact List.getElem_mem this
/-- all that a round's requests find, its keys tell -/
def allF (ws : List Str) (r : Str) (rs : List Str) (ks : List Nat) : Bool := rs.all fun h => fndN ws r h ks
/-- the rounds that are not made -/
theorem skip_ok {ws : List Str} {r : Str} {rs : List Str} {S : Int} (hr : rs ≠ []) (hS : 1 ≤ S) {m : Nat} (hm : rs.length ∣ m) (hd : ∀ j < m, fdN ws r rs S j = true) (ha : allF ws r rs (keysL (stN ws r rs S m)) = true) {k : Nat}
    (hk : ∀ p ∈ stN ws r rs S m, 1 ≤ p.2 - k * cntR ws r (keysL (stN ws r rs S m)) rs p.1) :
    rs.length ∣ m + k * rs.length ∧ stN ws r rs S (m + k * rs.length) = subL (stN ws r rs S m) (fun p => k * cntR ws r (keysL (stN ws r rs S m)) rs p) ∧ ∀ j < m + k * rs.length, fdN ws r rs S j = true := by
  obtain ⟨e1, e2⟩ := stN_rounds hm k hk
  refine ⟨Nat.dvd_add hm (Nat.dvd_mul_left _ _), e1, fun j hj => ?_⟩
  rcases Nat.lt_or_ge j m with z | z
  · exact hd j z
  · have := e2 (j - m) (by omega)
    rw [show m + (j - m) = j by omega] at this
    unfold fdN
    rw [this]
    exact List.all_eq_true.mp ha _ (rq_mem hr j)
/-- a round that was made whole: a card fell out in it -/
theorem round_falls {ws : List Str} {r : Str} {rs : List Str} {S : Int} (hr : rs ≠ []) (hS : 1 ≤ S) {m m' : Nat} (hm' : rs.length ∣ m') (hk : keysL (stN ws r rs S m') = keysL (stN ws r rs S m))
    (hf : ∀ j < m' + rs.length, fdN ws r rs S j = true)
    (ha : allF ws r rs (keysL (stN ws r rs S m)) = true → stN ws r rs S m' = subL (stN ws r rs S m) fun p => aheadL (stN ws r rs S m) (cntR ws r (keysL (stN ws r rs S m)) rs) * cntR ws r (keysL (stN ws r rs S m)) rs p) :
    (stN ws r rs S (m' + rs.length)).length < (stN ws r rs S m).length := by
  have hrun : stN ws r rs S (m' + rs.length) = runL ws r rs (stN ws r rs S m') := by
    rw [stN_run hm' rs.length (Nat.le_refl _), List.take_length]
  have hl : 0 < rs.length := List.length_pos_iff.mpr hr
  have sub : (keysL (stN ws r rs S (m' + rs.length))).Sublist (keysL (stN ws r rs S m')) := by rw [hrun]; exact run_keys _ _
  have hle := sub.length_le
  have l1 : ∀ n, (keysL (stN ws r rs S n)).length = (stN ws r rs S n).length := fun n => List.length_map ..
  rw [hk] at hle
  rw [l1, l1] at hle
  rcases Nat.lt_or_ge (stN ws r rs S (m' + rs.length)).length (stN ws r rs S m).length with z | z
  · exact z
  · exfalso
    have e : keysL (stN ws r rs S (m' + rs.length)) = keysL (stN ws r rs S m') := sub.eq_of_length_le (by rw [hk, l1, l1]; exact z)
    have hbt := keys_between (rs := rs) (r := r) (ws := ws) (ls := stN ws r rs S m') (by rw [← hrun]; exact e)
    have all : allF ws r rs (keysL (stN ws r rs S m)) = true := by
      refine List.all_eq_true.mpr fun h hh => ?_
      obtain ⟨i, hi⟩ := List.mem_iff_getElem?.mp hh
      have hil := (List.getElem?_eq_some_iff.mp hi).1
      have h1 := hf (m' + i) (by omega)
      unfold fdN at h1
      rw [stN_run hm' i (by omega), hbt i (by omega), hk] at h1
      have h2 := rq_at hm' hil
      rw [hi] at h2
      rw [Option.some.inj h2]
      exact h1
    have h3 := ha all
    have hne : keysL (stN ws r rs S m) ≠ [] := by
      obtain ⟨h, hh⟩ := List.exists_mem_of_ne_nil _ hr
      exact fnd_ne (List.all_eq_true.mp all h hh)
    refine ahead_falls (ws := ws) (r := r) (rs := rs) (ls := stN ws r rs S m) hr hne (stN_pos hS m) ?_
    rw [← h3, ← hrun, e, hk]
end
section
local macro_rules | `(tactic| walk_at "sl") => `(tactic| first | assumption | exact SqL.of upd_same | exact SqL.of (by assumption) | ((with_reducible apply sql_upd); (walk_at "sl"); (first | assumption | exact Ne.symm (by assumption))))
local macro_rules | `(tactic| walk_at "st") => `(tactic| first | assumption | exact SqT.of upd_same | exact SqT.of (by assumption))
local macro_rules | `(tactic| walk_at "sc") => `(tactic| first | rfl | assumption | (show (0 : Int) < _; first | assumption | decide | omega) | exact Or.inl ⟨by omega, by omega⟩ | exact Or.inr ⟨by omega, by omega⟩ | exact ⟨by decide, by decide⟩ | exact ⟨by decide, by decide, by decide⟩)
local macro_rules | `(tactic| walk_at "g1") => `(tactic| first
  | refine ⟨(_ : V), rfl, ?_⟩
  | refine ⟨(_ : Bool), rfl, ?_⟩
  | refine ⟨(_ : Int), (_ : Int), rfl, rfl, ?_⟩
  | refine ⟨(_ : Int), rfl, ?_⟩
  | refine ⟨(_ : Str), rfl, ?_⟩
  | refine ⟨(_ : Addr), (_ : List V), rfl, Or.inl (by walk_at "sl"), ?_⟩
  | refine ⟨(_ : Addr), (_ : List V), rfl, Or.inr (by walk_at "st"), ?_⟩
  | refine ⟨(_ : Addr), (_ : List V), (_ : Int), (_ : V), rfl, rfl, (by walk_at "sl"), (by first | rfl | assumption), ?_⟩
  | refine ⟨(_ : Addr), (_ : List V), (_ : Int), (_ : V), rfl, rfl, (by walk_at "st"), (by first | rfl | assumption), ?_⟩
  | refine ⟨(_ : Addr), (_ : List V), (_ : Int), (_ : Nat), rfl, rfl, upd_same, rfl, ?_⟩
  | refine ⟨(_ : Addr), (_ : List V), (_ : Int), (_ : Nat), rfl, rfl, (by assumption), rfl, ?_⟩
  | refine ⟨(_ : Addr), (_ : Addr), (_ : Addr), (_ : List (Str × V)), (_ : V), rfl, (by assumption), (by assumption), (by assumption), (by first | assumption | rfl), ?_⟩
  | refine Or.inl ⟨(_ : Int), rfl, ?_⟩
  | refine And.intro (by walk_at "sc") ?_
  | refine iteT ?_
  | refine iteF ?_)
def ServedIs (ws : List Str) (r : Str) (rs : List Str) (S : Int) (v : V) : Prop := (rs = [] ∧ v = .non) ∨ (rs ≠ [] ∧ ∃ n : Nat, v = .int ((n : Nat) : Int) ∧ (∀ j < n, fdN ws r rs S j = true) ∧ fdN ws r rs S n = false)
def spSV (K : PySem.W.Frag) (D C : Addr) : Sp := fun vs H Q _ => ∃ (d b : Addr) (cs : List CD) (r : Str) (rs : List Str) (S : Int), vs = [.ref d, .str r, .ref b, .int S] ∧ DrawerAt K D C H d cs ∧ cs.length ≤ 100 ∧ r ∈ rules3 ∧ SqT K H b (rs.map V.str) ∧ rs.length ≤ 12 ∧ (∀ x ∈ rs, isWord x = true) ∧ 1 ≤ S ∧ S ≤ bigN ∧
  ∀ v H', Same H H' → ServedIs (heads cs) r rs S v → Q v H'
theorem st0_put (S : Int) (i : Nat) : putK (dvs (st0 i S)) (Sum.inl ((i : Nat) : Int)) (.int S) = dvs (st0 (i + 1) S) := by
  rw [dvs_put (fun h => by rw [st0_keys] at h; exact absurd (List.mem_range.mp h) (Nat.lt_irrefl i))]
  unfold st0
  rw [List.range_succ, List.map_append]
  rfl
theorem ok_served (T : Top K mg) : FnOk P w K mg base CX0 5 T.a_served T.fd_served ["drawer", "rule", "requests", "strength"] (spSV K T.c_Drawer T.c_Card) := by
  refine T.F_served.ok sc_served (fun vs H Q E h => ?_) (fun cdv A outer s H vs Q E hr h => ?_)
  · obtain ⟨d, b, cs, r, rs, S, rfl, _⟩ := h
    rfl
  · obtain ⟨d, b, cs, r, rs, S, rfl, hD, hl, hrr, hB, hrl, hw, hS1, hS2, k⟩ := h
    have hu := hu_of hr
    refine ⟨_, (pss_cons (ps_expr (pe_call (ok_check_wear T) (hr.mono (by decide)) (by rfl) T.g_check_wear T.F_check_wear.kp (b_check_wear T) .nil pass0 (pa_cons (pv 1) (pa_cons (pv 2) (pa_cons (pv 3) pa_nil)))))
      (pss_cons (ps_if (pt_not (pt_truth (pv 2) (by intro _; rfl))) (pss_one (ps_ret pe_non)) pss_nil)
      (pss_cons (ps_set (i := 4) sc_served.nd rfl (.inl rfl) (pe_call (ok_headings_along T) (hr.mono (by decide)) (by rfl) T.g_headings_along T.F_headings_along.kp (b_headings_along T) .nil pass0 (pa_cons (pv 0) pa_nil)))
      (pss_cons (ps_setDcF (i := 5) (own := [("place", 10)]) (g := gName 10) (tt := tYes) rfl sc_served.nd rfl rfl (sw_trueD rfl rfl rfl (by decide +kernel)) (pi_range1 (by rfl) T.m_range (pa_cons (pe_callB call_len_seq (by rfl) T.m_len (by decide +kernel) (pa_cons (pv 4) pa_nil)) pa_nil)) (blkOk_by (N := N_served) (sc := defScope s_served) (by decide +kernel)) (fun _ _ _ _ _ => (pg_name (i := 10) sc_served.nd rfl (.inl rfl))) (fun _ _ _ _ _ => pts_nil) (fun _ _ _ _ _ => (pv 10)) (fun _ _ _ _ _ => (pv 3)))
      (pss_cons (ps_set (i := 6) sc_served.nd rfl (.inl rfl) pe_int)
      (pss_one (ps_while PassesOwn.never (pt_val pe_bl)
        (pss_cons (ps_mid (ps_if (pt_val (pe_call (ok_finds_all T) (hr.mono (by decide)) (by rfl) T.g_finds_all T.F_finds_all.kp (b_finds_all T) .nil pass0 (pa_cons (pe_call (ok_headings_left T) (hr.mono (by decide)) (by rfl) T.g_headings_left T.F_headings_left.kp (b_headings_left T) .nil pass0 (pa_cons (pv 4) (pa_cons (pv 5) pa_nil))) (pa_cons (pv 1) (pa_cons (pv 2) pa_nil))))) (pss_cons (ps_asg (pe_call (ok_rounds_ahead T) (hr.mono (by decide)) (by rfl) T.g_rounds_ahead T.F_rounds_ahead.kp (b_rounds_ahead T) .nil pass0 (pa_cons (pv 4) (pa_cons (pv 1) (pa_cons (pv 2) (pa_cons (pv 5) pa_nil))))) (pg_tup rfl (pgs_cons (pg_name (i := 7) sc_served.nd rfl (.inl rfl)) (pgs_cons (pg_name (i := 5) sc_served.nd rfl (.inl rfl)) pgs_nil))))
          (pss_one (ps_aug (i := 6) sc_served.nd rfl (.inl rfl) (pe_op op_mulW (pv 7) (pe_callB call_len_seq (by rfl) T.m_len (by decide +kernel) (pa_cons (pv 2) pa_nil))) ip_add))) pss_nil))
        (pss_one (ps_for PassesOwn.never rfl (pi_tup (pv 2)) (pg_name (i := 8) sc_served.nd rfl (.inl rfl))
          (pss_cons (ps_asg (pe_call (ok_request_worn T) (hr.mono (by decide)) (by rfl) T.g_request_worn T.F_request_worn.kp (b_request_worn T) .nil pass0 (pa_cons (pv 4) (pa_cons (pv 1) (pa_cons (pv 8) (pa_cons (pv 5) pa_nil))))) (pg_tup rfl (pgs_cons (pg_name (i := 9) sc_served.nd rfl (.inl rfl)) (pgs_cons (pg_name (i := 5) sc_served.nd rfl (.inl rfl)) pgs_nil))))
          (pss_cons (ps_if (pt_not (pt_val (pv 9))) (pss_one (ps_ret (pv 6))) pss_nil)
          (pss_one (ps_aug (i := 6) sc_served.nd rfl (.inl rfl) pe_int ip_add)))))))))))))), ?_⟩
    refine ⟨_, rfl, _, rfl, _, rfl, b, r, rs, S, rfl, hrr, hB, hrl, hw, hS1, hS2, fun H1 s1 => ?_⟩
    have D1 := hD.imm s1.imm
    have B1 := s1.seqT hB
    refine ⟨_, rfl, _, .inr (.inl ⟨_, B1, rfl⟩), ?_⟩
    cases hrs : rs with
    | nil =>
      refine iteT ?_
      exact k .non H1 s1 (.inl ⟨hrs, rfl⟩)
    | cons h0 t0 =>
    have hne : rs ≠ [] := by rw [hrs]; exact List.cons_ne_nil _ _
    refine iteF ?_
    clear hrs h0 t0
    refine ⟨_, rfl, d, cs, rfl, D1, by omega, fun tw H2 s2 hfr hW => ?_⟩
    have A2 : SqT K H2 tw ((heads cs).map V.str) := SqT.of hW
    have hlw : (heads cs).length ≤ 100 := by unfold heads; rw [List.length_map]; exact hl
    have s02 := s1.trans s2
    have B2 := s2.seqT B1
    generalize heads cs = ws at *
    clear hfr hD D1 hW B1 hB s1 s2 hl H1
    refine ⟨_, rfl, tw, _, rfl, .inr A2, ws.length, (by rw [List.length_map]), by omega, by omega, fun D3 hD3 => dc_it (walk_range (n := ws.length)) (fun i H' => Same H2 H' ∧ H' D3 = some (.dK (dvs (st0 i S)))) ⟨same_new hD3, upd_same⟩ (fun _ _ _ _ => trivial) (fun i x H' H'' hi hP hy => ?_) (fun H3 hP => ?_)⟩
    · obtain ⟨s3, d3⟩ := hP
      obtain ⟨rfl, rfl⟩ := hy
      refine ⟨rfl, tYes_of ?_⟩
      refine ⟨_, rfl, _, rfl, _, Sum.inl ((i : Nat) : Int), (show V.int (0 + ((i : Nat) : Int)) = V.int ((i : Nat) : Int) from by rw [Int.zero_add]), d3, sizeLine_of ?_, same_mut s3 hD3, ?_⟩
      · rw [dvs_len]
        unfold st0
        rw [List.length_map, List.length_range]
        omega
      · rw [upd_same, st0_put]
    · obtain ⟨s3, d3⟩ := hP
      refine ⟨D3, _, rfl, d3, trivial, fun od' => ?_⟩
      have s4 : Same H2 (upd H3 D3 (.frz od' (.dK (dvs (st0 ws.length S))))) := fun b o hb => by
        rw [upd_ne (ne_of_none hb hD3)]
        exact s3 _ _ hb
      have f4 : LeftF (upd H3 D3 (.frz od' (.dK (dvs (st0 ws.length S))))) D3 (stN ws r rs S 0) := ⟨od', upd_same⟩
      generalize upd H3 D3 (.frz od' (.dK (dvs (st0 ws.length S)))) = H4 at *
      have A4 := s4.seqT A2
      have B4 := s4.seqT B2
      have s04 := s02.trans s4
      clear s3 d3 s4 hD3 A2 B2 s02 H2 H3
      refine ⟨fun n σ H' => ∃ (m : Nat) (q : Addr) (y7 y8 y9 : Option V), n = (stN ws r rs S m).length ∧ σ = [some (.ref d), some (.str r), some (.ref b), some (.int S), some (.ref tw), some (.ref q), some (.int ((m : Nat) : Int)), y7, y8, y9, none] ∧ Same H4 H' ∧ LeftF H' q (stN ws r rs S m) ∧ rs.length ∣ m ∧ ∀ j < m, fdN ws r rs S j = true, ⟨_, 0, D3, _, _, _, rfl, rfl, Same.refl _, f4, Nat.dvd_zero _, fun j hj => absurd hj (Nat.not_lt_zero j)⟩, ?_⟩
      rintro n σ H5 ⟨m, q, y7, y8, y9, rfl, rfl, s5, f5, hm, hd⟩
      have A5 := s5.seqT A4
      have B5 := s5.seqT B4
      have nd := stN_nodup ws r rs S m
      have hlt : ∀ k ∈ keysL (stN ws r rs S m), k < ws.length := fun k hk => st_lt hk
      have hln : (stN ws r rs S m).length ≤ 100 := Nat.le_trans (st_len ws r rs S m) hlw
      refine ⟨_, rfl, iteT ?_⟩
      refine ⟨fun σ' H' => ∃ m', m' < (stN ws r rs S m).length ∧ ∃ (mm : Nat) (q : Addr) (y7 y8 y9 : Option V), m' = (stN ws r rs S mm).length ∧ σ' = [some (.ref d), some (.str r), some (.ref b), some (.int S), some (.ref tw), some (.ref q), some (.int ((mm : Nat) : Int)), y7, y8, y9, none] ∧ Same H4 H' ∧ LeftF H' q (stN ws r rs S mm) ∧ rs.length ∣ mm ∧ ∀ j < mm, fdN ws r rs S j = true, fun σ' H' h => h, ?_⟩
      refine ⟨fun σ' H' => ∃ (m' : Nat) (q' : Addr) (y7 : Option V), σ' = [some (.ref d), some (.str r), some (.ref b), some (.int S), some (.ref tw), some (.ref q'), some (.int ((m' : Nat) : Int)), y7, y8, y9, none] ∧ Same H5 H' ∧ LeftF H' q' (stN ws r rs S m') ∧ rs.length ∣ m' ∧ (∀ j < m', fdN ws r rs S j = true) ∧ keysL (stN ws r rs S m') = keysL (stN ws r rs S m) ∧
        (allF ws r rs (keysL (stN ws r rs S m)) = true → stN ws r rs S m' = subL (stN ws r rs S m) fun p => aheadL (stN ws r rs S m) (cntR ws r (keysL (stN ws r rs S m)) rs) * cntR ws r (keysL (stN ws r rs S m)) rs p), ?_, fun σ' H' h => ?_⟩
      · refine ⟨_, rfl, _, rfl, tw, q, ws, _, rfl, A5, f5, hlt, hln, fun th H6 s6 hth => ?_⟩
        refine ⟨_, rfl, _, rfl, th, b, hdsL ws (keysL (stN ws r rs S m)), rs, r, rfl, hth, s6.seqT B5, by rw [hds_len]; exact Nat.le_trans (by unfold keysL; rw [List.length_map]; exact hln) (by decide), fun H7 s7 => ?_⟩
        have s57 := s6.trans s7
        have eall : (rs.all fun h => (seekOf (hdsL ws (keysL (stN ws r rs S m))) r h).1.isSome) = allF ws r rs (keysL (stN ws r rs S m)) := rfl
        rw [eall]
        cases hal : allF ws r rs (keysL (stN ws r rs S m)) with
        | false =>
          refine ⟨_, rfl, iteF ?_⟩
          exact ⟨m, q, _, rfl, s57, f5.same s57, hm, hd, rfl, fun z => nomatch z⟩
        | true =>
          refine ⟨_, rfl, iteT ?_⟩
          have A7 := s57.seqT A5
          have B7 := s57.seqT B5
          have hpos : ∀ p ∈ stN ws r rs S m, 0 < p.2 ∧ p.2 ≤ bigN := fun p hp => ⟨stN_pos hS1 m p hp, Int.le_trans (st_le ws r rs S m p hp) hS2⟩
          refine ⟨_, rfl, _, rfl, _, rfl, _, rfl, tw, b, q, ws, rs, r, _, rfl, A7, B7, f5.same s57, nd, hlt, hln, by omega, hpos, fun t q' H8 s8 ht f8 => ?_⟩
          refine ⟨t, _, rfl, ht, rfl, _, _, rfl, _, _, rfl, rfl, ?_⟩
          have hah := ahead_le (ls := stN ws r rs S m) (fun p => cnt_ge ws r (keysL (stN ws r rs S m)) rs p) fun p hp => (hpos p hp).1
          obtain ⟨kk, hkk⟩ := Int.eq_ofNat_of_zero_le hah.1
          have hsk := skip_ok (S := S) hne hS1 hm hd hal (k := kk) fun p hp => by
            have := hah.2 p hp
            rw [hkk] at this
            exact this
          have B8 := s8.seqT B7
          have hkb : ((kk : Nat) : Int) ≤ bigN := by
            rw [← hkk]
            obtain ⟨h, hh⟩ := List.exists_mem_of_ne_nil _ hne
            obtain ⟨p, hp, hf, _⟩ := ahead_at (cnt_pos (ws := ws) (r := r) (ks := keysL (stN ws r rs S m)) hne (fnd_ne (List.all_eq_true.mp hal h hh)))
            have h1 := hah.2 p hp
            have h2 := (hpos p hp).2
            have h3 : aheadL (stN ws r rs S m) (cntR ws r (keysL (stN ws r rs S m)) rs) * 1 ≤ aheadL (stN ws r rs S m) (cntR ws r (keysL (stN ws r rs S m)) rs) * cntR ws r (keysL (stN ws r rs S m)) rs p.1 := Int.mul_le_mul_of_nonneg_left (by omega) hah.1
            rw [Int.mul_one] at h3
            omega
          rw [hkk] at f8
          refine ⟨_, rfl, _, rfl, _, rfl, b, _, rfl, .inr B8, ?_⟩
          rw [hkk, List.length_map]
          refine rI_of (wide_mul (a := 64) (b := 64) (pow_big (Int.natCast_nonneg _) hkb) (by omega) (by decide) (by decide) (by decide)) rfl ?_
          refine ⟨_, _, rfl, rfl, ?_⟩
          refine ⟨m + kk * rs.length, q', some (.int ((kk : Nat) : Int)), ?_, s57.trans s8, ?_, hsk.1, hsk.2.2, ?_, ?_⟩
          · show [some (.ref d), some (.str r), some (.ref b), some (.int S), some (.ref tw), some (.ref q'), some (.int ((m : Int) + (kk : Int) * ((rs.length : Nat) : Int))), some (.int ((kk : Nat) : Int)), y8, y9, none] = _
            rw [Int.natCast_add, Int.natCast_mul]
          · rw [hsk.2.1]
            exact f8
          · rw [hsk.2.1, sub_keys]
          · intro _
            exact hsk.2.1
      · obtain ⟨m', q', y7', rfl, s6, f6, hm', hd', hk', ha'⟩ := h
        have B6 := s6.seqT B5
        refine ⟨_, rfl, b, rfl, ⟨_, B6⟩, for_tup (K := K) (a := b) (xs := rs.map V.str) (fun i σ H7 => ∃ (q : Addr) (y8 y9 : Option V), σ = [some (.ref d), some (.str r), some (.ref b), some (.int S), some (.ref tw), some (.ref q), some (.int ((m' + i : Nat) : Int)), y7', y8, y9, none] ∧ Same H' H7 ∧ LeftF H7 q (stN ws r rs S (m' + i)) ∧ ∀ j < m' + i, fdN ws r rs S j = true) ⟨_, _, _, rfl, Same.refl _, f6, hd'⟩ (fun i σ H7 _ ⟨_, _, _, _, s7, _⟩ => s7.seqT B6) (fun i x σ H7 hi hP => ?_) (fun σ H7 hP => ?_)⟩
        · obtain ⟨q7, z8, z9, rfl, s7, f7, hd7⟩ := hP
          rw [List.getElem?_map] at hi
          obtain ⟨h, hhi, rfl⟩ := Option.map_eq_some_iff.mp hi
          have hil := (List.getElem?_eq_some_iff.mp hhi).1
          have hrq : h = rq rs (m' + i) := by
            have := rq_at hm' hil
            rw [hhi] at this
            exact Option.some.inj this
          have A7 := (s6.trans s7).seqT A5
          refine ⟨_, rfl, _, rfl, _, rfl, _, rfl, tw, q7, ws, r, h, _, rfl, A7, f7, stN_nodup ws r rs S _, fun k hk => st_lt hk, Nat.le_trans (st_len ws r rs S _) hlw, fun t q' H8 s8 ht f8 => ?_⟩
          refine ⟨t, _, rfl, ht, rfl, _, _, rfl, _, _, rfl, rfl, ?_⟩
          have efd : fndN ws r h (keysL (stN ws r rs S (m' + i))) = fdN ws r rs S (m' + i) := by rw [hrq]; rfl
          rw [efd]
          have est : stepL ws r h (stN ws r rs S (m' + i)) = stN ws r rs S (m' + i + 1) := by rw [hrq]; rfl
          rw [est] at f8
          cases hfd : fdN ws r rs S (m' + i) with
          | false =>
            refine ⟨_, rfl, _, rfl, iteT ?_⟩
            refine ⟨_, rfl, ?_⟩
            exact k _ H8 (((s04.trans s5).trans s6).trans (s7.trans s8)) (.inr ⟨hne, m' + i, rfl, hd7, hfd⟩)
          | true =>
            refine ⟨_, rfl, _, rfl, iteF ?_⟩
            refine ⟨_, rfl, _, _, rfl, rfl, ?_⟩
            refine ⟨q', some (.str h), some (.bl true), ?_, s7.trans s8, f8, fun j hj => ?_⟩
            · rfl
            · rcases Nat.lt_or_ge j (m' + i) with z | z
              · exact hd7 j z
              · rw [show j = m' + i by omega]
                exact hfd
        · obtain ⟨q7, z8, z9, rfl, s7, f7, hd7⟩ := hP
          rw [List.length_map] at f7 hd7 ⊢
          exact ⟨_, round_falls hne hS1 hm' hk' hd7 ha', m' + rs.length, q7, _, _, _, rfl, rfl, (s5.trans s6).trans s7, f7, Nat.dvd_add hm' (Nat.dvd_refl _), hd7⟩
end
section
local macro_rules | `(tactic| walk_at "sl") => `(tactic| first | assumption | exact SqL.of upd_same | exact SqL.of (by assumption) | ((with_reducible apply sql_upd); (walk_at "sl"); (first | assumption | exact Ne.symm (by assumption))))
local macro_rules | `(tactic| walk_at "st") => `(tactic| first | assumption | exact SqT.of upd_same | exact SqT.of (by assumption))
local macro_rules | `(tactic| walk_at "sc") => `(tactic| first | rfl | assumption | (show (0 : Int) < _; first | assumption | decide | omega) | exact Or.inl ⟨by omega, by omega⟩ | exact Or.inr ⟨by omega, by omega⟩ | exact ⟨by decide, by decide⟩ | exact ⟨by decide, by decide, by decide⟩)
local macro_rules | `(tactic| walk_at "g1") => `(tactic| first
  | refine ⟨(_ : V), rfl, ?_⟩
  | refine ⟨(_ : Bool), rfl, ?_⟩
  | refine ⟨(_ : Int), (_ : Int), rfl, rfl, ?_⟩
  | refine ⟨(_ : Int), rfl, ?_⟩
  | refine ⟨(_ : Str), rfl, ?_⟩
  | refine ⟨(_ : Addr), (_ : List V), rfl, Or.inl (by walk_at "sl"), ?_⟩
  | refine ⟨(_ : Addr), (_ : List V), rfl, Or.inr (by walk_at "st"), ?_⟩
  | refine ⟨(_ : Addr), (_ : List V), (_ : Int), (_ : V), rfl, rfl, (by walk_at "sl"), (by first | rfl | assumption), ?_⟩
  | refine ⟨(_ : Addr), (_ : List V), (_ : Int), (_ : V), rfl, rfl, (by walk_at "st"), (by first | rfl | assumption), ?_⟩
  | refine ⟨(_ : Addr), (_ : List V), (_ : Int), (_ : Nat), rfl, rfl, upd_same, rfl, ?_⟩
  | refine ⟨(_ : Addr), (_ : List V), (_ : Int), (_ : Nat), rfl, rfl, (by assumption), rfl, ?_⟩
  | refine ⟨(_ : Addr), (_ : Addr), (_ : Addr), (_ : List (Str × V)), (_ : V), rfl, (by assumption), (by assumption), (by assumption), (by first | assumption | rfl), ?_⟩
  | refine Or.inl ⟨(_ : Int), rfl, ?_⟩
  | refine And.intro (by walk_at "sc") ?_
  | refine iteT ?_
  | refine iteF ?_)
/-! ### the law's own rule and entry -/
def spPRule (K : PySem.W.Frag) : Sp := fun vs H Q _ => ∃ (rw sc : Addr) (ns : List Int), vs = [.ref rw] ∧ RowAt K H rw sc ns ∧ ∀ (r : Str) (H' : Hp), r ∈ rules3 → But rw H H' → RowAt K H' rw sc ns → Q (.str r) H'
theorem ok_llaw_rule (T : Top K mg) : FnOk P w K mg base CX0 2 T.a_llaw_rule T.fd_llaw_rule ["_law_row"] (spPRule K) := by
  refine T.F_llaw_rule.ok sc_llaw_rule (fun vs H Q E h => ?_) (fun cdv A outer s H vs Q E hr h => ?_)
  · obtain ⟨rw, sc, ns, rfl, _⟩ := h
    rfl
  · obtain ⟨rw, sc, ns, rfl, hR, k⟩ := h
    have hu := hu_of hr
    refine ⟨_, (pss_one (ps_ret (pe_ix ix_list (pe_lst (pa_cons pe_str (pa_cons pe_str (pa_cons pe_str pa_nil)))) (pe_call (ok_llaw_taken T) (hr.mono (by decide)) (by rfl) T.g_llaw_taken T.F_llaw_taken.kp (b_llaw_taken T) .nil pass0 (pa_cons (pv 0) (pa_cons pe_int pa_nil))) (fun _ _ => rfl)))), ?_⟩
    refine ⟨by show 3 ≤ sizeLine; decide, fun l hl => ?_⟩
    have R1 : RowAt K (upd H l (.lst [.str "all", .str "half", .str "leaf"])) rw sc ns := hR.same (same_new hl)
    have b1 : But rw H (upd H l (.lst [.str "all", .str "half", .str "leaf"])) := (same_new hl).but
    have e1 : (upd H l (.lst [.str "all", .str "half", .str "leaf"])) l = some (.lst [.str "all", .str "half", .str "leaf"]) := upd_same
    have nl : l ≠ rw := (hR.new hl).1
    generalize upd H l (.lst [.str "all", .str "half", .str "leaf"]) = H1 at *
    refine ⟨_, rfl, rw, sc, ns, 3, rfl, by decide, by decide, R1, fun n H2 hn b2 R2 => ?_⟩
    have e2 := b2 _ _ e1 nl
    have h3 : n = 0 ∨ n = 1 ∨ n = 2 := by omega
    rcases h3 with rfl | rfl | rfl
    · exact ⟨l, _, (0 : Nat), .str "all", rfl, rfl, SqL.of e2, atI_nat rfl, k "all" H2 (by unfold rules3; simp) (b1.trans b2) R2⟩
    · exact ⟨l, _, (1 : Nat), .str "half", rfl, rfl, SqL.of e2, atI_nat rfl, k "half" H2 (by unfold rules3; simp) (b1.trans b2) R2⟩
    · exact ⟨l, _, (2 : Nat), .str "leaf", rfl, rfl, SqL.of e2, atI_nat rfl, k "leaf" H2 (by unfold rules3; simp) (b1.trans b2) R2⟩
end
section
local macro_rules | `(tactic| walk_at "sl") => `(tactic| first | assumption | exact SqL.of upd_same | exact SqL.of (by assumption) | ((with_reducible apply sql_upd); (walk_at "sl"); (first | assumption | exact Ne.symm (by assumption))))
local macro_rules | `(tactic| walk_at "st") => `(tactic| first | assumption | exact SqT.of upd_same | exact SqT.of (by assumption))
local macro_rules | `(tactic| walk_at "sc") => `(tactic| first | rfl | assumption | (show (0 : Int) < _; first | assumption | decide | omega) | exact Or.inl ⟨by omega, by omega⟩ | exact Or.inr ⟨by omega, by omega⟩ | exact ⟨by decide, by decide⟩ | exact ⟨by decide, by decide, by decide⟩)
local macro_rules | `(tactic| walk_at "g1") => `(tactic| first
  | refine ⟨(_ : V), rfl, ?_⟩
  | refine ⟨(_ : Bool), rfl, ?_⟩
  | refine ⟨(_ : Int), (_ : Int), rfl, rfl, ?_⟩
  | refine ⟨(_ : Int), rfl, ?_⟩
  | refine ⟨(_ : Str), rfl, ?_⟩
  | refine ⟨(_ : Addr), (_ : List V), rfl, Or.inl (by walk_at "sl"), ?_⟩
  | refine ⟨(_ : Addr), (_ : List V), rfl, Or.inr (by walk_at "st"), ?_⟩
  | refine ⟨(_ : Addr), (_ : List V), (_ : Int), (_ : V), rfl, rfl, (by walk_at "sl"), (by first | rfl | assumption), ?_⟩
  | refine ⟨(_ : Addr), (_ : List V), (_ : Int), (_ : V), rfl, rfl, (by walk_at "st"), (by first | rfl | assumption), ?_⟩
  | refine ⟨(_ : Addr), (_ : List V), (_ : Int), (_ : Nat), rfl, rfl, upd_same, rfl, ?_⟩
  | refine ⟨(_ : Addr), (_ : List V), (_ : Int), (_ : Nat), rfl, rfl, (by assumption), rfl, ?_⟩
  | refine ⟨(_ : Addr), (_ : Addr), (_ : Addr), (_ : List (Str × V)), (_ : V), rfl, (by assumption), (by assumption), (by assumption), (by first | assumption | rfl), ?_⟩
  | refine Or.inl ⟨(_ : Int), rfl, ?_⟩
  | refine And.intro (by walk_at "sc") ?_
  | refine iteT ?_
  | refine iteF ?_)
/-! ### the law's own words and rounds -/
def spWordsL (K : PySem.W.Frag) : Sp := fun vs H Q _ => ∃ (rw sc : Addr) (ns : List Int) (m : Nat), vs = [.ref rw, .int (m : Nat)] ∧ m ≤ 16 ∧ RowAt K H rw sc ns ∧ ∀ t (rs : List Str) H', But rw H H' → RowAt K H' rw sc ns → SqT K H' t (rs.map V.str) → rs.length ≤ m → (∀ x ∈ rs, x ∈ w6) → Q (.ref t) H'
theorem ok_llaw_words (T : Top K mg) : FnOk P w K mg base CX0 2 T.a_llaw_words T.fd_llaw_words ["_law_row", "_law_most"] (spWordsL K) := by
  refine T.F_llaw_words.ok sc_llaw_words (fun vs H Q E h => ?_) (fun cdv A outer s H vs Q E hr h => ?_)
  · obtain ⟨rw, sc, ns, m, rfl, _⟩ := h
    rfl
  · obtain ⟨rw, sc, ns, m, rfl, hm, hR, k⟩ := h
    have hu := hu_of hr
    refine ⟨_, (pss_cons (ps_set (i := 2) sc_llaw_words.nd rfl (.inr rfl) (pe_lst (pa_cons pe_str (pa_cons pe_str (pa_cons pe_str (pa_cons pe_str (pa_cons pe_str (pa_cons pe_str pa_nil))))))))
      (pss_one (ps_ret (pe_callTy call_tuple_of (by rfl) T.m_tuple (by decide +kernel) (pa_cons (pe_lc (own := [("_law_k", 3)]) (g := gName 3) (tt := tYes) rfl sc_llaw_words.nd (pi_range1 (by rfl) T.m_range (pa_cons (pe_call (ok_llaw_taken T) (hr.mono (by decide)) (by rfl) T.g_llaw_taken T.F_llaw_taken.kp (b_llaw_taken T) .nil pass0 (pa_cons (pv 0) (pa_cons (pe_op op_add (pv 1) pe_int) pa_nil))) pa_nil)) (blkOk_by (N := N_llaw_words) (sc := defScope s_llaw_words) (by decide +kernel)) (fun _ _ _ _ _ => (pg_name (i := 3) sc_llaw_words.nd rfl (.inl rfl))) (fun _ _ _ _ _ => pts_nil) (fun _ _ _ _ _ => (pe_ix (ix_listK (K := K) rfl) (pv 2) (pe_call (ok_llaw_taken T) (hr.mono (by decide)) (by rfl) T.g_llaw_taken T.F_llaw_taken.kp (b_llaw_taken T) .nil pass0 (pa_cons (pv 0) (pa_cons pe_int pa_nil))) (fun _ _ => rfl)))) pa_nil))))), ?_⟩
    refine ⟨by show 6 ≤ sizeLine; decide, fun ln hln => ?_⟩
    have R1 : RowAt K (upd H ln (.lst (w6.map V.str))) rw sc ns := hR.same (same_new hln)
    have e1 : (upd H ln (.lst (w6.map V.str))) ln = some (.lst (w6.map V.str)) := upd_same
    have nl : ln ≠ rw := (hR.new hln).1
    have b1 : But rw H (upd H ln (.lst (w6.map V.str))) := (same_new hln).but
    show gName 2 (.ref ln) (L2.start N_llaw_words [V.ref rw, V.int (m : Nat)]) (upd H ln (.lst (w6.map V.str))) _
    generalize upd H ln (.lst (w6.map V.str)) = H1 at *
    refine ⟨_, rfl, _, rfl, _, _, rfl, rfl, ?_⟩
    refine ⟨rw, sc, ns, (m : Int) + 1, rfl, by omega, by omega, R1, fun n H2 hn b2 R2 => ?_⟩
    refine ⟨_, rfl, by omega, by omega, fun D hD => ?_⟩
    have nD := R2.new hD
    have e2 := b2 _ _ e1 nl
    have hlD : ln ≠ D := fun e => by rw [e, hD] at e2; cases e2
    refine lc_it (walk_range (n := n)) (fun i H3 => But rw H2 H3 ∧ RowAt K H3 rw sc ns ∧ ∃ rs : List Str, rs.length = i ∧ H3 D = some (.lst (rs.map V.str)) ∧ ∀ x ∈ rs, x ∈ w6)
      ⟨(same_new hD).but, R2.same (same_new hD), [], rfl, upd_same, fun _ h => nomatch h⟩ (fun _ _ _ _ => trivial) (fun i x H3 H4 hi hP hy => ?_) (fun H3 hP => ?_)
    · obtain ⟨b3, R3, rs, hl, e3, hw⟩ := hP
      obtain ⟨rfl, rfl⟩ := hy
      refine ⟨rfl, tYes_of ?_⟩
      have eln := b3 _ _ e2 nl
      refine ⟨_, rfl, _, rfl, rw, sc, ns, 6, rfl, by decide, by decide, R3, fun n5 H5 hn5 b5 R5 => ?_⟩
      have hn5 : n5 < w6.length := by show n5 < 6; omega
      have hz : w6[n5]? = some w6[n5] := List.getElem?_eq_getElem hn5
      have hzm : w6[n5] ∈ w6 := List.getElem_mem hn5
      refine ⟨ln, _, (n5 : Nat), .str w6[n5], rfl, rfl, SqL.of (b5 _ _ eln nl), atI_nat (by rw [List.getElem?_map, hz]; rfl), ?_⟩
      generalize w6[n5] = z at *
      have e5 := b5 _ _ e3 nD.1
      refine ⟨_, e5, sizeLine_of (by rw [List.length_map]; omega), but_mut (b3.trans b5) hD, R5.mut nD, rs ++ [z], by rw [List.length_append, hl]; rfl, by rw [upd_same, List.map_append]; rfl, fun x hx => ?_⟩
      rcases List.mem_append.mp hx with h | h
      · exact hw x h
      · rw [List.mem_singleton.mp h]
        exact hzm
    · obtain ⟨b3, R3, rs, hl, e3, hw⟩ := hP
      refine ⟨D, _, rfl, .inl ⟨SqL.of e3, fun t ht => ?_⟩⟩
      exact k t rs _ ((b1.trans b2).trans (b3.trans (same_new ht).but)) (R3.same (same_new ht)) (SqT.of upd_same) (by omega) hw
/-- all stands but some lists that change -/
structure Chg (ms : List Addr) (H H' : Hp) : Prop where
  s : ∀ b o, H b = some o → b ∉ ms → H' b = some o
abbrev intV (k : Nat) : V := .int ((k : Nat) : Int)
theorem dpAll_nats {H : Hp} : ∀ o : List Nat, DpAll K H (o.map intV) ((o.map fun (k : Nat) => ((k : Nat) : Int)).map PyData.int)
  | [] => .nil
  | _ :: o => .cons (.int _) (dpAll_nats o)
def natD (o : List Nat) : PyData := .list ((o.map fun (k : Nat) => ((k : Nat) : Int)).map PyData.int)
theorem natD_eqv (a b : List Nat) : (natD a).eqv (natD b) = decide (a = b) := by
  show PyData.eqvAll _ _ = _
  rw [eqv_ints]
  have inj : ∀ {a b : List Nat}, (a.map fun (k : Nat) => ((k : Nat) : Int)) = (b.map fun (k : Nat) => ((k : Nat) : Int)) → a = b := fun {a} => by
    induction a with
    | nil => intro b h; cases b with
      | nil => rfl
      | cons _ _ => cases h
    | cons x a ih => intro b h; cases b with
      | nil => cases h
      | cons y b =>
        obtain ⟨h1, h2⟩ := List.cons.inj h
        rw [ih h2, Int.ofNat.inj h1]
  by_cases h : a = b
  · rw [h, decide_eq_true rfl, decide_eq_true rfl]
  · rw [decide_eq_false h, decide_eq_false fun e => h (inj e)]
theorem natD_plain : ∀ o : List Nat, (natD o).plain = true := fun o => by
  show PyData.plainAll _ = true
  induction o with
  | nil => rfl
  | cons a o ih => exact ih
theorem natD_depth (o : List Nat) : (natD o).depth ≤ 32 := by
  show PyData.depthAll _ + 1 ≤ 32
  rw [dep_ints]
  decide
end
section
local macro_rules | `(tactic| walk_at "sl") => `(tactic| first | assumption | exact SqL.of upd_same | exact SqL.of (by assumption) | ((with_reducible apply sql_upd); (walk_at "sl"); (first | assumption | exact Ne.symm (by assumption))))
local macro_rules | `(tactic| walk_at "st") => `(tactic| first | assumption | exact SqT.of upd_same | exact SqT.of (by assumption))
local macro_rules | `(tactic| walk_at "sc") => `(tactic| first | rfl | assumption | (show (0 : Int) < _; first | assumption | decide | omega) | exact Or.inl ⟨by omega, by omega⟩ | exact Or.inr ⟨by omega, by omega⟩ | exact ⟨by decide, by decide⟩ | exact ⟨by decide, by decide, by decide⟩)
local macro_rules | `(tactic| walk_at "g1") => `(tactic| first
  | refine ⟨(_ : V), rfl, ?_⟩
  | refine ⟨(_ : Bool), rfl, ?_⟩
  | refine ⟨(_ : Int), (_ : Int), rfl, rfl, ?_⟩
  | refine ⟨(_ : Int), rfl, ?_⟩
  | refine ⟨(_ : Str), rfl, ?_⟩
  | refine ⟨(_ : Addr), (_ : List V), rfl, Or.inl (by walk_at "sl"), ?_⟩
  | refine ⟨(_ : Addr), (_ : List V), rfl, Or.inr (by walk_at "st"), ?_⟩
  | refine ⟨(_ : Addr), (_ : List V), (_ : Int), (_ : V), rfl, rfl, (by walk_at "sl"), (by first | rfl | assumption), ?_⟩
  | refine ⟨(_ : Addr), (_ : List V), (_ : Int), (_ : V), rfl, rfl, (by walk_at "st"), (by first | rfl | assumption), ?_⟩
  | refine ⟨(_ : Addr), (_ : List V), (_ : Int), (_ : Nat), rfl, rfl, upd_same, rfl, ?_⟩
  | refine ⟨(_ : Addr), (_ : List V), (_ : Int), (_ : Nat), rfl, rfl, (by assumption), rfl, ?_⟩
  | refine ⟨(_ : Addr), (_ : Addr), (_ : Addr), (_ : List (Str × V)), (_ : V), rfl, (by assumption), (by assumption), (by assumption), (by first | assumption | rfl), ?_⟩
  | refine Or.inl ⟨(_ : Int), rfl, ?_⟩
  | refine And.intro (by walk_at "sc") ?_
  | refine iteT ?_
  | refine iteF ?_)
/-! #### first_fallen -/
/-- all cards stand still -/
def whole (ws : List Str) (r : Str) (rs : List Str) (S : Int) (n : Nat) : Prop := keysL (stN ws r rs S n) = List.range ws.length
/-- what falls out in the request that n counts -/
def fallenL (ws : List Str) (r : Str) (rs : List Str) (S : Int) (n : Nat) : List Nat := (List.range ws.length).filter fun k => decide (k ∉ keysL (stN ws r rs S n))
/-- what is told: None, or the first request in which a card falls out and the cards that do -/
def FirstIs (K : PySem.W.Frag) (ws : List Str) (r : Str) (rs : List Str) (S : Int) (v : V) (H : Hp) : Prop :=
  ((rs = [] ∨ ws = []) ∧ v = .non) ∨ (rs ≠ [] ∧ ws ≠ [] ∧ ∃ (n : Nat) (t l : Addr), v = .ref t ∧ SqT K H t [.int ((n : Nat) : Int), .ref l] ∧ H l = some (.lst ((fallenL ws r rs S n).map intV)) ∧ (∀ j < n, whole ws r rs S j) ∧ ¬ whole ws r rs S n)
def spFF (K : PySem.W.Frag) (D C : Addr) : Sp := fun vs H Q _ => ∃ (d b : Addr) (cs : List CD) (r : Str) (rs : List Str) (S : Int), vs = [.ref d, .str r, .ref b, .int S] ∧ DrawerAt K D C H d cs ∧ cs.length ≤ 100 ∧ r ∈ rules3 ∧ SqT K H b (rs.map V.str) ∧ rs.length ≤ 12 ∧ (∀ x ∈ rs, isWord x = true) ∧ 1 ≤ S ∧ S ≤ bigN ∧
  ∀ v H', Same H H' → FirstIs K (heads cs) r rs S v H' → Q v H'
theorem keys_empty {ls : LS} : keysL ls = [] ↔ ls = [] := List.map_eq_nil_iff
theorem whole_empty {ws : List Str} (h : ws = []) (r : Str) (rs : List Str) (S : Int) (n : Nat) : whole ws r rs S n := by
  have := stN_keys ws r rs S n
  unfold whole
  rw [h] at this ⊢
  exact List.sublist_nil.mp this
theorem ff_start {ws : List Str} {r : Str} {rs : List Str} {S : Int} (hS : 1 ≤ S) : ∃ kk : Nat, aheadL (stN ws r rs S 0) (cntR ws r (keysL (stN ws r rs S 0)) rs) = ((kk : Nat) : Int) ∧ stN ws r rs S (kk * rs.length) = subL (stN ws r rs S 0) (fun p => kk * cntR ws r (keysL (stN ws r rs S 0)) rs p) ∧ (∀ j ≤ kk * rs.length, whole ws r rs S j) ∧
    (rs ≠ [] → ws ≠ [] → ¬ whole ws r rs S (kk * rs.length + rs.length)) ∧ (kk : Int) < S := by
  have hah := ahead_le (ls := stN ws r rs S 0) (fun p => cnt_ge ws r (keysL (stN ws r rs S 0)) rs p) fun p hp => stN_pos hS 0 p hp
  obtain ⟨kk, hkk⟩ := Int.eq_ofNat_of_zero_le hah.1
  have h1 := stN_rounds (S := S) (ws := ws) (r := r) (rs := rs) (m := 0) (Nat.dvd_zero _) kk fun p hp => by
    have := hah.2 p hp
    rw [hkk] at this
    exact this
  rw [Nat.zero_add] at h1
  have k0 : keysL (stN ws r rs S 0) = List.range ws.length := st0_keys _ _
  have hw : ∀ j ≤ kk * rs.length, whole ws r rs S j := fun j hj => by
    rcases Nat.lt_or_ge j (kk * rs.length) with z | z
    · have := h1.2 j z
      rw [Nat.zero_add, k0] at this
      exact this
    · have e : j = kk * rs.length := by omega
      unfold whole
      rw [e, h1.1, sub_keys, k0]
  refine ⟨kk, hkk, h1.1, hw, fun hr hws hw2 => ?_, ?_⟩
  · refine ahead_falls (ws := ws) (r := r) (rs := rs) (ls := stN ws r rs S 0) hr (by rw [k0]; intro e; exact hws (List.eq_nil_of_length_eq_zero (List.range_eq_nil.mp e))) (stN_pos hS 0) ?_
    rw [hkk, ← h1.1]
    have := stN_run (S := S) (ws := ws) (r := r) (rs := rs) (m := kk * rs.length) (Nat.dvd_mul_left _ _) rs.length (Nat.le_refl _)
    rw [List.take_length] at this
    rw [← this, k0]
    exact hw2
  · have hb : aheadL (stN ws r rs S 0) (cntR ws r (keysL (stN ws r rs S 0)) rs) < S := by
      unfold aheadL
      by_cases he : quotL (stN ws r rs S 0) (cntR ws r (keysL (stN ws r rs S 0)) rs) = []
      · rw [he]
        show (0 : Int) < S
        omega
      · obtain ⟨p, hm, e⟩ := List.mem_map.mp (minOr_mem (d := 0) he)
        have e : (p.2 - 1) / cntR ws r (keysL (stN ws r rs S 0)) rs p.1 = minOr 0 (quotL (stN ws r rs S 0) (cntR ws r (keysL (stN ws r rs S 0)) rs)) := e
        rw [← e]
        obtain ⟨g1, g2⟩ := List.mem_filter.mp hm
        have g3 := stN_pos hS 0 p g1
        have g4 := st_le ws r rs S 0 p g1
        have := Int.ediv_le_self (cntR ws r (keysL (stN ws r rs S 0)) rs p.1) (show 0 ≤ p.2 - 1 by omega)
        omega
    rw [hkk] at hb
    exact hb
theorem fallen_none {ws : List Str} {r : Str} {rs : List Str} {S : Int} {n : Nat} : fallenL ws r rs S n = [] ↔ whole ws r rs S n := by
  unfold fallenL whole
  constructor
  · intro h
    refine (stN_keys ws r rs S n).eq_of_length_le ?_
    have hsub : ∀ k ∈ List.range ws.length, k ∈ keysL (stN ws r rs S n) := fun k hk => Classical.byContradiction fun hn => by
      have : k ∈ (List.range ws.length).filter fun k => decide (k ∉ keysL (stN ws r rs S n)) := List.mem_filter.mpr ⟨hk, decide_eq_true hn⟩
      rw [h] at this
      cases this
    exact nodup_leN List.nodup_range hsub
  · intro h
    rw [h]
    refine List.filter_eq_nil_iff.mpr fun k hk hn => ?_
    exact absurd hk (of_decide_eq_true hn)
end
section
local macro_rules | `(tactic| walk_at "sl") => `(tactic| first | assumption | exact SqL.of upd_same | exact SqL.of (by assumption) | ((with_reducible apply sql_upd); (walk_at "sl"); (first | assumption | exact Ne.symm (by assumption))))
local macro_rules | `(tactic| walk_at "st") => `(tactic| first | assumption | exact SqT.of upd_same | exact SqT.of (by assumption))
local macro_rules | `(tactic| walk_at "sc") => `(tactic| first | rfl | assumption | (show (0 : Int) < _; first | assumption | decide | omega) | exact Or.inl ⟨by omega, by omega⟩ | exact Or.inr ⟨by omega, by omega⟩ | exact ⟨by decide, by decide⟩ | exact ⟨by decide, by decide, by decide⟩)
local macro_rules | `(tactic| walk_at "g1") => `(tactic| first
  | refine ⟨(_ : V), rfl, ?_⟩
  | refine ⟨(_ : Bool), rfl, ?_⟩
  | refine ⟨(_ : Int), (_ : Int), rfl, rfl, ?_⟩
  | refine ⟨(_ : Int), rfl, ?_⟩
  | refine ⟨(_ : Str), rfl, ?_⟩
  | refine ⟨(_ : Addr), (_ : List V), rfl, Or.inl (by walk_at "sl"), ?_⟩
  | refine ⟨(_ : Addr), (_ : List V), rfl, Or.inr (by walk_at "st"), ?_⟩
  | refine ⟨(_ : Addr), (_ : List V), (_ : Int), (_ : V), rfl, rfl, (by walk_at "sl"), (by first | rfl | assumption), ?_⟩
  | refine ⟨(_ : Addr), (_ : List V), (_ : Int), (_ : V), rfl, rfl, (by walk_at "st"), (by first | rfl | assumption), ?_⟩
  | refine ⟨(_ : Addr), (_ : List V), (_ : Int), (_ : Nat), rfl, rfl, upd_same, rfl, ?_⟩
  | refine ⟨(_ : Addr), (_ : List V), (_ : Int), (_ : Nat), rfl, rfl, (by assumption), rfl, ?_⟩
  | refine ⟨(_ : Addr), (_ : Addr), (_ : Addr), (_ : List (Str × V)), (_ : V), rfl, (by assumption), (by assumption), (by assumption), (by first | assumption | rfl), ?_⟩
  | refine Or.inl ⟨(_ : Int), rfl, ?_⟩
  | refine And.intro (by walk_at "sc") ?_
  | refine iteT ?_
  | refine iteF ?_)
theorem val_isSome {ls : LS} (hn : (keysL ls).Nodup) (k : Nat) : (valV (dvs ls) (Sum.inl ((k : Nat) : Int))).isSome = decide (k ∈ keysL ls) := by
  by_cases h : k ∈ keysL ls
  · obtain ⟨p, hp, rfl⟩ := List.mem_map.mp h
    rw [dvs_val hn hp, decide_eq_true h]
    rfl
  · rw [dvs_none h, decide_eq_false h]
    rfl
theorem fallen_fm {ws : List Str} {r : Str} {rs : List Str} {S : Int} {n : Nat} (h : whole ws r rs S n) : (stN ws r rs S n).filterMap (fun p => if p.1 ∈ keysL (stN ws r rs S (n + 1)) then none else some (intV p.1)) = (fallenL ws r rs S (n + 1)).map intV := by
  unfold fallenL
  rw [← show keysL (stN ws r rs S n) = List.range ws.length from h]
  generalize stN ws r rs S n = ls
  generalize keysL (stN ws r rs S (n + 1)) = ks
  induction ls with
  | nil => rfl
  | cons p t ih =>
    have e : keysL (p :: t) = p.1 :: keysL t := rfl
    rw [e]
    by_cases hp : p.1 ∈ ks
    · rw [List.filterMap_cons_none (f := fun p : Nat × Int => if p.1 ∈ ks then none else some (intV p.1)) (show (if p.1 ∈ ks then none else some (intV p.1)) = none from if_pos hp), List.filter_cons_of_neg (p := fun k => decide (k ∉ ks)) (fun z => (of_decide_eq_true z) hp), ih]
    · rw [List.filterMap_cons_some (f := fun p : Nat × Int => if p.1 ∈ ks then none else some (intV p.1)) (show (if p.1 ∈ ks then none else some (intV p.1)) = some _ from if_neg hp), List.filter_cons_of_pos (p := fun k => decide (k ∉ ks)) (decide_eq_true hp), List.map_cons, ih]
theorem ok_first_fallen (T : Top K mg) : FnOk P w K mg base CX0 5 T.a_first_fallen T.fd_first_fallen ["drawer", "rule", "requests", "strength"] (spFF K T.c_Drawer T.c_Card) := by
  refine T.F_first_fallen.ok sc_first_fallen (fun vs H Q E h => ?_) (fun cdv A outer s H vs Q E hr h => ?_)
  · obtain ⟨d, b, cs, r, rs, S, rfl, _⟩ := h
    rfl
  · obtain ⟨d, b, cs, r, rs, S, rfl, hD, hl, hrr, hB, hrl, hw, hS1, hS2, k⟩ := h
    have hu := hu_of hr
    refine ⟨_, (pss_cons (ps_expr (pe_call (ok_check_wear T) (hr.mono (by decide)) (by rfl) T.g_check_wear T.F_check_wear.kp (b_check_wear T) .nil pass0 (pa_cons (pv 1) (pa_cons (pv 2) (pa_cons (pv 3) pa_nil)))))
      (pss_cons (ps_set (i := 4) sc_first_fallen.nd rfl (.inl rfl) (pe_call (ok_headings_along T) (hr.mono (by decide)) (by rfl) T.g_headings_along T.F_headings_along.kp (b_headings_along T) .nil pass0 (pa_cons (pv 0) pa_nil)))
      (pss_cons (ps_asg (pe_call (ok_rounds_ahead T) (hr.mono (by decide)) (by rfl) T.g_rounds_ahead T.F_rounds_ahead.kp (b_rounds_ahead T) .nil pass0 (pa_cons (pv 4) (pa_cons (pv 1) (pa_cons (pv 2) (pa_cons (pe_frz (pe_dc (own := [("place", 12)]) (g := gName 12) (tt := tYes) rfl sc_first_fallen.nd (pi_range1 (by rfl) T.m_range (pa_cons (pe_callB call_len_seq (by rfl) T.m_len (by decide +kernel) (pa_cons (pv 4) pa_nil)) pa_nil)) (blkOk_by (N := N_first_fallen) (sc := defScope s_first_fallen) (by decide +kernel)) (fun _ _ _ _ _ => (pg_name (i := 12) sc_first_fallen.nd rfl (.inl rfl))) (fun _ _ _ _ _ => pts_nil) (fun _ _ _ _ _ => (pv 12)) (fun _ _ _ _ _ => (pv 3)))) pa_nil))))) (pg_tup rfl (pgs_cons (pg_name (i := 5) sc_first_fallen.nd rfl (.inl rfl)) (pgs_cons (pg_name (i := 6) sc_first_fallen.nd rfl (.inl rfl)) pgs_nil))))
      (pss_cons (ps_set (i := 7) sc_first_fallen.nd rfl (.inl rfl) (pe_op op_mulW (pv 5) (pe_callB call_len_seq (by rfl) T.m_len (by decide +kernel) (pa_cons (pv 2) pa_nil))))
      (pss_cons (ps_for PassesOwn.never rfl (pi_tup (pv 2)) (pg_name (i := 8) sc_first_fallen.nd rfl (.inl rfl))
        (pss_cons (ps_asg (pe_call (ok_request_worn T) (hr.mono (by decide)) (by rfl) T.g_request_worn T.F_request_worn.kp (b_request_worn T) .nil pass0 (pa_cons (pv 4) (pa_cons (pv 1) (pa_cons (pv 8) (pa_cons (pv 6) pa_nil))))) (pg_tup rfl (pgs_cons (pg_name (i := 9) sc_first_fallen.nd rfl (.inl rfl)) (pgs_cons (pg_name (i := 10) sc_first_fallen.nd rfl (.inr rfl)) pgs_nil))))
        (pss_cons (ps_aug (i := 7) sc_first_fallen.nd rfl (.inl rfl) pe_int ip_add)
        (pss_cons (ps_setLc (i := 11) (own := [("place", 12)]) (g := gName 12) rfl sc_first_fallen.nd rfl rfl (sw_true rfl rfl rfl (by decide +kernel)) (pi_keys (pv 6)) (blkOk_by (N := N_first_fallen) (sc := defScope s_first_fallen) (by decide +kernel)) (fun _ _ _ _ _ => (pg_name (i := 12) sc_first_fallen.nd rfl (.inl rfl))) (fun _ _ _ _ _ => (pts_one (pt_cmp (pc_dnotin (hu_of hr) (pv 12) (pv 10))))) (fun _ _ _ _ _ => (pv 12)))
        (pss_cons (ps_if (pt_truth (pv 11) (by intro _; rfl)) (pss_one (ps_ret (pe_tup (pa_cons (pv 7) (pa_cons (pv 11) pa_nil))))) pss_nil)
        (pss_one (ps_set (i := 6) sc_first_fallen.nd rfl (.inl rfl) (pv 10))))))))
      (pss_one (ps_ret pe_non))))))), ?_⟩
    refine ⟨_, rfl, _, rfl, _, rfl, b, r, rs, S, rfl, hrr, hB, hrl, hw, hS1, hS2, fun H1 s1 => ?_⟩
    have D1 := hD.imm s1.imm
    have B1 := s1.seqT hB
    refine ⟨_, rfl, d, cs, rfl, D1, by omega, fun tw H2 s2 hfr hW => ?_⟩
    have A2 : SqT K H2 tw ((heads cs).map V.str) := SqT.of hW
    have hlw : (heads cs).length ≤ 100 := by unfold heads; rw [List.length_map]; exact hl
    have s02 := s1.trans s2
    have B2 := s2.seqT B1
    generalize heads cs = ws at *
    clear hfr hD D1 hW B1 hB s1 s2 hl H1
    refine ⟨_, rfl, _, rfl, _, rfl, _, rfl, tw, _, rfl, .inr A2, ws.length, (by rw [List.length_map]), by omega, by omega, fun D3 hD3 => dc_it (walk_range (n := ws.length)) (fun i H' => Same H2 H' ∧ H' D3 = some (.dK (dvs (st0 i S)))) ⟨same_new hD3, upd_same⟩ (fun _ _ _ _ => trivial) (fun i x H' H'' hi hP hy => ?_) (fun H3 hP => ?_)⟩
    · obtain ⟨s3, d3⟩ := hP
      obtain ⟨rfl, rfl⟩ := hy
      refine ⟨rfl, tYes_of ?_⟩
      refine ⟨_, rfl, _, rfl, _, Sum.inl ((i : Nat) : Int), (show V.int (0 + ((i : Nat) : Int)) = V.int ((i : Nat) : Int) from by rw [Int.zero_add]), d3, sizeLine_of ?_, same_mut s3 hD3, ?_⟩
      · rw [dvs_len]
        unfold st0
        rw [List.length_map, List.length_range]
        omega
      · rw [upd_same, st0_put]
    · obtain ⟨s3, d3⟩ := hP
      refine ⟨D3, _, rfl, d3, trivial, fun od' => ?_⟩
      have s4 : Same H2 (upd H3 D3 (.frz od' (.dK (dvs (st0 ws.length S))))) := fun b o hb => by
        rw [upd_ne (ne_of_none hb hD3)]
        exact s3 _ _ hb
      have f4 : LeftF (upd H3 D3 (.frz od' (.dK (dvs (st0 ws.length S))))) D3 (stN ws r rs S 0) := ⟨od', upd_same⟩
      generalize upd H3 D3 (.frz od' (.dK (dvs (st0 ws.length S)))) = H4 at *
      have A4 := s4.seqT A2
      have B4 := s4.seqT B2
      have s04 := s02.trans s4
      clear s3 d3 s4 hD3 A2 B2 s02 H2 H3
      refine ⟨tw, b, D3, ws, rs, r, stN ws r rs S 0, rfl, A4, B4, f4, stN_nodup ws r rs S 0, fun k hk => st_lt hk, Nat.le_trans (st_len ws r rs S 0) hlw, by omega, fun p hp => ⟨stN_pos hS1 0 p hp, Int.le_trans (st_le ws r rs S 0 p hp) hS2⟩, fun t q H5 s5 ht f5 => ?_⟩
      obtain ⟨kk, hkk, est, hwh, hfall, hkS⟩ := ff_start (ws := ws) (r := r) (rs := rs) hS1
      rw [hkk] at ht f5
      rw [← est] at f5
      refine ⟨t, _, rfl, ht, rfl, _, _, rfl, _, _, rfl, rfl, ?_⟩
      have A5 := s5.seqT A4
      have B5 := s5.seqT B4
      have s05 := s04.trans s5
      refine ⟨_, rfl, _, rfl, b, _, rfl, .inr B5, ?_⟩
      rw [List.length_map]
      refine rI_of (wide_mul (a := 64) (b := 64) (pow_big (Int.natCast_nonneg _) (by omega)) (by omega) (by decide) (by decide) (by decide)) (show V.int (((kk : Nat) : Int) * ((rs.length : Nat) : Int)) = V.int (((kk * rs.length : Nat) : Nat) : Int) by rw [Int.natCast_mul]) ?_
      refine ⟨_, rfl, b, rfl, ⟨_, B5⟩, for_tup (K := K) (a := b) (xs := rs.map V.str) (fun i σ H7 => ∃ (q : Addr) (y8 y9 y10 y11 : Option V), σ = [some (.ref d), some (.str r), some (.ref b), some (.int S), some (.ref tw), some (.int ((kk : Nat) : Int)), some (.ref q), some (.int ((kk * rs.length + i : Nat) : Int)), y8, y9, y10, y11, none] ∧ Same H5 H7 ∧ LeftF H7 q (stN ws r rs S (kk * rs.length + i)) ∧ ∀ j ≤ kk * rs.length + i, whole ws r rs S j) ⟨q, none, none, none, none, rfl, Same.refl _, f5, hwh⟩ (fun i σ H7 _ ⟨_, _, _, _, _, _, s7, _⟩ => s7.seqT B5) (fun i x σ H7 hi hP => ?_) (fun σ H7 hP => ?_)⟩
      · obtain ⟨q7, y8, y9, y10, y11, rfl, s7, f7, hwh7⟩ := hP
        rw [List.getElem?_map] at hi
        obtain ⟨h, hhi, rfl⟩ := Option.map_eq_some_iff.mp hi
        have hil := (List.getElem?_eq_some_iff.mp hhi).1
        have hrq : h = rq rs (kk * rs.length + i) := by
          have := rq_at (rs := rs) (m := kk * rs.length) (Nat.dvd_mul_left _ _) hil
          rw [hhi] at this
          exact Option.some.inj this
        have hnone : rs ≠ [] := fun e => by rw [e] at hil; exact absurd hil (Nat.not_lt_zero i)
        have hwn := hwh7 _ (Nat.le_refl _)
        generalize hn : kk * rs.length + i = n at *
        have A7 := s7.seqT A5
        refine ⟨_, rfl, _, rfl, _, rfl, _, rfl, tw, q7, ws, r, h, _, rfl, A7, f7, stN_nodup ws r rs S _, fun k hk => st_lt hk, Nat.le_trans (st_len ws r rs S _) hlw, fun t q' H8 s8 ht f8 => ?_⟩
        refine ⟨t, _, rfl, ht, rfl, _, _, rfl, _, _, rfl, rfl, ?_⟩
        have est : stepL ws r h (stN ws r rs S n) = stN ws r rs S (n + 1) := by rw [hrq]; rfl
        rw [est] at f8
        refine ⟨_, rfl, _, _, rfl, rfl, ?_⟩
        obtain ⟨od8, f8o⟩ := id f8
        obtain ⟨od7, f7o⟩ := id (f7.same s8)
        refine ⟨_, rfl, q7, od7, rfl, .inl ⟨dvs (stN ws r rs S n), f7o, fun D hD => lc_fn (walk_keys (kvs := dvs (stN ws r rs S n))) (by rw [dvs_len]; have := st_len ws r rs S n; omega) hD (fun i => ((stN ws r rs S n)[i]?).bind fun p => if p.1 ∈ keysL (stN ws r rs S (n + 1)) then none else some (intV p.1)) (fun H9 s9 => s9 _ _ f7o) (fun i x H9 H10 hi s9 hy R R0 r1 r0 => ?_) (fun H9 s9 hd => ?_)⟩⟩
        · obtain ⟨rfl, kk2, vv, hkv, rfl⟩ := hy
          obtain ⟨p, hp, rfl, rfl⟩ := dvs_at hkv
          have ef : (((stN ws r rs S n)[i]?).bind fun p => if p.1 ∈ keysL (stN ws r rs S (n + 1)) then none else some (intV p.1)) = if p.1 ∈ keysL (stN ws r rs S (n + 1)) then none else some (intV p.1) := by
            rw [hp]
            rfl
          rw [ef] at r1 r0
          refine ⟨rfl, ?_⟩
          refine ⟨_, rfl, _, rfl, q', _, rfl, .inl ⟨_, Sum.inl ((p.1 : Nat) : Int), .inr ⟨od8, s9 _ _ f8o⟩, rfl, rfl⟩, ?_⟩
          rw [val_isSome (stN_nodup ws r rs S (n + 1))]
          by_cases hm : p.1 ∈ keysL (stN ws r rs S (n + 1))
          · rw [if_pos hm] at r1 r0
            rw [decide_eq_true hm]
            exact ⟨_, rfl, iteF (r0 _ rfl (Same.refl _))⟩
          · rw [if_neg hm] at r1 r0
            rw [decide_eq_false hm]
            exact ⟨_, rfl, iteT ⟨_, rfl, r1 _ _ rfl (Same.refl _)⟩⟩
        · rw [dvs_len, range_filterMap (stN ws r rs S n) fun p => if p.1 ∈ keysL (stN ws r rs S (n + 1)) then none else some (intV p.1), fallen_fm hwn] at hd
          refine ⟨_, rfl, _, .inl ⟨_, SqL.of hd, rfl⟩, ?_⟩
          have s08 := (s05.trans s7).trans s8
          by_cases hz : whole ws r rs S (n + 1)
          · have e := fallen_none.mpr hz
            rw [e]
            refine iteF ?_
            refine ⟨_, rfl, q', some (.str h), some (.bl (fndN ws r h (keysL (stN ws r rs S n)))), some (.ref q'), some (.ref D), by rw [← Nat.add_assoc, hn]; rfl, (s7.trans s8).trans (s9), ?_, ?_⟩
            · rw [← Nat.add_assoc, hn]
              exact f8.same s9
            · intro j hj
              rw [← Nat.add_assoc, hn] at hj
              rcases Nat.lt_or_ge j (n + 1) with z | z
              · exact hwh7 j (by omega)
              · rw [show j = n + 1 by omega]
                exact hz
          · have hne : (fallenL ws r rs S (n + 1)) ≠ [] := fun e => hz (fallen_none.mp e)
            have hws : ws ≠ [] := fun e => hz (whole_empty e r rs S _)
            have e : ((fallenL ws r rs S (n + 1)).map intV).isEmpty = false := by
              cases hc : fallenL ws r rs S (n + 1) with
              | nil => exact absurd hc hne
              | cons _ _ => rfl
            rw [e]
            refine iteT ?_
            refine ⟨_, rfl, _, rfl, by show 2 ≤ sizeLine; decide, fun t ht => ?_⟩
            have sf := same_new (o := .tup [.int (((n : Nat) : Int) + 1), .ref D]) ht
            refine k _ _ ((s08.trans s9).trans sf) (.inr ⟨hnone, hws, n + 1, t, D, rfl, SqT.of (by rw [upd_same]; rfl), sf _ _ hd, fun j hj => hwh7 j (by omega), hz⟩)
      · obtain ⟨q7, y8, y9, y10, y11, rfl, s7, f7, hwh7⟩ := hP
        rw [List.length_map] at hwh7
        refine k _ H7 (s05.trans s7) (.inl ⟨Classical.byContradiction fun hne => ?_, rfl⟩)
        exact hfall (fun e => hne (.inl e)) (fun e => hne (.inr e)) (hwh7 _ (Nat.le_refl _))
end
section
local macro_rules | `(tactic| walk_at "sl") => `(tactic| first | assumption | exact SqL.of upd_same | exact SqL.of (by assumption) | ((with_reducible apply sql_upd); (walk_at "sl"); (first | assumption | exact Ne.symm (by assumption))))
local macro_rules | `(tactic| walk_at "st") => `(tactic| first | assumption | exact SqT.of upd_same | exact SqT.of (by assumption))
local macro_rules | `(tactic| walk_at "sc") => `(tactic| first | rfl | assumption | (show (0 : Int) < _; first | assumption | decide | omega) | exact Or.inl ⟨by omega, by omega⟩ | exact Or.inr ⟨by omega, by omega⟩ | exact ⟨by decide, by decide⟩ | exact ⟨by decide, by decide, by decide⟩)
local macro_rules | `(tactic| walk_at "g1") => `(tactic| first
  | refine ⟨(_ : V), rfl, ?_⟩
  | refine ⟨(_ : Bool), rfl, ?_⟩
  | refine ⟨(_ : Int), (_ : Int), rfl, rfl, ?_⟩
  | refine ⟨(_ : Int), rfl, ?_⟩
  | refine ⟨(_ : Str), rfl, ?_⟩
  | refine ⟨(_ : Addr), (_ : List V), rfl, Or.inl (by walk_at "sl"), ?_⟩
  | refine ⟨(_ : Addr), (_ : List V), rfl, Or.inr (by walk_at "st"), ?_⟩
  | refine ⟨(_ : Addr), (_ : List V), (_ : Int), (_ : V), rfl, rfl, (by walk_at "sl"), (by first | rfl | assumption), ?_⟩
  | refine ⟨(_ : Addr), (_ : List V), (_ : Int), (_ : V), rfl, rfl, (by walk_at "st"), (by first | rfl | assumption), ?_⟩
  | refine ⟨(_ : Addr), (_ : List V), (_ : Int), (_ : Nat), rfl, rfl, upd_same, rfl, ?_⟩
  | refine ⟨(_ : Addr), (_ : List V), (_ : Int), (_ : Nat), rfl, rfl, (by assumption), rfl, ?_⟩
  | refine ⟨(_ : Addr), (_ : Addr), (_ : Addr), (_ : List (Str × V)), (_ : V), rfl, (by assumption), (by assumption), (by assumption), (by first | assumption | rfl), ?_⟩
  | refine Or.inl ⟨(_ : Int), rfl, ?_⟩
  | refine And.intro (by walk_at "sc") ?_
  | refine iteT ?_
  | refine iteF ?_)
theorem ok_Drawer_len (T : Top K mg) : FnOk P w K mg base CX0 1 T.a_Drawer_len T.fd_Drawer_len ["self"] (fun vs H Q _ => ∃ (p : Addr) (cs : List CD), vs = [.ref p] ∧ DrawerAt K T.c_Drawer T.c_Card H p cs ∧ cs.length ≤ 1000 ∧ Q (.int cs.length) H) := by
  refine T.F_Drawer_len.ok sc_Drawer_len (fun vs H Q E h => ?_) (fun cdv A outer s H vs Q E hr h => ?_)
  · obtain ⟨p, cs, rfl, _⟩ := h
    rfl
  · obtain ⟨p, cs, rfl, ⟨dx, t, ps, hp, hT, hC⟩, hl, k⟩ := h
    have hu := hu_of hr
    refine ⟨_, (pss_one (ps_ret (pe_callB call_len_seq (by rfl) T.m_len (by decide +kernel) (pa_cons (pe_fld (pv 0) rfl) pa_nil)))), ?_⟩
    refine ⟨_, rfl, p, _, dx, _, _, rfl, hp, T.cl_Drawer, T.n_Drawer__cards, df_cards _, t, _, rfl, .inr hT, ?_⟩
    rw [List.length_map, hC.1]
    exact k
end
section
local macro_rules | `(tactic| walk_at "sl") => `(tactic| first | assumption | exact SqL.of upd_same | exact SqL.of (by assumption) | ((with_reducible apply sql_upd); (walk_at "sl"); (first | assumption | exact Ne.symm (by assumption))))
local macro_rules | `(tactic| walk_at "st") => `(tactic| first | assumption | exact SqT.of upd_same | exact SqT.of (by assumption))
local macro_rules | `(tactic| walk_at "sc") => `(tactic| first | rfl | assumption | (show (0 : Int) < _; first | assumption | decide | omega) | exact Or.inl ⟨by omega, by omega⟩ | exact Or.inr ⟨by omega, by omega⟩ | exact ⟨by decide, by decide⟩ | exact ⟨by decide, by decide, by decide⟩)
local macro_rules | `(tactic| walk_at "g1") => `(tactic| first
  | refine ⟨(_ : V), rfl, ?_⟩
  | refine ⟨(_ : Bool), rfl, ?_⟩
  | refine ⟨(_ : Int), (_ : Int), rfl, rfl, ?_⟩
  | refine ⟨(_ : Int), rfl, ?_⟩
  | refine ⟨(_ : Str), rfl, ?_⟩
  | refine ⟨(_ : Addr), (_ : List V), rfl, Or.inl (by walk_at "sl"), ?_⟩
  | refine ⟨(_ : Addr), (_ : List V), rfl, Or.inr (by walk_at "st"), ?_⟩
  | refine ⟨(_ : Addr), (_ : List V), (_ : Int), (_ : V), rfl, rfl, (by walk_at "sl"), (by first | rfl | assumption), ?_⟩
  | refine ⟨(_ : Addr), (_ : List V), (_ : Int), (_ : V), rfl, rfl, (by walk_at "st"), (by first | rfl | assumption), ?_⟩
  | refine ⟨(_ : Addr), (_ : List V), (_ : Int), (_ : Nat), rfl, rfl, upd_same, rfl, ?_⟩
  | refine ⟨(_ : Addr), (_ : List V), (_ : Int), (_ : Nat), rfl, rfl, (by assumption), rfl, ?_⟩
  | refine ⟨(_ : Addr), (_ : Addr), (_ : Addr), (_ : List (Str × V)), (_ : V), rfl, (by assumption), (by assumption), (by assumption), (by first | assumption | rfl), ?_⟩
  | refine Or.inl ⟨(_ : Int), rfl, ?_⟩
  | refine And.intro (by walk_at "sc") ?_
  | refine iteT ?_
  | refine iteF ?_)
/-! ### the law's formula for the first card that falls -/
def lkA (ws : List Str) (r : Str) (rs : List Str) (n : Nat) : List Nat := lookN ws r (rq rs n) (List.range ws.length)
def ctN (look : Nat → List Nat) : Nat → Nat → Nat
  | 0, _ => 0
  | n + 1, k => ctN look n k + if k ∈ look n then 1 else 0
theorem ct_mono (look : Nat → List Nat) (k : Nat) {m : Nat} : ∀ {n : Nat}, m ≤ n → ctN look m k ≤ ctN look n k
  | 0, h => by
    obtain rfl : m = 0 := by omega
    exact Nat.le_refl _
  | n + 1, h => by
    rcases Nat.lt_or_ge n m with z | z
    · rw [show m = n + 1 by omega]
      exact Nat.le_refl _
    · refine Nat.le_trans (ct_mono look k z) ?_
      show _ ≤ ctN look n k + _
      omega
theorem ct_filter (look : Nat → List Nat) (k : Nat) : ∀ n, ctN look n k = ((List.range n).filter fun i => decide (k ∈ look i)).length
  | 0 => rfl
  | n + 1 => by
    rw [List.range_succ, List.filter_append, List.length_append, ← ct_filter look k n]
    show ctN look n k + _ = _
    by_cases h : k ∈ look n
    · rw [if_pos h, List.filter_cons_of_pos (p := fun i => decide (k ∈ look i)) (decide_eq_true h)]
      rfl
    · rw [if_neg h, List.filter_cons_of_neg (p := fun i => decide (k ∈ look i)) (fun z => h (of_decide_eq_true z))]
      rfl
theorem ct_period {look : Nat → List Nat} {len : Nat} (hp : ∀ n, look (n + len) = look n) (k : Nat) : ∀ n, ctN look (n + len) k = ctN look n k + ctN look len k
  | 0 => by
    show ctN look (0 + len) k = 0 + _
    rw [Nat.zero_add, Nat.zero_add]
  | n + 1 => by
    rw [show n + 1 + len = (n + len) + 1 by omega]
    show ctN look (n + len) k + _ = ctN look n k + _ + _
    rw [hp n, ct_period hp k n]
    omega
theorem look_period {look : Nat → List Nat} {len : Nat} (hp : ∀ n, look (n + len) = look n) (i : Nat) : ∀ a, look (a * len + i) = look i
  | 0 => by rw [Nat.zero_mul, Nat.zero_add]
  | a + 1 => by
    rw [show (a + 1) * len + i = (a * len + i) + len by rw [Nat.add_mul]; omega, hp]
    exact look_period hp i a
theorem ct_rounds {look : Nat → List Nat} {len : Nat} (hp : ∀ n, look (n + len) = look n) (k i : Nat) : ∀ a, ctN look (a * len + i) k = a * ctN look len k + ctN look i k
  | 0 => by rw [Nat.zero_mul, Nat.zero_add, Nat.zero_mul, Nat.zero_add]
  | a + 1 => by
    rw [show (a + 1) * len + i = (a * len + i) + len by rw [Nat.add_mul]; omega, ct_period hp, ct_rounds hp k i a, Nat.add_mul]
    omega
theorem lkA_period (ws : List Str) (r : Str) (rs : List Str) (n : Nat) : lkA ws r rs (n + rs.length) = lkA ws r rs n := by
  unfold lkA rq
  rw [Nat.add_mod_right]
/-- the requests of a row that look at a card -/
def rowsL (ws : List Str) (r : Str) (rs : List Str) (k : Nat) : List Nat := (List.range rs.length).filter fun i => decide (k ∈ lkA ws r rs i)
/-- the request, counted, in which a card falls out -/
def fallT (ws : List Str) (r : Str) (rs : List Str) (S : Int) (k : Nat) : Int := (S - 1 - (S - 1) % ((rowsL ws r rs k).length : Nat)) / ((rowsL ws r rs k).length : Nat) * (rs.length : Nat) + ((rowsL ws r rs k)[((S - 1) % ((rowsL ws r rs k).length : Nat)).toNat]?.getD 0 : Nat) + 1
theorem fallT_ok {ws : List Str} {r : Str} {rs : List Str} {S : Int} (hS : 1 ≤ S) {k : Nat} (hk : rowsL ws r rs k ≠ []) : ∃ T : Nat, fallT ws r rs S k = ((T : Nat) : Int) ∧ ∀ n, S ≤ (ctN (lkA ws r rs) n k : Nat) ↔ T ≤ n := by
  have hL : 0 < (rowsL ws r rs k).length := List.length_pos_iff.mpr hk
  have hLc : (rowsL ws r rs k).length = ctN (lkA ws r rs) rs.length k := (ct_filter _ k _).symm
  obtain ⟨s, hs⟩ : ∃ s : Nat, S - 1 = (s : Nat) := ⟨(S - 1).toNat, by omega⟩
  have hrest : s % (rowsL ws r rs k).length < (rowsL ws r rs k).length := Nat.mod_lt _ hL
  have hi : (rowsL ws r rs k)[s % (rowsL ws r rs k).length]? = some (rowsL ws r rs k)[s % (rowsL ws r rs k).length] := List.getElem?_eq_getElem hrest
  have hsplit := Nat.div_add_mod s (rowsL ws r rs k).length
  unfold fallT
  generalize hgi : (rowsL ws r rs k)[s % (rowsL ws r rs k).length] = i at hi
  have him : i ∈ rowsL ws r rs k := List.mem_of_getElem? hi
  obtain ⟨hil, hik⟩ := List.mem_filter.mp him
  have hil := List.mem_range.mp hil
  have hik := of_decide_eq_true hik
  have hci : ctN (lkA ws r rs) i k = s % (rowsL ws r rs k).length := by
    rw [ct_filter]
    have e : List.range rs.length = List.range i ++ (i :: (List.range' (i + 1) (rs.length - i - 1))) := by
      rw [List.range_eq_range', List.range_eq_range', ← List.range'_succ]
      have := List.range'_append_1 (s := 0) (m := i) (n := rs.length - i)
      rw [Nat.zero_add] at this
      rw [show rs.length - i - 1 + 1 = rs.length - i by omega, this]
      congr 1
      omega
    have e2 : rowsL ws r rs k = ((List.range i).filter fun i => decide (k ∈ lkA ws r rs i)) ++ (i :: ((List.range' (i + 1) (rs.length - i - 1)).filter fun i => decide (k ∈ lkA ws r rs i))) := by
      unfold rowsL
      rw [e, List.filter_append, List.filter_cons_of_pos (p := fun i => decide (k ∈ lkA ws r rs i)) (decide_eq_true hik)]
    have nd : (rowsL ws r rs k).Nodup := List.nodup_range.filter _
    have g : (rowsL ws r rs k)[((List.range i).filter fun i => decide (k ∈ lkA ws r rs i)).length]? = some i := by
      rw [e2, List.getElem?_append_right (Nat.le_refl _), Nat.sub_self]
      rfl
    obtain ⟨g1, g2⟩ := List.getElem?_eq_some_iff.mp g
    obtain ⟨g3, g4⟩ := List.getElem?_eq_some_iff.mp hi
    exact (List.getElem_inj nd).mp (g2.trans g4.symm)
  have e1 : (S - 1) % ((rowsL ws r rs k).length : Nat) = ((s % (rowsL ws r rs k).length : Nat) : Int) := by rw [hs]; exact (Int.natCast_emod _ _).symm
  have e3 : (S - 1 - (S - 1) % ((rowsL ws r rs k).length : Nat)) / ((rowsL ws r rs k).length : Nat) = ((s / (rowsL ws r rs k).length : Nat) : Int) := by
    rw [e1, hs]
    refine Int.ediv_eq_of_eq_mul_left (by omega) ?_
    rw [← Int.natCast_mul, Nat.mul_comm]
    omega
  rw [e3, e1, Int.toNat_natCast, hi]
  show ∃ T : Nat, ((s / (rowsL ws r rs k).length : Nat) : Int) * ((rs.length : Nat) : Int) + ((i : Nat) : Int) + 1 = ((T : Nat) : Int) ∧ _
  refine ⟨s / (rowsL ws r rs k).length * rs.length + i + 1, ?_, fun n => ?_⟩
  · rw [Int.natCast_add, Int.natCast_add, Int.natCast_mul]
    rfl
  have hm : ctN (lkA ws r rs) (s / (rowsL ws r rs k).length * rs.length + i) k = s := by
    rw [ct_rounds (lkA_period ws r rs), ← hLc, hci, Nat.mul_comm]
    exact hsplit
  have hm1 : ctN (lkA ws r rs) (s / (rowsL ws r rs k).length * rs.length + i + 1) k = s + 1 := by
    show ctN _ _ k + _ = _
    rw [hm, look_period (lkA_period ws r rs), if_pos hik]
  constructor
  · intro h
    rcases Nat.lt_or_ge n (s / (rowsL ws r rs k).length * rs.length + i + 1) with z | z
    · have := ct_mono (lkA ws r rs) k (show n ≤ s / (rowsL ws r rs k).length * rs.length + i by omega)
      rw [hm] at this
      omega
    · exact z
  · intro h
    have := ct_mono (lkA ws r rs) k h
    rw [hm1] at this
    omega
theorem rows_none {ws : List Str} {r : Str} {rs : List Str} {k : Nat} (hk : rowsL ws r rs k = []) (hr : rs ≠ []) (n : Nat) : ctN (lkA ws r rs) n k = 0 := by
  rw [ct_filter]
  have : ((List.range n).filter fun i => decide (k ∈ lkA ws r rs i)) = [] := List.filter_eq_nil_iff.mpr fun i _ h => by
    have h := of_decide_eq_true h
    have h2 : k ∈ lkA ws r rs (i % rs.length) := by
      have := look_period (lkA_period ws r rs) (i % rs.length) (i / rs.length)
      rw [Nat.mul_comm, Nat.div_add_mod] at this
      rw [← this]
      exact h
    have : i % rs.length ∈ rowsL ws r rs k := List.mem_filter.mpr ⟨List.mem_range.mpr (Nat.mod_lt _ (List.length_pos_iff.mpr hr)), decide_eq_true h2⟩
    rw [hk] at this
    cases this
  rw [this]
  rfl
theorem whole_zero (ws : List Str) (r : Str) (rs : List Str) (S : Int) : whole ws r rs S 0 := st0_keys _ _
theorem whole_at {ws : List Str} {r : Str} {rs : List Str} {S : Int} : ∀ {n : Nat}, (∀ j ≤ n, whole ws r rs S j) → stN ws r rs S n = (List.range ws.length).map fun k => (k, S - (ctN (lkA ws r rs) n k : Nat))
  | 0, _ => by
    show st0 ws.length S = _
    unfold st0
    refine List.map_congr_left fun k _ => ?_
    show (k, S) = (k, S - 0)
    rw [Int.sub_zero]
  | n + 1, h => by
    have ih := whole_at (n := n) fun j hj => h j (by omega)
    have hk : keysL (stN ws r rs S n) = List.range ws.length := h n (by omega)
    have hk1 : keysL (stepL ws r (rq rs n) (stN ws r rs S n)) = keysL (stN ws r rs S n) := by rw [hk]; exact h (n + 1) (Nat.le_refl _)
    show stepL ws r (rq rs n) (stN ws r rs S n) = _
    rw [step_same hk1, hk, ih, List.map_map]
    refine List.map_congr_left fun k _ => ?_
    show (k, if k ∈ lkA ws r rs n then S - (ctN (lkA ws r rs) n k : Nat) - 1 else S - (ctN (lkA ws r rs) n k : Nat)) = (k, S - ((ctN (lkA ws r rs) n k + if k ∈ lkA ws r rs n then 1 else 0 : Nat) : Int))
    split
    · congr 1
      omega
    · rfl
theorem whole_next {ws : List Str} {r : Str} {rs : List Str} {S : Int} {n : Nat} (h : ∀ j ≤ n, whole ws r rs S j) {k : Nat} (hk : k < ws.length) : k ∈ keysL (stN ws r rs S (n + 1)) ↔ ((ctN (lkA ws r rs) (n + 1) k : Nat) : Int) < S := by
  have hn : keysL (stN ws r rs S n) = List.range ws.length := h n (Nat.le_refl _)
  have e : stN ws r rs S (n + 1) = wornL ((List.range ws.length).map fun k => (k, S - (ctN (lkA ws r rs) n k : Nat))) (lkA ws r rs n) := by
    show stepL ws r (rq rs n) (stN ws r rs S n) = _
    unfold stepL
    rw [hn, whole_at h]
    rfl
  rw [e]
  unfold wornL keysL
  rw [List.map_map]
  have key : ∀ j, (0 < (if j ∈ lkA ws r rs n then S - (ctN (lkA ws r rs) n j : Nat) - 1 else S - (ctN (lkA ws r rs) n j : Nat))) ↔ ((ctN (lkA ws r rs) (n + 1) j : Nat) : Int) < S := fun j => by
    show _ ↔ ((ctN (lkA ws r rs) n j + if j ∈ lkA ws r rs n then 1 else 0 : Nat) : Int) < S
    split <;> omega
  constructor
  · intro hm
    obtain ⟨p, hp, rfl⟩ := List.mem_map.mp hm
    obtain ⟨h1, h2⟩ := List.mem_filter.mp hp
    obtain ⟨j, hj, rfl⟩ := List.mem_map.mp h1
    exact (key j).mp (of_decide_eq_true h2)
  · intro hm
    refine List.mem_map.mpr ⟨(k, if k ∈ lkA ws r rs n then S - (ctN (lkA ws r rs) n k : Nat) - 1 else S - (ctN (lkA ws r rs) n k : Nat)), List.mem_filter.mpr ⟨List.mem_map.mpr ⟨k, List.mem_range.mpr hk, rfl⟩, decide_eq_true ((key k).mpr hm)⟩, rfl⟩
/-- the pairs that the law finds -/
def foundP (ws : List Str) (r : Str) (rs : List Str) (S : Int) (m : Nat) : List (Int × Int) := ((List.range m).filter fun k => decide (rowsL ws r rs k ≠ [])).map fun k => (fallT ws r rs S k, ((k : Nat) : Int))
theorem found_empty {ws : List Str} {r : Str} {rs : List Str} {S : Int} : foundP ws r rs S ws.length = [] ↔ (rs = [] ∨ ws = []) := by
  unfold foundP
  rw [List.map_eq_nil_iff, List.filter_eq_nil_iff]
  constructor
  · intro h
    refine Classical.byContradiction fun hn => ?_
    have hr : rs ≠ [] := fun e => hn (.inl e)
    have hw : ws ≠ [] := fun e => hn (.inr e)
    have hne : (List.range ws.length) ≠ [] := fun e => hw (List.eq_nil_of_length_eq_zero (List.range_eq_nil.mp e))
    obtain ⟨p, hp⟩ := List.exists_mem_of_ne_nil _ (look_ne (ws := ws) r (rq rs 0) hne)
    have hpr := look_mem hp
    have h0 := h p hpr
    refine h0 (decide_eq_true fun e => ?_)
    have : 0 ∈ rowsL ws r rs p := List.mem_filter.mpr ⟨List.mem_range.mpr (List.length_pos_iff.mpr hr), decide_eq_true hp⟩
    rw [e] at this
    cases this
  · rintro (rfl | rfl) k hk h
    · exact of_decide_eq_true h rfl
    · cases hk
theorem found_min {ws : List Str} {r : Str} {rs : List Str} {S : Int} (hS : 1 ≤ S) {m : Int} (hm : ∃ q ∈ foundP ws r rs S ws.length, q.1 = m) (hle : ∀ q ∈ foundP ws r rs S ws.length, m ≤ q.1) :
    ∃ M : Nat, m = ((M : Nat) : Int) ∧ (∀ j < M, whole ws r rs S j) ∧ ¬ whole ws r rs S M ∧ fallenL ws r rs S M = ((List.range ws.length).filter fun k => decide (rowsL ws r rs k ≠ [])).filter fun k => decide (fallT ws r rs S k = m) := by
  obtain ⟨q, hq, rfl⟩ := hm
  obtain ⟨k0, hk0, rfl⟩ := List.mem_map.mp hq
  obtain ⟨hk1, hk2⟩ := List.mem_filter.mp hk0
  have hk1 := List.mem_range.mp hk1
  have hk2 := of_decide_eq_true hk2
  obtain ⟨M, hM, hT⟩ := fallT_ok hS hk2
  have hr : rs ≠ [] := fun e => hk2 (by rw [e]; rfl)
  have hmin : ∀ k < ws.length, ∀ n, S ≤ (ctN (lkA ws r rs) n k : Nat) → M ≤ n := fun k hk n hn => by
    by_cases hrk : rowsL ws r rs k = []
    · rw [rows_none hrk hr n] at hn
      exact absurd hn (by omega)
    · obtain ⟨T2, e2, h2⟩ := fallT_ok hS hrk
      have := hle _ (List.mem_map.mpr ⟨k, List.mem_filter.mpr ⟨List.mem_range.mpr hk, decide_eq_true hrk⟩, rfl⟩)
      have this : fallT ws r rs S k0 ≤ fallT ws r rs S k := this
      rw [hM, e2] at this
      have := (h2 n).mp hn
      omega
  have hw : ∀ j, j < M → ∀ i ≤ j, whole ws r rs S i := by
    intro j
    induction j with
    | zero =>
      intro _ i hi
      rw [show i = 0 by omega]
      exact whole_zero ws r rs S
    | succ j ih =>
      intro hj i hi
      have h0 := ih (by omega)
      rcases Nat.lt_or_ge i (j + 1) with z | z
      · exact h0 i (by omega)
      · rw [show i = j + 1 by omega]
        refine fallen_none.mp (List.filter_eq_nil_iff.mpr fun k hk hn => ?_)
        have hk := List.mem_range.mp hk
        have hn := of_decide_eq_true hn
        refine hn ((whole_next h0 hk).mpr ?_)
        rcases Int.lt_or_le ((ctN (lkA ws r rs) (j + 1) k : Nat) : Int) S with z | z
        · exact z
        · have := hmin k hk (j + 1) z
          omega
  have hM0 : M ≠ 0 := fun e => by
    have := (hT 0).mpr (by omega)
    have this : S ≤ 0 := this
    omega
  obtain ⟨n, rfl⟩ : ∃ n, M = n + 1 := ⟨M - 1, by omega⟩
  have hwn : ∀ j ≤ n, whole ws r rs S j := hw n (by omega)
  have hfall : ∀ k < ws.length, (k ∉ keysL (stN ws r rs S (n + 1)) ↔ S ≤ ((ctN (lkA ws r rs) (n + 1) k : Nat) : Int)) := fun k hk => by
    rw [whole_next hwn hk]
    omega
  refine ⟨n + 1, hM, fun j hj => hwn j (by omega), fun h => ?_, ?_⟩
  · have : k0 ∈ keysL (stN ws r rs S (n + 1)) := by rw [show keysL (stN ws r rs S (n + 1)) = List.range ws.length from h]; exact List.mem_range.mpr hk1
    exact (hfall k0 hk1).mpr ((hT (n + 1)).mpr (Nat.le_refl _)) this
  · unfold fallenL
    rw [List.filter_filter]
    refine List.filter_congr fun k hk => ?_
    have hk := List.mem_range.mp hk
    rw [← Bool.decide_and]
    refine decide_eq_decide.mpr ?_
    rw [hfall k hk]
    show S ≤ _ ↔ (fallT ws r rs S k = fallT ws r rs S k0 ∧ rowsL ws r rs k ≠ [])
    constructor
    · intro h
      by_cases hrk : rowsL ws r rs k = []
      · rw [rows_none hrk hr (n + 1)] at h
        exact absurd h (by omega)
      · obtain ⟨T2, e2, h2⟩ := fallT_ok hS hrk
        have h3 := (h2 _).mp h
        have h4 := hmin k hk T2 ((h2 T2).mpr (Nat.le_refl _))
        exact ⟨by rw [e2, hM, show T2 = n + 1 by omega], hrk⟩
    · intro ⟨h, hrk⟩
      obtain ⟨T2, e2, h2⟩ := fallT_ok hS hrk
      rw [e2, hM] at h
      exact (h2 _).mpr (by omega)
end
section
local macro_rules | `(tactic| walk_at "sl") => `(tactic| first | assumption | exact SqL.of upd_same | exact SqL.of (by assumption) | ((with_reducible apply sql_upd); (walk_at "sl"); (first | assumption | exact Ne.symm (by assumption))))
local macro_rules | `(tactic| walk_at "st") => `(tactic| first | assumption | exact SqT.of upd_same | exact SqT.of (by assumption))
local macro_rules | `(tactic| walk_at "sc") => `(tactic| first | rfl | assumption | (show (0 : Int) < _; first | assumption | decide | omega) | exact Or.inl ⟨by omega, by omega⟩ | exact Or.inr ⟨by omega, by omega⟩ | exact ⟨by decide, by decide⟩ | exact ⟨by decide, by decide, by decide⟩)
local macro_rules | `(tactic| walk_at "g1") => `(tactic| first
  | refine ⟨(_ : V), rfl, ?_⟩
  | refine ⟨(_ : Bool), rfl, ?_⟩
  | refine ⟨(_ : Int), (_ : Int), rfl, rfl, ?_⟩
  | refine ⟨(_ : Int), rfl, ?_⟩
  | refine ⟨(_ : Str), rfl, ?_⟩
  | refine ⟨(_ : Addr), (_ : List V), rfl, Or.inl (by walk_at "sl"), ?_⟩
  | refine ⟨(_ : Addr), (_ : List V), rfl, Or.inr (by walk_at "st"), ?_⟩
  | refine ⟨(_ : Addr), (_ : List V), (_ : Int), (_ : V), rfl, rfl, (by walk_at "sl"), (by first | rfl | assumption), ?_⟩
  | refine ⟨(_ : Addr), (_ : List V), (_ : Int), (_ : V), rfl, rfl, (by walk_at "st"), (by first | rfl | assumption), ?_⟩
  | refine ⟨(_ : Addr), (_ : List V), (_ : Int), (_ : Nat), rfl, rfl, upd_same, rfl, ?_⟩
  | refine ⟨(_ : Addr), (_ : List V), (_ : Int), (_ : Nat), rfl, rfl, (by assumption), rfl, ?_⟩
  | refine ⟨(_ : Addr), (_ : Addr), (_ : Addr), (_ : List (Str × V)), (_ : V), rfl, (by assumption), (by assumption), (by assumption), (by first | assumption | rfl), ?_⟩
  | refine Or.inl ⟨(_ : Int), rfl, ?_⟩
  | refine And.intro (by walk_at "sc") ?_
  | refine iteT ?_
  | refine iteF ?_)
/-! #### what is told is told by one; the stages of a heading -/
theorem served_one {ws : List Str} {r : Str} {rs : List Str} {S : Int} {v v' : V} (h : ServedIs ws r rs S v) (h' : ServedIs ws r rs S v') : v = v' := by
  rcases h with ⟨e, rfl⟩ | ⟨e, n, rfl, h1, h2⟩
  · rcases h' with ⟨_, rfl⟩ | ⟨e', _⟩
    · rfl
    · exact absurd e e'
  · rcases h' with ⟨e', _⟩ | ⟨_, m, rfl, h3, h4⟩
    · exact absurd e' e
    · rcases Nat.lt_trichotomy n m with z | z | z
      · rw [h3 n z] at h2; cases h2
      · rw [z]
      · rw [h1 m z] at h4; cases h4
theorem served_scal {ws : List Str} {r : Str} {rs : List Str} {S : Int} {v : V} (h : ServedIs ws r rs S v) : scal v v = true := by
  rcases h with ⟨e, rfl⟩ | ⟨e, n, rfl, h1, h2⟩ <;> rfl
def FO (ws : List Str) (r : Str) (rs : List Str) (S : Int) : Option Nat → Prop
  | none => rs = [] ∨ ws = []
  | some n => rs ≠ [] ∧ ws ≠ [] ∧ (∀ j < n, whole ws r rs S j) ∧ ¬ whole ws r rs S n
def ffD (ws : List Str) (r : Str) (rs : List Str) (S : Int) : Option Nat → PyData
  | none => .none
  | some n => .tuple [.int ((n : Nat) : Int), natD (fallenL ws r rs S n)]
theorem fo_one {ws : List Str} {r : Str} {rs : List Str} {S : Int} {o o' : Option Nat} (h : FO ws r rs S o) (h' : FO ws r rs S o') : o = o' := by
  cases o with
  | none =>
    cases o' with
    | none => rfl
    | some m => exact absurd h fun z => z.elim h'.1 h'.2.1
  | some n =>
    cases o' with
    | none => exact absurd h' fun z => z.elim h.1 h.2.1
    | some m =>
      rcases Nat.lt_trichotomy n m with z | z | z
      · exact absurd (h'.2.2.1 n z) h.2.2.2
      · rw [z]
      · exact absurd (h.2.2.1 m z) h'.2.2.2
theorem FirstIs.same {ws : List Str} {r : Str} {rs : List Str} {S : Int} {v : V} {H H' : Hp} (h : FirstIs K ws r rs S v H) (s : Same H H') : FirstIs K ws r rs S v H' := by
  rcases h with h | ⟨h1, h2, n, t, l, h3, h4, h5, h6, h7⟩
  · exact .inl h
  · exact .inr ⟨h1, h2, n, t, l, h3, s.seqT h4, s _ _ h5, h6, h7⟩
theorem FirstIs.dp {ws : List Str} {r : Str} {rs : List Str} {S : Int} {v : V} {H : Hp} (h : FirstIs K ws r rs S v H) : ∃ o, FO ws r rs S o ∧ Dp K H v (ffD ws r rs S o) := by
  rcases h with ⟨h1, rfl⟩ | ⟨h1, h2, n, t, l, rfl, h4, h5, h6, h7⟩
  · exact ⟨none, h1, .non⟩
  · exact ⟨some n, ⟨h1, h2, h6, h7⟩, .tup h4 (.cons (.int _) (.cons (.lst (SqL.of h5) (dpAll_nats _)) .nil))⟩
theorem ff_shaped (ws : List Str) (r : Str) (rs : List Str) (S : Int) (o : Option Nat) : SeqAt.shaped (ffD ws r rs S o) = true := by
  cases o with
  | none => rfl
  | some n =>
    have h2 := sh_lInts ((fallenL ws r rs S n).map fun (k : Nat) => ((k : Nat) : Int))
    have h3 : PyData.canLayAll0 (((fallenL ws r rs S n).map fun (k : Nat) => ((k : Nat) : Int)).map PyData.int) = true := by
      have := (Bool.and_eq_true_iff.mp h2).1
      exact this
    show (true && ((natD (fallenL ws r rs S n)).canLay0 && true) && decide (max 0 (max (natD (fallenL ws r rs S n)).depth 0) + 1 ≤ 64)) = true
    have hd := natD_depth (fallenL ws r rs S n)
    have hc : (natD (fallenL ws r rs S n)).canLay0 = true := h3
    rw [hc, decide_eq_true (by omega)]
    rfl
theorem ff_eqv (ws : List Str) (r : Str) (rs : List Str) (S : Int) (o : Option Nat) : (ffD ws r rs S o).eqv (ffD ws r rs S o) = true := by
  cases o with
  | none => rfl
  | some n =>
    show ((PyData.int ((n : Nat) : Int)).eqv (PyData.int ((n : Nat) : Int)) && ((natD (fallenL ws r rs S n)).eqv (natD (fallenL ws r rs S n)) && true)) = true
    rw [natD_eqv, decide_eq_true rfl]
    show (decide (((n : Nat) : Int) = ((n : Nat) : Int)) && (true && true)) = true
    rw [decide_eq_true rfl]
    rfl
/-! stages -/
def stg (ws : List Str) (r h : Str) : Nat → List Nat
  | 0 => List.range ws.length
  | j + 1 => (stg ws r h j).filter fun k => decide (k ∉ lookN ws r h (stg ws r h j))
theorem stg_sub (ws : List Str) (r h : Str) : ∀ j, (stg ws r h j).Sublist (List.range ws.length)
  | 0 => List.Sublist.refl _
  | j + 1 => List.filter_sublist.trans (stg_sub ws r h j)
theorem stg_nodup (ws : List Str) (r h : Str) (j : Nat) : (stg ws r h j).Nodup := List.nodup_range.sublist (stg_sub ws r h j)
theorem stg_lt {ws : List Str} {r h : Str} {j k : Nat} (hk : k ∈ stg ws r h j) : k < ws.length := List.mem_range.mp ((stg_sub ws r h j).subset hk)
theorem stg_len (ws : List Str) (r h : Str) (j : Nat) : (stg ws r h j).length ≤ ws.length := by
  have := (stg_sub ws r h j).length_le
  rwa [List.length_range] at this
theorem stg_less {ws : List Str} {r h : Str} {j : Nat} (hf : fndN ws r h (stg ws r h j) = true) : (stg ws r h (j + 1)).length < (stg ws r h j).length := by
  obtain ⟨k, hk⟩ := List.exists_mem_of_ne_nil _ (look_ne (ws := ws) r h (fnd_ne hf))
  have hm := look_mem hk
  rcases Nat.lt_or_ge (stg ws r h (j + 1)).length (stg ws r h j).length with z | z
  · exact z
  · have e : (stg ws r h (j + 1)).length = (stg ws r h j).length := Nat.le_antisymm (List.length_filter_le ..) z
    have := List.length_filter_eq_length_iff.mp e k hm
    exact absurd hk (of_decide_eq_true this)
theorem rq_three (h : Str) (n : Nat) : rq [h, h, h] n = h := by
  unfold rq
  have : n % [h, h, h].length < 3 := Nat.mod_lt _ (Nat.succ_pos 2)
  generalize n % [h, h, h].length = i at this
  match i, this with
  | 0, _ => rfl
  | 1, _ => rfl
  | 2, _ => rfl
theorem stage_in {ws : List Str} {r h : Str} {s m : Nat} {ks : List Nat} (h0 : stN ws r [h, h, h] s m = ks.map fun k => (k, ((s : Nat) : Int))) : ∀ t, t < s → stN ws r [h, h, h] s (m + t) = ks.map fun k => (k, ((s : Nat) : Int) - if k ∈ lookN ws r h ks then ((t : Nat) : Int) else 0)
  | 0, _ => by
    rw [Nat.add_zero, h0]
    refine List.map_congr_left fun k _ => ?_
    show (k, _) = (k, _ - (if _ then (0 : Int) else 0))
    split <;> rw [Int.sub_zero]
  | t + 1, ht => by
    have ih := stage_in h0 t (by omega)
    have hk : keysL (ks.map fun k => (k, ((s : Nat) : Int) - if k ∈ lookN ws r h ks then ((t : Nat) : Int) else 0)) = ks := by
      unfold keysL
      rw [List.map_map]
      exact List.map_id' _
    show stepL ws r (rq [h, h, h] (m + t)) (stN ws r [h, h, h] s (m + t)) = _
    rw [rq_three, ih, step_full fun p hp => ?_, hk, List.map_map]
    · refine List.map_congr_left fun k _ => ?_
      show (k, if k ∈ lookN ws r h ks then (s : Int) - (if k ∈ lookN ws r h ks then (t : Int) else 0) - 1 else (s : Int) - (if k ∈ lookN ws r h ks then (t : Int) else 0)) = (k, (s : Int) - if k ∈ lookN ws r h ks then ((t + 1 : Nat) : Int) else 0)
      by_cases hz : k ∈ lookN ws r h ks
      · rw [if_pos hz, if_pos hz, if_pos hz]
        congr 1
        omega
      · rw [if_neg hz, if_neg hz, if_neg hz]
    · rw [hk]
      obtain ⟨k, hkm, rfl⟩ := List.mem_map.mp hp
      show 0 < if k ∈ lookN ws r h ks then (s : Int) - (if k ∈ lookN ws r h ks then (t : Int) else 0) - 1 else (s : Int) - (if k ∈ lookN ws r h ks then (t : Int) else 0)
      by_cases hz : k ∈ lookN ws r h ks
      · rw [if_pos hz, if_pos hz]
        omega
      · rw [if_neg hz, if_neg hz]
        omega
theorem stage_ok {ws : List Str} {r h : Str} {s : Nat} (hs : 1 ≤ s) : ∀ j, (∀ i < j, fndN ws r h (stg ws r h i) = true) → stN ws r [h, h, h] s (j * s) = (stg ws r h j).map (fun k => (k, ((s : Nat) : Int))) ∧ ∀ n < j * s, fdN ws r [h, h, h] s n = true
  | 0, _ => by
    refine ⟨?_, fun n hn => by rw [Nat.zero_mul] at hn; exact absurd hn (Nat.not_lt_zero n)⟩
    rw [Nat.zero_mul]
    rfl
  | j + 1, hf => by
    obtain ⟨e, hd⟩ := stage_ok hs j fun i hi => hf i (by omega)
    have hin := stage_in e
    have hkt : ∀ t < s, keysL (stN ws r [h, h, h] s (j * s + t)) = stg ws r h j := fun t ht => by
      rw [hin t ht]
      unfold keysL
      rw [List.map_map]
      exact List.map_id' _
    have em : (j + 1) * s = j * s + (s - 1) + 1 := by rw [Nat.add_mul]; omega
    refine ⟨?_, fun n hn => ?_⟩
    · rw [em]
      show stepL ws r (rq [h, h, h] (j * s + (s - 1))) (stN ws r [h, h, h] s (j * s + (s - 1))) = _
      unfold stepL
      rw [rq_three, hkt (s - 1) (by omega), hin (s - 1) (by omega)]
      show wornL _ _ = ((stg ws r h j).filter fun k => decide (k ∉ lookN ws r h (stg ws r h j))).map _
      generalize lookN ws r h (stg ws r h j) = lk
      generalize stg ws r h j = ks
      unfold wornL
      rw [List.map_map, List.filter_map]
      have e1 : (ks.filter ((fun p : Nat × Int => decide (0 < p.2)) ∘ ((fun p : Nat × Int => (p.1, if p.1 ∈ lk then p.2 - 1 else p.2)) ∘ fun k => (k, ((s : Nat) : Int) - if k ∈ lk then ((s - 1 : Nat) : Int) else 0)))) = ks.filter fun k => decide (k ∉ lk) := List.filter_congr fun k _ => by
        show decide (0 < (if k ∈ lk then (s : Int) - (if k ∈ lk then ((s - 1 : Nat) : Int) else 0) - 1 else (s : Int) - (if k ∈ lk then ((s - 1 : Nat) : Int) else 0))) = decide (k ∉ lk)
        by_cases hz : k ∈ lk
        · rw [if_pos hz, if_pos hz, decide_eq_false (show ¬ (k ∉ lk) from fun z => z hz), decide_eq_false (show ¬ (0 < (s : Int) - ((s - 1 : Nat) : Int) - 1) by omega)]
        · rw [if_neg hz, if_neg hz, decide_eq_true (show k ∉ lk from hz), decide_eq_true (show 0 < (s : Int) - 0 by omega)]
      rw [e1]
      refine List.map_congr_left fun k hk => ?_
      have hz := of_decide_eq_true (List.mem_filter.mp hk).2
      show (k, if k ∈ lk then _ else (s : Int) - (if k ∈ lk then ((s - 1 : Nat) : Int) else 0)) = (k, (s : Int))
      rw [if_neg hz, if_neg hz, Int.sub_zero]
    · rcases Nat.lt_or_ge n (j * s) with z | z
      · exact hd n z
      · unfold fdN
        rw [rq_three, show n = j * s + (n - j * s) by omega, hkt (n - j * s) (by omega)]
        exact hf j (Nat.lt_succ_self j)
theorem stage_served {ws : List Str} {r h : Str} {s j : Nat} (hs : 1 ≤ s) (hf : ∀ i < j, fndN ws r h (stg ws r h i) = true) (hn : fndN ws r h (stg ws r h j) = false) : ServedIs ws r [h, h, h] ((s : Nat) : Int) (.int ((j : Nat) * (s : Nat) : Int)) := by
  obtain ⟨e, hd⟩ := stage_ok hs j hf
  refine .inr ⟨List.cons_ne_nil _ _, j * s, by rw [Int.natCast_mul], hd, ?_⟩
  unfold fdN
  rw [rq_three, e]
  have : keysL ((stg ws r h j).map fun k => (k, ((s : Nat) : Int))) = stg ws r h j := by
    unfold keysL
    rw [List.map_map]
    exact List.map_id' _
  rw [this]
  exact hn
end
section
local macro_rules | `(tactic| walk_at "sl") => `(tactic| first | assumption | exact SqL.of upd_same | exact SqL.of (by assumption) | ((with_reducible apply sql_upd); (walk_at "sl"); (first | assumption | exact Ne.symm (by assumption))))
local macro_rules | `(tactic| walk_at "st") => `(tactic| first | assumption | exact SqT.of upd_same | exact SqT.of (by assumption))
local macro_rules | `(tactic| walk_at "sc") => `(tactic| first | rfl | assumption | (show (0 : Int) < _; first | assumption | decide | omega) | exact Or.inl ⟨by omega, by omega⟩ | exact Or.inr ⟨by omega, by omega⟩ | exact ⟨by decide, by decide⟩ | exact ⟨by decide, by decide, by decide⟩)
local macro_rules | `(tactic| walk_at "g1") => `(tactic| first
  | refine ⟨(_ : V), rfl, ?_⟩
  | refine ⟨(_ : Bool), rfl, ?_⟩
  | refine ⟨(_ : Int), (_ : Int), rfl, rfl, ?_⟩
  | refine ⟨(_ : Int), rfl, ?_⟩
  | refine ⟨(_ : Str), rfl, ?_⟩
  | refine ⟨(_ : Addr), (_ : List V), rfl, Or.inl (by walk_at "sl"), ?_⟩
  | refine ⟨(_ : Addr), (_ : List V), rfl, Or.inr (by walk_at "st"), ?_⟩
  | refine ⟨(_ : Addr), (_ : List V), (_ : Int), (_ : V), rfl, rfl, (by walk_at "sl"), (by first | rfl | assumption), ?_⟩
  | refine ⟨(_ : Addr), (_ : List V), (_ : Int), (_ : V), rfl, rfl, (by walk_at "st"), (by first | rfl | assumption), ?_⟩
  | refine ⟨(_ : Addr), (_ : List V), (_ : Int), (_ : Nat), rfl, rfl, upd_same, rfl, ?_⟩
  | refine ⟨(_ : Addr), (_ : List V), (_ : Int), (_ : Nat), rfl, rfl, (by assumption), rfl, ?_⟩
  | refine ⟨(_ : Addr), (_ : Addr), (_ : Addr), (_ : List (Str × V)), (_ : V), rfl, (by assumption), (by assumption), (by assumption), (by first | assumption | rfl), ?_⟩
  | refine Or.inl ⟨(_ : Int), rfl, ?_⟩
  | refine And.intro (by walk_at "sc") ?_
  | refine iteT ?_
  | refine iteF ?_)
/-! ### strengths, and what falls first -/
theorem asc_eq {as bs : List Int} (h1 : as.Pairwise (· < ·)) (h2 : bs.Pairwise (· < ·)) (h : ∀ k, k ∈ as ↔ k ∈ bs) : as = bs := by
  have n1 : as.Nodup := h1.imp fun h e => by omega
  have n2 : bs.Nodup := h2.imp fun h e => by omega
  refine List.Perm.eq_of_pairwise (le := (· < ·)) (fun a b _ _ h1 h2 => by omega) h1 h2 ((List.perm_ext_iff_of_nodup n1 n2).mpr h)
theorem ct_le (look : Nat → List Nat) (k : Nat) : ∀ n, ctN look n k ≤ n
  | 0 => Nat.le_refl _
  | n + 1 => by
    have := ct_le look k n
    show ctN look n k + _ ≤ _
    split <;> omega
theorem fo_least {ws : List Str} {r : Str} {rs : List Str} {S : Int} {n : Nat} (hS : 1 ≤ S) (h : FO ws r rs S (some n)) : 1 ≤ n ∧ (∀ k, k ∈ fallenL ws r rs S n ↔ k < ws.length ∧ S ≤ (ctN (lkA ws r rs) n k : Nat)) ∧ fallenL ws r rs S n ≠ [] ∧ ∀ j < n, ∀ k < ws.length, ((ctN (lkA ws r rs) j k : Nat) : Int) < S := by
  obtain ⟨_, _, hw, hn⟩ := h
  have h0 : n ≠ 0 := fun e => hn (by rw [e]; exact whole_zero ws r rs S)
  obtain ⟨m, rfl⟩ : ∃ m, n = m + 1 := ⟨n - 1, by omega⟩
  refine ⟨by omega, fun k => ?_, fun e => hn (fallen_none.mp e), fun j hj k hk => ?_⟩
  · unfold fallenL
    constructor
    · intro hm
      obtain ⟨h1, h2⟩ := List.mem_filter.mp hm
      have h1 := List.mem_range.mp h1
      have h2 := of_decide_eq_true h2
      refine ⟨h1, ?_⟩
      have := mt (whole_next (S := S) (fun j hj => hw j (by omega)) h1).mpr h2
      omega
    · intro ⟨h1, h2⟩
      refine List.mem_filter.mpr ⟨List.mem_range.mpr h1, decide_eq_true fun hm => ?_⟩
      have := (whole_next (S := S) (fun j hj => hw j (by omega)) h1).mp hm
      omega
  · cases j with
    | zero =>
      show (0 : Int) < S
      omega
    | succ j =>
      refine (whole_next (S := S) (fun i hi => hw i (by omega)) hk).mp ?_
      rw [show keysL (stN ws r rs S (j + 1)) = List.range ws.length from hw (j + 1) hj]
      exact List.mem_range.mpr hk
theorem fo_ge {ws : List Str} {r : Str} {rs : List Str} {S : Int} {n : Nat} (hS : 1 ≤ S) (h : FO ws r rs S (some n)) : S ≤ n := by
  obtain ⟨_, h2, h3, _⟩ := fo_least hS h
  obtain ⟨k, hk⟩ := List.exists_mem_of_ne_nil _ h3
  have := ((h2 k).mp hk).2
  have := ct_le (lkA ws r rs) k n
  omega
theorem fo_le {ws : List Str} {r : Str} {rs : List Str} {s n : Nat} (hs : 1 ≤ s) (h : FO ws r rs ((s : Nat) : Int) (some n)) : n ≤ rs.length * s := by
  obtain ⟨_, _, _, h4⟩ := fo_least (by omega) h
  have hne : (List.range ws.length) ≠ [] := fun e => h.2.1 (List.eq_nil_of_length_eq_zero (List.range_eq_nil.mp e))
  obtain ⟨p, hp⟩ := List.exists_mem_of_ne_nil _ (look_ne (ws := ws) r (rq rs 0) hne)
  have hpr := List.mem_range.mp (look_mem hp)
  refine Nat.le_of_not_lt fun z => ?_
  have h5 := h4 _ z p hpr
  have h6 := ct_rounds (lkA_period ws r rs) p 0 s
  rw [Nat.add_zero, Nat.mul_comm s] at h6
  rw [h6] at h5
  have h7 : 1 ≤ ctN (lkA ws r rs) rs.length p := by
    have h8 : ctN (lkA ws r rs) 1 p = 1 := by
      show 0 + _ = 1
      rw [if_pos (show p ∈ lkA ws r rs 0 from hp)]
    have := ct_mono (lkA ws r rs) p (show 1 ≤ rs.length from List.length_pos_iff.mpr h.1)
    omega
  have h9 : s * 1 ≤ s * ctN (lkA ws r rs) rs.length p := Nat.mul_le_mul_left s h7
  rw [Nat.mul_one] at h9
  omega
theorem fo_more {ws : List Str} {r : Str} {rs : List Str} {S : Int} {n m : Nat} (hS : 1 ≤ S) (h : FO ws r rs S (some n)) (h' : FO ws r rs (S + 1) (some m)) : n < m := by
  obtain ⟨_, _, _, h4⟩ := fo_least hS h
  obtain ⟨g1, g2, g3, _⟩ := fo_least (by omega) h'
  obtain ⟨k, hk⟩ := List.exists_mem_of_ne_nil _ g3
  obtain ⟨hk1, hk2⟩ := (g2 k).mp hk
  refine Nat.lt_of_not_le fun z => ?_
  obtain ⟨i, rfl⟩ : ∃ i, m = i + 1 := ⟨m - 1, by omega⟩
  have h5 := h4 i (by omega) k hk1
  have hk2 : S + 1 ≤ ((ctN (lkA ws r rs) i k + if k ∈ lkA ws r rs i then 1 else 0 : Nat) : Int) := hk2
  split at hk2 <;> omega
theorem fd_whole {ws : List Str} {r : Str} {rs : List Str} {S : Int} {n : Nat} (h : whole ws r rs S n) : fdN ws r rs S n = fndN ws r (rq rs n) (List.range ws.length) := by
  unfold fdN
  rw [show keysL (stN ws r rs S n) = List.range ws.length from h]
theorem rq_mod (rs : List Str) (n : Nat) : rq rs (n % rs.length) = rq rs n := by
  unfold rq
  rw [Nat.mod_mod]
/-- the requests that find no card in the whole drawer -/
def firstL (ws : List Str) (r : Str) (rs : List Str) : List Nat := (List.range rs.length).filter fun k => !fndN ws r (rq rs k) (List.range ws.length)
theorem first_nil {ws : List Str} {r : Str} {rs : List Str} (hr : rs ≠ []) (h : firstL ws r rs = []) (n : Nat) : fndN ws r (rq rs n) (List.range ws.length) = true := by
  have hm : n % rs.length < rs.length := Nat.mod_lt _ (List.length_pos_iff.mpr hr)
  have := List.filter_eq_nil_iff.mp h (n % rs.length) (List.mem_range.mpr hm)
  rw [rq_mod] at this
  cases hf : fndN ws r (rq rs n) (List.range ws.length) with
  | true => rfl
  | false => rw [hf] at this; exact absurd rfl this
theorem first_cons {ws : List Str} {r : Str} {rs : List Str} {f : Nat} {t : List Nat} (h : firstL ws r rs = f :: t) : fndN ws r (rq rs f) (List.range ws.length) = false ∧ ∀ j < f, fndN ws r (rq rs j) (List.range ws.length) = true := by
  have hf : f ∈ firstL ws r rs := by rw [h]; exact List.mem_cons_self
  obtain ⟨h1, h2⟩ := List.mem_filter.mp hf
  have h1 := List.mem_range.mp h1
  refine ⟨by cases hz : fndN ws r (rq rs f) (List.range ws.length) with | false => rfl | true => (rw [hz] at h2; cases h2), fun j hj => ?_⟩
  cases hz : fndN ws r (rq rs j) (List.range ws.length) with
  | true => rfl
  | false =>
    have hm : j ∈ firstL ws r rs := List.mem_filter.mpr ⟨List.mem_range.mpr (by omega), by rw [hz]; rfl⟩
    rw [h] at hm
    have hs : (firstL ws r rs).Pairwise (· < ·) := List.pairwise_lt_range.sublist List.filter_sublist
    rw [h] at hs
    rcases List.mem_cons.mp hm with e | hm
    · omega
    · have := (List.pairwise_cons.mp hs).1 j hm
      omega
/-- what is served against what falls first -/
theorem told_nil {ws : List Str} {r : Str} {rs : List Str} {S : Int} {n m : Nat} (h : FO ws r rs S (some n)) (hf : firstL ws r rs = []) (hm : fdN ws r rs S m = false) : n ≤ m := by
  refine Nat.le_of_not_lt fun z => ?_
  rw [fd_whole (h.2.2.1 m z), first_nil h.1 hf m] at hm
  cases hm
theorem told_cons {ws : List Str} {r : Str} {rs : List Str} {S : Int} {n m f : Nat} {t : List Nat} (h : FO ws r rs S (some n)) (hf : firstL ws r rs = f :: t) (hfn : f < n) (hm : fdN ws r rs S m = false) (hd : ∀ j < m, fdN ws r rs S j = true) : m = f := by
  obtain ⟨h1, h2⟩ := first_cons hf
  have h3 : fdN ws r rs S f = false := by rw [fd_whole (h.2.2.1 f hfn)]; exact h1
  rcases Nat.lt_trichotomy m f with z | z | z
  · rw [fd_whole (h.2.2.1 m (by omega)), h2 m z] at hm
    cases hm
  · exact z
  · rw [hd f z] at h3
    cases h3
/-- a row of requests twice -/
theorem rq_twice {rs : List Str} (hr : rs ≠ []) (n : Nat) : rq (rs ++ rs) n = rq rs n := by
  have hl : 0 < rs.length := List.length_pos_iff.mpr hr
  have hlt : n % (rs.length + rs.length) < rs.length + rs.length := Nat.mod_lt _ (by omega)
  have hmm : n % rs.length = n % (rs.length + rs.length) % rs.length := (Nat.mod_mod_of_dvd n ⟨2, by omega⟩).symm
  unfold rq
  rw [List.length_append, hmm]
  generalize n % (rs.length + rs.length) = i at *
  rcases Nat.lt_or_ge i rs.length with z | z
  · rw [List.getElem?_append_left z, Nat.mod_eq_of_lt z]
  · rw [List.getElem?_append_right z, Nat.mod_eq_sub_mod z, Nat.mod_eq_of_lt (by omega)]
theorem st_twice (ws : List Str) (r : Str) {rs : List Str} (hr : rs ≠ []) (S : Int) : ∀ n, stN ws r (rs ++ rs) S n = stN ws r rs S n
  | 0 => rfl
  | n + 1 => by
    show stepL ws r (rq (rs ++ rs) n) (stN ws r (rs ++ rs) S n) = stepL ws r (rq rs n) (stN ws r rs S n)
    rw [rq_twice hr, st_twice ws r hr S n]
theorem served_twice {ws : List Str} {r : Str} {rs : List Str} (hr : rs ≠ []) {S : Int} {v : V} (h : ServedIs ws r (rs ++ rs) S v) : ServedIs ws r rs S v := by
  have hne : rs ++ rs ≠ [] := fun e => hr (List.append_eq_nil_iff.mp e).1
  have e : ∀ n, fdN ws r (rs ++ rs) S n = fdN ws r rs S n := fun n => by
    unfold fdN
    rw [st_twice ws r hr, rq_twice hr]
  rcases h with ⟨h, _⟩ | ⟨_, n, hv, h1, h2⟩
  · exact absurd h hne
  · exact .inr ⟨hr, n, hv, fun j hj => by rw [← e]; exact h1 j hj, by rw [← e]; exact h2⟩
theorem first_twice {ws : List Str} {r : Str} {rs : List Str} (hr : rs ≠ []) {S : Int} {v : V} {H : Hp} (h : FirstIs K ws r (rs ++ rs) S v H) : FirstIs K ws r rs S v H := by
  have hne : rs ++ rs ≠ [] := fun e => hr (List.append_eq_nil_iff.mp e).1
  have e : ∀ n, whole ws r (rs ++ rs) S n ↔ whole ws r rs S n := fun n => by
    unfold whole
    rw [st_twice ws r hr]
  have e2 : ∀ n, fallenL ws r (rs ++ rs) S n = fallenL ws r rs S n := fun n => by
    unfold fallenL
    rw [st_twice ws r hr]
  rcases h with ⟨h, hv⟩ | ⟨_, h2, n, t, l, h3, h4, h5, h6, h7⟩
  · exact .inl ⟨.inr (h.elim (fun h => absurd h hne) id), hv⟩
  · exact .inr ⟨hr, h2, n, t, l, h3, h4, by rw [← e2]; exact h5, fun j hj => (e j).mp (h6 j hj), fun h => h7 ((e n).mpr h)⟩
/-- a strength of so many rounds of the card that is looked at most -/
theorem fo_due {ws : List Str} {r : Str} {rs : List Str} {c mx n : Nat} (h1 : 1 ≤ c * mx) (hle : ∀ k < ws.length, ctN (lkA ws r rs) rs.length k ≤ mx) (hex : ∃ k, k < ws.length ∧ ctN (lkA ws r rs) rs.length k = mx) (h : FO ws r rs ((c * mx : Nat) : Int) (some n)) :
    n ≤ c * rs.length ∧ ∀ k ∈ fallenL ws r rs ((c * mx : Nat) : Int) n, k < ws.length ∧ ctN (lkA ws r rs) rs.length k = mx := by
  obtain ⟨_, g2, _, g4⟩ := fo_least (by omega) h
  have hc : 0 < c := Nat.pos_of_mul_pos_right (by omega : 0 < c * mx)
  have hr : ∀ k, ctN (lkA ws r rs) (c * rs.length) k = c * ctN (lkA ws r rs) rs.length k := fun k => by
    have := ct_rounds (lkA_period ws r rs) k 0 c
    rw [Nat.add_zero] at this
    rw [this]
    rfl
  have hn : n ≤ c * rs.length := by
    refine Nat.le_of_not_lt fun z => ?_
    obtain ⟨k, hk, e⟩ := hex
    have := g4 _ z k hk
    rw [hr, e] at this
    omega
  refine ⟨hn, fun k hk => ?_⟩
  obtain ⟨hk1, hk2⟩ := (g2 k).mp hk
  refine ⟨hk1, Nat.le_antisymm (hle k hk1) ?_⟩
  have h3 := ct_mono (lkA ws r rs) k hn
  rw [hr] at h3
  exact Nat.le_of_mul_le_mul_left (by omega : c * mx ≤ c * ctN (lkA ws r rs) rs.length k) hc
theorem hds_all (ws : List Str) : hdsL ws (List.range ws.length) = ws := by
  unfold hdsL
  apply List.ext_getElem?
  intro i
  rw [List.getElem?_map]
  rcases Nat.lt_or_ge i ws.length with h | h
  · rw [List.getElem?_range h, List.getElem?_eq_getElem h]
    show some (ws[i]?.getD "") = _
    rw [List.getElem?_eq_getElem h]
    rfl
  · rw [List.getElem?_eq_none h, List.getElem?_eq_none (by rw [List.length_range]; exact h)]
    rfl
theorem look_all (ws : List Str) (r h : Str) : (lookN ws r h (List.range ws.length)).map intV = (seekOf ws r h).2.map V.int := by
  unfold lookN
  rw [hds_all, List.map_map]
  refine List.map_congr_left fun i hi => ?_
  have h1 := (seen_ok ws r h).1 i hi
  show intV ((List.range ws.length)[i.toNat]?.getD 0) = V.int i
  rw [List.getElem?_range (by omega)]
  show V.int ((i.toNat : Nat) : Int) = V.int i
  congr 1
  omega
theorem fnd_all (ws : List Str) (r h : Str) : fndN ws r h (List.range ws.length) = (seekOf ws r h).1.isSome := by
  unfold fndN
  rw [hds_all]
end
section
local macro_rules | `(tactic| walk_at "sl") => `(tactic| first | assumption | exact SqL.of upd_same | exact SqL.of (by assumption) | ((with_reducible apply sql_upd); (walk_at "sl"); (first | assumption | exact Ne.symm (by assumption))))
local macro_rules | `(tactic| walk_at "st") => `(tactic| first | assumption | exact SqT.of upd_same | exact SqT.of (by assumption))
local macro_rules | `(tactic| walk_at "sc") => `(tactic| first | rfl | assumption | (show (0 : Int) < _; first | assumption | decide | omega) | exact Or.inl ⟨by omega, by omega⟩ | exact Or.inr ⟨by omega, by omega⟩ | exact ⟨by decide, by decide⟩ | exact ⟨by decide, by decide, by decide⟩)
local macro_rules | `(tactic| walk_at "g1") => `(tactic| first
  | refine ⟨(_ : V), rfl, ?_⟩
  | refine ⟨(_ : Bool), rfl, ?_⟩
  | refine ⟨(_ : Int), (_ : Int), rfl, rfl, ?_⟩
  | refine ⟨(_ : Int), rfl, ?_⟩
  | refine ⟨(_ : Str), rfl, ?_⟩
  | refine ⟨(_ : Addr), (_ : List V), rfl, Or.inl (by walk_at "sl"), ?_⟩
  | refine ⟨(_ : Addr), (_ : List V), rfl, Or.inr (by walk_at "st"), ?_⟩
  | refine ⟨(_ : Addr), (_ : List V), (_ : Int), (_ : V), rfl, rfl, (by walk_at "sl"), (by first | rfl | assumption), ?_⟩
  | refine ⟨(_ : Addr), (_ : List V), (_ : Int), (_ : V), rfl, rfl, (by walk_at "st"), (by first | rfl | assumption), ?_⟩
  | refine ⟨(_ : Addr), (_ : List V), (_ : Int), (_ : Nat), rfl, rfl, upd_same, rfl, ?_⟩
  | refine ⟨(_ : Addr), (_ : List V), (_ : Int), (_ : Nat), rfl, rfl, (by assumption), rfl, ?_⟩
  | refine ⟨(_ : Addr), (_ : Addr), (_ : Addr), (_ : List (Str × V)), (_ : V), rfl, (by assumption), (by assumption), (by assumption), (by first | assumption | rfl), ?_⟩
  | refine Or.inl ⟨(_ : Int), rfl, ?_⟩
  | refine And.intro (by walk_at "sc") ?_
  | refine iteT ?_
  | refine iteF ?_)
/-! #### _law_are_right -/
def spAR (K : PySem.W.Frag) (D C : Addr) : Sp := fun vs H Q _ => ∃ (d b f : Addr) (cs : List CD) (r : Str) (rs : List Str), vs = [.ref d, .str r, .ref b, .ref f] ∧ DrawerAt K D C H d cs ∧ cs.length ≤ 50 ∧ r ∈ rules3 ∧ SqT K H b (rs.map V.str) ∧ rs.length ≤ 12 ∧ (∀ x ∈ rs, isWord x = true) ∧ rs ≠ [] ∧ SqL K H f ((firstL (heads cs) r rs).map intV) ∧ (∀ H' : Hp, Same H H' → SqL K H' f ((firstL (heads cs) r rs).map intV)) ∧ ∀ H', Same H H' → Q (.bl true) H'
theorem ok_llaw_are_right (T : Top K mg) : FnOk P w K mg base CX0 6 T.a_llaw_are_right T.fd_llaw_are_right ["_law_drawer_here", "_law_rule_here", "_law_some", "_law_first"] (spAR K T.c_Drawer T.c_Card) := by
  refine T.F_llaw_are_right.ok sc_llaw_are_right (fun vs H Q E h => ?_) (fun cdv A outer s H vs Q E hr h => ?_)
  · obtain ⟨d, b, f, cs, r, rs, rfl, _⟩ := h
    rfl
  · obtain ⟨d, b, f, cs, r, rs, rfl, hD, hl, hrr, hB, hrl, hw, hr0, _, hF, k⟩ := h
    have hu := hu_of hr
    have hlen : (heads cs).length = cs.length := List.length_map ..
    refine ⟨_, (pss_cons (ps_for PassesOwn.never rfl (pi_tup (pe_tup (pa_cons pe_int (pa_cons pe_int (pa_cons pe_int (pa_cons (pe_op op_pow pe_int pe_int) pa_nil)))))) (pg_name (i := 4) sc_llaw_are_right.nd rfl (.inl rfl))
        (pss_cons (ps_par (i := 5) (j := 6) (by rfl) sc_llaw_are_right.nd rfl rfl (by decide) rfl rfl (pa_cons (pe_call (ok_served T) (hr.mono (by decide)) (by rfl) T.g_served T.F_served.kp (b_served T) .nil pass0 (pa_cons (pv 0) (pa_cons (pv 1) (pa_cons (pv 2) (pa_cons (pv 4) pa_nil))))) (pa_cons (pe_call (ok_first_fallen T) (hr.mono (by decide)) (by rfl) T.g_first_fallen T.F_first_fallen.kp (b_first_fallen T) .nil pass0 (pa_cons (pv 0) (pa_cons (pv 1) (pa_cons (pv 2) (pa_cons (pv 4) pa_nil))))) pa_nil)) (by rfl))
        (pss_cons (ps_if (pt_cmpR op_ne (pe_cmpR op_isN (pv 6) pe_non (nomark _)) (pe_cmpR op_eq (pe_callB (call_lenOwn T.M_Drawer_len (ok_Drawer_len T) (hr.mono (by decide)) (b_Drawer_len T) pass0) (by rfl) T.m_len (by decide +kernel) (pa_cons (pv 0) pa_nil)) pe_int (nomark _)) (nomark _)) (pss_one (ps_ret pe_bl)) pss_nil)
        (pss_cons (ps_if (pt_cmpR op_notN (pv 6) pe_non (nomark _)) (pss_cons (ps_asg (pv 6) (pg_tup rfl (pgs_cons (pg_name (i := 7) sc_llaw_are_right.nd rfl (.inl rfl)) (pgs_cons (pg_name (i := 8) sc_llaw_are_right.nd rfl (.inl rfl)) pgs_nil))))
          (pss_cons (ps_if (PW.pt (pw_or (pt_cmpR (op_neD hr.units) (pv 8) (pe_callB (cr_sortedSetK (w := w) rfl rfl) (by rfl) T.m_sorted (by decide +kernel) (pa_cons (pe_callTy (call_setLIK (K := K) (w := w) rfl rfl rfl) (by rfl) T.m_set (by decide +kernel) (pa_cons (pv 8) pa_nil)) pa_nil)) (nomark _)) (pw_or (pt_cmpR (op_eqD hr.units) (pv 8) (pe_lst pa_nil) (nomark _)) (pw_or1 (pt_cmpR op_lt (pv 7) (pv 4) (nomark _)))))) (pss_one (ps_ret pe_bl)) pss_nil)
          (pss_cons (ps_mid (ps_if (PW.pt (pw_or (PW.pt (pw_and (pt_cmpR (op_eqD hr.units) (pv 3) (pe_lst pa_nil) (nomark _)) (pw_and1 (pt_cmpR op_lt (pv 5) (pv 7) (nomark _))))) (pw_or1 (PW.pt (pw_and (pt_cmpR (op_neD hr.units) (pv 3) (pe_lst pa_nil) (nomark _)) (pw_and (pt_cmpR op_lt (pe_ix ix_list (pv 3) pe_int (fun _ _ => rfl)) (pv 7) (nomark _)) (pw_and1 (pt_cmpR op_ne (pv 5) (pe_ix ix_list (pv 3) pe_int (fun _ _ => rfl)) (nomark _))))))))) (pss_one (ps_ret pe_bl)) pss_nil))
          (pss_one (ps_if (pt_cmpR op_lt (pe_op op_mul (pe_callB call_len_seq (by rfl) T.m_len (by decide +kernel) (pa_cons (pv 2) pa_nil)) (pv 4)) (pv 7) (nomark _)) (pss_one (ps_ret pe_bl)) pss_nil))))) pss_nil)
        (pss_cons (ps_if (PW.pt (pw_and (pt_cmpR op_isN (pv 6) pe_non (nomark _)) (pw_and1 (pt_cmpR op_ne (pv 5) pe_int (nomark _))))) (pss_one (ps_ret pe_bl)) pss_nil)
        (pss_cons (ps_set (i := 9) sc_llaw_are_right.nd rfl (.inl rfl) (pe_call (ok_first_fallen T) (hr.mono (by decide)) (by rfl) T.g_first_fallen T.F_first_fallen.kp (b_first_fallen T) .nil pass0 (pa_cons (pv 0) (pa_cons (pv 1) (pa_cons (pv 2) (pa_cons (pe_op op_add (pv 4) pe_int) pa_nil))))))
        (pss_one (ps_if (PW.pt (pw_and (pt_cmpR op_notN (pv 6) pe_non (nomark _)) (pw_and1 (pt_cmpR op_le (pe_ix ix_tup (pv 9) pe_int (fun _ _ => rfl)) (pe_ix ix_tup (pv 6) pe_int (fun _ _ => rfl)) (nomark _))))) (pss_one (ps_ret pe_bl)) pss_nil))))))))
      (pss_one (ps_ret pe_bl))), ?_⟩
    refine ⟨_, _, rfl, rfl, ⟨by decide, by decide, by decide⟩, by show 4 ≤ sizeLine; decide, fun tm htm => ?_⟩
    have sM : Same H (upd H tm (.tup (([1, 2, 5, 1000000000000] : List Nat).map intV))) := same_new htm
    have eM : SqT K (upd H tm (.tup (([1, 2, 5, 1000000000000] : List Nat).map intV))) tm (([1, 2, 5, 1000000000000] : List Nat).map intV) := SqT.of upd_same
    have hms : ∀ m ∈ ([1, 2, 5, 1000000000000] : List Nat), 1 ≤ m ∧ m ≤ 1000000000000 := by decide
    refine ⟨tm, rfl, ⟨_, eM⟩, for_tup (K := K) (a := tm) (xs := ([1, 2, 5, 1000000000000] : List Nat).map intV) (fun i σ H' => ∃ y4 y5 y6 y7 y8 y9, σ = [some (.ref d), some (.str r), some (.ref b), some (.ref f), y4, y5, y6, y7, y8, y9] ∧ Same H H' ∧ SqT K H' tm (([1, 2, 5, 1000000000000] : List Nat).map intV)) ⟨_, _, _, _, _, _, rfl, sM, eM⟩ (fun i σ H _ ⟨_, _, _, _, _, _, _, _, h⟩ => h) (fun i x σ H1 hi hP => ?_) (fun σ H1 hP => ?_)⟩
    · obtain ⟨y4, y5, y6, y7, y8, y9, rfl, s1, eM1⟩ := hP
      rw [List.getElem?_map] at hi
      obtain ⟨s, hs, rfl⟩ := Option.map_eq_some_iff.mp hi
      obtain ⟨hs1, hs2⟩ := hms s (List.mem_of_getElem? hs)
      have hS1 : 1 ≤ ((s : Nat) : Int) := by omega
      have hS2 : ((s : Nat) : Int) ≤ bigN := by unfold bigN; omega
      have hS3 : ((s : Nat) : Int) + 1 ≤ bigN := by unfold bigN; omega
      clear hi hs hms eM sM htm
      have D1 := hD.imm s1.imm
      refine ⟨_, rfl, _, rfl, _, rfl, _, rfl, d, b, cs, r, rs, ((s : Nat) : Int), rfl, D1, by omega, hrr, s1.seqT hB, hrl, hw, hS1, hS2, fun v H2 s2 hv => ?_⟩
      have s02 := s1.trans s2
      refine ⟨_, rfl, _, rfl, _, rfl, _, rfl, d, b, cs, r, rs, ((s : Nat) : Int), rfl, hD.imm s02.imm, by omega, hrr, s02.seqT hB, hrl, hw, hS1, hS2, fun fv H3 s3 hf => ?_⟩
      refine ⟨_, _, rfl, ?_⟩
      have s03 := s02.trans s3
      have D3 := hD.imm s03.imm
      have eM3 := (s2.trans s3).seqT eM1
      obtain ⟨dx, tc, ps, hd, hTc, hC⟩ := id D3
      rcases hv with ⟨e, _⟩ | ⟨_, n0, rfl, hd0, hn0⟩
      · exact absurd e hr0
      rcases hf with ⟨hz, rfl⟩ | ⟨_, hws, n, t, l, rfl, hT, hL, hwh, hnw⟩
      · have hws : heads cs = [] := hz.resolve_left hr0
        have hcs0 : cs.length = 0 := by rw [← hlen, hws]; rfl
        have hn0' : n0 = 0 := by
          cases n0 with
          | zero => rfl
          | succ m =>
            have h0 := hd0 0 (Nat.succ_pos m)
            rw [fd_whole (whole_zero _ _ _ _), hws] at h0
            have := fnd_ne h0
            exact absurd rfl this
        subst hn0'
        refine ⟨_, rfl, rfl, _, rfl, d, dx, _, rfl, hd, d, cs, rfl, D3, by omega, _, rfl, by omega, by omega, ?_⟩
        refine ⟨rfl, ?_⟩
        rw [int_dec, decide_eq_true (show ((cs.length : Nat) : Int) = 0 by omega)]
        refine rNe_to (b := false) rfl rfl ?_
        refine ⟨_, rfl, iteF ?_⟩
        refine ⟨_, rfl, rfl, _, rfl, iteF ?_⟩
        refine ⟨_, rfl, rfl, _, rfl, iteT ?_⟩
        refine ⟨_, rfl, rfl, ?_⟩
        rw [int_dec, decide_eq_true (show ((0 : Nat) : Int) = 0 from rfl)]
        refine ⟨_, rfl, iteF ?_⟩
        refine ⟨_, rfl, _, rfl, _, rfl, _, rfl, _, _, rfl, rfl, d, b, cs, r, rs, ((s : Nat) : Int) + 1, rfl, D3, by omega, hrr, s03.seqT hB, hrl, hw, by omega, hS3, fun fv2 H4 s4 hf2 => ?_⟩
        refine ⟨_, rfl, rfl, _, rfl, iteF ?_⟩
        refine iteF ?_
        exact ⟨_, _, _, _, _, _, rfl, s03.trans s4, s4.seqT eM3⟩
      · have hcs0 : cs.length ≠ 0 := fun e => hws (List.eq_nil_of_length_eq_zero (hlen.trans e))
        have hfo : FO (heads cs) r rs ((s : Nat) : Int) (some n) := ⟨hr0, hws, hwh, hnw⟩
        have hfa := fo_least hS1 hfo
        have hge := fo_ge hS1 hfo
        have hle := fo_le hs1 hfo
        refine ⟨_, rfl, rfl, _, rfl, d, dx, _, rfl, hd, d, cs, rfl, D3, by omega, _, rfl, by omega, by omega, ?_⟩
        refine ⟨rfl, ?_⟩
        rw [int_dec, decide_eq_false (show ¬ (((cs.length : Nat) : Int) = 0) by omega)]
        refine rNe_to (b := false) rfl rfl ?_
        refine ⟨_, rfl, iteF ?_⟩
        refine ⟨_, rfl, rfl, _, rfl, iteT ?_⟩
        refine ⟨_, rfl, t, _, rfl, hT, rfl, _, _, rfl, _, _, rfl, rfl, ?_⟩
        have hfsub : (fallenL (heads cs) r rs ((s : Nat) : Int) n).Pairwise (· < ·) := List.pairwise_lt_range.sublist List.filter_sublist
        have hfl : (fallenL (heads cs) r rs ((s : Nat) : Int) n).length ≤ 50 := by
          have := List.length_filter_le (fun k => decide (k ∉ keysL (stN (heads cs) r rs ((s : Nat) : Int) n))) (List.range (heads cs).length)
          rw [List.length_range] at this
          unfold fallenL
          omega
        have hfne := hfa.2.2.1
        generalize hfe : fallenL (heads cs) r rs ((s : Nat) : Int) n = fl at *
        have hLi : H3 l = some (.lst ((fl.map fun (k : Nat) => ((k : Nat) : Int)).map V.int)) := by rw [hL, List.map_map]; rfl
        have hasc : (fl.map fun (k : Nat) => ((k : Nat) : Int)).Pairwise (· < ·) := List.pairwise_map.mpr (hfsub.imp fun h => by omega)
        refine ⟨_, rfl, _, rfl, l, fl.map fun (k : Nat) => ((k : Nat) : Int), rfl, SqL.of hLi, by rw [List.length_map]; omega, fun ps2 kz hps hnd hks => ?_⟩
        have hkl : kz.length ≤ 50 := by
          have h1 : kz.length ≤ (fl.map fun (k : Nat) => ((k : Nat) : Int)).length := nodup_leN hnd fun x hx => (hks x).mp hx
          rw [List.length_map] at h1
          omega
        refine ⟨ps2, _, kz.length, rfl, upd_same, by omega, fun ns' p2 hpw hmem hln hp2 => ?_⟩
        have ens : ns' = fl.map fun (k : Nat) => ((k : Nat) : Int) := asc_eq hpw hasc fun k => by rw [hmem k, decide_eq_true_eq]
        subst ens
        have s4 := (same_new (o := SetO w ps2 (fun j => decide (j ∈ fl.map fun (k : Nat) => ((k : Nat) : Int))) kz.length) hps).trans (same_new (o := .lst ((fl.map fun (k : Nat) => ((k : Nat) : Int)).map V.int)) hp2)
        refine rNeD_to (b := false) (.lst (SqL.of (s4 _ _ hL)) (dpAll_nats fl)) (.lst (SqL.of (by rw [upd_same, List.map_map]; rfl)) (dpAll_nats fl)) (sh_lInts _) (sh_lInts _) (by
          show (!(natD fl).eqv (natD fl)) = false
          rw [natD_eqv, decide_eq_true rfl]
          rfl) ?_
        refine ⟨_, rfl, iteF ?_⟩
        have s34 := s4
        have hL4 := s4 _ _ hL
        have e4 : Same H3 _ := s4
        clear hks hmem hpw hnd
        refine ⟨_, rfl, by show 0 ≤ sizeLine; decide, fun e5 he5 => ?_⟩
        have s5 := s4.trans (same_new (o := .lst []) he5)
        refine rEqD_to (b := false) (.lst (SqL.of (s5 _ _ hL)) (dpAll_nats fl)) (.lst (SqL.of upd_same) .nil) (sh_lInts _) (sh_lInts []) (by
          show (natD fl).eqv (natD []) = false
          rw [natD_eqv]
          exact decide_eq_false hfne) ?_
        refine ⟨_, rfl, iteF ?_⟩
        refine ⟨_, rfl, _, rfl, _, _, rfl, rfl, _, rfl, ?_⟩
        rw [decide_eq_false (show ¬ (((n : Nat) : Int) < ((s : Nat) : Int)) by omega)]
        refine iteF ?_
        have s6 : ∀ {H4 : Hp}, Same H H4 → SqL K H4 f ((firstL (heads cs) r rs).map intV) := fun s => hF _ s
        generalize hH5 : upd (upd (upd H3 ps2 (SetO w ps2 (fun j => decide (j ∈ fl.map fun (k : Nat) => ((k : Nat) : Int))) kz.length)) p2 (.lst ((fl.map fun (k : Nat) => ((k : Nat) : Int)).map V.int))) e5 (.lst []) = H5 at *
        clear hH5 he5 hp2 hps e4 s34 s4 hL4
        have s05 := s03.trans s5
        refine ⟨fun σ' H' => σ' = [some (.ref d), some (.str r), some (.ref b), some (.ref f), some (intV s), some (.int ((n0 : Nat) : Int)), some (.ref t), some (.int ((n : Nat) : Int)), some (.ref l), y9] ∧ Same H5 H', ?_, fun σ' H' h => ?_⟩
        · refine ⟨_, rfl, by show 0 ≤ sizeLine; decide, fun e6 he6 => ?_⟩
          have s56 := same_new (o := .lst []) he6
          refine rEqD_to (b := decide (firstL (heads cs) r rs = [])) (.lst (hF _ (s05.trans s56)) (dpAll_nats _)) (.lst (SqL.of upd_same) .nil) (sh_lInts _) (sh_lInts []) (by
            show (natD _).eqv (natD []) = _
            rw [natD_eqv]) ?_
          refine ⟨_, rfl, ?_⟩
          cases hfl1 : firstL (heads cs) r rs with
          | nil =>
            rw [decide_eq_true rfl]
            have htn := told_nil hfo hfl1 hn0
            refine iteT ?_
            refine ⟨_, rfl, _, rfl, _, _, rfl, rfl, _, rfl, ?_⟩
            rw [decide_eq_false (show ¬ (((n0 : Nat) : Int) < ((n : Nat) : Int)) by omega)]
            refine iteF ?_
            refine ⟨_, rfl, by show 0 ≤ sizeLine; decide, fun e7 he7 => ?_⟩
            have s57 := s56.trans (same_new (o := .lst []) he7)
            refine rNeD_to (b := false) (.lst (hF _ (s05.trans s57)) (dpAll_nats _)) (.lst (SqL.of upd_same) .nil) (sh_lInts _) (sh_lInts []) (by
              show (!(natD _).eqv (natD [])) = _
              rw [natD_eqv, hfl1]
              rfl) ?_
            refine ⟨_, rfl, iteF ?_⟩
            refine iteF ?_
            exact ⟨rfl, s57⟩
          | cons f0 ft =>
            rw [decide_eq_false (List.cons_ne_nil _ _)]
            refine iteF ?_
            refine iteF ?_
            refine ⟨_, rfl, by show 0 ≤ sizeLine; decide, fun e7 he7 => ?_⟩
            have s57 := s56.trans (same_new (o := .lst []) he7)
            refine rNeD_to (b := true) (.lst (hF _ (s05.trans s57)) (dpAll_nats _)) (.lst (SqL.of upd_same) .nil) (sh_lInts _) (sh_lInts []) (by
              show (!(natD _).eqv (natD [])) = _
              rw [natD_eqv, hfl1]
              rfl) ?_
            have hF7 := hF _ (s05.trans s57)
            rw [hfl1] at hF7
            refine ⟨_, rfl, iteT ?_⟩
            refine ⟨_, rfl, f, _, ((0 : Nat) : Int), intV f0, rfl, rfl, hF7, atI_nat rfl, _, rfl, _, _, rfl, rfl, _, rfl, ?_⟩
            by_cases hz : f0 < n
            · have e := told_cons hfo hfl1 hz hn0 hd0
              subst e
              rw [decide_eq_true (show ((n0 : Nat) : Int) < ((n : Nat) : Int) by omega)]
              refine iteT ?_
              refine ⟨_, rfl, _, rfl, f, _, ((0 : Nat) : Int), intV n0, rfl, rfl, hF7, atI_nat rfl, ?_⟩
              refine ⟨rfl, ?_⟩
              rw [decide_eq_true rfl]
              refine ⟨_, rfl, iteF ?_⟩
              exact ⟨rfl, s57⟩
            · rw [decide_eq_false (show ¬ (((f0 : Nat) : Int) < ((n : Nat) : Int)) by omega)]
              refine iteF ?_
              refine iteF ?_
              exact ⟨rfl, s57⟩
        obtain ⟨rfl, s6⟩ := h
        have s06 := s05.trans s6
        refine ⟨_, rfl, b, _, rfl, .inr (s06.seqT hB), _, rfl, ?_⟩
        rw [List.length_map]
        refine rI_of (v := .int (((rs.length : Nat) : Int) * ((s : Nat) : Int))) (.inl ⟨by omega, by omega⟩) rfl ?_
        refine ⟨_, rfl, _, _, rfl, rfl, _, rfl, ?_⟩
        rw [decide_eq_false (show ¬ (((rs.length : Nat) : Int) * ((s : Nat) : Int) < ((n : Nat) : Int)) by rw [← Int.natCast_mul]; omega)]
        refine iteF ?_
        refine ⟨_, rfl, rfl, _, rfl, iteF ?_⟩
        refine iteF ?_
        refine ⟨_, rfl, _, rfl, _, rfl, _, rfl, _, _, rfl, rfl, d, b, cs, r, rs, ((s : Nat) : Int) + 1, rfl, hD.imm s06.imm, by omega, hrr, s06.seqT hB, hrl, hw, by omega, hS3, fun fv2 H7 s7 hf2 => ?_⟩
        rcases hf2 with ⟨hz, _⟩ | ⟨_, _, n2, t2, l2, rfl, hT2, _, hwh2, hnw2⟩
        · exact absurd hz fun z => z.elim hr0 hws
        have hmore := fo_more hS1 hfo (m := n2) ⟨hr0, hws, hwh2, hnw2⟩
        refine ⟨_, rfl, rfl, _, rfl, iteT ?_⟩
        have hT7 := (s5.trans (s6.trans s7)).seqT hT
        refine ⟨_, rfl, t2, _, ((0 : Nat) : Int), _, rfl, rfl, hT2, atI_nat rfl, _, rfl, t, _, ((0 : Nat) : Int), _, rfl, rfl, hT7, atI_nat rfl, _, _, rfl, rfl, _, rfl, ?_⟩
        rw [decide_eq_false (show ¬ (((n2 : Nat) : Int) ≤ ((n : Nat) : Int)) by omega)]
        refine iteF ?_
        exact ⟨_, _, _, _, _, _, rfl, s06.trans s7, (s5.trans (s6.trans s7)).seqT eM3⟩
    · obtain ⟨y4, y5, y6, y7, y8, y9, rfl, s1, _⟩ := hP
      exact k H1 s1
end
section
local macro_rules | `(tactic| walk_at "sl") => `(tactic| first | assumption | exact SqL.of upd_same | exact SqL.of (by assumption) | ((with_reducible apply sql_upd); (walk_at "sl"); (first | assumption | exact Ne.symm (by assumption))))
local macro_rules | `(tactic| walk_at "st") => `(tactic| first | assumption | exact SqT.of upd_same | exact SqT.of (by assumption))
local macro_rules | `(tactic| walk_at "sc") => `(tactic| first | rfl | assumption | (show (0 : Int) < _; first | assumption | decide | omega) | exact Or.inl ⟨by omega, by omega⟩ | exact Or.inr ⟨by omega, by omega⟩ | exact ⟨by decide, by decide⟩ | exact ⟨by decide, by decide, by decide⟩)
local macro_rules | `(tactic| walk_at "g1") => `(tactic| first
  | refine ⟨(_ : V), rfl, ?_⟩
  | refine ⟨(_ : Bool), rfl, ?_⟩
  | refine ⟨(_ : Int), (_ : Int), rfl, rfl, ?_⟩
  | refine ⟨(_ : Int), rfl, ?_⟩
  | refine ⟨(_ : Str), rfl, ?_⟩
  | refine ⟨(_ : Addr), (_ : List V), rfl, Or.inl (by walk_at "sl"), ?_⟩
  | refine ⟨(_ : Addr), (_ : List V), rfl, Or.inr (by walk_at "st"), ?_⟩
  | refine ⟨(_ : Addr), (_ : List V), (_ : Int), (_ : V), rfl, rfl, (by walk_at "sl"), (by first | rfl | assumption), ?_⟩
  | refine ⟨(_ : Addr), (_ : List V), (_ : Int), (_ : V), rfl, rfl, (by walk_at "st"), (by first | rfl | assumption), ?_⟩
  | refine ⟨(_ : Addr), (_ : List V), (_ : Int), (_ : Nat), rfl, rfl, upd_same, rfl, ?_⟩
  | refine ⟨(_ : Addr), (_ : List V), (_ : Int), (_ : Nat), rfl, rfl, (by assumption), rfl, ?_⟩
  | refine ⟨(_ : Addr), (_ : Addr), (_ : Addr), (_ : List (Str × V)), (_ : V), rfl, (by assumption), (by assumption), (by assumption), (by first | assumption | rfl), ?_⟩
  | refine Or.inl ⟨(_ : Int), rfl, ?_⟩
  | refine And.intro (by walk_at "sc") ?_
  | refine iteT ?_
  | refine iteF ?_)
open LamX
def spLaw (K : PySem.W.Frag) (tP : Addr) : Sp := fun vs H Q _ => ∃ (a : Addr) (ns : List Int), vs = [.ref a] ∧ SqL K H a (ns.map V.int) ∧ ns.length ≤ 63 ∧ H tP = some (.tbl #[]) ∧ ∀ H', Q (.bl true) H'
theorem w6_word : ∀ x ∈ w6, isWord x = true := by decide +kernel
theorem w6_ok : ∀ x ∈ w6, PyData.strOk x = true := by decide +kernel
theorem w6_len : ∀ x ∈ w6, x.length ≤ 1000 := by decide +kernel
def FndL (K : PySem.W.Frag) (H : Hp) (ws : List Str) (r : Str) (rs : List Str) (fl : Addr) (us : List V) : Prop := H fl = some (.lst us) ∧ us.length = rs.length ∧ ∀ (i : Nat) u h, us[i]? = some u → rs[i]? = some h → ∃ t, u = .ref t ∧ Seen K H t (seekOf ws r h)
theorem FndL.same {H H' : Hp} {ws : List Str} {r : Str} {rs : List Str} {fl : Addr} {us : List V} (h : FndL K H ws r rs fl us) (s : Same H H') : FndL K H' ws r rs fl us := ⟨s _ _ h.1, h.2.1, fun i u x h1 h2 => by
  obtain ⟨t, e, g⟩ := h.2.2 i u x h1 h2
  exact ⟨t, e, g.imm s.imm⟩⟩
theorem catA_to {a b : Addr} {xs ys : List V} {H : Hp} {Q : VK} (h1 : SqT K H a xs) (h2 : SqT K H b ys) (hz : xs.length + ys.length ≤ sizeLine) (k : ∀ (p : Addr) (H' : Hp), Same H H' → SqT K H' p (xs ++ ys) → Q (.ref p) H') : rCatA K (.ref a) (.ref b) H Q :=
  ⟨a, b, xs, ys, rfl, rfl, h1, h2, hz, fun e => k b H (Same.refl _) (by rw [e]; exact h2), fun _ e => k a H (Same.refl _) (by rw [e, List.append_nil]; exact h1), fun _ _ p hp => k p _ (same_new hp) (SqT.of upd_same)⟩
theorem all_some : ∀ zs : List (Option V), (∀ z ∈ zs, ∃ v, z = some v) → zs = (zs.filterMap id).map some
  | [], _ => rfl
  | z :: t, h => by
    obtain ⟨v, rfl⟩ := h z List.mem_cons_self
    rw [List.filterMap_cons_some (show id (some v) = some v from rfl), List.map_cons, ← all_some t fun z hz => h z (List.mem_cons_of_mem _ hz)]
theorem not_fm (p : Nat → Bool) (g : Nat → V) : ∀ xs : List Nat, xs.filterMap (fun k => if p k = true then none else some (g k)) = (xs.filter fun k => !p k).map g
  | [] => rfl
  | k :: t => by
    cases h : p k with
    | true => rw [List.filterMap_cons_none (f := fun k => if p k = true then none else some (g k)) (show (if p k = true then none else some (g k)) = none from if_pos h), List.filter_cons_of_neg (p := fun k => !p k) (by rw [h]; decide), not_fm p g t]
    | false => rw [List.filterMap_cons_some (f := fun k => if p k = true then none else some (g k)) (show (if p k = true then none else some (g k)) = some (g k) from if_neg (by rw [h]; decide)), List.filter_cons_of_pos (p := fun k => !p k) (by rw [h]; rfl), List.map_cons, not_fm p g t]
theorem set_map (n : Nat) (g : Nat → Int) {kk : Nat} (hk : kk < n) (v : Int) : (((List.range n).map g).map V.int).set kk (.int v) = ((List.range n).map fun k => if k = kk then v else g k).map V.int := by
  apply List.ext_getElem?
  intro i
  rw [List.getElem?_set]
  rw [List.getElem?_map, List.getElem?_map, List.getElem?_map, List.getElem?_map]
  rcases Nat.lt_or_ge i n with z | z
  · rw [List.getElem?_range z]
    by_cases e : kk = i
    · subst e
      rw [if_pos rfl, if_pos (by rw [List.length_map, List.length_map, List.length_range]; exact hk)]
      show some (V.int v) = some (V.int (if kk = kk then v else g kk))
      rw [if_pos rfl]
    · rw [if_neg e]
      show some (V.int (g i)) = some (V.int (if i = kk then v else g i))
      rw [if_neg fun z => e z.symm]
  · rw [List.getElem?_eq_none (by rw [List.length_range]; exact z), if_neg (by omega)]
    rfl
theorem max_ex (f : Nat → Nat) : ∀ n, 0 < n → ∃ k, k < n ∧ ∀ j < n, f j ≤ f k
  | 1, _ => ⟨0, by omega, fun j hj => by rw [show j = 0 by omega]; exact Nat.le_refl _⟩
  | n + 2, _ => by
    obtain ⟨k, hk, h⟩ := max_ex f (n + 1) (by omega)
    by_cases z : f (n + 1) ≤ f k
    · refine ⟨k, by omega, fun j hj => ?_⟩
      rcases Nat.lt_or_ge j (n + 1) with z2 | z2
      · exact h j z2
      · rw [show j = n + 1 by omega]; exact z
    · refine ⟨n + 1, by omega, fun j hj => ?_⟩
      rcases Nat.lt_or_ge j (n + 1) with z2 | z2
      · have := h j z2
        omega
      · rw [show j = n + 1 by omega]; exact Nat.le_refl _
theorem ok_law (T : Top K mg) {c tP : Addr} (hcode : T.fd_llaw_drawer.code = .ref c) (TB : TabB base mg c tP) : FnOk P w K mg base CX0 8 T.a_law T.fd_law ["_law_script"] (spLaw K tP) := by
  refine T.F_law.ok sc_law (fun vs H Q E h => ?_) (fun cdv A outer s H vs Q E hr h => ?_)
  · obtain ⟨a, ns, rfl, _⟩ := h
    rfl
  · obtain ⟨a, ns, rfl, hS, hl, hP, k⟩ := h
    have hu := hu_of hr
    refine ⟨_, (pss_cons (ps_set (i := 1) sc_law.nd rfl (.inl rfl) (pe_lst (pa_cons (pv 0) (pa_cons pe_int (pa_cons pe_int (pa_cons pe_int pa_nil))))))
      (pss_cons (ps_for PassesOwn.never rfl (pi_range1 (by rfl) T.m_range (pa_cons pe_int pa_nil)) (pg_name (i := 2) sc_law.nd rfl (.inl rfl))
        (pss_cons (ps_asg (pe_tup (pa_cons (pe_call (ok_llaw_drawer T hcode TB) (hr.mono (by decide)) (by rfl) T.g_llaw_drawer T.F_llaw_drawer.kp (b_llaw_drawer T) .nil pass0 (pa_cons (pv 1) (pa_cons pe_int pa_nil))) (pa_cons (pe_call (ok_llaw_rule T) (hr.mono (by decide)) (by rfl) T.g_llaw_rule T.F_llaw_rule.kp (b_llaw_rule T) .nil pass0 (pa_cons (pv 1) pa_nil)) (pa_cons (pe_call (ok_llaw_words T) (hr.mono (by decide)) (by rfl) T.g_llaw_words T.F_llaw_words.kp (b_llaw_words T) .nil pass0 (pa_cons (pv 1) (pa_cons pe_int pa_nil))) pa_nil)))) (pg_tup rfl (pgs_cons (pg_name (i := 3) sc_law.nd rfl (.inr rfl)) (pgs_cons (pg_name (i := 4) sc_law.nd rfl (.inr rfl)) (pgs_cons (pg_name (i := 5) sc_law.nd rfl (.inl rfl)) pgs_nil)))))
        (pss_one (ps_if (pt_cmpR (op_neD hr.units) (pv 5) (pe_tup pa_nil) (nomark _)) (pss_cons (ps_set (i := 6) sc_law.nd rfl (.inr rfl) (pe_lc (own := [("_law_name", 14)]) (g := gName 14) (tt := tYes) rfl sc_law.nd (pi_tup (pv 5)) (blkOk_by (N := N_law) (sc := defScope s_law) (by decide +kernel)) (fun _ _ _ _ _ => (pg_name (i := 14) sc_law.nd rfl (.inl rfl))) (fun _ _ _ _ _ => pts_nil) (fun _ _ _ _ _ => (pe_call (ok_look_up T) (hr.mono (by decide)) (by rfl) T.g_look_up T.F_look_up.kp (b_look_up T) .nil pass0 (pa_cons (pv 3) (pa_cons (pv 4) (pa_cons (pv 14) pa_nil)))))))
          (pss_cons (ps_setLc (i := 8) (own := [("_law_k", 7)]) (g := gName 7) rfl sc_law.nd rfl rfl (sw_true rfl rfl rfl (by decide +kernel)) (pi_range1 (by rfl) T.m_range (pa_cons (pe_callB call_len_seq (by rfl) T.m_len (by decide +kernel) (pa_cons (pv 5) pa_nil)) pa_nil)) (blkOk_by (N := N_law) (sc := defScope s_law) (by decide +kernel)) (fun _ _ _ _ _ => (pg_name (i := 7) sc_law.nd rfl (.inl rfl))) (fun _ _ _ _ _ => (pts_one (pt_cmpR op_isN (pe_ix (ix_tupK (K := K) rfl) (pe_ix (ix_listK (K := K) rfl) (pv 6) (pv 7) (fun _ _ => rfl)) pe_int (fun _ _ => rfl)) pe_non (nomark _)))) (fun _ _ _ _ _ => (pv 7)))
          (pss_cons (ps_if (pt_not (pt_val (pe_call (ok_llaw_are_right T) (hr.mono (by decide)) (by rfl) T.g_llaw_are_right T.F_llaw_are_right.kp (b_llaw_are_right T) .nil pass0 (pa_cons (pv 3) (pa_cons (pv 4) (pa_cons (pv 5) (pa_cons (pv 8) pa_nil))))))) (pss_one (ps_ret pe_bl)) pss_nil)
          (pss_cons (ps_if (pt_cmpR op_ne (pe_call (ok_served T) (hr.mono (by decide)) (by rfl) T.g_served T.F_served.kp (b_served T) .nil pass0 (pa_cons (pv 3) (pa_cons (pv 4) (pa_cons (pe_op op_catA (pv 5) (pv 5)) (pa_cons pe_int pa_nil))))) (pe_call (ok_served T) (hr.mono (by decide)) (by rfl) T.g_served T.F_served.kp (b_served T) .nil pass0 (pa_cons (pv 3) (pa_cons (pv 4) (pa_cons (pv 5) (pa_cons pe_int pa_nil))))) (nomark _)) (pss_one (ps_ret pe_bl)) pss_nil)
          (pss_cons (ps_if (pt_cmpR (op_neD hr.units) (pe_call (ok_first_fallen T) (hr.mono (by decide)) (by rfl) T.g_first_fallen T.F_first_fallen.kp (b_first_fallen T) .nil pass0 (pa_cons (pv 3) (pa_cons (pv 4) (pa_cons (pe_op op_catA (pv 5) (pv 5)) (pa_cons (pe_op op_pow pe_int pe_int) pa_nil))))) (pe_call (ok_first_fallen T) (hr.mono (by decide)) (by rfl) T.g_first_fallen T.F_first_fallen.kp (b_first_fallen T) .nil pass0 (pa_cons (pv 3) (pa_cons (pv 4) (pa_cons (pv 5) (pa_cons (pe_op op_pow pe_int pe_int) pa_nil))))) (nomark _)) (pss_one (ps_ret pe_bl)) pss_nil)
          (pss_one (ps_if (PW.pt (pw_and (pt_cmpR op_gt (pe_callB (call_lenOwn T.M_Drawer_len (ok_Drawer_len T) (hr.mono (by decide)) (b_Drawer_len T) pass0) (by rfl) T.m_len (by decide +kernel) (pa_cons (pv 3) pa_nil)) pe_int (nomark _)) (pw_and1 (pt_cmpR (op_eqD hr.units) (pv 8) (pe_lst pa_nil) (nomark _))))) (pss_cons (ps_set (i := 9) sc_law.nd rfl (.inr rfl) (pe_op op_rep (pe_lst (pa_cons pe_int pa_nil)) (pe_callB (call_lenOwn T.M_Drawer_len (ok_Drawer_len T) (hr.mono (by decide)) (b_Drawer_len T) pass0) (by rfl) T.m_len (by decide +kernel) (pa_cons (pv 3) pa_nil))))
            (pss_cons (ps_for PassesOwn.never rfl (pi_list (pv 6)) (pg_tup rfl (pgs_cons (pg_name (i := 10) sc_law.nd rfl (.inl rfl)) (pgs_cons (pg_name (i := 11) sc_law.nd rfl (.inl rfl)) pgs_nil)))
              (pss_one (ps_for PassesOwn.never rfl (pi_tup (pv 11)) (pg_name (i := 7) sc_law.nd rfl (.inl rfl))
                (pss_one (ps_asg (pe_op op_add (pe_ix ix_list (pv 9) (pv 7) (fun _ _ => rfl)) pe_int) (pg_sub (pv 9) (pv 7) set_list))))))
            (pss_cons (ps_set (i := 12) sc_law.nd rfl (.inr rfl) (pe_tup (pa_cons (pe_op op_mulW (pe_op op_pow pe_int pe_int) (pe_callB call_len_seq (by rfl) T.m_len (by decide +kernel) (pa_cons (pv 5) pa_nil))) (pa_cons (pe_lc (own := [("_law_k", 7)]) (g := gName 7) rfl sc_law.nd (pi_range1 (by rfl) T.m_range (pa_cons (pe_callB (call_lenOwn T.M_Drawer_len (ok_Drawer_len T) (hr.mono (by decide)) (b_Drawer_len T) pass0) (by rfl) T.m_len (by decide +kernel) (pa_cons (pv 3) pa_nil)) pa_nil)) (blkOk_by (N := N_law) (sc := defScope s_law) (by decide +kernel)) (fun _ _ _ _ _ => (pg_name (i := 7) sc_law.nd rfl (.inl rfl))) (fun _ _ _ _ _ => (pts_one (pt_cmpR op_eq (pe_ix (ix_listK (K := K) rfl) (pv 9) (pv 7) (fun _ _ => rfl)) (pe_callB (cr_maxK (K := K) rfl rfl) (by rfl) T.m_max (by decide +kernel) (pa_cons (pv 9) pa_nil)) (nomark _)))) (fun _ _ _ _ _ => (pv 7))) pa_nil))))
            (pss_cons (ps_asg (pe_call (ok_first_fallen T) (hr.mono (by decide)) (by rfl) T.g_first_fallen T.F_first_fallen.kp (b_first_fallen T) .nil pass0 (pa_cons (pv 3) (pa_cons (pv 4) (pa_cons (pv 5) (pa_cons (pe_op op_mulW (pe_op op_pow pe_int pe_int) (pe_callB (cr_maxK (K := K) rfl rfl) (by rfl) T.m_max (by decide +kernel) (pa_cons (pv 9) pa_nil))) pa_nil))))) (pg_tup rfl (pgs_cons (pg_name (i := 13) sc_law.nd rfl (.inl rfl)) (pgs_cons (pg_name (i := 11) sc_law.nd rfl (.inl rfl)) pgs_nil))))
            (pss_one (ps_if (PW.pt (pw_or (pt_cmpR op_gt (pv 13) (pe_ix ix_tup (pv 12) pe_int (fun _ _ => rfl)) (nomark _)) (pw_or1 (pt_cmpR (op_neD hr.units) (pe_lc (own := [("_law_k", 7)]) (g := gName 7) rfl sc_law.nd (pi_list (pv 11)) (blkOk_by (N := N_law) (sc := defScope s_law) (by decide +kernel)) (fun _ _ _ _ _ => (pg_name (i := 7) sc_law.nd rfl (.inl rfl))) (fun _ _ _ _ _ => (pts_one (pt_cmpR (op_notIn_seqK (K := K) rfl) (pv 7) (pe_ix (ix_tupK (K := K) rfl) (pv 12) pe_int (fun _ _ => rfl)) rfl))) (fun _ _ _ _ _ => (pv 7))) (pe_lst pa_nil) (nomark _))))) (pss_one (ps_ret pe_bl)) pss_nil)))))) pss_nil))))))) pss_nil))))
      (pss_one (ps_ret pe_bl)))), ?_⟩
    refine ⟨_, rfl, by show 4 ≤ sizeLine; decide, fun rw hrw => ?_⟩
    have R1 : RowAt K (upd H rw (.lst [.ref a, .int 0, .int 0, .int 0])) rw a ns := ⟨0, 0, 0, upd_same, Scr.new hS hrw, by decide, by decide⟩
    have T1 : Tabs [(tP, lamP)] (upd H rw (.lst [.ref a, .int 0, .int 0, .int 0])) := fun p hp => by
      obtain rfl := List.mem_singleton.mp hp
      exact TabS.nil (kp hP hrw)
    generalize upd H rw (.lst [.ref a, .int 0, .int 0, .int 0]) = H1 at *
    clear hrw hS hP
    refine ⟨_, rfl, by decide, by decide, for_range (lo := 0) (n := 4) (fun i σ H2 => ∃ y2 y3 y4 y5 y6 y7 y8 y9 y10 y11 y12 y13, σ = [some (.ref a), some (.ref rw), y2, y3, y4, y5, y6, y7, y8, y9, y10, y11, y12, y13, none] ∧ RowAt K H2 rw a ns ∧ Tabs [(tP, lamP)] H2)
      ⟨_, _, _, _, _, _, _, _, _, _, _, _, rfl, R1, T1⟩ (fun ti σ H2 _ hP => ?_) (fun σ H2 hP => ?_)⟩
    · clear R1 T1 H1
      obtain ⟨y2, y3, y4, y5, y6, y7, y8, y9, y10, y11, y12, y13, rfl, R2, T2⟩ := hP
      refine ⟨_, rfl, rw, a, ns, 8, rfl, by decide, R2, T2, fun d H3 cs hcl bN3 T3 R3 D3 hG hdr => ?_⟩
      clear R2 T2 bN3
      refine ⟨_, rfl, rw, a, ns, rfl, R3, fun r H4 hr4 b4 R4 => ?_⟩
      have T4 := tabs_but T3 b4 R3
      have D4 := D3.imm (b4.imm R3.at.choose_spec.1 R3.at.choose_spec.2)
      refine ⟨_, rfl, rw, a, ns, 6, rfl, by decide, R4, fun tr rs H5 b5 R5 hT5 hl5 hw5 => ?_⟩
      have T5 := tabs_but T4 b5 R4
      have D5 := D4.imm (b5.imm R4.at.choose_spec.1 R4.at.choose_spec.2)
      have hw : ∀ x ∈ rs, isWord x = true := fun x hx => w6_word x (hw5 x hx)
      have hok : ∀ x ∈ rs, PyData.strOk x = true := fun x hx => w6_ok x (hw5 x hx)
      clear T3 R3 D3 T4 R4 D4 b4 b5 hdr H2 H3 H4
      refine ⟨by show 3 ≤ sizeLine; decide, fun t3 ht3 => ?_⟩
      have sN : Same H5 (upd H5 t3 (.tup [.ref d, .str r, .ref tr])) := same_new ht3
      refine ⟨t3, _, rfl, SqT.of upd_same, rfl, _, _, rfl, _, _, rfl, _, _, rfl, rfl, ?_⟩
      replace R5 := R5.same sN
      replace T5 := T5.ext sN
      replace D5 := D5.imm sN.imm
      replace hT5 := sN.seqT hT5
      generalize upd H5 t3 (.tup [.ref d, .str r, .ref tr]) = H6 at *
      clear sN ht3 H5
      refine ⟨_, rfl, by show 0 ≤ sizeLine; decide, fun e7 he7 => ?_⟩
      have s7 := same_new (o := .tup []) he7
      have g7 : SqT K (upd H6 e7 (.tup [])) e7 ([] : List V) := SqT.of upd_same
      have R7 := R5.same s7
      have T7 := T5.ext s7
      have D7 := D5.imm s7.imm
      have B7 := s7.seqT hT5
      generalize upd H6 e7 (.tup []) = H7 at *
      refine rNeD_to (b := !decide (rs = [])) (dp_tStrs B7) (.tup g7 .nil) (sh_tStrs _ hok) (sh_tStrs [] (fun _ h => nomatch h)) (by cases rs <;> rfl) ?_
      clear R5 T5 D5 hT5 he7 s7 g7 H6
      by_cases hr0 : rs = []
      · rw [decide_eq_true hr0]
        refine ⟨_, rfl, iteF ?_⟩
        exact ⟨_, _, _, _, _, _, _, _, _, _, _, _, rfl, R7, T7⟩
      rw [decide_eq_false hr0]
      refine ⟨_, rfl, iteT ?_⟩
      have hlen : (heads cs).length = cs.length := List.length_map ..
      refine ⟨_, rfl, tr, rfl, ⟨_, B7⟩, fun D hD => lc_rel (walk_tup (K := K) (a := tr) (xs := rs.map V.str)) (by rw [List.length_map]; omega) hD (fun i z H' => ∀ h, rs[i]? = some h → ∃ t, z = some (.ref t) ∧ Seen K H' t (seekOf (heads cs) r h)) (fun i z H H' im h x hx => by
          obtain ⟨t, e, g⟩ := h x hx
          exact ⟨t, e, g.imm im⟩) (fun H' s' => s'.seqT B7) (fun i x H8 H9 hi s8 hy R R0 r1 r0 => ?_) (fun H8 zs s8 hzl hzs hD8 => ?_)⟩
      · obtain ⟨rfl, hx⟩ := hy
        rw [List.getElem?_map] at hx
        obtain ⟨h, hh, rfl⟩ := Option.map_eq_some_iff.mp hx
        have hhm := List.mem_of_getElem? hh
        refine ⟨rfl, tYes_of ?_⟩
        refine ⟨_, rfl, _, rfl, _, rfl, d, cs, r, h, rfl, D7.imm s8.imm, by omega, hr4, hw h hhm, w6_len h (hw5 h hhm), fun t H10 s10 hS => ?_⟩
        refine r1 _ _ (fun x hx => ?_) s10
        rw [hh] at hx
        obtain rfl := Option.some.inj hx
        exact ⟨t, rfl, hS⟩
      · have hrl : rs.length ≤ 6 := hl5
        have hzl : zs.length = rs.length := by rw [hzl, List.length_map]
        have F8 : FndL K H8 (heads cs) r rs D (zs.filterMap id) := by
          have hall : ∀ z ∈ zs, ∃ v, z = some v := fun z hz => by
            obtain ⟨i, hi⟩ := List.mem_iff_getElem?.mp hz
            have hil := (List.getElem?_eq_some_iff.mp hi).1
            obtain ⟨t, e, _⟩ := hzs i z hi _ (List.getElem?_eq_getElem (show i < rs.length by omega))
            exact ⟨_, e⟩
          have ez := all_some zs hall
          refine ⟨hD8, ?_, fun i u h h1 h2 => ?_⟩
          · have := congrArg List.length ez
            rw [List.length_map] at this
            omega
          · have h3 : zs[i]? = some (some u) := by rw [ez, List.getElem?_map, h1]; rfl
            obtain ⟨t, e, g⟩ := hzs i _ h3 h h2
            exact ⟨t, Option.some.inj e, g⟩
        generalize zs.filterMap id = us at *
        have R8 := R7.same s8
        have T8 := T7.ext s8
        have D8 := D7.imm s8.imm
        have B8 := s8.seqT B7
        clear hzs hzl hD8 s8 hD R7 T7 D7 B7 H7
        refine ⟨_, rfl, tr, _, rfl, .inr B8, rs.length, (by rw [List.length_map]), by omega, by omega, fun D2 hD2 => lc_fn (walk_range (n := rs.length)) (by omega) hD2 (fun k => if fndN (heads cs) r (rq rs k) (List.range (heads cs).length) = true then none else some (intV k)) (fun _ _ => trivial) (fun i x H9 H10 hi s9 hy R R0 r1 r0 => ?_) (fun H9 s9 hD9 => ?_)⟩
        · obtain ⟨rfl, hx⟩ := hy
          have hx : x = intV i := by
            rw [hx]
            show V.int (0 + _) = _
            rw [Int.zero_add]
          subst hx
          have hh : rs[i]? = some rs[i] := List.getElem?_eq_getElem hi
          have hrq := rq_at (rs := rs) (m := 0) (Nat.dvd_zero _) hi
          rw [hh, Nat.zero_add] at hrq
          have hrq := Option.some.inj hrq
          have F9 := F8.same s9
          have hu9 : us[i]? = some (us[i]'(by rw [F9.2.1]; exact hi)) := List.getElem?_eq_getElem (by rw [F9.2.1]; exact hi)
          generalize us[i]'(by rw [F9.2.1]; exact hi) = u at hu9
          obtain ⟨t, rfl, pl, hts, hpl⟩ := F9.2.2 i u _ hu9 hh
          rw [hrq] at hts
          rw [fnd_all] at r1 r0
          refine ⟨rfl, ?_⟩
          refine ⟨_, rfl, _, rfl, D, _, ((i : Nat) : Int), .ref t, rfl, rfl, SqL.of F9.1, atI_nat hu9, t, _, ((0 : Nat) : Int), _, rfl, rfl, hts, atI_nat rfl, rfl, ?_⟩
          cases hso : (seekOf (heads cs) r (rq rs i)).1 with
          | none =>
            rw [hso] at r1 r0
            exact ⟨_, rfl, iteT ⟨_, rfl, r1 _ _ rfl (Same.refl _)⟩⟩
          | some j =>
            rw [hso] at r1 r0
            exact ⟨_, rfl, iteF (r0 _ rfl (Same.refl _))⟩
        · rw [not_fm (fun k => fndN (heads cs) r (rq rs k) (List.range (heads cs).length)) intV] at hD9
          replace hD9 : H9 D2 = some (.lst ((firstL (heads cs) r rs).map intV)) := hD9
          have R9 := R8.same s9
          have T9 := T8.ext s9
          have D9 := D8.imm s9.imm
          have B9 := s9.seqT B8
          have F9 := F8.same s9
          clear s9 R8 T8 D8 B8 F8 hD2 H8
          refine ⟨_, rfl, _, rfl, _, rfl, _, rfl, d, tr, D2, cs, r, rs, rfl, D9, by omega, hr4, B9, by omega, hw, hr0, SqL.of hD9, fun H' s' => SqL.of (s' _ _ hD9), fun H10 s10 => ?_⟩
          refine ⟨_, rfl, iteF ?_⟩
          have R10 := R9.same s10
          have T10 := T9.ext s10
          have D10 := D9.imm s10.imm
          have B10 := s10.seqT B9
          have F10 := F9.same s10
          have e10 := s10 _ _ hD9
          clear s10 R9 T9 D9 B9 F9 hD9 H9
          have hsz : (rs.map V.str).length + (rs.map V.str).length ≤ sizeLine := by
            rw [List.length_map]
            have := sizeLine_of (n := rs.length + rs.length) (by omega)
            omega
          have hww : ∀ x ∈ rs ++ rs, isWord x = true := fun x hx => (List.mem_append.mp hx).elim (hw x) (hw x)
          refine ⟨_, rfl, _, rfl, _, rfl, _, rfl, catA_to B10 B10 hsz fun p1 H11 s11 hp1 => ?_⟩
          refine ⟨d, p1, cs, r, rs ++ rs, 3, rfl, D10.imm s11.imm, by omega, hr4, by rw [List.map_append]; exact hp1, by rw [List.length_append]; omega, hww, by decide, by decide, fun v H12 s12 hv => ?_⟩
          have s102 := s11.trans s12
          refine ⟨_, rfl, _, rfl, _, rfl, d, tr, cs, r, rs, 3, rfl, D10.imm s102.imm, by omega, hr4, s102.seqT B10, by omega, hw, by decide, by decide, fun v' H13 s13 hv' => ?_⟩
          obtain rfl := served_one (served_twice hr0 hv) hv'
          refine ⟨served_scal hv', ?_⟩
          rw [decide_eq_true rfl]
          refine ⟨_, rfl, iteF ?_⟩
          have s103 := s102.trans s13
          have R13 := R10.same s103
          have T13 := T10.ext s103
          have D13 := D10.imm s103.imm
          have B13 := s103.seqT B10
          have F13 := F10.same s103
          have e13 := s103 _ _ e10
          clear s103 s102 s13 s12 s11 hp1 hv hv' R10 T10 D10 B10 F10 e10 H10 H11 H12 v
          refine ⟨_, rfl, _, rfl, _, rfl, _, rfl, catA_to B13 B13 hsz fun p1 H11 s11 hp1 => ?_⟩
          refine ⟨_, _, rfl, rfl, ⟨by decide, by decide, by decide⟩, d, p1, cs, r, rs ++ rs, 1000000000000, rfl, D13.imm s11.imm, by omega, hr4, by rw [List.map_append]; exact hp1, by rw [List.length_append]; omega, hww, by decide, by decide, fun v H12 s12 hv => ?_⟩
          have s102 := s11.trans s12
          refine ⟨_, rfl, _, rfl, _, rfl, _, _, rfl, rfl, ⟨by decide, by decide, by decide⟩, d, tr, cs, r, rs, 1000000000000, rfl, D13.imm s102.imm, by omega, hr4, s102.seqT B13, by omega, hw, by decide, by decide, fun v' H14 s13 hv' => ?_⟩
          obtain ⟨o, ho, hdo⟩ := ((first_twice hr0 hv).same s13).dp
          obtain ⟨o', ho', hdo'⟩ := hv'.dp
          obtain rfl := fo_one ho ho'
          refine rNeD_to (b := false) hdo hdo' (ff_shaped _ _ _ _ _) (ff_shaped _ _ _ _ _) (by rw [ff_eqv]; rfl) ?_
          refine ⟨_, rfl, iteF ?_⟩
          have s103 := s102.trans s13
          have R14 := R13.same s103
          have T14 := T13.ext s103
          have D14 := D13.imm s103.imm
          have B14 := s103.seqT B13
          have F14 := F13.same s103
          have e14 := s103 _ _ e13
          clear s103 s102 s13 s12 s11 hp1 hv hv' hdo hdo' ho ho' o R13 T13 D13 B13 F13 e13 H11 H12 H13 v v' hww hsz
          obtain ⟨dx, tc, ps, hd, hTc, hC⟩ := id D14
          refine ⟨_, rfl, d, dx, _, rfl, hd, d, cs, rfl, D14, by omega, _, rfl, by omega, by omega, ?_⟩
          refine ⟨_, _, rfl, rfl, _, rfl, ?_⟩
          by_cases hz : 0 < cs.length
          · rw [decide_eq_true (show (0 : Int) < ((cs.length : Nat) : Int) by omega)]
            refine iteT ?_
            refine ⟨_, rfl, by show 0 ≤ sizeLine; decide, fun e7 he7 => ?_⟩
            have s15 := same_new (o := .lst []) he7
            refine rEqD_to (b := decide (firstL (heads cs) r rs = [])) (.lst (SqL.of (s15 _ _ e14)) (dpAll_nats _)) (.lst (SqL.of upd_same) .nil) (sh_lInts _) (sh_lInts []) (by
              show (natD _).eqv (natD []) = _
              rw [natD_eqv]) ?_
            have R15 := R14.same s15
            have T15 := T14.ext s15
            have D15 := D14.imm s15.imm
            have B15 := s15.seqT B14
            have F15 := F14.same s15
            generalize upd H14 e7 (.lst []) = H15 at *
            clear s15 he7 R14 T14 D14 B14 F14 e14 hd hTc hC H14
            by_cases hfl : firstL (heads cs) r rs = []
            · rw [decide_eq_true hfl]
              refine ⟨_, rfl, iteT ?_⟩
              obtain ⟨dx, tc, ps, hd, hTc, hC⟩ := id D15
              refine ⟨by show 1 ≤ sizeLine; decide, fun l1 hl1 => ?_⟩
              have sA := same_new (o := .lst [.int 0]) hl1
              have fA : (upd H15 l1 (.lst [.int 0])) l1 = some (.lst [.int 0]) := upd_same
              generalize upd H15 l1 (.lst [.int 0]) = HA at *
              refine ⟨_, rfl, d, dx, _, rfl, sA _ _ hd, d, cs, rfl, D15.imm sA.imm, by omega, _, rfl, by omega, by omega, l1, _, _, rfl, rfl, fA, by omega, by omega, ?_, fun C hC0 => ?_⟩
              · rw [Int.toNat_natCast]
                show 1 * cs.length ≤ sizeLine
                have := sizeLine_of (n := cs.length) (by omega)
                omega
              rw [Int.toNat_natCast, List.flatten_replicate_singleton]
              have er : List.replicate cs.length (V.int 0) = ((List.range (heads cs).length).map fun k => ((ctN (lkA (heads cs) r rs) 0 k : Nat) : Int)).map V.int := by
                rw [← hlen, List.map_map]
                show _ = (List.range (heads cs).length).map fun _ => V.int ((0 : Nat) : Int)
                rw [List.map_const', List.length_range]
                rfl
              rw [er]
              have hCH : H15 C = none := sA.free hC0
              have sB := sA.trans (same_new (o := .lst (((List.range (heads cs).length).map fun k => ((ctN (lkA (heads cs) r rs) 0 k : Nat) : Int)).map V.int)) hC0)
              have fB : (upd HA C (.lst (((List.range (heads cs).length).map fun k => ((ctN (lkA (heads cs) r rs) 0 k : Nat) : Int)).map V.int))) C = some (.lst (((List.range (heads cs).length).map fun k => ((ctN (lkA (heads cs) r rs) 0 k : Nat) : Int)).map V.int)) := upd_same
              show gName 9 (.ref C) _ (upd HA C (.lst (((List.range (heads cs).length).map fun k => ((ctN (lkA (heads cs) r rs) 0 k : Nat) : Int)).map V.int))) _
              generalize upd HA C (.lst (((List.range (heads cs).length).map fun k => ((ctN (lkA (heads cs) r rs) 0 k : Nat) : Int)).map V.int)) = HB at *
              clear er hC0 hl1 fA sA HA l1
              refine ⟨_, rfl, D, rfl, ⟨_, SqL.of (sB _ _ F15.1)⟩, for_list (K := K) (a := D) (xs := us) (fun i σ H' => ∃ y2 y7 y10 y11 y12 y13, σ = [some (.ref a), some (.ref rw), y2, some (.ref d), some (.str r), some (.ref tr), some (.ref D), y7, some (.ref D2), some (.ref C), y10, y11, y12, y13, none] ∧ Same H15 H' ∧ H' C = some (.lst (((List.range (heads cs).length).map fun k => ((ctN (lkA (heads cs) r rs) i k : Nat) : Int)).map V.int))) ⟨_, _, _, _, _, _, rfl, sB, fB⟩ (fun i σ H' _ ⟨_, _, _, _, _, _, _, s', _⟩ => SqL.of (s' _ _ F15.1)) (fun i x σ H16 hi hP => ?_) (fun σ H16 hP => ?_)⟩
              · obtain ⟨y2, y7, y10, y11, y12, y13, rfl, s16, fC⟩ := hP
                have hil : i < rs.length := by
                  have := (List.getElem?_eq_some_iff.mp hi).1
                  rw [F15.2.1] at this
                  exact this
                have hh : rs[i]? = some rs[i] := List.getElem?_eq_getElem hil
                have hrq := rq_at (rs := rs) (m := 0) (Nat.dvd_zero _) hil
                rw [hh, Nat.zero_add] at hrq
                have hrq := Option.some.inj hrq
                obtain ⟨t, rfl, pl, hts, hpl⟩ := (F15.same s16).2.2 i x _ hi hh
                rw [hrq] at hts hpl
                rw [← look_all] at hpl
                refine ⟨t, _, rfl, hts, rfl, _, _, rfl, _, _, rfl, rfl, ?_⟩
                change SqT K H16 pl ((lkA (heads cs) r rs i).map intV) at hpl
                have hlt : ∀ k ∈ lkA (heads cs) r rs i, k < (heads cs).length := fun k hk => List.mem_range.mp (look_mem hk)
                have hnd : (lkA (heads cs) r rs i).Nodup := look_nodup List.nodup_range
                have hct : ∀ k, ctN (lkA (heads cs) r rs) (i + 1) k = ctN (lkA (heads cs) r rs) i k + if k ∈ lkA (heads cs) r rs i then 1 else 0 := fun k => rfl
                rw [show (fun k => ((ctN (lkA (heads cs) r rs) (i + 1) k : Nat) : Int)) = fun k => ((ctN (lkA (heads cs) r rs) i k + if k ∈ lkA (heads cs) r rs i then 1 else 0 : Nat) : Int) from rfl]
                generalize lkA (heads cs) r rs i = lk at *
                generalize ctN (lkA (heads cs) r rs) i = ci at *
                refine ⟨_, rfl, pl, rfl, ⟨_, hpl⟩, for_tup (K := K) (a := pl) (xs := lk.map intV) (fun j σ H17 => ∃ y7 y10, σ = [some (.ref a), some (.ref rw), y2, some (.ref d), some (.str r), some (.ref tr), some (.ref D), y7, some (.ref D2), some (.ref C), y10, some (.ref pl), y12, y13, none] ∧ But C H16 H17 ∧ H17 C = some (.lst (((List.range (heads cs).length).map fun k => ((ci k + if k ∈ lk.take j then 1 else 0 : Nat) : Int)).map V.int))) ⟨_, _, rfl, But.refl, by rw [fC]; rfl⟩ (fun j σ H17 _ ⟨_, _, _, b17, _⟩ => (b17.imm fC rfl).seqT hpl) (fun j x σ H17 hj hP17 => ?_) (fun σ H17 hP17 => ?_)⟩
                · obtain ⟨z7, z10, rfl, b17, f17⟩ := hP17
                  rw [List.getElem?_map] at hj
                  obtain ⟨kk, hkk, rfl⟩ := Option.map_eq_some_iff.mp hj
                  have hkn := hlt kk (List.mem_of_getElem? hkk)
                  have hnot : kk ∉ lk.take j := fun hm => by
                    obtain ⟨m, hm'⟩ := List.mem_iff_getElem?.mp hm
                    have hmj : m < j := by
                      have := (List.getElem?_eq_some_iff.mp hm').1
                      rw [List.length_take] at this
                      omega
                    rw [List.getElem?_take_of_lt hmj] at hm'
                    obtain ⟨g1, e1⟩ := List.getElem?_eq_some_iff.mp hm'
                    obtain ⟨g2, e2⟩ := List.getElem?_eq_some_iff.mp hkk
                    have := (List.getElem_inj hnd).mp (e1.trans e2.symm)
                    omega
                  have hat : (((List.range (heads cs).length).map fun k => ((ci k + if k ∈ lk.take j then 1 else 0 : Nat) : Int)).map V.int)[kk]? = some (.int ((ci kk : Nat) : Int)) := by
                    rw [List.getElem?_map, List.getElem?_map, List.getElem?_range hkn]
                    show some (V.int ((ci kk + if kk ∈ lk.take j then 1 else 0 : Nat) : Int)) = _
                    rw [if_neg hnot, Nat.add_zero]
                  refine ⟨_, rfl, _, rfl, C, _, ((kk : Nat) : Int), _, rfl, rfl, SqL.of f17, atI_nat hat, _, _, rfl, rfl, ?_⟩
                  refine ⟨_, rfl, _, rfl, C, _, ((kk : Nat) : Int), kk, rfl, rfl, f17, ?_, ?_⟩
                  · rw [List.length_map, List.length_map, List.length_range]
                    unfold ixN
                    rw [if_pos (by omega), if_pos (by omega)]
                    rfl
                  · rw [set_map _ _ hkn]
                    refine ⟨_, _, rfl, b17.upd, ?_⟩
                    rw [upd_same]
                    congr 4
                    funext k
                    rw [List.take_add_one, hkk]
                    show (if k = kk then ((ci kk : Nat) : Int) + 1 else ((ci k + if k ∈ lk.take j then 1 else 0 : Nat) : Int)) = ((ci k + if k ∈ lk.take j ++ [kk] then 1 else 0 : Nat) : Int)
                    by_cases e : k = kk
                    · rw [if_pos e, e, if_pos (List.mem_append_right _ (List.mem_singleton.mpr rfl))]
                      omega
                    · rw [if_neg e]
                      by_cases hm : k ∈ lk.take j
                      · rw [if_pos hm, if_pos (List.mem_append_left _ hm)]
                      · rw [if_neg hm, if_neg fun z => (List.mem_append.mp z).elim hm fun z => e (List.mem_singleton.mp z)]
                · obtain ⟨z7, z10, rfl, b17, f17⟩ := hP17
                  rw [List.length_map, List.take_length] at f17
                  exact ⟨_, _, _, _, _, _, rfl, fun b o hb => b17 _ _ (s16 _ _ hb) (ne_of_none hb hCH), f17⟩
              · obtain ⟨y2, y7, y10, y11, y12, y13, rfl, s16, fC⟩ := hP
                rw [F15.2.1] at fC
                obtain ⟨k0, hk0, hmax⟩ := max_ex (fun k => ctN (lkA (heads cs) r rs) rs.length k) (heads cs).length (by omega)
                have hmax : ∀ j < (heads cs).length, ctN (lkA (heads cs) r rs) rs.length j ≤ ctN (lkA (heads cs) r rs) rs.length k0 := hmax
                generalize hmx : ctN (lkA (heads cs) r rs) rs.length k0 = mx at *
                have hws : heads cs ≠ [] := fun e => by rw [e] at hk0; exact absurd hk0 (Nat.not_lt_zero _)
                have hmx1 : 1 ≤ mx := by
                  have hne : (List.range (heads cs).length) ≠ [] := fun e => hws (List.eq_nil_of_length_eq_zero (List.range_eq_nil.mp e))
                  obtain ⟨p, hp⟩ := List.exists_mem_of_ne_nil _ (look_ne (ws := heads cs) r (rq rs 0) hne)
                  have hpr := List.mem_range.mp (look_mem hp)
                  have h8 : ctN (lkA (heads cs) r rs) 1 p = 1 := by
                    show 0 + _ = 1
                    rw [if_pos (show p ∈ lkA (heads cs) r rs 0 from hp)]
                  have := ct_mono (lkA (heads cs) r rs) p (show 1 ≤ rs.length from List.length_pos_iff.mpr hr0)
                  have := hmax p hpr
                  omega
                have hmx6 : mx ≤ 6 := by
                  have := ct_le (lkA (heads cs) r rs) k0 rs.length
                  omega
                have hnsm : ∀ m : Int, m ∈ ((List.range (heads cs).length).map fun k => ((ctN (lkA (heads cs) r rs) rs.length k : Nat) : Int)) → (∀ y, y ∈ ((List.range (heads cs).length).map fun k => ((ctN (lkA (heads cs) r rs) rs.length k : Nat) : Int)) → y ≤ m) → m = ((mx : Nat) : Int) := fun m h1 h2 => by
                  obtain ⟨k1, hk1, rfl⟩ := List.mem_map.mp h1
                  have h3 := hmax k1 (List.mem_range.mp hk1)
                  have h4 := h2 ((ctN (lkA (heads cs) r rs) rs.length k0 : Nat) : Int) (List.mem_map.mpr ⟨k0, List.mem_range.mpr hk0, rfl⟩)
                  rw [hmx] at h4
                  have h4 : ((mx : Nat) : Int) ≤ ((ctN (lkA (heads cs) r rs) rs.length k1 : Nat) : Int) := h4
                  show ((ctN (lkA (heads cs) r rs) rs.length k1 : Nat) : Int) = _
                  omega
                have hnsl : 0 < ((List.range (heads cs).length).map fun k => ((ctN (lkA (heads cs) r rs) rs.length k : Nat) : Int)).length := by
                  rw [List.length_map, List.length_range]
                  omega
                refine ⟨_, _, rfl, rfl, ⟨by decide, by decide, by decide⟩, _, rfl, tr, _, rfl, .inr (s16.seqT B15), ?_⟩
                rw [List.length_map]
                refine rI_of (i := 1000000000000) (v := .int (((1000000000000 * rs.length : Nat) : Nat) : Int)) (wide_mul (a := 64) (b := 64) (by decide) (by omega) (by decide) (by decide) (by decide)) (by rw [Int.natCast_mul]; rfl) ?_
                refine ⟨_, rfl, d, dx, _, rfl, s16 _ _ hd, d, cs, rfl, D15.imm s16.imm, by omega, _, rfl, by omega, by omega, _, rfl, by omega, by omega, fun Dd hDd => lc_fn (walk_range (n := cs.length)) (by omega) hDd (fun k => if (!decide (ctN (lkA (heads cs) r rs) rs.length k = mx)) = true then none else some (intV k)) (fun _ _ => trivial) (fun i x H17 H18 hi s17 hy R R0 r1 r0 => ?_) (fun H17 s17 hD17 => ?_)⟩
                · obtain ⟨rfl, hx⟩ := hy
                  have hx : x = intV i := by
                    rw [hx]
                    show V.int (0 + _) = _
                    rw [Int.zero_add]
                  subst hx
                  have hat : (((List.range (heads cs).length).map fun k => ((ctN (lkA (heads cs) r rs) rs.length k : Nat) : Int)).map V.int)[i]? = some (.int ((ctN (lkA (heads cs) r rs) rs.length i : Nat) : Int)) := by
                    rw [List.getElem?_map, List.getElem?_map, List.getElem?_range (by omega)]
                    rfl
                  refine ⟨rfl, ?_⟩
                  refine ⟨_, rfl, _, rfl, C, _, ((i : Nat) : Int), _, rfl, rfl, SqL.of (s17 _ _ fC), atI_nat hat, _, rfl, C, _, rfl, SqL.of (s17 _ _ fC), hnsl, fun m h1 h2 => ?_⟩
                  obtain rfl := hnsm m h1 h2
                  refine ⟨rfl, ?_⟩
                  rw [int_dec]
                  by_cases hz : ctN (lkA (heads cs) r rs) rs.length i = mx
                  · have e : (!decide (ctN (lkA (heads cs) r rs) rs.length i = mx)) = false := by rw [decide_eq_true hz]; rfl
                    rw [e] at r1 r0
                    rw [decide_eq_true (show ((ctN (lkA (heads cs) r rs) rs.length i : Nat) : Int) = ((mx : Nat) : Int) by rw [hz])]
                    exact ⟨_, rfl, iteT ⟨_, rfl, r1 _ _ rfl (Same.refl _)⟩⟩
                  · have e : (!decide (ctN (lkA (heads cs) r rs) rs.length i = mx)) = true := by rw [decide_eq_false hz]; rfl
                    rw [e] at r1 r0
                    rw [decide_eq_false (show ¬ (((ctN (lkA (heads cs) r rs) rs.length i : Nat) : Int) = ((mx : Nat) : Int)) by omega)]
                    exact ⟨_, rfl, iteF (r0 _ rfl (Same.refl _))⟩
                rw [not_fm (fun k => !decide (ctN (lkA (heads cs) r rs) rs.length k = mx)) intV] at hD17
                have hdm : ∀ k, k < cs.length → ctN (lkA (heads cs) r rs) rs.length k = mx → k ∈ (List.range cs.length).filter fun k => !!decide (ctN (lkA (heads cs) r rs) rs.length k = mx) := fun k h1 h2 => List.mem_filter.mpr ⟨List.mem_range.mpr h1, by rw [decide_eq_true h2]; rfl⟩
                generalize (List.range cs.length).filter (fun k => !!decide (ctN (lkA (heads cs) r rs) rs.length k = mx)) = dl at *
                refine ⟨by show 2 ≤ sizeLine; decide, fun td htd => ?_⟩
                have s18 := same_new (o := .tup [.int (((1000000000000 * rs.length : Nat) : Nat) : Int), .ref Dd]) htd
                have e18 : SqT K (upd H17 td (.tup [.int (((1000000000000 * rs.length : Nat) : Nat) : Int), .ref Dd])) td [.int (((1000000000000 * rs.length : Nat) : Nat) : Int), .ref Dd] := SqT.of upd_same
                show gName 12 (.ref td) _ (upd H17 td (.tup [.int (((1000000000000 * rs.length : Nat) : Nat) : Int), .ref Dd])) _
                have dD := s18 _ _ hD17
                have fC18 := s18 _ _ (s17 _ _ fC)
                have s158 := (s16.trans s17).trans s18
                generalize upd H17 td (.tup [.int (((1000000000000 * rs.length : Nat) : Nat) : Int), .ref Dd]) = H18 at *
                refine ⟨_, rfl, _, rfl, _, rfl, _, _, rfl, rfl, ⟨by decide, by decide, by decide⟩, _, rfl, C, _, rfl, SqL.of fC18, hnsl, fun m h1 h2 => ?_⟩
                obtain rfl := hnsm m h1 h2
                refine rI_of (i := 1000000000000) (v := .int (((1000000000000 * mx : Nat) : Nat) : Int)) (wide_mul (a := 64) (b := 64) (by decide) (by omega) (by decide) (by decide) (by decide)) (by rw [Int.natCast_mul]; rfl) ?_
                refine ⟨d, tr, cs, r, rs, (((1000000000000 * mx : Nat) : Nat) : Int), rfl, D15.imm s158.imm, by omega, hr4, s158.seqT B15, by omega, hw, by omega, by unfold bigN; omega, fun v H19 s19 hv => ?_⟩
                rcases hv with ⟨hz, _⟩ | ⟨_, _, n, t, l, rfl, hT, hL, hwh, hnw⟩
                · exact absurd hz fun z => z.elim hr0 hws
                obtain ⟨hn, hfa⟩ := fo_due (c := 1000000000000) (mx := mx) (n := n) (by omega) hmax ⟨k0, hk0, hmx⟩ ⟨hr0, hws, hwh, hnw⟩
                refine ⟨t, _, rfl, hT, rfl, _, _, rfl, _, _, rfl, rfl, ?_⟩
                have e19 := s19.seqT e18
                have d19 := s19 _ _ dD
                refine ⟨_, rfl, _, rfl, td, _, ((0 : Nat) : Int), _, rfl, rfl, e19, atI_nat rfl, _, _, rfl, rfl, _, rfl, ?_⟩
                rw [decide_eq_false (show ¬ ((((1000000000000 * rs.length : Nat) : Nat) : Int) < ((n : Nat) : Int)) by omega)]
                refine iteF ?_
                have hfl50 : (fallenL (heads cs) r rs (((1000000000000 * mx : Nat) : Nat) : Int) n).length ≤ 50 := by
                  have := List.length_filter_le (fun k => decide (k ∉ keysL (stN (heads cs) r rs (((1000000000000 * mx : Nat) : Nat) : Int) n))) (List.range (heads cs).length)
                  rw [List.length_range] at this
                  unfold fallenL
                  omega
                refine ⟨_, rfl, l, rfl, ⟨_, SqL.of hL⟩, fun De hDe => lc_fn (walk_list (K := K) (a := l) (xs := (fallenL (heads cs) r rs (((1000000000000 * mx : Nat) : Nat) : Int) n).map intV)) (by rw [List.length_map]; omega) hDe (fun _ => none) (fun H' s' => SqL.of (s' _ _ hL)) (fun i x H20 H21 hi s20 hy R R0 r1 r0 => ?_) (fun H20 s20 hD20 => ?_)⟩
                · obtain ⟨rfl, hx⟩ := hy
                  rw [List.getElem?_map] at hx
                  obtain ⟨kk, hkk, rfl⟩ := Option.map_eq_some_iff.mp hx
                  obtain ⟨g1, g2⟩ := hfa kk (List.mem_of_getElem? hkk)
                  refine ⟨rfl, ?_⟩
                  refine ⟨_, rfl, _, rfl, td, _, ((1 : Nat) : Int), .ref Dd, rfl, rfl, s20.seqT e19, atI_nat rfl, Dd, (dl.map fun (k : Nat) => ((k : Nat) : Int)).map V.int, rfl, .inl (SqL.of (by rw [s20 _ _ d19, List.map_map]; rfl)), rfl, flat_ints _, _, rfl, ?_⟩
                  have hin : (if true = true then !inV (intV kk) (List.map V.int (dl.map fun (k : Nat) => ((k : Nat) : Int))) else inV (intV kk) (List.map V.int (dl.map fun (k : Nat) => ((k : Nat) : Int)))) = false := by
                    rw [if_pos rfl]
                    show (!inV (V.int ((kk : Nat) : Int)) _) = false
                    rw [inV_int, decide_eq_true (List.mem_map.mpr ⟨kk, hdm kk (by omega) g2, rfl⟩)]
                    rfl
                  rw [hin]
                  exact iteF (r0 _ rfl (Same.refl _))
                · have hnone : ∀ xs : List Nat, xs.filterMap (fun _ => (none : Option V)) = [] := fun xs => by
                    induction xs with
                    | nil => rfl
                    | cons a t ih => exact ih
                  rw [hnone] at hD20
                  refine ⟨by show 0 ≤ sizeLine; decide, fun ef hef => ?_⟩
                  have s21 := same_new (o := .lst []) hef
                  refine rNeD_to (b := false) (d1 := .list []) (d2 := .list []) (.lst (SqL.of (s21 _ _ hD20)) .nil) (.lst (SqL.of upd_same) .nil) (sh_lInts []) (sh_lInts []) rfl ?_
                  refine ⟨_, rfl, iteF ?_⟩
                  have sall := ((s158.trans s19).trans s20).trans s21
                  exact ⟨_, _, _, _, _, _, _, _, _, _, _, _, rfl, R15.same sall, T15.ext sall⟩
            · rw [decide_eq_false hfl]
              refine ⟨_, rfl, iteF ?_⟩
              exact ⟨_, _, _, _, _, _, _, _, _, _, _, _, rfl, R15, T15⟩
          · rw [decide_eq_false (show ¬ ((0 : Int) < ((cs.length : Nat) : Int)) by omega)]
            refine iteF ?_
            refine iteF ?_
            exact ⟨_, _, _, _, _, _, _, _, _, _, _, _, rfl, R14, T14⟩
    · exact k H2
end
end
end My
namespace My
open PySem L2
open LamX in
theorem all_mk {l : PySem.W.OpenLaw} {w : World} {K : PySem.W.Frag} {h : Heap} {mg : Str → Option Value} {fa : Addr}
    {t_LETTERS : Tok} {t_LONGEST_WORD : Tok} {t_MOST_REQUESTS : Tok} {t_MOST_CARDS : Tok} {t_MOST_STRENGTH : Tok} {t_MOST_BOOKS : Tok} {t_LAST_BOOK : Tok} {t_MOST_ALSO : Tok} {at_RULES : Addr} {od_RULES : Option Addr} {on_RULES : Nat} {os_RULES : Array (Option Value)} {ok_RULES_0 : Tok} {ok_RULES_1 : Tok} {ok_RULES_2 : Tok} {f_is_word : Addr} {oc_is_word : Value} {od_is_word : Option Addr} {an_is_word : Option Addr} {sl_is_word : Array (Option Value)} {kV_is_word : Value} {dc_is_word : Value} {pm_is_word : Value} {cd_is_word : Value} {ct_is_word : Value} {f_is_number : Addr} {oc_is_number : Value} {od_is_number : Option Addr} {an_is_number : Option Addr} {sl_is_number : Array (Option Value)} {kV_is_number : Value} {dc_is_number : Value} {pm_is_number : Value} {cd_is_number : Value} {ct_is_number : Value} {f_check_rule : Addr} {oc_check_rule : Value} {od_check_rule : Option Addr} {an_check_rule : Option Addr} {sl_check_rule : Array (Option Value)} {kV_check_rule : Value} {dc_check_rule : Value} {pm_check_rule : Value} {cd_check_rule : Value} {ct_check_rule : Value} {f_check_heading : Addr} {oc_check_heading : Value} {od_check_heading : Option Addr} {an_check_heading : Option Addr} {sl_check_heading : Array (Option Value)} {kV_check_heading : Value} {dc_check_heading : Value} {pm_check_heading : Value} {cd_check_heading : Value} {ct_check_heading : Value} {f_check_number : Addr} {oc_check_number : Value} {od_check_number : Option Addr} {an_check_number : Option Addr} {sl_check_number : Array (Option Value)} {kV_check_number : Value} {dc_check_number : Value} {pm_check_number : Value} {cd_check_number : Value} {ct_check_number : Value} {f_first_wrong_request : Addr} {oc_first_wrong_request : Value} {od_first_wrong_request : Option Addr} {an_first_wrong_request : Option Addr} {sl_first_wrong_request : Array (Option Value)} {kV_first_wrong_request : Value} {dc_first_wrong_request : Value} {pm_first_wrong_request : Value} {cd_first_wrong_request : Value} {ct_first_wrong_request : Value} {f_check_requests : Addr} {oc_check_requests : Value} {od_check_requests : Option Addr} {an_check_requests : Option Addr} {sl_check_requests : Array (Option Value)} {kV_check_requests : Value} {dc_check_requests : Value} {pm_check_requests : Value} {cd_check_requests : Value} {ct_check_requests : Value} {f_Drawer_init : Addr} {oc_Drawer_init : Value} {od_Drawer_init : Option Addr} {an_Drawer_init : Option Addr} {sl_Drawer_init : Array (Option Value)} {kV_Drawer_init : Value} {dc_Drawer_init : Value} {pm_Drawer_init : Value} {cd_Drawer_init : Value} {ct_Drawer_init : Value} {f_Drawer_cards : Addr} {oc_Drawer_cards : Value} {od_Drawer_cards : Option Addr} {an_Drawer_cards : Option Addr} {sl_Drawer_cards : Array (Option Value)} {kV_Drawer_cards : Value} {dc_Drawer_cards : Value} {pm_Drawer_cards : Value} {cd_Drawer_cards : Value} {ct_Drawer_cards : Value} {f_Drawer_len : Addr} {oc_Drawer_len : Value} {od_Drawer_len : Option Addr} {an_Drawer_len : Option Addr} {sl_Drawer_len : Array (Option Value)} {kV_Drawer_len : Value} {dc_Drawer_len : Value} {pm_Drawer_len : Value} {cd_Drawer_len : Value} {ct_Drawer_len : Value} {f_headings_along : Addr} {oc_headings_along : Value} {od_headings_along : Option Addr} {an_headings_along : Option Addr} {sl_headings_along : Array (Option Value)} {kV_headings_along : Value} {dc_headings_along : Value} {pm_headings_along : Value} {cd_headings_along : Value} {ct_headings_along : Value} {f_seek_along : Addr} {oc_seek_along : Value} {od_seek_along : Option Addr} {an_seek_along : Option Addr} {sl_seek_along : Array (Option Value)} {kV_seek_along : Value} {dc_seek_along : Value} {pm_seek_along : Value} {cd_seek_along : Value} {ct_seek_along : Value} {f_seek_by_halves : Addr} {oc_seek_by_halves : Value} {od_seek_by_halves : Option Addr} {an_seek_by_halves : Option Addr} {sl_seek_by_halves : Array (Option Value)} {kV_seek_by_halves : Value} {dc_seek_by_halves : Value} {pm_seek_by_halves : Value} {cd_seek_by_halves : Value} {ct_seek_by_halves : Value} {f_seek : Addr} {oc_seek : Value} {od_seek : Option Addr} {an_seek : Option Addr} {sl_seek : Array (Option Value)} {kV_seek : Value} {dc_seek : Value} {pm_seek : Value} {cd_seek : Value} {ct_seek : Value} {f_look_up : Addr} {oc_look_up : Value} {od_look_up : Option Addr} {an_look_up : Option Addr} {sl_look_up : Array (Option Value)} {kV_look_up : Value} {dc_look_up : Value} {pm_look_up : Value} {cd_look_up : Value} {ct_look_up : Value} {f_finds_all : Addr} {oc_finds_all : Value} {od_finds_all : Option Addr} {an_finds_all : Option Addr} {sl_finds_all : Array (Option Value)} {kV_finds_all : Value} {dc_finds_all : Value} {pm_finds_all : Value} {cd_finds_all : Value} {ct_finds_all : Value} {f_check_wear : Addr} {oc_check_wear : Value} {od_check_wear : Option Addr} {an_check_wear : Option Addr} {sl_check_wear : Array (Option Value)} {kV_check_wear : Value} {dc_check_wear : Value} {pm_check_wear : Value} {cd_check_wear : Value} {ct_check_wear : Value} {f_headings_left : Addr} {oc_headings_left : Value} {od_headings_left : Option Addr} {an_headings_left : Option Addr} {sl_headings_left : Array (Option Value)} {kV_headings_left : Value} {dc_headings_left : Value} {pm_headings_left : Value} {cd_headings_left : Value} {ct_headings_left : Value} {f_request_worn : Addr} {oc_request_worn : Value} {od_request_worn : Option Addr} {an_request_worn : Option Addr} {sl_request_worn : Array (Option Value)} {kV_request_worn : Value} {dc_request_worn : Value} {pm_request_worn : Value} {cd_request_worn : Value} {ct_request_worn : Value} {f_wear_of_round : Addr} {oc_wear_of_round : Value} {od_wear_of_round : Option Addr} {an_wear_of_round : Option Addr} {sl_wear_of_round : Array (Option Value)} {kV_wear_of_round : Value} {dc_wear_of_round : Value} {pm_wear_of_round : Value} {cd_wear_of_round : Value} {ct_wear_of_round : Value} {f_rounds_ahead : Addr} {oc_rounds_ahead : Value} {od_rounds_ahead : Option Addr} {an_rounds_ahead : Option Addr} {sl_rounds_ahead : Array (Option Value)} {kV_rounds_ahead : Value} {dc_rounds_ahead : Value} {pm_rounds_ahead : Value} {cd_rounds_ahead : Value} {ct_rounds_ahead : Value} {f_served : Addr} {oc_served : Value} {od_served : Option Addr} {an_served : Option Addr} {sl_served : Array (Option Value)} {kV_served : Value} {dc_served : Value} {pm_served : Value} {cd_served : Value} {ct_served : Value} {f_first_fallen : Addr} {oc_first_fallen : Value} {od_first_fallen : Option Addr} {an_first_fallen : Option Addr} {sl_first_fallen : Array (Option Value)} {kV_first_fallen : Value} {dc_first_fallen : Value} {pm_first_fallen : Value} {cd_first_fallen : Value} {ct_first_fallen : Value} {f_are_books : Addr} {oc_are_books : Value} {od_are_books : Option Addr} {an_are_books : Option Addr} {sl_are_books : Array (Option Value)} {kV_are_books : Value} {dc_are_books : Value} {pm_are_books : Value} {cd_are_books : Value} {ct_are_books : Value} {f_is_target : Addr} {oc_is_target : Value} {od_is_target : Option Addr} {an_is_target : Option Addr} {sl_is_target : Array (Option Value)} {kV_is_target : Value} {dc_is_target : Value} {pm_is_target : Value} {cd_is_target : Value} {ct_is_target : Value} {f_are_further : Addr} {oc_are_further : Value} {od_are_further : Option Addr} {an_are_further : Option Addr} {sl_are_further : Array (Option Value)} {kV_are_further : Value} {dc_are_further : Value} {pm_are_further : Value} {cd_are_further : Value} {ct_are_further : Value} {f_wrong_part : Addr} {oc_wrong_part : Value} {od_wrong_part : Option Addr} {an_wrong_part : Option Addr} {sl_wrong_part : Array (Option Value)} {kV_wrong_part : Value} {dc_wrong_part : Value} {pm_wrong_part : Value} {cd_wrong_part : Value} {ct_wrong_part : Value} {f_Card_init : Addr} {de_Card_init_0 : Addr} {de_Card_init_2 : Addr} {do_e_Card_init_2 : Option Addr} {dm_e_Card_init_2 : Nat} {dl_e_Card_init_2 : Array (Option Value)} {oc_Card_init : Value} {od_Card_init : Option Addr} {an_Card_init : Option Addr} {sl_Card_init : Array (Option Value)} {kV_Card_init : Value} {dc_Card_init : Value} {pm_Card_init : Value} {cd_Card_init : Value} {ct_Card_init : Value} {dT_Card_init : Addr} {dc0_Card_init : Value} {dd_Card_init : Option Addr} {dn_Card_init : Nat} {ds_Card_init : Array (Option Value)} {du_Card_init_1 : Tok} {f_Card_heading : Addr} {oc_Card_heading : Value} {od_Card_heading : Option Addr} {an_Card_heading : Option Addr} {sl_Card_heading : Array (Option Value)} {kV_Card_heading : Value} {dc_Card_heading : Value} {pm_Card_heading : Value} {cd_Card_heading : Value} {ct_Card_heading : Value} {f_llaw_taken : Addr} {oc_llaw_taken : Value} {od_llaw_taken : Option Addr} {an_llaw_taken : Option Addr} {sl_llaw_taken : Array (Option Value)} {kV_llaw_taken : Value} {dc_llaw_taken : Value} {pm_llaw_taken : Value} {cd_llaw_taken : Value} {ct_llaw_taken : Value} {f_llaw_card : Addr} {oc_llaw_card : Value} {od_llaw_card : Option Addr} {an_llaw_card : Option Addr} {sl_llaw_card : Array (Option Value)} {kV_llaw_card : Value} {dc_llaw_card : Value} {pm_llaw_card : Value} {cd_llaw_card : Value} {ct_llaw_card : Value} {f_llaw_drawer : Addr} {oc_llaw_drawer : Value} {od_llaw_drawer : Option Addr} {an_llaw_drawer : Option Addr} {sl_llaw_drawer : Array (Option Value)} {kV_llaw_drawer : Value} {dc_llaw_drawer : Value} {pm_llaw_drawer : Value} {cd_llaw_drawer : Value} {ct_llaw_drawer : Value} {f_llaw_rule : Addr} {oc_llaw_rule : Value} {od_llaw_rule : Option Addr} {an_llaw_rule : Option Addr} {sl_llaw_rule : Array (Option Value)} {kV_llaw_rule : Value} {dc_llaw_rule : Value} {pm_llaw_rule : Value} {cd_llaw_rule : Value} {ct_llaw_rule : Value} {f_llaw_words : Addr} {oc_llaw_words : Value} {od_llaw_words : Option Addr} {an_llaw_words : Option Addr} {sl_llaw_words : Array (Option Value)} {kV_llaw_words : Value} {dc_llaw_words : Value} {pm_llaw_words : Value} {cd_llaw_words : Value} {ct_llaw_words : Value} {f_llaw_are_right : Addr} {oc_llaw_are_right : Value} {od_llaw_are_right : Option Addr} {an_llaw_are_right : Option Addr} {sl_llaw_are_right : Array (Option Value)} {kV_llaw_are_right : Value} {dc_llaw_are_right : Value} {pm_llaw_are_right : Value} {cd_llaw_are_right : Value} {ct_llaw_are_right : Value} {f_law : Addr} {oc_law : Value} {od_law : Option Addr} {an_law : Option Addr} {sl_law : Array (Option Value)} {kV_law : Value} {dc_law : Value} {pm_law : Value} {cd_law : Value} {ct_law : Value} {C_Drawer : Addr} {pr_Drawer_cards : Addr} {ps_Drawer_cards : List Value} {C_Card : Addr} {pr_Card_heading : Addr} {ps_Card_heading : List Value} {tc_llaw_drawer : Addr} {tP_llaw_drawer : Addr} {te_llaw_drawer : Value} {tdd_llaw_drawer : Option Addr} {tvs_llaw_drawer : Array Value} {tsl_llaw_drawer : Array (Option Value)}
    (X : K.In h) (G : h.Ns mainGlobals mg) (hfa : mg "law" = some (.ref fa))
    (tab_llaw_drawer : h.get? tP_llaw_drawer = some { cls := .none, data := .fields #[] })
    (z_all : PySem.W.nsIn K mainGlobals "all" = some none)
    (z_bool : PySem.W.nsIn K mainGlobals "bool" = some none)
    (z_enumerate : PySem.W.nsIn K mainGlobals "enumerate" = some none)
    (z_int : PySem.W.nsIn K mainGlobals "int" = some none)
    (z_isinstance : PySem.W.nsIn K mainGlobals "isinstance" = some none)
    (z_len : PySem.W.nsIn K mainGlobals "len" = some none)
    (z_list : PySem.W.nsIn K mainGlobals "list" = some none)
    (z_max : PySem.W.nsIn K mainGlobals "max" = some none)
    (z_min : PySem.W.nsIn K mainGlobals "min" = some none)
    (z_range : PySem.W.nsIn K mainGlobals "range" = some none)
    (z_set : PySem.W.nsIn K mainGlobals "set" = some none)
    (z_sorted : PySem.W.nsIn K mainGlobals "sorted" = some none)
    (z_str : PySem.W.nsIn K mainGlobals "str" = some none)
    (z_tuple : PySem.W.nsIn K mainGlobals "tuple" = some none)
    (z_zip : PySem.W.nsIn K mainGlobals "zip" = some none)
    (zc_LETTERS : PySem.W.nsIn K mainGlobals "LETTERS" = some (some (.str "abcdefghijklmnopqrstuvwxyz" t_LETTERS)))
    (zc_LONGEST_WORD : PySem.W.nsIn K mainGlobals "LONGEST_WORD" = some (some (.int (8) t_LONGEST_WORD)))
    (zc_MOST_REQUESTS : PySem.W.nsIn K mainGlobals "MOST_REQUESTS" = some (some (.int (12) t_MOST_REQUESTS)))
    (zc_MOST_CARDS : PySem.W.nsIn K mainGlobals "MOST_CARDS" = some (some (.int (16) t_MOST_CARDS)))
    (zc_MOST_STRENGTH : PySem.W.nsIn K mainGlobals "MOST_STRENGTH" = some (some (.int (1000000000000000000) t_MOST_STRENGTH)))
    (zc_MOST_BOOKS : PySem.W.nsIn K mainGlobals "MOST_BOOKS" = some (some (.int (6) t_MOST_BOOKS)))
    (zc_LAST_BOOK : PySem.W.nsIn K mainGlobals "LAST_BOOK" = some (some (.int (999) t_LAST_BOOK)))
    (zc_MOST_ALSO : PySem.W.nsIn K mainGlobals "MOST_ALSO" = some (some (.int (4) t_MOST_ALSO)))
    (zc_RULES : PySem.W.nsIn K mainGlobals "RULES" = some (some (.ref at_RULES)))
    (ht_RULES : K.lookup at_RULES = some ⟨.type "tuple", od_RULES, .seq #[.str "all" ok_RULES_0, .str "leaf" ok_RULES_1, .str "half" ok_RULES_2] on_RULES, os_RULES⟩)
    (l_is_word : K.lookup f_is_word = some ⟨oc_is_word, od_is_word, .func (PySem.W.fnOf "is_word" "is_word" (defArgs s_is_word) (defBody s_is_word) (defScope s_is_word) .none kV_is_word dc_is_word pm_is_word an_is_word cd_is_word ct_is_word), sl_is_word⟩)
    (c_is_word : PySem.W.codeIn K cd_is_word "is_word" = true)
    (k_is_word : PySem.W.keepIn K (.ref f_is_word) = true)
    (n_is_word : PySem.W.nsIn K mainGlobals "is_word" = some (some (.ref f_is_word)))
    (l_is_number : K.lookup f_is_number = some ⟨oc_is_number, od_is_number, .func (PySem.W.fnOf "is_number" "is_number" (defArgs s_is_number) (defBody s_is_number) (defScope s_is_number) .none kV_is_number dc_is_number pm_is_number an_is_number cd_is_number ct_is_number), sl_is_number⟩)
    (c_is_number : PySem.W.codeIn K cd_is_number "is_number" = true)
    (k_is_number : PySem.W.keepIn K (.ref f_is_number) = true)
    (n_is_number : PySem.W.nsIn K mainGlobals "is_number" = some (some (.ref f_is_number)))
    (l_check_rule : K.lookup f_check_rule = some ⟨oc_check_rule, od_check_rule, .func (PySem.W.fnOf "check_rule" "check_rule" (defArgs s_check_rule) (defBody s_check_rule) (defScope s_check_rule) .none kV_check_rule dc_check_rule pm_check_rule an_check_rule cd_check_rule ct_check_rule), sl_check_rule⟩)
    (c_check_rule : PySem.W.codeIn K cd_check_rule "check_rule" = true)
    (k_check_rule : PySem.W.keepIn K (.ref f_check_rule) = true)
    (n_check_rule : PySem.W.nsIn K mainGlobals "check_rule" = some (some (.ref f_check_rule)))
    (l_check_heading : K.lookup f_check_heading = some ⟨oc_check_heading, od_check_heading, .func (PySem.W.fnOf "check_heading" "check_heading" (defArgs s_check_heading) (defBody s_check_heading) (defScope s_check_heading) .none kV_check_heading dc_check_heading pm_check_heading an_check_heading cd_check_heading ct_check_heading), sl_check_heading⟩)
    (c_check_heading : PySem.W.codeIn K cd_check_heading "check_heading" = true)
    (k_check_heading : PySem.W.keepIn K (.ref f_check_heading) = true)
    (n_check_heading : PySem.W.nsIn K mainGlobals "check_heading" = some (some (.ref f_check_heading)))
    (l_check_number : K.lookup f_check_number = some ⟨oc_check_number, od_check_number, .func (PySem.W.fnOf "check_number" "check_number" (defArgs s_check_number) (defBody s_check_number) (defScope s_check_number) .none kV_check_number dc_check_number pm_check_number an_check_number cd_check_number ct_check_number), sl_check_number⟩)
    (c_check_number : PySem.W.codeIn K cd_check_number "check_number" = true)
    (k_check_number : PySem.W.keepIn K (.ref f_check_number) = true)
    (n_check_number : PySem.W.nsIn K mainGlobals "check_number" = some (some (.ref f_check_number)))
    (l_first_wrong_request : K.lookup f_first_wrong_request = some ⟨oc_first_wrong_request, od_first_wrong_request, .func (PySem.W.fnOf "first_wrong_request" "first_wrong_request" (defArgs s_first_wrong_request) (defBody s_first_wrong_request) (defScope s_first_wrong_request) .none kV_first_wrong_request dc_first_wrong_request pm_first_wrong_request an_first_wrong_request cd_first_wrong_request ct_first_wrong_request), sl_first_wrong_request⟩)
    (c_first_wrong_request : PySem.W.codeIn K cd_first_wrong_request "first_wrong_request" = true)
    (k_first_wrong_request : PySem.W.keepIn K (.ref f_first_wrong_request) = true)
    (n_first_wrong_request : PySem.W.nsIn K mainGlobals "first_wrong_request" = some (some (.ref f_first_wrong_request)))
    (l_check_requests : K.lookup f_check_requests = some ⟨oc_check_requests, od_check_requests, .func (PySem.W.fnOf "check_requests" "check_requests" (defArgs s_check_requests) (defBody s_check_requests) (defScope s_check_requests) .none kV_check_requests dc_check_requests pm_check_requests an_check_requests cd_check_requests ct_check_requests), sl_check_requests⟩)
    (c_check_requests : PySem.W.codeIn K cd_check_requests "check_requests" = true)
    (k_check_requests : PySem.W.keepIn K (.ref f_check_requests) = true)
    (n_check_requests : PySem.W.nsIn K mainGlobals "check_requests" = some (some (.ref f_check_requests)))
    (l_Drawer_init : K.lookup f_Drawer_init = some ⟨oc_Drawer_init, od_Drawer_init, .func (PySem.W.fnOf "__init__" "Drawer.__init__" (defArgs s_Drawer_init) (defBody s_Drawer_init) (defScope s_Drawer_init) .none kV_Drawer_init dc_Drawer_init pm_Drawer_init an_Drawer_init cd_Drawer_init ct_Drawer_init), sl_Drawer_init⟩)
    (c_Drawer_init : PySem.W.codeIn K cd_Drawer_init "Drawer.__init__" = true)
    (k_Drawer_init : PySem.W.keepIn K (.ref f_Drawer_init) = true)
    (l_Drawer_cards : K.lookup f_Drawer_cards = some ⟨oc_Drawer_cards, od_Drawer_cards, .func (PySem.W.fnOf "cards" "Drawer.cards" (defArgs s_Drawer_cards) (defBody s_Drawer_cards) (defScope s_Drawer_cards) .none kV_Drawer_cards dc_Drawer_cards pm_Drawer_cards an_Drawer_cards cd_Drawer_cards ct_Drawer_cards), sl_Drawer_cards⟩)
    (c_Drawer_cards : PySem.W.codeIn K cd_Drawer_cards "Drawer.cards" = true)
    (k_Drawer_cards : PySem.W.keepIn K (.ref f_Drawer_cards) = true)
    (l_Drawer_len : K.lookup f_Drawer_len = some ⟨oc_Drawer_len, od_Drawer_len, .func (PySem.W.fnOf "__len__" "Drawer.__len__" (defArgs s_Drawer_len) (defBody s_Drawer_len) (defScope s_Drawer_len) .none kV_Drawer_len dc_Drawer_len pm_Drawer_len an_Drawer_len cd_Drawer_len ct_Drawer_len), sl_Drawer_len⟩)
    (c_Drawer_len : PySem.W.codeIn K cd_Drawer_len "Drawer.__len__" = true)
    (k_Drawer_len : PySem.W.keepIn K (.ref f_Drawer_len) = true)
    (l_headings_along : K.lookup f_headings_along = some ⟨oc_headings_along, od_headings_along, .func (PySem.W.fnOf "headings_along" "headings_along" (defArgs s_headings_along) (defBody s_headings_along) (defScope s_headings_along) .none kV_headings_along dc_headings_along pm_headings_along an_headings_along cd_headings_along ct_headings_along), sl_headings_along⟩)
    (c_headings_along : PySem.W.codeIn K cd_headings_along "headings_along" = true)
    (k_headings_along : PySem.W.keepIn K (.ref f_headings_along) = true)
    (n_headings_along : PySem.W.nsIn K mainGlobals "headings_along" = some (some (.ref f_headings_along)))
    (l_seek_along : K.lookup f_seek_along = some ⟨oc_seek_along, od_seek_along, .func (PySem.W.fnOf "seek_along" "seek_along" (defArgs s_seek_along) (defBody s_seek_along) (defScope s_seek_along) .none kV_seek_along dc_seek_along pm_seek_along an_seek_along cd_seek_along ct_seek_along), sl_seek_along⟩)
    (c_seek_along : PySem.W.codeIn K cd_seek_along "seek_along" = true)
    (k_seek_along : PySem.W.keepIn K (.ref f_seek_along) = true)
    (n_seek_along : PySem.W.nsIn K mainGlobals "seek_along" = some (some (.ref f_seek_along)))
    (l_seek_by_halves : K.lookup f_seek_by_halves = some ⟨oc_seek_by_halves, od_seek_by_halves, .func (PySem.W.fnOf "seek_by_halves" "seek_by_halves" (defArgs s_seek_by_halves) (defBody s_seek_by_halves) (defScope s_seek_by_halves) .none kV_seek_by_halves dc_seek_by_halves pm_seek_by_halves an_seek_by_halves cd_seek_by_halves ct_seek_by_halves), sl_seek_by_halves⟩)
    (c_seek_by_halves : PySem.W.codeIn K cd_seek_by_halves "seek_by_halves" = true)
    (k_seek_by_halves : PySem.W.keepIn K (.ref f_seek_by_halves) = true)
    (n_seek_by_halves : PySem.W.nsIn K mainGlobals "seek_by_halves" = some (some (.ref f_seek_by_halves)))
    (l_seek : K.lookup f_seek = some ⟨oc_seek, od_seek, .func (PySem.W.fnOf "seek" "seek" (defArgs s_seek) (defBody s_seek) (defScope s_seek) .none kV_seek dc_seek pm_seek an_seek cd_seek ct_seek), sl_seek⟩)
    (c_seek : PySem.W.codeIn K cd_seek "seek" = true)
    (k_seek : PySem.W.keepIn K (.ref f_seek) = true)
    (n_seek : PySem.W.nsIn K mainGlobals "seek" = some (some (.ref f_seek)))
    (l_look_up : K.lookup f_look_up = some ⟨oc_look_up, od_look_up, .func (PySem.W.fnOf "look_up" "look_up" (defArgs s_look_up) (defBody s_look_up) (defScope s_look_up) .none kV_look_up dc_look_up pm_look_up an_look_up cd_look_up ct_look_up), sl_look_up⟩)
    (c_look_up : PySem.W.codeIn K cd_look_up "look_up" = true)
    (k_look_up : PySem.W.keepIn K (.ref f_look_up) = true)
    (n_look_up : PySem.W.nsIn K mainGlobals "look_up" = some (some (.ref f_look_up)))
    (l_finds_all : K.lookup f_finds_all = some ⟨oc_finds_all, od_finds_all, .func (PySem.W.fnOf "finds_all" "finds_all" (defArgs s_finds_all) (defBody s_finds_all) (defScope s_finds_all) .none kV_finds_all dc_finds_all pm_finds_all an_finds_all cd_finds_all ct_finds_all), sl_finds_all⟩)
    (c_finds_all : PySem.W.codeIn K cd_finds_all "finds_all" = true)
    (k_finds_all : PySem.W.keepIn K (.ref f_finds_all) = true)
    (n_finds_all : PySem.W.nsIn K mainGlobals "finds_all" = some (some (.ref f_finds_all)))
    (l_check_wear : K.lookup f_check_wear = some ⟨oc_check_wear, od_check_wear, .func (PySem.W.fnOf "check_wear" "check_wear" (defArgs s_check_wear) (defBody s_check_wear) (defScope s_check_wear) .none kV_check_wear dc_check_wear pm_check_wear an_check_wear cd_check_wear ct_check_wear), sl_check_wear⟩)
    (c_check_wear : PySem.W.codeIn K cd_check_wear "check_wear" = true)
    (k_check_wear : PySem.W.keepIn K (.ref f_check_wear) = true)
    (n_check_wear : PySem.W.nsIn K mainGlobals "check_wear" = some (some (.ref f_check_wear)))
    (l_headings_left : K.lookup f_headings_left = some ⟨oc_headings_left, od_headings_left, .func (PySem.W.fnOf "headings_left" "headings_left" (defArgs s_headings_left) (defBody s_headings_left) (defScope s_headings_left) .none kV_headings_left dc_headings_left pm_headings_left an_headings_left cd_headings_left ct_headings_left), sl_headings_left⟩)
    (c_headings_left : PySem.W.codeIn K cd_headings_left "headings_left" = true)
    (k_headings_left : PySem.W.keepIn K (.ref f_headings_left) = true)
    (n_headings_left : PySem.W.nsIn K mainGlobals "headings_left" = some (some (.ref f_headings_left)))
    (l_request_worn : K.lookup f_request_worn = some ⟨oc_request_worn, od_request_worn, .func (PySem.W.fnOf "request_worn" "request_worn" (defArgs s_request_worn) (defBody s_request_worn) (defScope s_request_worn) .none kV_request_worn dc_request_worn pm_request_worn an_request_worn cd_request_worn ct_request_worn), sl_request_worn⟩)
    (c_request_worn : PySem.W.codeIn K cd_request_worn "request_worn" = true)
    (k_request_worn : PySem.W.keepIn K (.ref f_request_worn) = true)
    (n_request_worn : PySem.W.nsIn K mainGlobals "request_worn" = some (some (.ref f_request_worn)))
    (l_wear_of_round : K.lookup f_wear_of_round = some ⟨oc_wear_of_round, od_wear_of_round, .func (PySem.W.fnOf "wear_of_round" "wear_of_round" (defArgs s_wear_of_round) (defBody s_wear_of_round) (defScope s_wear_of_round) .none kV_wear_of_round dc_wear_of_round pm_wear_of_round an_wear_of_round cd_wear_of_round ct_wear_of_round), sl_wear_of_round⟩)
    (c_wear_of_round : PySem.W.codeIn K cd_wear_of_round "wear_of_round" = true)
    (k_wear_of_round : PySem.W.keepIn K (.ref f_wear_of_round) = true)
    (n_wear_of_round : PySem.W.nsIn K mainGlobals "wear_of_round" = some (some (.ref f_wear_of_round)))
    (l_rounds_ahead : K.lookup f_rounds_ahead = some ⟨oc_rounds_ahead, od_rounds_ahead, .func (PySem.W.fnOf "rounds_ahead" "rounds_ahead" (defArgs s_rounds_ahead) (defBody s_rounds_ahead) (defScope s_rounds_ahead) .none kV_rounds_ahead dc_rounds_ahead pm_rounds_ahead an_rounds_ahead cd_rounds_ahead ct_rounds_ahead), sl_rounds_ahead⟩)
    (c_rounds_ahead : PySem.W.codeIn K cd_rounds_ahead "rounds_ahead" = true)
    (k_rounds_ahead : PySem.W.keepIn K (.ref f_rounds_ahead) = true)
    (n_rounds_ahead : PySem.W.nsIn K mainGlobals "rounds_ahead" = some (some (.ref f_rounds_ahead)))
    (l_served : K.lookup f_served = some ⟨oc_served, od_served, .func (PySem.W.fnOf "served" "served" (defArgs s_served) (defBody s_served) (defScope s_served) .none kV_served dc_served pm_served an_served cd_served ct_served), sl_served⟩)
    (c_served : PySem.W.codeIn K cd_served "served" = true)
    (k_served : PySem.W.keepIn K (.ref f_served) = true)
    (n_served : PySem.W.nsIn K mainGlobals "served" = some (some (.ref f_served)))
    (l_first_fallen : K.lookup f_first_fallen = some ⟨oc_first_fallen, od_first_fallen, .func (PySem.W.fnOf "first_fallen" "first_fallen" (defArgs s_first_fallen) (defBody s_first_fallen) (defScope s_first_fallen) .none kV_first_fallen dc_first_fallen pm_first_fallen an_first_fallen cd_first_fallen ct_first_fallen), sl_first_fallen⟩)
    (c_first_fallen : PySem.W.codeIn K cd_first_fallen "first_fallen" = true)
    (k_first_fallen : PySem.W.keepIn K (.ref f_first_fallen) = true)
    (n_first_fallen : PySem.W.nsIn K mainGlobals "first_fallen" = some (some (.ref f_first_fallen)))
    (l_are_books : K.lookup f_are_books = some ⟨oc_are_books, od_are_books, .func (PySem.W.fnOf "are_books" "are_books" (defArgs s_are_books) (defBody s_are_books) (defScope s_are_books) .none kV_are_books dc_are_books pm_are_books an_are_books cd_are_books ct_are_books), sl_are_books⟩)
    (c_are_books : PySem.W.codeIn K cd_are_books "are_books" = true)
    (k_are_books : PySem.W.keepIn K (.ref f_are_books) = true)
    (n_are_books : PySem.W.nsIn K mainGlobals "are_books" = some (some (.ref f_are_books)))
    (l_is_target : K.lookup f_is_target = some ⟨oc_is_target, od_is_target, .func (PySem.W.fnOf "is_target" "is_target" (defArgs s_is_target) (defBody s_is_target) (defScope s_is_target) .none kV_is_target dc_is_target pm_is_target an_is_target cd_is_target ct_is_target), sl_is_target⟩)
    (c_is_target : PySem.W.codeIn K cd_is_target "is_target" = true)
    (k_is_target : PySem.W.keepIn K (.ref f_is_target) = true)
    (n_is_target : PySem.W.nsIn K mainGlobals "is_target" = some (some (.ref f_is_target)))
    (l_are_further : K.lookup f_are_further = some ⟨oc_are_further, od_are_further, .func (PySem.W.fnOf "are_further" "are_further" (defArgs s_are_further) (defBody s_are_further) (defScope s_are_further) .none kV_are_further dc_are_further pm_are_further an_are_further cd_are_further ct_are_further), sl_are_further⟩)
    (c_are_further : PySem.W.codeIn K cd_are_further "are_further" = true)
    (k_are_further : PySem.W.keepIn K (.ref f_are_further) = true)
    (n_are_further : PySem.W.nsIn K mainGlobals "are_further" = some (some (.ref f_are_further)))
    (l_wrong_part : K.lookup f_wrong_part = some ⟨oc_wrong_part, od_wrong_part, .func (PySem.W.fnOf "wrong_part" "wrong_part" (defArgs s_wrong_part) (defBody s_wrong_part) (defScope s_wrong_part) .none kV_wrong_part dc_wrong_part pm_wrong_part an_wrong_part cd_wrong_part ct_wrong_part), sl_wrong_part⟩)
    (c_wrong_part : PySem.W.codeIn K cd_wrong_part "wrong_part" = true)
    (k_wrong_part : PySem.W.keepIn K (.ref f_wrong_part) = true)
    (n_wrong_part : PySem.W.nsIn K mainGlobals "wrong_part" = some (some (.ref f_wrong_part)))
    (hk_Card_init_2 : K.lookup de_Card_init_2 = some ⟨.type "tuple", do_e_Card_init_2, .seq #[] dm_e_Card_init_2, dl_e_Card_init_2⟩)
    (l_Card_init : K.lookup f_Card_init = some ⟨oc_Card_init, od_Card_init, .func (PySem.W.fnOf "__init__" "Card.__init__" (defArgs s_Card_init) (defBody s_Card_init) (defScope s_Card_init) (.ref dT_Card_init) kV_Card_init dc_Card_init pm_Card_init an_Card_init cd_Card_init ct_Card_init), sl_Card_init⟩)
    (c_Card_init : PySem.W.codeIn K cd_Card_init "Card.__init__" = true)
    (k_Card_init : PySem.W.keepIn K (.ref f_Card_init) = true)
    (dk_Card_init : K.lookup dT_Card_init = some ⟨dc0_Card_init, dd_Card_init, .seq #[.ref de_Card_init_0, .str "" du_Card_init_1, .ref de_Card_init_2] dn_Card_init, ds_Card_init⟩)
    (l_Card_heading : K.lookup f_Card_heading = some ⟨oc_Card_heading, od_Card_heading, .func (PySem.W.fnOf "heading" "Card.heading" (defArgs s_Card_heading) (defBody s_Card_heading) (defScope s_Card_heading) .none kV_Card_heading dc_Card_heading pm_Card_heading an_Card_heading cd_Card_heading ct_Card_heading), sl_Card_heading⟩)
    (c_Card_heading : PySem.W.codeIn K cd_Card_heading "Card.heading" = true)
    (k_Card_heading : PySem.W.keepIn K (.ref f_Card_heading) = true)
    (l_llaw_taken : K.lookup f_llaw_taken = some ⟨oc_llaw_taken, od_llaw_taken, .func (PySem.W.fnOf "_law_taken" "_law_taken" (defArgs s_llaw_taken) (defBody s_llaw_taken) (defScope s_llaw_taken) .none kV_llaw_taken dc_llaw_taken pm_llaw_taken an_llaw_taken cd_llaw_taken ct_llaw_taken), sl_llaw_taken⟩)
    (c_llaw_taken : PySem.W.codeIn K cd_llaw_taken "_law_taken" = true)
    (k_llaw_taken : PySem.W.keepIn K (.ref f_llaw_taken) = true)
    (n_llaw_taken : PySem.W.nsIn K mainGlobals "_law_taken" = some (some (.ref f_llaw_taken)))
    (l_llaw_card : K.lookup f_llaw_card = some ⟨oc_llaw_card, od_llaw_card, .func (PySem.W.fnOf "_law_card" "_law_card" (defArgs s_llaw_card) (defBody s_llaw_card) (defScope s_llaw_card) .none kV_llaw_card dc_llaw_card pm_llaw_card an_llaw_card cd_llaw_card ct_llaw_card), sl_llaw_card⟩)
    (c_llaw_card : PySem.W.codeIn K cd_llaw_card "_law_card" = true)
    (k_llaw_card : PySem.W.keepIn K (.ref f_llaw_card) = true)
    (n_llaw_card : PySem.W.nsIn K mainGlobals "_law_card" = some (some (.ref f_llaw_card)))
    (l_llaw_drawer : K.lookup f_llaw_drawer = some ⟨oc_llaw_drawer, od_llaw_drawer, .func (PySem.W.fnOf "_law_drawer" "_law_drawer" (defArgs s_llaw_drawer) (defBody s_llaw_drawer) (defScope s_llaw_drawer) .none kV_llaw_drawer dc_llaw_drawer pm_llaw_drawer an_llaw_drawer cd_llaw_drawer ct_llaw_drawer), sl_llaw_drawer⟩)
    (c_llaw_drawer : PySem.W.codeIn K cd_llaw_drawer "_law_drawer" = true)
    (k_llaw_drawer : PySem.W.keepIn K (.ref f_llaw_drawer) = true)
    (n_llaw_drawer : PySem.W.nsIn K mainGlobals "_law_drawer" = some (some (.ref f_llaw_drawer)))
    (l_llaw_rule : K.lookup f_llaw_rule = some ⟨oc_llaw_rule, od_llaw_rule, .func (PySem.W.fnOf "_law_rule" "_law_rule" (defArgs s_llaw_rule) (defBody s_llaw_rule) (defScope s_llaw_rule) .none kV_llaw_rule dc_llaw_rule pm_llaw_rule an_llaw_rule cd_llaw_rule ct_llaw_rule), sl_llaw_rule⟩)
    (c_llaw_rule : PySem.W.codeIn K cd_llaw_rule "_law_rule" = true)
    (k_llaw_rule : PySem.W.keepIn K (.ref f_llaw_rule) = true)
    (n_llaw_rule : PySem.W.nsIn K mainGlobals "_law_rule" = some (some (.ref f_llaw_rule)))
    (l_llaw_words : K.lookup f_llaw_words = some ⟨oc_llaw_words, od_llaw_words, .func (PySem.W.fnOf "_law_words" "_law_words" (defArgs s_llaw_words) (defBody s_llaw_words) (defScope s_llaw_words) .none kV_llaw_words dc_llaw_words pm_llaw_words an_llaw_words cd_llaw_words ct_llaw_words), sl_llaw_words⟩)
    (c_llaw_words : PySem.W.codeIn K cd_llaw_words "_law_words" = true)
    (k_llaw_words : PySem.W.keepIn K (.ref f_llaw_words) = true)
    (n_llaw_words : PySem.W.nsIn K mainGlobals "_law_words" = some (some (.ref f_llaw_words)))
    (l_llaw_are_right : K.lookup f_llaw_are_right = some ⟨oc_llaw_are_right, od_llaw_are_right, .func (PySem.W.fnOf "_law_are_right" "_law_are_right" (defArgs s_llaw_are_right) (defBody s_llaw_are_right) (defScope s_llaw_are_right) .none kV_llaw_are_right dc_llaw_are_right pm_llaw_are_right an_llaw_are_right cd_llaw_are_right ct_llaw_are_right), sl_llaw_are_right⟩)
    (c_llaw_are_right : PySem.W.codeIn K cd_llaw_are_right "_law_are_right" = true)
    (k_llaw_are_right : PySem.W.keepIn K (.ref f_llaw_are_right) = true)
    (n_llaw_are_right : PySem.W.nsIn K mainGlobals "_law_are_right" = some (some (.ref f_llaw_are_right)))
    (l_law : K.lookup f_law = some ⟨oc_law, od_law, .func (PySem.W.fnOf "law" "law" (defArgs s_law) (defBody s_law) (defScope s_law) .none kV_law dc_law pm_law an_law cd_law ct_law), sl_law⟩)
    (c_law : PySem.W.codeIn K cd_law "law" = true)
    (k_law : PySem.W.keepIn K (.ref f_law) = true)
    (n_law : PySem.W.nsIn K mainGlobals "law" = some (some (.ref f_law)))
    (n_Drawer : PySem.W.nsIn K mainGlobals "Drawer" = some (some (.ref C_Drawer)))
    (cg_Drawer : PySem.W.plainGet K C_Drawer Str.empty = true)
    (ch_Drawer : PySem.W.hasDictIn K C_Drawer = true)
    (cp_Drawer : PySem.W.plainOver K C_Drawer = true)
    (cs_Drawer : PySem.W.findIn K (.ref C_Drawer) "__setattr__" = some (some (.builtin "object.__setattr__")))
    (na_Drawer__cards : PySem.W.findIn K (.ref C_Drawer) "_cards" = some none)
    (mk1_Drawer : PySem.W.makesIn K C_Drawer = true)
    (mk2_Drawer : PySem.W.findIn K (.ref C_Drawer) "__init__" = some (some (.ref f_Drawer_init)))
    (mk3_Drawer : PySem.W.isFn K (.ref f_Drawer_init) = true)
    (mk4_Drawer : PySem.W.keepIn K (.ref C_Drawer) = true)
    (p1_Drawer_cards : PySem.W.findIn K (.ref C_Drawer) "cards" = some (some (.ref pr_Drawer_cards)))
    (p2_Drawer_cards : PySem.W.specialIn K (.ref pr_Drawer_cards) "__get__" = some (some (.builtin "property.__get__")))
    (p3_Drawer_cards : PySem.W.takesIn K (.ref pr_Drawer_cards) = some true)
    (p4_Drawer_cards : PySem.W.recIn K pr_Drawer_cards "property" = some (.ref f_Drawer_cards :: ps_Drawer_cards))
    (me1_Drawer_len : PySem.W.findIn K (.ref C_Drawer) "__len__" = some (some (.ref f_Drawer_len)))
    (me2_Drawer_len : PySem.W.isFn K (.ref f_Drawer_len) = true)
    (me3_Drawer_len : PySem.W.keepIn K (.ref f_Drawer_len) = true)
    (n_Card : PySem.W.nsIn K mainGlobals "Card" = some (some (.ref C_Card)))
    (cg_Card : PySem.W.plainGet K C_Card Str.empty = true)
    (ch_Card : PySem.W.hasDictIn K C_Card = true)
    (cp_Card : PySem.W.plainOver K C_Card = true)
    (cs_Card : PySem.W.findIn K (.ref C_Card) "__setattr__" = some (some (.builtin "object.__setattr__")))
    (na_Card__heading : PySem.W.findIn K (.ref C_Card) "_heading" = some none)
    (na_Card__books : PySem.W.findIn K (.ref C_Card) "_books" = some none)
    (na_Card__see : PySem.W.findIn K (.ref C_Card) "_see" = some none)
    (na_Card__also : PySem.W.findIn K (.ref C_Card) "_also" = some none)
    (mk1_Card : PySem.W.makesIn K C_Card = true)
    (mk2_Card : PySem.W.findIn K (.ref C_Card) "__init__" = some (some (.ref f_Card_init)))
    (mk3_Card : PySem.W.isFn K (.ref f_Card_init) = true)
    (mk4_Card : PySem.W.keepIn K (.ref C_Card) = true)
    (p1_Card_heading : PySem.W.findIn K (.ref C_Card) "heading" = some (some (.ref pr_Card_heading)))
    (p2_Card_heading : PySem.W.specialIn K (.ref pr_Card_heading) "__get__" = some (some (.builtin "property.__get__")))
    (p3_Card_heading : PySem.W.takesIn K (.ref pr_Card_heading) = some true)
    (p4_Card_heading : PySem.W.recIn K pr_Card_heading "property" = some (.ref f_Card_heading :: ps_Card_heading))
    (tcq_llaw_drawer : cd_llaw_drawer = .ref tc_llaw_drawer)
    (tck_llaw_drawer : K.lookup tc_llaw_drawer = some ⟨te_llaw_drawer, tdd_llaw_drawer, .fields tvs_llaw_drawer, tsl_llaw_drawer⟩)
    (tcv_llaw_drawer : tvs_llaw_drawer[11]? = some (.ref tP_llaw_drawer))
    (tcn_llaw_drawer : K.lookup tP_llaw_drawer = none)
    (tch_llaw_drawer : PySem.W.codeHdIn K tc_llaw_drawer tP_llaw_drawer = true)
    : LawAtS l w K CX0 8 63 "_law_script" mg fa h := by
  have e : fa = f_law := by
    have z := hfa.symm.trans (PySem.W.mg_of X G n_law)
    cases z
    rfl
  have T : ∃ T : Top K mg, T.a_law = f_law ∧ T.fd_law = PySem.W.fnOf "law" "law" (defArgs s_law) (defBody s_law) (defScope s_law) .none kV_law dc_law pm_law an_law cd_law ct_law ∧ T.fd_llaw_drawer = PySem.W.fnOf "_law_drawer" "_law_drawer" (defArgs s_llaw_drawer) (defBody s_llaw_drawer) (defScope s_llaw_drawer) .none kV_llaw_drawer dc_llaw_drawer pm_llaw_drawer an_llaw_drawer cd_llaw_drawer ct_llaw_drawer := ⟨{
    m_all := PySem.W.mg_none_of X G z_all
    m_bool := PySem.W.mg_none_of X G z_bool
    m_enumerate := PySem.W.mg_none_of X G z_enumerate
    m_int := PySem.W.mg_none_of X G z_int
    m_isinstance := PySem.W.mg_none_of X G z_isinstance
    m_len := PySem.W.mg_none_of X G z_len
    m_list := PySem.W.mg_none_of X G z_list
    m_max := PySem.W.mg_none_of X G z_max
    m_min := PySem.W.mg_none_of X G z_min
    m_range := PySem.W.mg_none_of X G z_range
    m_set := PySem.W.mg_none_of X G z_set
    m_sorted := PySem.W.mg_none_of X G z_sorted
    m_str := PySem.W.mg_none_of X G z_str
    m_tuple := PySem.W.mg_none_of X G z_tuple
    m_zip := PySem.W.mg_none_of X G z_zip
    v_LETTERS := .str "abcdefghijklmnopqrstuvwxyz" t_LETTERS
    g_LETTERS := PySem.W.mg_of X G zc_LETTERS
    r_LETTERS := ⟨_, rfl⟩
    v_LONGEST_WORD := .int (8) t_LONGEST_WORD
    g_LONGEST_WORD := PySem.W.mg_of X G zc_LONGEST_WORD
    r_LONGEST_WORD := ⟨_, rfl⟩
    v_MOST_REQUESTS := .int (12) t_MOST_REQUESTS
    g_MOST_REQUESTS := PySem.W.mg_of X G zc_MOST_REQUESTS
    r_MOST_REQUESTS := ⟨_, rfl⟩
    v_MOST_CARDS := .int (16) t_MOST_CARDS
    g_MOST_CARDS := PySem.W.mg_of X G zc_MOST_CARDS
    r_MOST_CARDS := ⟨_, rfl⟩
    v_MOST_STRENGTH := .int (1000000000000000000) t_MOST_STRENGTH
    g_MOST_STRENGTH := PySem.W.mg_of X G zc_MOST_STRENGTH
    r_MOST_STRENGTH := ⟨_, rfl⟩
    v_MOST_BOOKS := .int (6) t_MOST_BOOKS
    g_MOST_BOOKS := PySem.W.mg_of X G zc_MOST_BOOKS
    r_MOST_BOOKS := ⟨_, rfl⟩
    v_LAST_BOOK := .int (999) t_LAST_BOOK
    g_LAST_BOOK := PySem.W.mg_of X G zc_LAST_BOOK
    r_LAST_BOOK := ⟨_, rfl⟩
    v_MOST_ALSO := .int (4) t_MOST_ALSO
    g_MOST_ALSO := PySem.W.mg_of X G zc_MOST_ALSO
    r_MOST_ALSO := ⟨_, rfl⟩
    a_RULES := at_RULES
    g_RULES := PySem.W.mg_of X G zc_RULES
    r_RULES := rfl
    t_RULES := fun H => .inr ⟨_, #[.str "all" ok_RULES_0, .str "leaf" ok_RULES_1, .str "half" ok_RULES_2], _, ht_RULES, rfl, rfl, by show 3 ≤ sizeLine; decide, .cons ⟨_, rfl⟩ (.cons ⟨_, rfl⟩ (.cons ⟨_, rfl⟩ (.nil)))⟩
    a_is_word := f_is_word
    fd_is_word := PySem.W.fnOf "is_word" "is_word" (defArgs s_is_word) (defBody s_is_word) (defScope s_is_word) .none kV_is_word dc_is_word pm_is_word an_is_word cd_is_word ct_is_word
    F_is_word := fun_mk (st := s_is_word) l_is_word c_is_word k_is_word
    g_is_word := PySem.W.mg_of X G n_is_word
    a_is_number := f_is_number
    fd_is_number := PySem.W.fnOf "is_number" "is_number" (defArgs s_is_number) (defBody s_is_number) (defScope s_is_number) .none kV_is_number dc_is_number pm_is_number an_is_number cd_is_number ct_is_number
    F_is_number := fun_mk (st := s_is_number) l_is_number c_is_number k_is_number
    g_is_number := PySem.W.mg_of X G n_is_number
    a_check_rule := f_check_rule
    fd_check_rule := PySem.W.fnOf "check_rule" "check_rule" (defArgs s_check_rule) (defBody s_check_rule) (defScope s_check_rule) .none kV_check_rule dc_check_rule pm_check_rule an_check_rule cd_check_rule ct_check_rule
    F_check_rule := fun_mk (st := s_check_rule) l_check_rule c_check_rule k_check_rule
    g_check_rule := PySem.W.mg_of X G n_check_rule
    a_check_heading := f_check_heading
    fd_check_heading := PySem.W.fnOf "check_heading" "check_heading" (defArgs s_check_heading) (defBody s_check_heading) (defScope s_check_heading) .none kV_check_heading dc_check_heading pm_check_heading an_check_heading cd_check_heading ct_check_heading
    F_check_heading := fun_mk (st := s_check_heading) l_check_heading c_check_heading k_check_heading
    g_check_heading := PySem.W.mg_of X G n_check_heading
    a_check_number := f_check_number
    fd_check_number := PySem.W.fnOf "check_number" "check_number" (defArgs s_check_number) (defBody s_check_number) (defScope s_check_number) .none kV_check_number dc_check_number pm_check_number an_check_number cd_check_number ct_check_number
    F_check_number := fun_mk (st := s_check_number) l_check_number c_check_number k_check_number
    g_check_number := PySem.W.mg_of X G n_check_number
    a_first_wrong_request := f_first_wrong_request
    fd_first_wrong_request := PySem.W.fnOf "first_wrong_request" "first_wrong_request" (defArgs s_first_wrong_request) (defBody s_first_wrong_request) (defScope s_first_wrong_request) .none kV_first_wrong_request dc_first_wrong_request pm_first_wrong_request an_first_wrong_request cd_first_wrong_request ct_first_wrong_request
    F_first_wrong_request := fun_mk (st := s_first_wrong_request) l_first_wrong_request c_first_wrong_request k_first_wrong_request
    g_first_wrong_request := PySem.W.mg_of X G n_first_wrong_request
    a_check_requests := f_check_requests
    fd_check_requests := PySem.W.fnOf "check_requests" "check_requests" (defArgs s_check_requests) (defBody s_check_requests) (defScope s_check_requests) .none kV_check_requests dc_check_requests pm_check_requests an_check_requests cd_check_requests ct_check_requests
    F_check_requests := fun_mk (st := s_check_requests) l_check_requests c_check_requests k_check_requests
    g_check_requests := PySem.W.mg_of X G n_check_requests
    a_Drawer_init := f_Drawer_init
    fd_Drawer_init := PySem.W.fnOf "__init__" "Drawer.__init__" (defArgs s_Drawer_init) (defBody s_Drawer_init) (defScope s_Drawer_init) .none kV_Drawer_init dc_Drawer_init pm_Drawer_init an_Drawer_init cd_Drawer_init ct_Drawer_init
    F_Drawer_init := fun_mk (st := s_Drawer_init) l_Drawer_init c_Drawer_init k_Drawer_init
    a_Drawer_cards := f_Drawer_cards
    fd_Drawer_cards := PySem.W.fnOf "cards" "Drawer.cards" (defArgs s_Drawer_cards) (defBody s_Drawer_cards) (defScope s_Drawer_cards) .none kV_Drawer_cards dc_Drawer_cards pm_Drawer_cards an_Drawer_cards cd_Drawer_cards ct_Drawer_cards
    F_Drawer_cards := fun_mk (st := s_Drawer_cards) l_Drawer_cards c_Drawer_cards k_Drawer_cards
    a_Drawer_len := f_Drawer_len
    fd_Drawer_len := PySem.W.fnOf "__len__" "Drawer.__len__" (defArgs s_Drawer_len) (defBody s_Drawer_len) (defScope s_Drawer_len) .none kV_Drawer_len dc_Drawer_len pm_Drawer_len an_Drawer_len cd_Drawer_len ct_Drawer_len
    F_Drawer_len := fun_mk (st := s_Drawer_len) l_Drawer_len c_Drawer_len k_Drawer_len
    a_headings_along := f_headings_along
    fd_headings_along := PySem.W.fnOf "headings_along" "headings_along" (defArgs s_headings_along) (defBody s_headings_along) (defScope s_headings_along) .none kV_headings_along dc_headings_along pm_headings_along an_headings_along cd_headings_along ct_headings_along
    F_headings_along := fun_mk (st := s_headings_along) l_headings_along c_headings_along k_headings_along
    g_headings_along := PySem.W.mg_of X G n_headings_along
    a_seek_along := f_seek_along
    fd_seek_along := PySem.W.fnOf "seek_along" "seek_along" (defArgs s_seek_along) (defBody s_seek_along) (defScope s_seek_along) .none kV_seek_along dc_seek_along pm_seek_along an_seek_along cd_seek_along ct_seek_along
    F_seek_along := fun_mk (st := s_seek_along) l_seek_along c_seek_along k_seek_along
    g_seek_along := PySem.W.mg_of X G n_seek_along
    a_seek_by_halves := f_seek_by_halves
    fd_seek_by_halves := PySem.W.fnOf "seek_by_halves" "seek_by_halves" (defArgs s_seek_by_halves) (defBody s_seek_by_halves) (defScope s_seek_by_halves) .none kV_seek_by_halves dc_seek_by_halves pm_seek_by_halves an_seek_by_halves cd_seek_by_halves ct_seek_by_halves
    F_seek_by_halves := fun_mk (st := s_seek_by_halves) l_seek_by_halves c_seek_by_halves k_seek_by_halves
    g_seek_by_halves := PySem.W.mg_of X G n_seek_by_halves
    a_seek := f_seek
    fd_seek := PySem.W.fnOf "seek" "seek" (defArgs s_seek) (defBody s_seek) (defScope s_seek) .none kV_seek dc_seek pm_seek an_seek cd_seek ct_seek
    F_seek := fun_mk (st := s_seek) l_seek c_seek k_seek
    g_seek := PySem.W.mg_of X G n_seek
    a_look_up := f_look_up
    fd_look_up := PySem.W.fnOf "look_up" "look_up" (defArgs s_look_up) (defBody s_look_up) (defScope s_look_up) .none kV_look_up dc_look_up pm_look_up an_look_up cd_look_up ct_look_up
    F_look_up := fun_mk (st := s_look_up) l_look_up c_look_up k_look_up
    g_look_up := PySem.W.mg_of X G n_look_up
    a_finds_all := f_finds_all
    fd_finds_all := PySem.W.fnOf "finds_all" "finds_all" (defArgs s_finds_all) (defBody s_finds_all) (defScope s_finds_all) .none kV_finds_all dc_finds_all pm_finds_all an_finds_all cd_finds_all ct_finds_all
    F_finds_all := fun_mk (st := s_finds_all) l_finds_all c_finds_all k_finds_all
    g_finds_all := PySem.W.mg_of X G n_finds_all
    a_check_wear := f_check_wear
    fd_check_wear := PySem.W.fnOf "check_wear" "check_wear" (defArgs s_check_wear) (defBody s_check_wear) (defScope s_check_wear) .none kV_check_wear dc_check_wear pm_check_wear an_check_wear cd_check_wear ct_check_wear
    F_check_wear := fun_mk (st := s_check_wear) l_check_wear c_check_wear k_check_wear
    g_check_wear := PySem.W.mg_of X G n_check_wear
    a_headings_left := f_headings_left
    fd_headings_left := PySem.W.fnOf "headings_left" "headings_left" (defArgs s_headings_left) (defBody s_headings_left) (defScope s_headings_left) .none kV_headings_left dc_headings_left pm_headings_left an_headings_left cd_headings_left ct_headings_left
    F_headings_left := fun_mk (st := s_headings_left) l_headings_left c_headings_left k_headings_left
    g_headings_left := PySem.W.mg_of X G n_headings_left
    a_request_worn := f_request_worn
    fd_request_worn := PySem.W.fnOf "request_worn" "request_worn" (defArgs s_request_worn) (defBody s_request_worn) (defScope s_request_worn) .none kV_request_worn dc_request_worn pm_request_worn an_request_worn cd_request_worn ct_request_worn
    F_request_worn := fun_mk (st := s_request_worn) l_request_worn c_request_worn k_request_worn
    g_request_worn := PySem.W.mg_of X G n_request_worn
    a_wear_of_round := f_wear_of_round
    fd_wear_of_round := PySem.W.fnOf "wear_of_round" "wear_of_round" (defArgs s_wear_of_round) (defBody s_wear_of_round) (defScope s_wear_of_round) .none kV_wear_of_round dc_wear_of_round pm_wear_of_round an_wear_of_round cd_wear_of_round ct_wear_of_round
    F_wear_of_round := fun_mk (st := s_wear_of_round) l_wear_of_round c_wear_of_round k_wear_of_round
    g_wear_of_round := PySem.W.mg_of X G n_wear_of_round
    a_rounds_ahead := f_rounds_ahead
    fd_rounds_ahead := PySem.W.fnOf "rounds_ahead" "rounds_ahead" (defArgs s_rounds_ahead) (defBody s_rounds_ahead) (defScope s_rounds_ahead) .none kV_rounds_ahead dc_rounds_ahead pm_rounds_ahead an_rounds_ahead cd_rounds_ahead ct_rounds_ahead
    F_rounds_ahead := fun_mk (st := s_rounds_ahead) l_rounds_ahead c_rounds_ahead k_rounds_ahead
    g_rounds_ahead := PySem.W.mg_of X G n_rounds_ahead
    a_served := f_served
    fd_served := PySem.W.fnOf "served" "served" (defArgs s_served) (defBody s_served) (defScope s_served) .none kV_served dc_served pm_served an_served cd_served ct_served
    F_served := fun_mk (st := s_served) l_served c_served k_served
    g_served := PySem.W.mg_of X G n_served
    a_first_fallen := f_first_fallen
    fd_first_fallen := PySem.W.fnOf "first_fallen" "first_fallen" (defArgs s_first_fallen) (defBody s_first_fallen) (defScope s_first_fallen) .none kV_first_fallen dc_first_fallen pm_first_fallen an_first_fallen cd_first_fallen ct_first_fallen
    F_first_fallen := fun_mk (st := s_first_fallen) l_first_fallen c_first_fallen k_first_fallen
    g_first_fallen := PySem.W.mg_of X G n_first_fallen
    a_are_books := f_are_books
    fd_are_books := PySem.W.fnOf "are_books" "are_books" (defArgs s_are_books) (defBody s_are_books) (defScope s_are_books) .none kV_are_books dc_are_books pm_are_books an_are_books cd_are_books ct_are_books
    F_are_books := fun_mk (st := s_are_books) l_are_books c_are_books k_are_books
    g_are_books := PySem.W.mg_of X G n_are_books
    a_is_target := f_is_target
    fd_is_target := PySem.W.fnOf "is_target" "is_target" (defArgs s_is_target) (defBody s_is_target) (defScope s_is_target) .none kV_is_target dc_is_target pm_is_target an_is_target cd_is_target ct_is_target
    F_is_target := fun_mk (st := s_is_target) l_is_target c_is_target k_is_target
    g_is_target := PySem.W.mg_of X G n_is_target
    a_are_further := f_are_further
    fd_are_further := PySem.W.fnOf "are_further" "are_further" (defArgs s_are_further) (defBody s_are_further) (defScope s_are_further) .none kV_are_further dc_are_further pm_are_further an_are_further cd_are_further ct_are_further
    F_are_further := fun_mk (st := s_are_further) l_are_further c_are_further k_are_further
    g_are_further := PySem.W.mg_of X G n_are_further
    a_wrong_part := f_wrong_part
    fd_wrong_part := PySem.W.fnOf "wrong_part" "wrong_part" (defArgs s_wrong_part) (defBody s_wrong_part) (defScope s_wrong_part) .none kV_wrong_part dc_wrong_part pm_wrong_part an_wrong_part cd_wrong_part ct_wrong_part
    F_wrong_part := fun_mk (st := s_wrong_part) l_wrong_part c_wrong_part k_wrong_part
    g_wrong_part := PySem.W.mg_of X G n_wrong_part
    a_Card_init := f_Card_init
    e_Card_init_0 := de_Card_init_0
    e_Card_init_2 := de_Card_init_2
    ek_Card_init_2 := fun H => .inr ⟨_, #[], _, hk_Card_init_2, rfl, rfl, Nat.zero_le _, .nil⟩
    fd_Card_init := PySem.W.fnOf "__init__" "Card.__init__" (defArgs s_Card_init) (defBody s_Card_init) (defScope s_Card_init) (.ref dT_Card_init) kV_Card_init dc_Card_init pm_Card_init an_Card_init cd_Card_init ct_Card_init
    F_Card_init := ⟨⟨_, _, _, _, _, _, _, _, _, _, rfl, l_Card_init, c_Card_init, .inr ⟨by simp, _, _, [.ref de_Card_init_0, .str "" du_Card_init_1, .ref de_Card_init_2], _, rfl, dk_Card_init, rfl, .cons rfl (.cons ⟨_, rfl⟩ (.cons rfl (.nil)))⟩, .inl rfl⟩, k_Card_init⟩
    a_Card_heading := f_Card_heading
    fd_Card_heading := PySem.W.fnOf "heading" "Card.heading" (defArgs s_Card_heading) (defBody s_Card_heading) (defScope s_Card_heading) .none kV_Card_heading dc_Card_heading pm_Card_heading an_Card_heading cd_Card_heading ct_Card_heading
    F_Card_heading := fun_mk (st := s_Card_heading) l_Card_heading c_Card_heading k_Card_heading
    a_llaw_taken := f_llaw_taken
    fd_llaw_taken := PySem.W.fnOf "_law_taken" "_law_taken" (defArgs s_llaw_taken) (defBody s_llaw_taken) (defScope s_llaw_taken) .none kV_llaw_taken dc_llaw_taken pm_llaw_taken an_llaw_taken cd_llaw_taken ct_llaw_taken
    F_llaw_taken := fun_mk (st := s_llaw_taken) l_llaw_taken c_llaw_taken k_llaw_taken
    g_llaw_taken := PySem.W.mg_of X G n_llaw_taken
    a_llaw_card := f_llaw_card
    fd_llaw_card := PySem.W.fnOf "_law_card" "_law_card" (defArgs s_llaw_card) (defBody s_llaw_card) (defScope s_llaw_card) .none kV_llaw_card dc_llaw_card pm_llaw_card an_llaw_card cd_llaw_card ct_llaw_card
    F_llaw_card := fun_mk (st := s_llaw_card) l_llaw_card c_llaw_card k_llaw_card
    g_llaw_card := PySem.W.mg_of X G n_llaw_card
    a_llaw_drawer := f_llaw_drawer
    fd_llaw_drawer := PySem.W.fnOf "_law_drawer" "_law_drawer" (defArgs s_llaw_drawer) (defBody s_llaw_drawer) (defScope s_llaw_drawer) .none kV_llaw_drawer dc_llaw_drawer pm_llaw_drawer an_llaw_drawer cd_llaw_drawer ct_llaw_drawer
    F_llaw_drawer := fun_mk (st := s_llaw_drawer) l_llaw_drawer c_llaw_drawer k_llaw_drawer
    g_llaw_drawer := PySem.W.mg_of X G n_llaw_drawer
    a_llaw_rule := f_llaw_rule
    fd_llaw_rule := PySem.W.fnOf "_law_rule" "_law_rule" (defArgs s_llaw_rule) (defBody s_llaw_rule) (defScope s_llaw_rule) .none kV_llaw_rule dc_llaw_rule pm_llaw_rule an_llaw_rule cd_llaw_rule ct_llaw_rule
    F_llaw_rule := fun_mk (st := s_llaw_rule) l_llaw_rule c_llaw_rule k_llaw_rule
    g_llaw_rule := PySem.W.mg_of X G n_llaw_rule
    a_llaw_words := f_llaw_words
    fd_llaw_words := PySem.W.fnOf "_law_words" "_law_words" (defArgs s_llaw_words) (defBody s_llaw_words) (defScope s_llaw_words) .none kV_llaw_words dc_llaw_words pm_llaw_words an_llaw_words cd_llaw_words ct_llaw_words
    F_llaw_words := fun_mk (st := s_llaw_words) l_llaw_words c_llaw_words k_llaw_words
    g_llaw_words := PySem.W.mg_of X G n_llaw_words
    a_llaw_are_right := f_llaw_are_right
    fd_llaw_are_right := PySem.W.fnOf "_law_are_right" "_law_are_right" (defArgs s_llaw_are_right) (defBody s_llaw_are_right) (defScope s_llaw_are_right) .none kV_llaw_are_right dc_llaw_are_right pm_llaw_are_right an_llaw_are_right cd_llaw_are_right ct_llaw_are_right
    F_llaw_are_right := fun_mk (st := s_llaw_are_right) l_llaw_are_right c_llaw_are_right k_llaw_are_right
    g_llaw_are_right := PySem.W.mg_of X G n_llaw_are_right
    a_law := f_law
    fd_law := PySem.W.fnOf "law" "law" (defArgs s_law) (defBody s_law) (defScope s_law) .none kV_law dc_law pm_law an_law cd_law ct_law
    F_law := fun_mk (st := s_law) l_law c_law k_law
    g_law := PySem.W.mg_of X G n_law
    c_Drawer := C_Drawer
    g_Drawer := PySem.W.mg_of X G n_Drawer
    cl_Drawer := ⟨cg_Drawer, ch_Drawer, cp_Drawer, cs_Drawer⟩
    n_Drawer__cards := na_Drawer__cards
    Mk_Drawer := ⟨mk1_Drawer, mk2_Drawer, mk3_Drawer, mk4_Drawer⟩
    p_Drawer_cards := pr_Drawer_cards
    P_Drawer_cards := ⟨p1_Drawer_cards, p2_Drawer_cards, p3_Drawer_cards, _, p4_Drawer_cards⟩
    M_Drawer_len := ⟨me1_Drawer_len, me2_Drawer_len, me3_Drawer_len⟩
    c_Card := C_Card
    g_Card := PySem.W.mg_of X G n_Card
    cl_Card := ⟨cg_Card, ch_Card, cp_Card, cs_Card⟩
    n_Card__heading := na_Card__heading
    n_Card__books := na_Card__books
    n_Card__see := na_Card__see
    n_Card__also := na_Card__also
    Mk_Card := ⟨mk1_Card, mk2_Card, mk3_Card, mk4_Card⟩
    p_Card_heading := pr_Card_heading
    P_Card_heading := ⟨p1_Card_heading, p2_Card_heading, p3_Card_heading, _, p4_Card_heading⟩
    }, rfl, rfl, rfl⟩
  obtain ⟨T, e1, e2, q_llaw_drawer⟩ := T
  refine ⟨T.fd_law, [(tc_llaw_drawer, tP_llaw_drawer)], spLaw K tP_llaw_drawer, (List.forall_mem_cons.mpr ⟨tab_llaw_drawer, (List.forall_mem_nil _)⟩), (List.forall_mem_cons.mpr ⟨tcn_llaw_drawer, (List.forall_mem_nil _)⟩), (List.forall_mem_cons.mpr ⟨(PySem.W.codeHd_of_K X tch_llaw_drawer), (List.forall_mem_nil _)⟩), fun s v => ?_, fun H a ns hl _ hH hS => ⟨a, ns, rfl, hS, hl, hH _ (.head _), fun _ => rfl⟩, fun base _ _ tb => ?_⟩
  · rw [e2]
    exact .of_eq rfl
  · rw [e, ← e1]
    exact ok_law T (by rw [q_llaw_drawer]; exact tcq_llaw_drawer) (tb _ (.head _))
end My
open PySem PySem.W PyProof.Rows
set_option maxRecDepth 100000 in
set_option maxHeartbeats 0 in
theorem PySem.Challenge.cw_seerings_k60_whole_wear_by_strengths_holds : PySem.Challenge.rw_seerings_k60_whole_wear_by_strengths.Holds := by
  w_on; o_law; k_head; (case hw => w_witness2)
  k_fill
  refine LamX.walk_ofTs (l := PySem.Challenge.rw_seerings_k60_whole_wear_by_strengths) (n := 63) (k := 8) (x := "_law_script") (CX := fun _ => L2.CX0) rfl (by decide) rfl ⟨rfl, by decide, by decide⟩ (fun w h Y => PySem.W.km_in_of Y) ?F (fun _ _ _ _ _ h => h)
  case F =>
    intro w mg fa h Y KX G hmg
    have tb := PySem.W.km_tabs_of Y
    refine' My.all_mk KX G hmg ?tab_llaw_drawer ?z_all ?z_bool ?z_enumerate ?z_int ?z_isinstance ?z_len ?z_list ?z_max ?z_min ?z_range ?z_set ?z_sorted ?z_str ?z_tuple ?z_zip ?zc_LETTERS ?zc_LONGEST_WORD ?zc_MOST_REQUESTS ?zc_MOST_CARDS ?zc_MOST_STRENGTH ?zc_MOST_BOOKS ?zc_LAST_BOOK ?zc_MOST_ALSO ?zc_RULES ?ht_RULES ?l_is_word ?c_is_word ?k_is_word ?n_is_word ?l_is_number ?c_is_number ?k_is_number ?n_is_number ?l_check_rule ?c_check_rule ?k_check_rule ?n_check_rule ?l_check_heading ?c_check_heading ?k_check_heading ?n_check_heading ?l_check_number ?c_check_number ?k_check_number ?n_check_number ?l_first_wrong_request ?c_first_wrong_request ?k_first_wrong_request ?n_first_wrong_request ?l_check_requests ?c_check_requests ?k_check_requests ?n_check_requests ?l_Drawer_init ?c_Drawer_init ?k_Drawer_init ?l_Drawer_cards ?c_Drawer_cards ?k_Drawer_cards ?l_Drawer_len ?c_Drawer_len ?k_Drawer_len ?l_headings_along ?c_headings_along ?k_headings_along ?n_headings_along ?l_seek_along ?c_seek_along ?k_seek_along ?n_seek_along ?l_seek_by_halves ?c_seek_by_halves ?k_seek_by_halves ?n_seek_by_halves ?l_seek ?c_seek ?k_seek ?n_seek ?l_look_up ?c_look_up ?k_look_up ?n_look_up ?l_finds_all ?c_finds_all ?k_finds_all ?n_finds_all ?l_check_wear ?c_check_wear ?k_check_wear ?n_check_wear ?l_headings_left ?c_headings_left ?k_headings_left ?n_headings_left ?l_request_worn ?c_request_worn ?k_request_worn ?n_request_worn ?l_wear_of_round ?c_wear_of_round ?k_wear_of_round ?n_wear_of_round ?l_rounds_ahead ?c_rounds_ahead ?k_rounds_ahead ?n_rounds_ahead ?l_served ?c_served ?k_served ?n_served ?l_first_fallen ?c_first_fallen ?k_first_fallen ?n_first_fallen ?l_are_books ?c_are_books ?k_are_books ?n_are_books ?l_is_target ?c_is_target ?k_is_target ?n_is_target ?l_are_further ?c_are_further ?k_are_further ?n_are_further ?l_wrong_part ?c_wrong_part ?k_wrong_part ?n_wrong_part ?hk_Card_init_2 ?l_Card_init ?c_Card_init ?k_Card_init ?dk_Card_init ?l_Card_heading ?c_Card_heading ?k_Card_heading ?l_llaw_taken ?c_llaw_taken ?k_llaw_taken ?n_llaw_taken ?l_llaw_card ?c_llaw_card ?k_llaw_card ?n_llaw_card ?l_llaw_drawer ?c_llaw_drawer ?k_llaw_drawer ?n_llaw_drawer ?l_llaw_rule ?c_llaw_rule ?k_llaw_rule ?n_llaw_rule ?l_llaw_words ?c_llaw_words ?k_llaw_words ?n_llaw_words ?l_llaw_are_right ?c_llaw_are_right ?k_llaw_are_right ?n_llaw_are_right ?l_law ?c_law ?k_law ?n_law ?n_Drawer ?cg_Drawer ?ch_Drawer ?cp_Drawer ?cs_Drawer ?na_Drawer__cards ?mk1_Drawer ?mk2_Drawer ?mk3_Drawer ?mk4_Drawer ?p1_Drawer_cards ?p2_Drawer_cards ?p3_Drawer_cards ?p4_Drawer_cards ?me1_Drawer_len ?me2_Drawer_len ?me3_Drawer_len ?n_Card ?cg_Card ?ch_Card ?cp_Card ?cs_Card ?na_Card__heading ?na_Card__books ?na_Card__see ?na_Card__also ?mk1_Card ?mk2_Card ?mk3_Card ?mk4_Card ?p1_Card_heading ?p2_Card_heading ?p3_Card_heading ?p4_Card_heading ?tcq_llaw_drawer ?tck_llaw_drawer ?tcv_llaw_drawer ?tcn_llaw_drawer ?tch_llaw_drawer
    (case z_all => k_is)
    (case z_bool => k_is)
    (case z_enumerate => k_is)
    (case z_int => k_is)
    (case z_isinstance => k_is)
    (case z_len => k_is)
    (case z_list => k_is)
    (case z_max => k_is)
    (case z_min => k_is)
    (case z_range => k_is)
    (case z_set => k_is)
    (case z_sorted => k_is)
    (case z_str => k_is)
    (case z_tuple => k_is)
    (case z_zip => k_is)
    (case zc_LETTERS => k_is)
    (case zc_LONGEST_WORD => k_is)
    (case zc_MOST_REQUESTS => k_is)
    (case zc_MOST_CARDS => k_is)
    (case zc_MOST_STRENGTH => k_is)
    (case zc_MOST_BOOKS => k_is)
    (case zc_LAST_BOOK => k_is)
    (case zc_MOST_ALSO => k_is)
    (case zc_RULES => k_is)
    (case n_is_word => k_is)
    (case n_is_number => k_is)
    (case n_check_rule => k_is)
    (case n_check_heading => k_is)
    (case n_check_number => k_is)
    (case n_first_wrong_request => k_is)
    (case n_check_requests => k_is)
    (case n_headings_along => k_is)
    (case n_seek_along => k_is)
    (case n_seek_by_halves => k_is)
    (case n_seek => k_is)
    (case n_look_up => k_is)
    (case n_finds_all => k_is)
    (case n_check_wear => k_is)
    (case n_headings_left => k_is)
    (case n_request_worn => k_is)
    (case n_wear_of_round => k_is)
    (case n_rounds_ahead => k_is)
    (case n_served => k_is)
    (case n_first_fallen => k_is)
    (case n_are_books => k_is)
    (case n_is_target => k_is)
    (case n_are_further => k_is)
    (case n_wrong_part => k_is)
    (case n_llaw_taken => k_is)
    (case n_llaw_card => k_is)
    (case n_llaw_drawer => k_is)
    (case n_llaw_rule => k_is)
    (case n_llaw_words => k_is)
    (case n_llaw_are_right => k_is)
    (case n_law => k_is)
    (case n_Drawer => k_is)
    (case n_Card => k_is)
    (case mk2_Drawer => k_is)
    (case mk2_Card => k_is)
    (case me1_Drawer_len => k_is)
    (case p1_Drawer_cards => k_is)
    (case p1_Card_heading => k_is)
    (case p4_Drawer_cards => k_is)
    (case p4_Card_heading => k_is)
    (case l_is_word => k_is)
    (case l_is_number => k_is)
    (case l_check_rule => k_is)
    (case l_check_heading => k_is)
    (case l_check_number => k_is)
    (case l_first_wrong_request => k_is)
    (case l_check_requests => k_is)
    (case l_Drawer_init => k_is)
    (case l_Drawer_cards => k_is)
    (case l_Drawer_len => k_is)
    (case l_headings_along => k_is)
    (case l_seek_along => k_is)
    (case l_seek_by_halves => k_is)
    (case l_seek => k_is)
    (case l_look_up => k_is)
    (case l_finds_all => k_is)
    (case l_check_wear => k_is)
    (case l_headings_left => k_is)
    (case l_request_worn => k_is)
    (case l_wear_of_round => k_is)
    (case l_rounds_ahead => k_is)
    (case l_served => k_is)
    (case l_first_fallen => k_is)
    (case l_are_books => k_is)
    (case l_is_target => k_is)
    (case l_are_further => k_is)
    (case l_wrong_part => k_is)
    (case l_Card_init => k_is)
    (case l_Card_heading => k_is)
    (case l_llaw_taken => k_is)
    (case l_llaw_card => k_is)
    (case l_llaw_drawer => k_is)
    (case l_llaw_rule => k_is)
    (case l_llaw_words => k_is)
    (case l_llaw_are_right => k_is)
    (case l_law => k_is)
    (case dk_Card_init => k_is)
    (case ht_RULES => k_is)
    (case tcq_llaw_drawer => exact rfl)
    (case tck_llaw_drawer => k_is)
    (case tcv_llaw_drawer => exact rfl)
    (case c_is_word => k_is)
    (case k_is_word => k_is)
    (case c_is_number => k_is)
    (case k_is_number => k_is)
    (case c_check_rule => k_is)
    (case k_check_rule => k_is)
    (case c_check_heading => k_is)
    (case k_check_heading => k_is)
    (case c_check_number => k_is)
    (case k_check_number => k_is)
    (case c_first_wrong_request => k_is)
    (case k_first_wrong_request => k_is)
    (case c_check_requests => k_is)
    (case k_check_requests => k_is)
    (case c_Drawer_init => k_is)
    (case k_Drawer_init => k_is)
    (case c_Drawer_cards => k_is)
    (case k_Drawer_cards => k_is)
    (case c_Drawer_len => k_is)
    (case k_Drawer_len => k_is)
    (case c_headings_along => k_is)
    (case k_headings_along => k_is)
    (case c_seek_along => k_is)
    (case k_seek_along => k_is)
    (case c_seek_by_halves => k_is)
    (case k_seek_by_halves => k_is)
    (case c_seek => k_is)
    (case k_seek => k_is)
    (case c_look_up => k_is)
    (case k_look_up => k_is)
    (case c_finds_all => k_is)
    (case k_finds_all => k_is)
    (case c_check_wear => k_is)
    (case k_check_wear => k_is)
    (case c_headings_left => k_is)
    (case k_headings_left => k_is)
    (case c_request_worn => k_is)
    (case k_request_worn => k_is)
    (case c_wear_of_round => k_is)
    (case k_wear_of_round => k_is)
    (case c_rounds_ahead => k_is)
    (case k_rounds_ahead => k_is)
    (case c_served => k_is)
    (case k_served => k_is)
    (case c_first_fallen => k_is)
    (case k_first_fallen => k_is)
    (case c_are_books => k_is)
    (case k_are_books => k_is)
    (case c_is_target => k_is)
    (case k_is_target => k_is)
    (case c_are_further => k_is)
    (case k_are_further => k_is)
    (case c_wrong_part => k_is)
    (case k_wrong_part => k_is)
    (case hk_Card_init_2 => k_is)
    (case c_Card_init => k_is)
    (case k_Card_init => k_is)
    (case c_Card_heading => k_is)
    (case k_Card_heading => k_is)
    (case c_llaw_taken => k_is)
    (case k_llaw_taken => k_is)
    (case c_llaw_card => k_is)
    (case k_llaw_card => k_is)
    (case c_llaw_drawer => k_is)
    (case k_llaw_drawer => k_is)
    (case c_llaw_rule => k_is)
    (case k_llaw_rule => k_is)
    (case c_llaw_words => k_is)
    (case k_llaw_words => k_is)
    (case c_llaw_are_right => k_is)
    (case k_llaw_are_right => k_is)
    (case c_law => k_is)
    (case k_law => k_is)
    (case cg_Drawer => k_is)
    (case ch_Drawer => k_is)
    (case cp_Drawer => k_is)
    (case cs_Drawer => k_is)
    (case na_Drawer__cards => k_is)
    (case mk1_Drawer => k_is)
    (case mk3_Drawer => k_is)
    (case mk4_Drawer => k_is)
    (case p2_Drawer_cards => k_is)
    (case p3_Drawer_cards => k_is)
    (case me2_Drawer_len => k_is)
    (case me3_Drawer_len => k_is)
    (case cg_Card => k_is)
    (case ch_Card => k_is)
    (case cp_Card => k_is)
    (case cs_Card => k_is)
    (case na_Card__heading => k_is)
    (case na_Card__books => k_is)
    (case na_Card__see => k_is)
    (case na_Card__also => k_is)
    (case mk1_Card => k_is)
    (case mk3_Card => k_is)
    (case mk4_Card => k_is)
    (case p2_Card_heading => k_is)
    (case p3_Card_heading => k_is)
    (case tcn_llaw_drawer => (first | kernel_rfl | rfl | decide +kernel))
    (case tch_llaw_drawer => (first | kernel_rfl | rfl | decide +kernel))
    (case tab_llaw_drawer => exact tb _ (by simp))
