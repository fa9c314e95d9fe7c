import PyProof.Rows.All
import Wide.All
import OpenK.AllK
import Wide.FinOn
import HandS.ForMost
import HandS.Wide
import HandS.Property
import HandS.ExcInit
import HandS.ExcField
import HandS.IsInst
import HandS.Defaults
import HandS.MakeKw
import HandS.Style
import HandS.TupAny
import HandS.Zip
import HandS.Strs
import HandS.SortKw
import HandS.Conv
import PySem.Challenge.RW_seerings_k09_whole_rings_by_powers
import HandS.Walk
import HandS.Iter
import KE.GoesMore
import KE.GoesEnum
import PyProof.P3Eq
import KE.DataMinMax
import HandS.SetFor
import HandS.OwnEq
import HandS.More
import HandS.SetKeys
import HandS.Sort
import HandS.Lambda
import KE.SortKeyHeap
import HandS.SetBool
import HandS.DictComp
import KE.DataEq
import HandS.Words
import HandS.Text
import HandS.FStr
import HandS.ExcOwn
import HandS.TryMany
import HandS.WordsExc
import HandS.Comp
import HandS.Replace
import HandS.TupLen
import HandS.Deep
import HandS.DictTup
import KE.KDictDisplayH
import PyProof.Rows.TupDisplay
import KE.SortData
import HandS.EndTab
set_option Elab.async false
set_option linter.all false
set_option maxRecDepth 100000
set_option maxHeartbeats 4000000
namespace My
open PySem L2
def top (i : Nat) : Stmt := PySem.Challenge.pw_seerings_k09_whole_rings_by_powers.main.body.getD i (.Pass ⟨0, 0, 0, 0⟩)
abbrev s_is_word : Stmt := top 12
abbrev N_is_word : List Str := ["text", "letter"]
theorem sc_is_word : FnScope N_is_word ["text"] (defScope s_is_word) := ⟨rfl, rfl, rfl, by decide +kernel, rfl, by decide +kernel, by decide +kernel⟩
abbrev s_is_number : Stmt := top 13
abbrev N_is_number : List Str := ["number", "least", "greatest"]
theorem sc_is_number : FnScope N_is_number ["number", "least", "greatest"] (defScope s_is_number) := ⟨rfl, rfl, rfl, by decide +kernel, rfl, by decide +kernel, by decide +kernel⟩
abbrev s_check_rule : Stmt := top 14
abbrev N_check_rule : List Str := ["rule"]
theorem sc_check_rule : FnScope N_check_rule ["rule"] (defScope s_check_rule) := ⟨rfl, rfl, rfl, by decide +kernel, rfl, by decide +kernel, by decide +kernel⟩
abbrev s_check_heading : Stmt := top 15
abbrev N_check_heading : List Str := ["heading"]
theorem sc_check_heading : FnScope N_check_heading ["heading"] (defScope s_check_heading) := ⟨rfl, rfl, rfl, by decide +kernel, rfl, by decide +kernel, by decide +kernel⟩
abbrev s_check_place : Stmt := top 16
abbrev N_check_place : List Str := ["many", "place"]
theorem sc_check_place : FnScope N_check_place ["many", "place"] (defScope s_check_place) := ⟨rfl, rfl, rfl, by decide +kernel, rfl, by decide +kernel, by decide +kernel⟩
abbrev s_Drawer_init : Stmt := inClass (top 19) 0
abbrev N_Drawer_init : List Str := ["self", "cards"]
theorem sc_Drawer_init : FnScope N_Drawer_init ["self", "cards"] (defScope s_Drawer_init) := ⟨rfl, rfl, rfl, by decide +kernel, rfl, by decide +kernel, by decide +kernel⟩
abbrev s_Drawer_cards : Stmt := inClass (top 19) 1
abbrev N_Drawer_cards : List Str := ["self"]
theorem sc_Drawer_cards : FnScope N_Drawer_cards ["self"] (defScope s_Drawer_cards) := ⟨rfl, rfl, rfl, by decide +kernel, rfl, by decide +kernel, by decide +kernel⟩
abbrev s_Drawer_headings : Stmt := inClass (top 19) 2
abbrev N_Drawer_headings : List Str := ["self", "card"]
theorem sc_Drawer_headings : FnScope N_Drawer_headings ["self"] (defScope s_Drawer_headings) := ⟨rfl, rfl, rfl, by decide +kernel, rfl, by decide +kernel, by decide +kernel⟩
abbrev s_Drawer_getitem : Stmt := inClass (top 19) 5
abbrev N_Drawer_getitem : List Str := ["self", "place"]
theorem sc_Drawer_getitem : FnScope N_Drawer_getitem ["self", "place"] (defScope s_Drawer_getitem) := ⟨rfl, rfl, rfl, by decide +kernel, rfl, by decide +kernel, by decide +kernel⟩
abbrev s_headings_along : Stmt := top 20
abbrev N_headings_along : List Str := ["drawer", "card"]
theorem sc_headings_along : FnScope N_headings_along ["drawer"] (defScope s_headings_along) := ⟨rfl, rfl, rfl, by decide +kernel, rfl, by decide +kernel, by decide +kernel⟩
abbrev s_seek_along : Stmt := top 22
abbrev N_seek_along : List Str := ["row", "heading", "gives_up", "place", "there"]
theorem sc_seek_along : FnScope N_seek_along ["row", "heading", "gives_up"] (defScope s_seek_along) := ⟨rfl, rfl, rfl, by decide +kernel, rfl, by decide +kernel, by decide +kernel⟩
abbrev s_seek_by_halves : Stmt := top 23
abbrev N_seek_by_halves : List Str := ["row", "heading", "places", "first", "last", "middle"]
theorem sc_seek_by_halves : FnScope N_seek_by_halves ["row", "heading"] (defScope s_seek_by_halves) := ⟨rfl, rfl, rfl, by decide +kernel, rfl, by decide +kernel, by decide +kernel⟩
abbrev s_seek : Stmt := top 24
abbrev N_seek : List Str := ["row", "rule", "heading"]
theorem sc_seek : FnScope N_seek ["row", "rule", "heading"] (defScope s_seek) := ⟨rfl, rfl, rfl, by decide +kernel, rfl, by decide +kernel, by decide +kernel⟩
abbrev s_Trip_init : Stmt := inClass (top 26) 0
abbrev N_Trip_init : List Str := ["self", "word", "asked", "found", "total"]
theorem sc_Trip_init : FnScope N_Trip_init ["self", "word", "asked", "found", "total"] (defScope s_Trip_init) := ⟨rfl, rfl, rfl, by decide +kernel, rfl, by decide +kernel, by decide +kernel⟩
abbrev s_travel : Stmt := top 27
abbrev N_travel : List Str := ["drawer", "rule", "heading", "row", "asked", "found", "total", "sought", "place", "seen"]
theorem sc_travel : FnScope N_travel ["drawer", "rule", "heading"] (defScope s_travel) := ⟨rfl, rfl, rfl, by decide +kernel, rfl, by decide +kernel, by decide +kernel⟩
abbrev s_walk : Stmt := top 28
abbrev N_walk : List Str := ["drawer", "rule", "heading", "trip"]
theorem sc_walk : FnScope N_walk ["drawer", "rule", "heading"] (defScope s_walk) := ⟨rfl, rfl, rfl, by decide +kernel, rfl, by decide +kernel, by decide +kernel⟩
abbrev s_see_rings : Stmt := top 29
abbrev N_see_rings : List Str := ["drawer", "rule", "rings", "heading", "trip"]
theorem sc_see_rings : FnScope N_see_rings ["drawer", "rule"] (defScope s_see_rings) := ⟨rfl, rfl, rfl, by decide +kernel, rfl, by decide +kernel, by decide +kernel⟩
abbrev s_are_books : Stmt := top 34
abbrev N_are_books : List Str := ["books", "book", "later"]
theorem sc_are_books : FnScope N_are_books ["books"] (defScope s_are_books) := ⟨rfl, rfl, rfl, by decide +kernel, rfl, by decide +kernel, by decide +kernel⟩
abbrev s_is_target : Stmt := top 35
abbrev N_is_target : List Str := ["see", "heading"]
theorem sc_is_target : FnScope N_is_target ["see", "heading"] (defScope s_is_target) := ⟨rfl, rfl, rfl, by decide +kernel, rfl, by decide +kernel, by decide +kernel⟩
abbrev s_are_further : Stmt := top 36
abbrev N_are_further : List Str := ["also", "heading", "word"]
theorem sc_are_further : FnScope N_are_further ["also", "heading"] (defScope s_are_further) := ⟨rfl, rfl, rfl, by decide +kernel, rfl, by decide +kernel, by decide +kernel⟩
abbrev s_wrong_part : Stmt := top 37
abbrev N_wrong_part : List Str := ["heading", "books", "see", "also"]
theorem sc_wrong_part : FnScope N_wrong_part ["heading", "books", "see", "also"] (defScope s_wrong_part) := ⟨rfl, rfl, rfl, by decide +kernel, rfl, by decide +kernel, by decide +kernel⟩
abbrev s_Card_init : Stmt := inClass (top 38) 0
abbrev N_Card_init : List Str := ["self", "heading", "books", "see", "also", "part"]
theorem sc_Card_init : FnScope N_Card_init ["self", "heading", "books", "see", "also"] (defScope s_Card_init) := ⟨rfl, rfl, rfl, by decide +kernel, rfl, by decide +kernel, by decide +kernel⟩
abbrev s_Card_heading : Stmt := inClass (top 38) 1
abbrev N_Card_heading : List Str := ["self"]
theorem sc_Card_heading : FnScope N_Card_heading ["self"] (defScope s_Card_heading) := ⟨rfl, rfl, rfl, by decide +kernel, rfl, by decide +kernel, by decide +kernel⟩
abbrev s_Card_see : Stmt := inClass (top 38) 3
abbrev N_Card_see : List Str := ["self"]
theorem sc_Card_see : FnScope N_Card_see ["self"] (defScope s_Card_see) := ⟨rfl, rfl, rfl, by decide +kernel, rfl, by decide +kernel, by decide +kernel⟩
abbrev s_Card_leads : Stmt := inClass (top 38) 5
abbrev N_Card_leads : List Str := ["self"]
theorem sc_Card_leads : FnScope N_Card_leads ["self"] (defScope s_Card_leads) := ⟨rfl, rfl, rfl, by decide +kernel, rfl, by decide +kernel, by decide +kernel⟩
abbrev s_llaw_taken : Stmt := top 40
abbrev N_llaw_taken : List Str := ["_law_row", "_law_many", "_law_found", "_law_cell"]
theorem sc_llaw_taken : FnScope N_llaw_taken ["_law_row", "_law_many"] (defScope s_llaw_taken) := ⟨rfl, rfl, rfl, by decide +kernel, rfl, by decide +kernel, by decide +kernel⟩
abbrev s_llaw_pick : Stmt := top 41
abbrev N_llaw_pick : List Str := ["_law_row", "_law_some"]
theorem sc_llaw_pick : FnScope N_llaw_pick ["_law_row", "_law_some"] (defScope s_llaw_pick) := ⟨rfl, rfl, rfl, by decide +kernel, rfl, by decide +kernel, by decide +kernel⟩
abbrev s_llaw_drawer : Stmt := top 42
abbrev N_llaw_drawer : List Str := ["_law_some", "_law_one"]
theorem sc_llaw_drawer : FnScope N_llaw_drawer ["_law_some"] (defScope s_llaw_drawer) := ⟨rfl, rfl, rfl, by decide +kernel, rfl, by decide +kernel, by decide +kernel⟩
abbrev s_llaw_looked : Stmt := top 43
abbrev N_llaw_looked : List Str := ["_law_some", "_law_rule", "_law_heading", "_law_met", "_law_low", "_law_high", "_law_turn", "_law_here"]
theorem sc_llaw_looked : FnScope N_llaw_looked ["_law_some", "_law_rule", "_law_heading"] (defScope s_llaw_looked) := ⟨rfl, rfl, rfl, by decide +kernel, rfl, by decide +kernel, by decide +kernel⟩
abbrev s_llaw_known : Stmt := top 44
abbrev N_llaw_known : List Str := ["_law_some", "_law_found", "_law_heading", "_law_tomes", "_law_goal_of", "_law_hints"]
theorem sc_llaw_known : FnScope N_llaw_known ["_law_some"] (defScope s_llaw_known) := ⟨rfl, rfl, rfl, by decide +kernel, rfl, by decide +kernel, by decide +kernel⟩
abbrev s_llaw_seeing : Stmt := top 45
abbrev N_llaw_seeing : List Str := ["_law_row", "_law_names", "_law_found", "_law_k", "_law_heading", "_law_other", "_law_name"]
theorem sc_llaw_seeing : FnScope N_llaw_seeing ["_law_row"] (defScope s_llaw_seeing) := ⟨rfl, rfl, rfl, by decide +kernel, rfl, by decide +kernel, by decide +kernel⟩
abbrev s_law : Stmt := top 46
abbrev N_law : List Str := ["_law_script", "_law_row", "_law_some", "_law_drawer_here", "_law_rule", "_law_steps_of", "_law_heading", "_law_place", "_law_here", "_law_rounds", "_law_turn", "_law_due", "_law_ring", "_law_members", "_law_spot"]
theorem sc_law : FnScope N_law ["_law_script"] (defScope s_law) := ⟨rfl, rfl, rfl, by decide +kernel, rfl, by decide +kernel, by decide +kernel⟩
structure Top (K : PySem.W.Frag) (mg : Str → Option Value) where
  m_all : mg "all" = none
  m_bool : mg "bool" = none
  m_dict : mg "dict" = none
  m_enumerate : mg "enumerate" = none
  m_int : mg "int" = none
  m_isinstance : mg "isinstance" = none
  m_len : mg "len" = none
  m_list : mg "list" = none
  m_min : mg "min" = none
  m_range : mg "range" = none
  m_set : mg "set" = none
  m_sorted : mg "sorted" = none
  m_str : mg "str" = none
  m_tuple : mg "tuple" = none
  m_zip : mg "zip" = none
  v_LETTERS : Value
  g_LETTERS : mg "LETTERS" = some v_LETTERS
  r_LETTERS : RelV (.str "abcdefghijklmnopqrstuvwxyz") v_LETTERS
  v_LONGEST_WORD : Value
  g_LONGEST_WORD : mg "LONGEST_WORD" = some v_LONGEST_WORD
  r_LONGEST_WORD : RelV (.int 8) v_LONGEST_WORD
  v_MOST_CARDS : Value
  g_MOST_CARDS : mg "MOST_CARDS" = some v_MOST_CARDS
  r_MOST_CARDS : RelV (.int 16) v_MOST_CARDS
  v_MOST_BOOKS : Value
  g_MOST_BOOKS : mg "MOST_BOOKS" = some v_MOST_BOOKS
  r_MOST_BOOKS : RelV (.int 6) v_MOST_BOOKS
  v_LAST_BOOK : Value
  g_LAST_BOOK : mg "LAST_BOOK" = some v_LAST_BOOK
  r_LAST_BOOK : RelV (.int 999) v_LAST_BOOK
  v_MOST_ALSO : Value
  g_MOST_ALSO : mg "MOST_ALSO" = some v_MOST_ALSO
  r_MOST_ALSO : RelV (.int 4) v_MOST_ALSO
  a_RULES : Addr
  g_RULES : mg "RULES" = some (.ref a_RULES)
  r_RULES : RelV (.ref a_RULES) (.ref a_RULES)
  t_RULES : ∀ H : Hp, SqT K H a_RULES [.str "all", .str "leaf", .str "half"]
  a_is_word : Addr
  fd_is_word : FuncData
  F_is_word : Fun K "is_word" "is_word" s_is_word a_is_word fd_is_word
  g_is_word : mg "is_word" = some (.ref a_is_word)
  a_is_number : Addr
  fd_is_number : FuncData
  F_is_number : Fun K "is_number" "is_number" s_is_number a_is_number fd_is_number
  g_is_number : mg "is_number" = some (.ref a_is_number)
  a_check_rule : Addr
  fd_check_rule : FuncData
  F_check_rule : Fun K "check_rule" "check_rule" s_check_rule a_check_rule fd_check_rule
  g_check_rule : mg "check_rule" = some (.ref a_check_rule)
  a_check_heading : Addr
  fd_check_heading : FuncData
  F_check_heading : Fun K "check_heading" "check_heading" s_check_heading a_check_heading fd_check_heading
  g_check_heading : mg "check_heading" = some (.ref a_check_heading)
  a_check_place : Addr
  fd_check_place : FuncData
  F_check_place : Fun K "check_place" "check_place" s_check_place a_check_place fd_check_place
  g_check_place : mg "check_place" = some (.ref a_check_place)
  a_Drawer_init : Addr
  fd_Drawer_init : FuncData
  F_Drawer_init : Fun K "__init__" "Drawer.__init__" s_Drawer_init a_Drawer_init fd_Drawer_init
  a_Drawer_cards : Addr
  fd_Drawer_cards : FuncData
  F_Drawer_cards : Fun K "cards" "Drawer.cards" s_Drawer_cards a_Drawer_cards fd_Drawer_cards
  a_Drawer_headings : Addr
  fd_Drawer_headings : FuncData
  F_Drawer_headings : Fun K "headings" "Drawer.headings" s_Drawer_headings a_Drawer_headings fd_Drawer_headings
  a_Drawer_getitem : Addr
  fd_Drawer_getitem : FuncData
  F_Drawer_getitem : Fun K "__getitem__" "Drawer.__getitem__" s_Drawer_getitem a_Drawer_getitem fd_Drawer_getitem
  a_headings_along : Addr
  fd_headings_along : FuncData
  F_headings_along : Fun K "headings_along" "headings_along" s_headings_along a_headings_along fd_headings_along
  g_headings_along : mg "headings_along" = some (.ref a_headings_along)
  a_seek_along : Addr
  fd_seek_along : FuncData
  F_seek_along : Fun K "seek_along" "seek_along" s_seek_along a_seek_along fd_seek_along
  g_seek_along : mg "seek_along" = some (.ref a_seek_along)
  a_seek_by_halves : Addr
  fd_seek_by_halves : FuncData
  F_seek_by_halves : Fun K "seek_by_halves" "seek_by_halves" s_seek_by_halves a_seek_by_halves fd_seek_by_halves
  g_seek_by_halves : mg "seek_by_halves" = some (.ref a_seek_by_halves)
  a_seek : Addr
  fd_seek : FuncData
  F_seek : Fun K "seek" "seek" s_seek a_seek fd_seek
  g_seek : mg "seek" = some (.ref a_seek)
  a_Trip_init : Addr
  fd_Trip_init : FuncData
  F_Trip_init : Fun K "__init__" "Trip.__init__" s_Trip_init a_Trip_init fd_Trip_init
  a_travel : Addr
  fd_travel : FuncData
  F_travel : Fun K "travel" "travel" s_travel a_travel fd_travel
  g_travel : mg "travel" = some (.ref a_travel)
  a_walk : Addr
  fd_walk : FuncData
  F_walk : Fun K "walk" "walk" s_walk a_walk fd_walk
  g_walk : mg "walk" = some (.ref a_walk)
  a_see_rings : Addr
  fd_see_rings : FuncData
  F_see_rings : Fun K "see_rings" "see_rings" s_see_rings a_see_rings fd_see_rings
  g_see_rings : mg "see_rings" = some (.ref a_see_rings)
  a_are_books : Addr
  fd_are_books : FuncData
  F_are_books : Fun K "are_books" "are_books" s_are_books a_are_books fd_are_books
  g_are_books : mg "are_books" = some (.ref a_are_books)
  a_is_target : Addr
  fd_is_target : FuncData
  F_is_target : Fun K "is_target" "is_target" s_is_target a_is_target fd_is_target
  g_is_target : mg "is_target" = some (.ref a_is_target)
  a_are_further : Addr
  fd_are_further : FuncData
  F_are_further : Fun K "are_further" "are_further" s_are_further a_are_further fd_are_further
  g_are_further : mg "are_further" = some (.ref a_are_further)
  a_wrong_part : Addr
  fd_wrong_part : FuncData
  F_wrong_part : Fun K "wrong_part" "wrong_part" s_wrong_part a_wrong_part fd_wrong_part
  g_wrong_part : mg "wrong_part" = some (.ref a_wrong_part)
  a_Card_init : Addr
  e_Card_init_0 : Addr
  e_Card_init_2 : Addr
  fd_Card_init : FuncData
  F_Card_init : FunD K "__init__" "Card.__init__" (defArgs s_Card_init) (defBody s_Card_init) (defScope s_Card_init) [.ref e_Card_init_0, .str "", .ref e_Card_init_2] [] a_Card_init fd_Card_init
  a_Card_heading : Addr
  fd_Card_heading : FuncData
  F_Card_heading : Fun K "heading" "Card.heading" s_Card_heading a_Card_heading fd_Card_heading
  a_Card_see : Addr
  fd_Card_see : FuncData
  F_Card_see : Fun K "see" "Card.see" s_Card_see a_Card_see fd_Card_see
  a_Card_leads : Addr
  fd_Card_leads : FuncData
  F_Card_leads : Fun K "leads" "Card.leads" s_Card_leads a_Card_leads fd_Card_leads
  a_llaw_taken : Addr
  fd_llaw_taken : FuncData
  F_llaw_taken : Fun K "_law_taken" "_law_taken" s_llaw_taken a_llaw_taken fd_llaw_taken
  g_llaw_taken : mg "_law_taken" = some (.ref a_llaw_taken)
  a_llaw_pick : Addr
  fd_llaw_pick : FuncData
  F_llaw_pick : Fun K "_law_pick" "_law_pick" s_llaw_pick a_llaw_pick fd_llaw_pick
  g_llaw_pick : mg "_law_pick" = some (.ref a_llaw_pick)
  a_llaw_drawer : Addr
  fd_llaw_drawer : FuncData
  F_llaw_drawer : Fun K "_law_drawer" "_law_drawer" s_llaw_drawer a_llaw_drawer fd_llaw_drawer
  g_llaw_drawer : mg "_law_drawer" = some (.ref a_llaw_drawer)
  a_llaw_looked : Addr
  fd_llaw_looked : FuncData
  F_llaw_looked : Fun K "_law_looked" "_law_looked" s_llaw_looked a_llaw_looked fd_llaw_looked
  g_llaw_looked : mg "_law_looked" = some (.ref a_llaw_looked)
  a_llaw_known : Addr
  fd_llaw_known : FuncData
  F_llaw_known : Fun K "_law_known" "_law_known" s_llaw_known a_llaw_known fd_llaw_known
  g_llaw_known : mg "_law_known" = some (.ref a_llaw_known)
  a_llaw_seeing : Addr
  fd_llaw_seeing : FuncData
  F_llaw_seeing : Fun K "_law_seeing" "_law_seeing" s_llaw_seeing a_llaw_seeing fd_llaw_seeing
  g_llaw_seeing : mg "_law_seeing" = some (.ref a_llaw_seeing)
  a_law : Addr
  fd_law : FuncData
  F_law : Fun K "law" "law" s_law a_law fd_law
  g_law : mg "law" = some (.ref a_law)
  c_Drawer : Addr
  g_Drawer : mg "Drawer" = some (.ref c_Drawer)
  cl_Drawer : Cls K c_Drawer
  n_Drawer__cards : NoAttr K c_Drawer "_cards"
  Mk_Drawer : Mk K c_Drawer a_Drawer_init
  p_Drawer_cards : Addr
  P_Drawer_cards : PropOf K c_Drawer "cards" p_Drawer_cards a_Drawer_cards
  p_Drawer_headings : Addr
  P_Drawer_headings : PropOf K c_Drawer "headings" p_Drawer_headings a_Drawer_headings
  M_Drawer_getitem : Meth K c_Drawer "__getitem__" a_Drawer_getitem
  I_Drawer_getitem : PySem.W.fnIn K a_Drawer_getitem = true
  c_Trip : Addr
  g_Trip : mg "Trip" = some (.ref c_Trip)
  cl_Trip : Cls K c_Trip
  n_Trip_word : NoAttr K c_Trip "word"
  n_Trip_asked : NoAttr K c_Trip "asked"
  n_Trip_found : NoAttr K c_Trip "found"
  n_Trip_total : NoAttr K c_Trip "total"
  n_Trip_end : NoAttr K c_Trip "end"
  Mk_Trip : Mk K c_Trip a_Trip_init
  c_Card : Addr
  g_Card : mg "Card" = some (.ref c_Card)
  cl_Card : Cls K c_Card
  n_Card__heading : NoAttr K c_Card "_heading"
  n_Card__books : NoAttr K c_Card "_books"
  n_Card__see : NoAttr K c_Card "_see"
  n_Card__also : NoAttr K c_Card "_also"
  Mk_Card : Mk K c_Card a_Card_init
  p_Card_heading : Addr
  P_Card_heading : PropOf K c_Card "heading" p_Card_heading a_Card_heading
  p_Card_see : Addr
  P_Card_see : PropOf K c_Card "see" p_Card_see a_Card_see
  p_Card_leads : Addr
  P_Card_leads : PropOf K c_Card "leads" p_Card_leads a_Card_leads
theorem b_is_word {K : PySem.W.Frag} {mg : Str → Option Value} (T : Top K mg) : Binds K T.fd_is_word ["text"] [] := T.F_is_word.binds (ps := ["text"]) fun _ _ _ _ _ _ us hl => match us, hl with | [_], _ => rfl
theorem b_is_number {K : PySem.W.Frag} {mg : Str → Option Value} (T : Top K mg) : Binds K T.fd_is_number ["number", "least", "greatest"] [] := T.F_is_number.binds (ps := ["number", "least", "greatest"]) fun _ _ _ _ _ _ us hl => match us, hl with | [_, _, _], _ => rfl
theorem b_check_rule {K : PySem.W.Frag} {mg : Str → Option Value} (T : Top K mg) : Binds K T.fd_check_rule ["rule"] [] := T.F_check_rule.binds (ps := ["rule"]) fun _ _ _ _ _ _ us hl => match us, hl with | [_], _ => rfl
theorem b_check_heading {K : PySem.W.Frag} {mg : Str → Option Value} (T : Top K mg) : Binds K T.fd_check_heading ["heading"] [] := T.F_check_heading.binds (ps := ["heading"]) fun _ _ _ _ _ _ us hl => match us, hl with | [_], _ => rfl
theorem b_check_place {K : PySem.W.Frag} {mg : Str → Option Value} (T : Top K mg) : Binds K T.fd_check_place ["many", "place"] [] := T.F_check_place.binds (ps := ["many", "place"]) fun _ _ _ _ _ _ us hl => match us, hl with | [_, _], _ => rfl
theorem b_Drawer_init {K : PySem.W.Frag} {mg : Str → Option Value} (T : Top K mg) : Binds K T.fd_Drawer_init ["self", "cards"] [] := T.F_Drawer_init.binds (ps := ["self", "cards"]) fun _ _ _ _ _ _ us hl => match us, hl with | [_, _], _ => rfl
theorem b_Drawer_cards {K : PySem.W.Frag} {mg : Str → Option Value} (T : Top K mg) : Binds K T.fd_Drawer_cards ["self"] [] := T.F_Drawer_cards.binds (ps := ["self"]) fun _ _ _ _ _ _ us hl => match us, hl with | [_], _ => rfl
theorem b_Drawer_headings {K : PySem.W.Frag} {mg : Str → Option Value} (T : Top K mg) : Binds K T.fd_Drawer_headings ["self"] [] := T.F_Drawer_headings.binds (ps := ["self"]) fun _ _ _ _ _ _ us hl => match us, hl with | [_], _ => rfl
theorem b_Drawer_getitem {K : PySem.W.Frag} {mg : Str → Option Value} (T : Top K mg) : Binds K T.fd_Drawer_getitem ["self", "place"] [] := T.F_Drawer_getitem.binds (ps := ["self", "place"]) fun _ _ _ _ _ _ us hl => match us, hl with | [_, _], _ => rfl
theorem b_headings_along {K : PySem.W.Frag} {mg : Str → Option Value} (T : Top K mg) : Binds K T.fd_headings_along ["drawer"] [] := T.F_headings_along.binds (ps := ["drawer"]) fun _ _ _ _ _ _ us hl => match us, hl with | [_], _ => rfl
theorem b_seek_along {K : PySem.W.Frag} {mg : Str → Option Value} (T : Top K mg) : Binds K T.fd_seek_along ["row", "heading", "gives_up"] [] := T.F_seek_along.binds (ps := ["row", "heading", "gives_up"]) fun _ _ _ _ _ _ us hl => match us, hl with | [_, _, _], _ => rfl
theorem b_seek_by_halves {K : PySem.W.Frag} {mg : Str → Option Value} (T : Top K mg) : Binds K T.fd_seek_by_halves ["row", "heading"] [] := T.F_seek_by_halves.binds (ps := ["row", "heading"]) fun _ _ _ _ _ _ us hl => match us, hl with | [_, _], _ => rfl
theorem b_seek {K : PySem.W.Frag} {mg : Str → Option Value} (T : Top K mg) : Binds K T.fd_seek ["row", "rule", "heading"] [] := T.F_seek.binds (ps := ["row", "rule", "heading"]) fun _ _ _ _ _ _ us hl => match us, hl with | [_, _, _], _ => rfl
theorem b_Trip_init {K : PySem.W.Frag} {mg : Str → Option Value} (T : Top K mg) : Binds K T.fd_Trip_init ["self", "word", "asked", "found", "total"] [] := T.F_Trip_init.binds (ps := ["self", "word", "asked", "found", "total"]) fun _ _ _ _ _ _ us hl => match us, hl with | [_, _, _, _, _], _ => rfl
theorem b_travel {K : PySem.W.Frag} {mg : Str → Option Value} (T : Top K mg) : Binds K T.fd_travel ["drawer", "rule", "heading"] [] := T.F_travel.binds (ps := ["drawer", "rule", "heading"]) fun _ _ _ _ _ _ us hl => match us, hl with | [_, _, _], _ => rfl
theorem b_walk {K : PySem.W.Frag} {mg : Str → Option Value} (T : Top K mg) : Binds K T.fd_walk ["drawer", "rule", "heading"] [] := T.F_walk.binds (ps := ["drawer", "rule", "heading"]) fun _ _ _ _ _ _ us hl => match us, hl with | [_, _, _], _ => rfl
theorem b_see_rings {K : PySem.W.Frag} {mg : Str → Option Value} (T : Top K mg) : Binds K T.fd_see_rings ["drawer", "rule"] [] := T.F_see_rings.binds (ps := ["drawer", "rule"]) fun _ _ _ _ _ _ us hl => match us, hl with | [_, _], _ => rfl
theorem b_are_books {K : PySem.W.Frag} {mg : Str → Option Value} (T : Top K mg) : Binds K T.fd_are_books ["books"] [] := T.F_are_books.binds (ps := ["books"]) fun _ _ _ _ _ _ us hl => match us, hl with | [_], _ => rfl
theorem b_is_target {K : PySem.W.Frag} {mg : Str → Option Value} (T : Top K mg) : Binds K T.fd_is_target ["see", "heading"] [] := T.F_is_target.binds (ps := ["see", "heading"]) fun _ _ _ _ _ _ us hl => match us, hl with | [_, _], _ => rfl
theorem b_are_further {K : PySem.W.Frag} {mg : Str → Option Value} (T : Top K mg) : Binds K T.fd_are_further ["also", "heading"] [] := T.F_are_further.binds (ps := ["also", "heading"]) fun _ _ _ _ _ _ us hl => match us, hl with | [_, _], _ => rfl
theorem b_wrong_part {K : PySem.W.Frag} {mg : Str → Option Value} (T : Top K mg) : Binds K T.fd_wrong_part ["heading", "books", "see", "also"] [] := T.F_wrong_part.binds (ps := ["heading", "books", "see", "also"]) fun _ _ _ _ _ _ us hl => match us, hl with | [_, _, _, _], _ => rfl
theorem b_Card_heading {K : PySem.W.Frag} {mg : Str → Option Value} (T : Top K mg) : Binds K T.fd_Card_heading ["self"] [] := T.F_Card_heading.binds (ps := ["self"]) fun _ _ _ _ _ _ us hl => match us, hl with | [_], _ => rfl
theorem b_Card_see {K : PySem.W.Frag} {mg : Str → Option Value} (T : Top K mg) : Binds K T.fd_Card_see ["self"] [] := T.F_Card_see.binds (ps := ["self"]) fun _ _ _ _ _ _ us hl => match us, hl with | [_], _ => rfl
theorem b_Card_leads {K : PySem.W.Frag} {mg : Str → Option Value} (T : Top K mg) : Binds K T.fd_Card_leads ["self"] [] := T.F_Card_leads.binds (ps := ["self"]) fun _ _ _ _ _ _ us hl => match us, hl with | [_], _ => rfl
theorem b_llaw_taken {K : PySem.W.Frag} {mg : Str → Option Value} (T : Top K mg) : Binds K T.fd_llaw_taken ["_law_row", "_law_many"] [] := T.F_llaw_taken.binds (ps := ["_law_row", "_law_many"]) fun _ _ _ _ _ _ us hl => match us, hl with | [_, _], _ => rfl
theorem b_llaw_pick {K : PySem.W.Frag} {mg : Str → Option Value} (T : Top K mg) : Binds K T.fd_llaw_pick ["_law_row", "_law_some"] [] := T.F_llaw_pick.binds (ps := ["_law_row", "_law_some"]) fun _ _ _ _ _ _ us hl => match us, hl with | [_, _], _ => rfl
theorem b_llaw_drawer {K : PySem.W.Frag} {mg : Str → Option Value} (T : Top K mg) : Binds K T.fd_llaw_drawer ["_law_some"] [] := T.F_llaw_drawer.binds (ps := ["_law_some"]) fun _ _ _ _ _ _ us hl => match us, hl with | [_], _ => rfl
theorem b_llaw_looked {K : PySem.W.Frag} {mg : Str → Option Value} (T : Top K mg) : Binds K T.fd_llaw_looked ["_law_some", "_law_rule", "_law_heading"] [] := T.F_llaw_looked.binds (ps := ["_law_some", "_law_rule", "_law_heading"]) fun _ _ _ _ _ _ us hl => match us, hl with | [_, _, _], _ => rfl
theorem b_llaw_known {K : PySem.W.Frag} {mg : Str → Option Value} (T : Top K mg) : Binds K T.fd_llaw_known ["_law_some"] [] := T.F_llaw_known.binds (ps := ["_law_some"]) fun _ _ _ _ _ _ us hl => match us, hl with | [_], _ => rfl
theorem b_llaw_seeing {K : PySem.W.Frag} {mg : Str → Option Value} (T : Top K mg) : Binds K T.fd_llaw_seeing ["_law_row"] [] := T.F_llaw_seeing.binds (ps := ["_law_row"]) fun _ _ _ _ _ _ us hl => match us, hl with | [_], _ => rfl
theorem b_law {K : PySem.W.Frag} {mg : Str → Option Value} (T : Top K mg) : Binds K T.fd_law ["_law_script"] [] := T.F_law.binds (ps := ["_law_script"]) fun _ _ _ _ _ _ us hl => match us, hl with | [_], _ => rfl
end My
namespace My
open PySem L2
section
variable {K : PySem.W.Frag} {H H' H1 H2 : Hp} {a b p r : Addr} {o o' : HO} {xs ys : List V}
/-! ### what stands stays -/
theorem sql_upd (h : SqL K H a xs) (n : a ≠ p) : SqL K (upd H p o) a xs := by
  rcases h with (h | ⟨u, h⟩) | h
  · exact .inl (.inl (by rw [upd_ne n]; exact h))
  · exact .inl (.inr ⟨u, by rw [upd_ne n]; exact h⟩)
  · exact .inr h
theorem sqt_upd (h : SqT K H a xs) (n : a ≠ p) : SqT K (upd H p o) a xs := by
  rcases h with (h | ⟨u, h⟩) | h
  · exact .inl (.inl (by rw [upd_ne n]; exact h))
  · exact .inl (.inr ⟨u, by rw [upd_ne n]; exact h⟩)
  · exact .inr h
theorem _root_.L2.Same.seqT (e : Same H H') (h : SqT K H a xs) : SqT K H' a xs := by
  rcases h with (h | ⟨o, h⟩) | h
  · exact .inl (.inl (e _ _ h))
  · exact .inl (.inr ⟨o, e _ _ h⟩)
  · exact .inr h
theorem same_new (n : H p = none) : Same H (upd H p o) := fun b x e => by
  rw [upd_ne (ne_of_none e n)]
  exact e
/-- an object that H does not know may change -/
theorem same_mut (e : Same H H') (n : H p = none) : Same H (upd H' p o) := fun b x h => by
  rw [upd_ne (ne_of_none h n)]
  exact e b x h
theorem kp (h : H r = some o) (n : H p = none) : upd H p o' r = some o := by
  rw [upd_ne (ne_of_none h n)]
  exact h
theorem kn (h : H r = some o) (n : r ≠ p) : upd H p o' r = some o := by
  rw [upd_ne n]
  exact h
/-- all but one -/
def But (r : Addr) (H H' : Hp) : Prop := ∀ b o, H b = some o → b ≠ r → H' b = some o
theorem But.refl : But r H H := fun _ _ h _ => h
theorem But.trans (a : But r H H1) (b : But r H1 H2) : But r H H2 := fun c o h n => b c o (a c o h n) n
theorem But.upd (a : But r H H1) : But r H (L2.upd H1 r o) := fun c x h n => by
  rw [upd_ne n]
  exact a c x h n
theorem But.same (a : But r H H1) (b : Same H1 H2) : But r H H2 := fun c o h n => b c o (a c o h n)
theorem _root_.L2.Same.but (a : Same H H1) : But r H H1 := fun c o h _ => a c o h
theorem But.seq (e : But r H H') (n : a ≠ r) (h : SqL K H a xs) : SqL K H' a xs := by
  rcases h with (h | ⟨o, h⟩) | h
  · exact .inl (.inl (e _ _ h n))
  · exact .inl (.inr ⟨o, e _ _ h n⟩)
  · exact .inr h
theorem But.seqT (e : But r H H') (n : a ≠ r) (h : SqT K H a xs) : SqT K H' a xs := by
  rcases h with (h | ⟨o, h⟩) | h
  · exact .inl (.inl (e _ _ h n))
  · exact .inl (.inr ⟨o, e _ _ h n⟩)
  · exact .inr h
theorem But.free (e : But r H H') (hr : ∃ o, H r = some o) {l : Addr} (h : H' l = none) (hr' : ∃ o, H' r = some o) : H l = none := by
  cases q : H l with
  | none => rfl
  | some o =>
    by_cases z : l = r
    · subst z
      obtain ⟨o, ho⟩ := hr'
      rw [h] at ho
      cases ho
    · rw [e l o q z] at h
      cases h
/-- what never changes stays -/
def immO : HO → Bool
  | .tup _ => true
  | .ins _ _ _ => true
  | .frz _ _ => true
  | .own _ => true
  | _ => false
def Imm (H H' : Hp) : Prop := ∀ b o, H b = some o → immO o = true → H' b = some o
theorem Imm.refl : Imm H H := fun _ _ h _ => h
theorem Imm.trans (a : Imm H H1) (b : Imm H1 H2) : Imm H H2 := fun c o h n => b c o (a c o h n) n
theorem _root_.L2.Same.imm (a : Same H H1) : Imm H H1 := fun c o h _ => a c o h
theorem But.imm (a : But r H H1) (h : H r = some o) (n : immO o = false) : Imm H H1 := fun c u hc hu => a c u hc fun e => by
  subst e
  rw [h] at hc
  cases hc
  rw [n] at hu
  cases hu
theorem Imm.mut (a : Imm H H1) (h : H1 p = some o) (n : immO o = false) : Imm H (upd H1 p o') := fun c u hc hu => by
  have h1 := a c u hc hu
  rw [upd_ne (fun e => by
    subst e
    rw [h] at h1
    cases h1
    rw [n] at hu
    cases hu)]
  exact h1
theorem Imm.new (a : Imm H H1) (h : H1 p = none) : Imm H (upd H1 p o') := fun c u hc hu => by
  rw [upd_ne (ne_of_none (a c u hc hu) h)]
  exact a c u hc hu
theorem Imm.seqT (e : Imm H H') (h : SqT K H a xs) : SqT K H' a xs := by
  rcases h with (h | ⟨o, h⟩) | h
  · exact .inl (.inl (e _ _ h rfl))
  · exact .inl (.inr ⟨o, e _ _ h rfl⟩)
  · exact .inr h
theorem sizeLine_of {n : Nat} (h : n ≤ 1000000) : n < sizeLine := Nat.lt_of_le_of_lt h (by decide)
/-- a comprehension whose turns change nothing that stands: what it makes, turn by turn -/
theorem lc_rel {J : It} {n : Nat} {G : Hp → Prop} {Y : Nat → Hp → V → Hp → Prop} (w : Walk J n G Y) {g : TG} {tt : TT} {te : TE} {vs : List Nat} {σ : St} {D : Addr} {Qd : Hp → Prop} (hn : n ≤ 1000000) (hD : H1 D = none)
    (Rl : Nat → Option V → Hp → Prop) (mono : ∀ i z H H', Imm H H' → Rl i z H → Rl i z H') (hG : ∀ H, Same H1 H → G H)
    (hs : ∀ i x H H', i < n → Same H1 H → Y i H x H' → ∀ (R : V → Hp → Prop) (R0 : Hp → Prop), (∀ y H4, Rl i (some y) H4 → Same H H4 → R y H4) → (∀ H3, Rl i none H3 → Same H H3 → R0 H3) →
      g x (wipe σ vs) H' fun σ2 H2 => wipe σ2 vs = wipe σ vs ∧ tt σ2 H2 fun b H3 => if b = true then te σ2 H3 R else R0 H3)
    (hd : ∀ H (zs : List (Option V)), Same H1 H → zs.length = n → (∀ i z, zs[i]? = some z → Rl i z H) → H D = some (.lst (zs.filterMap id)) → Qd H) :
    ∃ W : Nat → Nat → Hp → Prop, (∃ m, W 0 m (upd H1 D (.lst []))) ∧ ∀ i m H, W i m H →
      (J.stop i H ∧ Qd H) ∨ (J.go i H ∧ ∃ Nx : Hp → Prop, (∀ H', Nx H' → ∃ m', m' < m ∧ W (i + 1) m' H') ∧ ∀ x H', J.yld i H x H' → g x (wipe σ vs) H' fun σ2 H2 => wipe σ2 vs = wipe σ vs ∧ tt σ2 H2 fun b H3 =>
        if b = true then te σ2 H3 fun y H4 => ∃ acc, H4 D = some (.lst acc) ∧ acc.length < sizeLine ∧ Nx (upd H4 D (.lst (acc ++ [y]))) else Nx H3) := by
  have fl : ∀ zs : List (Option V), (zs.filterMap id).length ≤ zs.length := fun zs => List.length_filterMap_le _ _
  have get_app : ∀ (zs : List (Option V)) (z : Option V) (j : Nat) (y : Option V), (zs ++ [z])[j]? = some y → zs[j]? = some y ∨ (j = zs.length ∧ y = z) := fun zs z j y h => by
    by_cases hj : j < zs.length
    · rw [List.getElem?_append_left hj] at h
      exact .inl h
    · rw [List.getElem?_append_right (by omega)] at h
      have hj2 : j - zs.length = 0 := by
        cases e : j - zs.length with
        | zero => rfl
        | succ k => rw [e] at h; simp at h
      rw [hj2] at h
      exact .inr ⟨by omega, (Option.some.inj h).symm⟩
  refine lc_it w (fun i H => ∃ zs : List (Option V), zs.length = i ∧ Same H1 H ∧ (∀ j z, zs[j]? = some z → Rl j z H) ∧ H D = some (.lst (zs.filterMap id)))
    ⟨[], rfl, same_new hD, fun j z h => by simp at h, upd_same⟩ (fun i H _ ⟨_, _, s, _⟩ => hG H s) ?_ (fun H ⟨zs, l, s, r, e⟩ => hd H zs s l r e)
  rintro i x H H' hi ⟨zs, l, s, r, e⟩ hy
  refine hs i x H H' hi s hy _ _ (fun y H4 hr s4 => ?_) (fun H3 hr s3 => ?_)
  · refine ⟨zs.filterMap id, s4 _ _ e, sizeLine_of (by have := fl zs; omega), zs ++ [some y], by rw [List.length_append, l]; rfl, same_mut (s.trans s4) hD, fun j z h => ?_, ?_⟩
    · have im : Imm H (upd H4 D (.lst (zs.filterMap id ++ [y]))) := s4.imm.mut (s4 _ _ e) rfl
      have im4 : Imm H4 (upd H4 D (.lst (zs.filterMap id ++ [y]))) := Imm.refl.mut (s4 _ _ e) rfl
      rcases get_app zs _ j z h with h | ⟨rfl, rfl⟩
      · exact mono j z _ _ im (r j z h)
      · rw [l]
        exact mono i _ _ _ im4 hr
    · rw [upd_same, List.filterMap_append]
      rfl
  · refine ⟨zs ++ [none], by rw [List.length_append, l]; rfl, s.trans s3, fun j z h => ?_, ?_⟩
    · rcases get_app zs _ j z h with h | ⟨rfl, rfl⟩
      · exact mono j z _ _ s3.imm (r j z h)
      · rw [l]
        exact hr
    · rw [s3 _ _ e, List.filterMap_append]
      simp
/-- .. of values that a function tells -/
theorem lc_fn {J : It} {n : Nat} {G : Hp → Prop} {Y : Nat → Hp → V → Hp → Prop} (w : Walk J n G Y) {g : TG} {tt : TT} {te : TE} {vs : List Nat} {σ : St} {D : Addr} {Qd : Hp → Prop} (hn : n ≤ 1000000) (hD : H1 D = none)
    (f : Nat → Option V) (hG : ∀ H, Same H1 H → G H)
    (hs : ∀ i x H H', i < n → Same H1 H → Y i H x H' → ∀ (R : V → Hp → Prop) (R0 : Hp → Prop), (∀ y H4, f i = some y → Same H H4 → R y H4) → (∀ H3, f i = none → Same H H3 → R0 H3) →
      g x (wipe σ vs) H' fun σ2 H2 => wipe σ2 vs = wipe σ vs ∧ tt σ2 H2 fun b H3 => if b = true then te σ2 H3 R else R0 H3)
    (hd : ∀ H, Same H1 H → H D = some (.lst ((List.range n).filterMap f)) → Qd H) :
    ∃ W : Nat → Nat → Hp → Prop, (∃ m, W 0 m (upd H1 D (.lst []))) ∧ ∀ i m H, W i m H →
      (J.stop i H ∧ Qd H) ∨ (J.go i H ∧ ∃ Nx : Hp → Prop, (∀ H', Nx H' → ∃ m', m' < m ∧ W (i + 1) m' H') ∧ ∀ x H', J.yld i H x H' → g x (wipe σ vs) H' fun σ2 H2 => wipe σ2 vs = wipe σ vs ∧ tt σ2 H2 fun b H3 =>
        if b = true then te σ2 H3 fun y H4 => ∃ acc, H4 D = some (.lst acc) ∧ acc.length < sizeLine ∧ Nx (upd H4 D (.lst (acc ++ [y]))) else Nx H3) := by
  refine lc_rel w hn hD (fun i z _ => f i = z) (fun _ _ _ _ _ h => h) hG hs fun H zs s l r e => hd H s ?_
  have ez : zs = (List.range n).map f := by
    apply List.ext_getElem?
    intro i
    rw [List.getElem?_map]
    cases h : zs[i]? with
    | none =>
      rw [List.getElem?_eq_none_iff] at h
      rw [List.getElem?_eq_none (by rw [List.length_range]; omega)]
      rfl
    | some z =>
      have hi := (List.getElem?_eq_some_iff.mp h).1
      rw [List.getElem?_range (by omega)]
      exact (congrArg some (r i z h)).symm
  rw [e, ez, List.filterMap_map]
  rfl
/-- .. without a test -/
theorem lc_map {J : It} {n : Nat} {G : Hp → Prop} {Y : Nat → Hp → V → Hp → Prop} (w : Walk J n G Y) {g : TG} {te : TE} {vs : List Nat} {σ : St} {D : Addr} {Qd : Hp → Prop} (hn : n ≤ 1000000) (hD : H1 D = none)
    (f : Nat → V) (hG : ∀ H, Same H1 H → G H)
    (hs : ∀ i x H H', i < n → Same H1 H → Y i H x H' → ∀ R : V → Hp → Prop, (∀ H4, Same H H4 → R (f i) H4) → g x (wipe σ vs) H' fun σ2 H2 => wipe σ2 vs = wipe σ vs ∧ te σ2 H2 R)
    (hd : ∀ H, Same H1 H → H D = some (.lst ((List.range n).map f)) → Qd H) (hg : ∀ x σ H (A B : St → Hp → Prop), (∀ σ2 H2, A σ2 H2 → B σ2 H2) → g x σ H A → g x σ H B) :
    ∃ W : Nat → Nat → Hp → Prop, (∃ m, W 0 m (upd H1 D (.lst []))) ∧ ∀ i m H, W i m H →
      (J.stop i H ∧ Qd H) ∨ (J.go i H ∧ ∃ Nx : Hp → Prop, (∀ H', Nx H' → ∃ m', m' < m ∧ W (i + 1) m' H') ∧ ∀ x H', J.yld i H x H' → g x (wipe σ vs) H' fun σ2 H2 => wipe σ2 vs = wipe σ vs ∧ tYes σ2 H2 fun b H3 =>
        if b = true then te σ2 H3 fun y H4 => ∃ acc, H4 D = some (.lst acc) ∧ acc.length < sizeLine ∧ Nx (upd H4 D (.lst (acc ++ [y]))) else Nx H3) := by
  refine lc_fn w hn hD (fun i => some (f i)) hG (fun i x H H' hi s hy R R0 r1 r0 => hg _ _ _ _ _ (fun σ2 H2 h => ⟨h.1, ?_⟩) (hs i x H H' hi s hy R fun H4 s4 => r1 _ _ rfl s4)) (fun H s e => hd H s (by rw [e, List.filterMap_eq_map']))
  show (if true = true then te σ2 H2 R else R0 H2)
  rw [if_pos rfl]
  exact h.2
theorem gName_mono {k : Nat} : ∀ (x : V) (σ : St) (H : Hp) (A B : St → Hp → Prop), (∀ σ2 H2, A σ2 H2 → B σ2 H2) → gName k x σ H A → gName k x σ H B := fun _ _ _ _ _ h a => h _ _ a
theorem range_get {α : Type} (l : List α) : (List.range l.length).filterMap (fun i => l[i]?) = l := by
  induction l with
  | nil => rfl
  | cons x r ih =>
    rw [List.length_cons, List.range_succ_eq_map, List.filterMap_cons]
    show x :: _ = _
    rw [List.filterMap_map]
    exact congrArg (x :: ·) ih
theorem range_map {α β : Type} (l : List α) (f : α → β) (g : Nat → β) (h : ∀ i x, l[i]? = some x → g i = f x) : (List.range l.length).map g = l.map f := by
  apply List.ext_getElem?
  intro i
  rw [List.getElem?_map, List.getElem?_map]
  cases e : l[i]? with
  | none =>
    rw [List.getElem?_eq_none_iff] at e
    rw [List.getElem?_eq_none (by rw [List.length_range]; omega)]
    rfl
  | some x =>
    rw [List.getElem?_range (List.getElem?_eq_some_iff.mp e).1]
    exact congrArg some (h i x e)
theorem range_fm {α β : Type} (l : List α) (f : α → Option β) (g : Nat → Option β) (h : ∀ i x, l[i]? = some x → g i = f x) : (List.range l.length).filterMap g = l.filterMap f := by
  have e : (List.range l.length).map g = l.map f := range_map l f g h
  have e1 : (List.range l.length).filterMap g = ((List.range l.length).map g).filterMap id := by rw [List.filterMap_map]; rfl
  have e2 : l.filterMap f = (l.map f).filterMap id := by rw [List.filterMap_map]; rfl
  rw [e1, e2, e]
end
end My
namespace My
open PySem PySem.Spec PyProof.Rows L2
/-! ### enumerate(tuple): by the library's Draws -/
def IteT (K : PySem.W.Frag) (a : Addr) : It :=
  ⟨fun i H => ∃ (xs : List V) (x : V), SqT K H a xs ∧ xs[i]? = some x,
   fun i H v H' => ∃ T x, v = .ref T ∧ H T = none ∧ H' = upd H T (.tup [.int (i : Nat), x]) ∧ ∀ xs, SqT K H a xs → xs[i]? = some x,
   fun i H => ∃ xs : List V, SqT K H a xs ∧ xs.length = i⟩
theorem turn_enumT {P : Program} {w : World} {K : PySem.W.Frag} {elts : List Expr} {kk : Nat} {tpos : Pos} (a e it : Addr) (hei : e ≠ it) (hea : e ≠ a) (hai : a ≠ it) :
    Turn P w K (.Tuple elts kk tpos) (IteT K a) [e, it] e (fun i h => (∃ old, IsEnum h e it ((i : Nat) : Int) old) ∧ h.IsTupleIter it a i) where
  mem := by simp
  obj := fun i h st b hb => by
    obtain ⟨⟨old, he⟩, ⟨o, ho, hc, hd⟩⟩ := st
    rcases (by simpa using hb : b = e ∨ b = it) with rfl | rfl
    · exact ⟨_, he, fun v q => nomatch q⟩
    · exact ⟨o, ho, fun v q => by rw [hd] at q; cases q⟩
  keep := fun i h h' st k => by
    obtain ⟨⟨old, he⟩, hi⟩ := st
    exact ⟨⟨old, k e (by simp) _ he⟩, hi.at fun o q => k it (by simp) o q⟩
  item := by
    intro X hP hw hK hc i pins s σ H E I hf st hg
    subst hP hw hK
    obtain ⟨⟨old, he⟩, hit⟩ := st
    obtain ⟨xs, x, hq, hx⟩ := hg
    obtain ⟨its, rv, p, hz⟩ := I.tuple hq
    obtain ⟨u, hu, ru⟩ := rv.get hx
    have lt_e : e < s.heap.objs.size := Heap.lt_size he
    have lt_i : it < s.heap.objs.size := by
      obtain ⟨_, q, _⟩ := hit
      exact Heap.lt_size q
    have hlt : i < its.toArray.size := by
      have := (List.getElem?_eq_some_iff.mp hu).1
      simpa using this
    have D : Draws X.prog X.w X.A.in1 it [it, a] its.toArray.size (fun i v => its.toArray[i]? = some v) (fun i h => h.IsTupleIter it a i ∧ h.IsTuple a its.toArray) :=
      Draws.tuple (show X.A.in1.handled = none from I.ok.hd hc) it a hai its.toArray
    refine wpAny_pyNext_enum_itemD D he ⟨hit, p⟩ hlt hei (by simp [hei, hea]) fun x' h' tk hx' ho hst' hT hsz hk => ?_
    obtain rfl : x' = u := by
      have e1 : its.toArray[i]? = some u := by simpa using hu
      exact Option.some.inj (hx'.symm.trans e1)
    refine ⟨_, rfl, wpAny_letOwnedTupleGo_enum (s := { s with heap := h', toks := tk + 1 }) ho fun h'' he' sb => ?_⟩
    have hT2 := (sb.2 _ (Nat.ne_of_gt lt_e)).trans hT
    have new : ObjOk X.prog X.w (upd H s.heap.objs.size (.tup [.int (i : Nat), x])) h'' s.heap.objs.size (.tup [.int (i : Nat), x]) :=
      ⟨by show 2 ≤ sizeLine; decide, [.int i tk, x'], .cons ⟨_, rfl⟩ (.cons ru .nil), ⟨_, hT2, rfl, _, rfl⟩⟩
    have I1 : Inv X pins σ (upd H s.heap.objs.size (.tup [.int (i : Nat), x])) { s with heap := h'', toks := tk + 1 } :=
      I.turnedNew (ch := [e, it]) (fun b ob hb q => (sb.2 b (fun z => hb (by simp [z]))).trans (hk b ob (fun z => hb (by simp [z])) (fun z => hb (by simp [z])) q)) hf (Nat.le_refl _) new
    refine ⟨.ref s.heap.objs.size, _, I1, rfl, ⟨_, x, rfl, I.hok.fresh (Nat.le_refl _), rfl, fun ys hy => by rw [I.tuple_inj hy hq]; exact hx⟩, ⟨⟨x', ?_⟩, ?_⟩, fun b hb => ?_⟩
    · have e1 : ((i + 1 : Nat) : Int) = (i : Int) + 1 := by omega
      rw [e1]
      exact he'
    · exact hst'.1.at fun o q => (sb.2 it (Ne.symm hei)).trans q
    · have lt_b : b < s.heap.objs.size := by
        rcases (by simpa using hb : b = e ∨ b = it) with z | z
        · rw [z]; exact lt_e
        · rw [z]; exact lt_i
      rw [upd_ne (Nat.ne_of_lt lt_b)]
      exact (hf b hb).1
  done := by
    intro X hP hw hK hc i pins s σ H E I hf st hg
    subst hP hw hK
    obtain ⟨⟨old, he⟩, hit⟩ := st
    obtain ⟨xs, hq, hx⟩ := hg
    obtain ⟨its, rv, p, hz⟩ := I.tuple hq
    obtain ⟨f0, f1, f2, f3, f4, f5⟩ := hf it (by simp)
    have hl := rv.length
    obtain rfl : i = its.toArray.size := by rw [← hx, hl, List.size_toArray]
    have D : Draws X.prog X.w X.A.in1 it [it, a] its.toArray.size (fun i v => its.toArray[i]? = some v) (fun i h => h.IsTupleIter it a i ∧ h.IsTuple a its.toArray) :=
      Draws.tuple (show X.A.in1.handled = none from I.ok.hd hc) it a hai its.toArray
    exact wpAny_pyNext_enum_endD D he ⟨hit, p⟩ fun h' eb => ⟨rfl, I.turned (t' := s.toks) (fun b o hb q => eb b o hb q) f0 f1 f3 f4 f5⟩
  self := fun A i s Q E st h => let ⟨⟨_, he⟩, _⟩ := st; wpAny_pyIter_enum he h
set_option maxHeartbeats 1000000 in
/-- enumerate(v), whatever v begins with -/
theorem meets_en1 {v : Value} {o : Obj} {H : Heap → Prop} (B : Begins v o H) :
    Meets (Builtin.«enumerate.__new__» ⟨[.type "enumerate", v], []⟩) (fun _ R s => H s.heap ∧
      R (.ok (.ret (.ref (s.heap.push o).objs.size))) { s with heap := (s.heap.push o).push { cls := .type "enumerate", data := .fields #[.none, .bool false, .ref s.heap.objs.size, rawInt 0, .none, .none] } }) :=
  .of_wp fun prog w A R s h => by
    obtain ⟨hp, g, d, tk, os⟩ := s
    obtain ⟨h1, h⟩ := h
    have hs := sub_enumerate
    have q1 : ∀ {A' : Around} {E : Value → Shared → Prop} {Q : Value → Shared → Prop}, Q (.ref hp.objs.size) ⟨hp.push o, g, d, tk, os⟩ → wpAny (model prog w) A' (pyIter v) Q E ⟨hp, g, d, tk, os⟩ :=
      fun q => B.iter prog w _ _ ⟨hp, g, d, tk, os⟩ _ h1 q
    wp_walk using q1
    refine wpAny_stack_any fun st => wpAny_pure ?_
    split
    · rename_i c _ _ _ _ _
      cases (c == Value.type "enumerate") <;> (wp_walk using q1; exact ⟨_, rfl, h⟩)
    · wp_walk using q1
      exact ⟨_, rfl, h⟩
theorem call_en1 {prog : Program} {w : World} {A : Around} {E : Value → Shared → Prop} {s : Shared} {v : Value} {o : Obj} {H : Heap → Prop} {Q : Value → Shared → Prop} (B : Begins v o H) (h1 : H s.heap)
    (h : ∀ h', IsEnum h' (s.heap.objs.size + 1) s.heap.objs.size 0 .none → h'.get? s.heap.objs.size = some o →
      (∀ b o, s.heap.get? b = some o → h'.get? b = some o) → Q (.ref (s.heap.objs.size + 1)) { s with heap := h' }) :
    wpAny (model prog w) A (call (.type "enumerate") [v]) Q E s := by
  refine callType_new F.called_enumerate (by decide) (F.typeCall_enumerate_1 _) (F.newCall_enumerate_1 _) (fun obj => F.args_object_init_2 obj _) F.entry_enumerate_new (meets_en1 B) ⟨h1, ?_⟩
  have hz : (s.heap.push o).objs.size = s.heap.objs.size + 1 := Heap.size_push ..
  show _ ∧ _
  rw [hz]
  have he : IsEnum ((s.heap.push o).push { cls := .type "enumerate", data := .fields #[.none, .bool false, .ref s.heap.objs.size, rawInt 0, .none, .none] }) (s.heap.objs.size + 1) s.heap.objs.size 0 .none := by
    have q := Heap.get?_push_size (s.heap.push o) (o := { cls := .type "enumerate", data := .fields #[.none, .bool false, .ref s.heap.objs.size, rawInt 0, .none, .none] }) rfl
    rw [hz] at q
    exact q
  exact ⟨⟨_, he, rfl⟩, h _ he (Heap.get?_push_of_some _ (Heap.get?_push_size _ B.free)) fun b o x => Heap.get?_push_of_some _ (Heap.get?_push_of_some _ x)⟩
def iEnumT (K : PySem.W.Frag) (ta : TA) : TI := fun σ H R => ta σ H fun vs H1 => ∃ a xs, vs = [.ref a] ∧ SqT K H1 a xs ∧ R (IteT K a) H1
theorem pi_enumT {X : Cx} {e : Expr} {ta : TA} {p pos tpos : Pos} {elts : List Expr} {kk : Nat} (hg : Gl X "enumerate") (hm : X.mg "enumerate" = none) (ha : PA X [e] ta) (hs : starEach [e] X.env = [(false, eval e X.env)] := by rfl) :
    PI X (.Tuple elts kk tpos) (.Call (.Name "enumerate" p) [e] [] pos) (iEnumT X.K ta) := by
  refine ⟨fun pins s σ H R I h => ?_⟩
  refine Call_ (ld_blt I hg hm boot_enumerate (PyProof.Rows.callWith_type1 (thn (ha.run pos pins s σ H _ I h) fun us s1 ⟨vs, H1, I1, r1, q1⟩ => ?_) hs rfl))
  obtain ⟨a, xs, ex, hq, q⟩ := q1
  subst ex
  cases r1 with
  | cons r rr =>
    cases rr
    cases r
    obtain ⟨its, rv, p', hz⟩ := I1.tuple hq
    have lt_a : a < s1.heap.objs.size := by
      obtain ⟨o1, ho1, _⟩ := id p'
      exact Heap.lt_size ho1
    refine call_en1 (begins_tuple a its.toArray) (show s1.heap.IsTuple a its.toArray from p') fun h' he hit hk => wpAny_pyIter_enum he ?_
    have I2 : Inv X pins σ H1 { s1 with heap := h' } := I1.kept (t' := s1.toks) hk
    refine ⟨s1.heap.objs.size + 1, [s1.heap.objs.size + 1, s1.heap.objs.size], _, _, H1, rfl, I2, turn_enumT a (s1.heap.objs.size + 1) s1.heap.objs.size (Nat.succ_ne_self _) (fun z => absurd lt_a (by rw [← z]; exact Nat.not_lt_of_le (Nat.le_succ _))) (Nat.ne_of_lt lt_a), ⟨⟨.none, he⟩, ⟨_, hit, rfl, rfl⟩⟩, fun b hb => ?_, q⟩
    have hle : s1.heap.objs.size ≤ b := by
      rcases (by simpa using hb : b = s1.heap.objs.size + 1 ∨ b = s1.heap.objs.size) with z | z
      · rw [z]; exact Nat.le_add_right _ _
      · rw [z]; exact Nat.le_refl _
    exact I1.fpOk hle (I1.hok.fresh hle)
theorem walk_enumT {K : PySem.W.Frag} {a : Addr} {xs : List V} : Walk (IteT K a) xs.length (fun H => SqT K H a xs) (YPair (fun i => some (.int (i : Nat))) (fun i => xs[i]?)) := by
  refine ⟨fun i _ hi q => ⟨xs, xs[i], q, by simp [hi]⟩, fun _ q => ⟨xs, q, rfl⟩, fun i H v H' _ q y => ?_⟩
  obtain ⟨T, x, h1, h2, h3, h4⟩ := y
  exact ⟨T, .int (i : Nat), x, h1, h2, h3, rfl, h4 xs q⟩
theorem walk_zipT {K : PySem.W.Frag} {a b : Addr} {xs ys : List V} {n : Nat} (hn : n = min xs.length ys.length) : Walk (RZ.ItzT K a b) n (fun H => SqT K H a xs ∧ SqT K H b ys) (YPair (fun i => xs[i]?) (fun i => ys[i]?)) := by
  subst hn
  refine ⟨fun i _ hi q => ?_, fun _ q => ⟨xs, ys, q.1, q.2, by omega⟩, fun i H v H' _ q y => ?_⟩
  · exact ⟨xs, ys, xs[i], ys[i], q.1, q.2, List.getElem?_eq_getElem (by omega), List.getElem?_eq_getElem (by omega)⟩
  · obtain ⟨T, x, z, h1, h2, h3, h4, h5⟩ := y
    exact ⟨T, x, z, h1, h2, h3, h4 xs q.1, h5 ys q.2⟩
/-- the class of a tuple -/
theorem ty_tup {K : PySem.W.Frag} {H : Hp} {a : Addr} {xs : List V} (h : SqT K H a xs) : TyX K H (.ref a) (.type "tuple") := by
  rcases h with (h | ⟨u, h⟩) | ⟨o, its, n, hk, hc, _⟩
  · exact .base (.tup h)
  · exact .fTuple h
  · exact .kTuple hk hc
end My
namespace My
open PySem L2
section
variable {K : PySem.W.Frag} {H H' : Hp} {a b : Addr}
/-! ### data that stands: what == asks -/
theorem dpAll_ints : ∀ ns : List Int, DpAll K H (ns.map V.int) (ns.map PyData.int)
  | [] => .nil
  | n :: r => .cons (.int n) (dpAll_ints r)
theorem dpAll_strs : ∀ ws : List Str, DpAll K H (ws.map V.str) (ws.map PyData.str)
  | [] => .nil
  | x :: r => .cons (.str x) (dpAll_strs r)
theorem dp_tInts {ns : List Int} (h : SqT K H a (ns.map V.int)) : Dp K H (.ref a) (.tuple (ns.map PyData.int)) := .tup h (dpAll_ints ns)
theorem dp_lInts {ns : List Int} (h : SqL K H a (ns.map V.int)) : Dp K H (.ref a) (.list (ns.map PyData.int)) := .lst h (dpAll_ints ns)
theorem dp_tStrs {ws : List Str} (h : SqT K H a (ws.map V.str)) : Dp K H (.ref a) (.tuple (ws.map PyData.str)) := .tup h (dpAll_strs ws)
theorem dp_lStrs {ws : List Str} (h : SqL K H a (ws.map V.str)) : Dp K H (.ref a) (.list (ws.map PyData.str)) := .lst h (dpAll_strs ws)
theorem dp_nil (h : SqT K H a []) : Dp K H (.ref a) (.tuple []) := .tup h .nil
theorem can_ints : ∀ ns : List Int, PyData.canLayAll0 (ns.map PyData.int) = true
  | [] => rfl
  | _ :: r => can_ints r
theorem dep_ints : ∀ ns : List Int, PyData.depthAll (ns.map PyData.int) = 0
  | [] => rfl
  | _ :: r => by
    show max 0 (PyData.depthAll (r.map PyData.int)) = 0
    rw [dep_ints r]
    rfl
theorem sh_tInts (ns : List Int) : SeqAt.shaped (.tuple (ns.map PyData.int)) = true := by
  show (PyData.canLayAll0 (ns.map PyData.int) && decide (PyData.depthAll (ns.map PyData.int) + 1 ≤ 64)) = true
  rw [can_ints, dep_ints]
  rfl
theorem sh_lInts (ns : List Int) : SeqAt.shaped (.list (ns.map PyData.int)) = true := by
  show (PyData.canLayAll0 (ns.map PyData.int) && decide (PyData.depthAll (ns.map PyData.int) + 1 ≤ 64)) = true
  rw [can_ints, dep_ints]
  rfl
theorem can_strs : ∀ ws : List Str, (∀ x ∈ ws, PyData.strOk x = true) → PyData.canLayAll0 (ws.map PyData.str) = true
  | [], _ => rfl
  | x :: r, h => by
    show (PyData.strOk x && PyData.canLayAll0 (r.map PyData.str)) = true
    rw [h x (List.mem_cons_self ..), can_strs r fun y hy => h y (List.mem_cons_of_mem _ hy)]
    rfl
theorem dep_strs : ∀ ws : List Str, PyData.depthAll (ws.map PyData.str) = 0
  | [] => rfl
  | _ :: r => by
    show max 0 (PyData.depthAll (r.map PyData.str)) = 0
    rw [dep_strs r]
    rfl
theorem sh_tStrs (ws : List Str) (h : ∀ x ∈ ws, PyData.strOk x = true) : SeqAt.shaped (.tuple (ws.map PyData.str)) = true := by
  show (PyData.canLayAll0 (ws.map PyData.str) && decide (PyData.depthAll (ws.map PyData.str) + 1 ≤ 64)) = true
  rw [can_strs ws h, dep_strs]
  rfl
theorem sh_lStrs (ws : List Str) (h : ∀ x ∈ ws, PyData.strOk x = true) : SeqAt.shaped (.list (ws.map PyData.str)) = true := by
  show (PyData.canLayAll0 (ws.map PyData.str) && decide (PyData.depthAll (ws.map PyData.str) + 1 ≤ 64)) = true
  rw [can_strs ws h, dep_strs]
  rfl
theorem eqv_ints : ∀ ns ms : List Int, PyData.eqvAll (ns.map PyData.int) (ms.map PyData.int) = decide (ns = ms)
  | [], [] => rfl
  | [], _ :: _ => rfl
  | _ :: _, [] => rfl
  | n :: r, m :: q => by
    show ((n == m) && PyData.eqvAll (r.map PyData.int) (q.map PyData.int)) = _
    rw [eqv_ints r q]
    by_cases e : n = m
    · subst e
      by_cases e2 : r = q
      · subst e2
        simp
      · rw [decide_eq_false e2, decide_eq_false (fun z => e2 (List.cons.inj z).2), Bool.and_false]
    · rw [decide_eq_false (fun z => e (List.cons.inj z).1), beq_eq_false_iff_ne.mpr e, Bool.false_and]
theorem eqv_strs : ∀ ns ms : List Str, PyData.eqvAll (ns.map PyData.str) (ms.map PyData.str) = decide (ns = ms)
  | [], [] => rfl
  | [], _ :: _ => rfl
  | _ :: _, [] => rfl
  | n :: r, m :: q => by
    show ((n == m) && PyData.eqvAll (r.map PyData.str) (q.map PyData.str)) = _
    rw [eqv_strs r q]
    by_cases e : n = m
    · subst e
      by_cases e2 : r = q
      · subst e2
        simp
      · rw [decide_eq_false e2, decide_eq_false (fun z => e2 (List.cons.inj z).2), Bool.and_false]
    · rw [decide_eq_false (fun z => e (List.cons.inj z).1), beq_eq_false_iff_ne.mpr e, Bool.false_and]
end
end My
namespace My
open PySem PySem.Spec PyProof.Rows L2
/-! ### max(xs, default=d) -/
def maxOr (d : Int) : List Int → Int
  | [] => d
  | x :: r => r.foldl max x
def rMaxD (K : PySem.W.Frag) : List V → List V → Hp → VK → Prop := fun vs zs H Q => ∃ (a : Addr) (ns : List Int) (d : Int), vs = [.ref a] ∧ zs = [.int d] ∧ SqL K H a (ns.map V.int) ∧ Q (.int (maxOr d ns)) H
theorem cr_maxD {X : Cx} (hc : X.calm = true) (hu : X.A.units + 64 < cLine) : CallRK X (.builtin "max") [Str.ofString "default"] (rMaxD X.K) := by
  intro pins s σ H vs zs us ws Q I r rz h
  obtain ⟨a, ns, d, rfl, rfl, hs, q⟩ := h
  obtain rfl := Vals.ref1 r
  obtain ⟨w1, rfl, t, rfl⟩ := vals1 rz
  obtain ⟨its, rv, hl, hz⟩ := I.list hs
  obtain ⟨as, hr⟩ := Dp.readsAll I (ns.map PyData.int) _ its (dpAll_ints ns) rv
  have al : PySem.W.AlikeAll (ns.map PyData.int) := by
    constructor
    · intro x hx y hy
      obtain ⟨i, _, rfl⟩ := List.mem_map.mp hx
      obtain ⟨j, _, rfl⟩ := List.mem_map.mp hy
      rfl
    · intro x hx
      obtain ⟨i, _, rfl⟩ := List.mem_map.mp hx
      intro z
      cases z
  refine PySem.W.max_list_default (I.ok.hd hc) hl.isList (by simpa using hr) al (by rw [dep_ints]; omega) (fun e h' tk hk => ?_) (fun y ys i v h' tk bs e hv hR hk => ?_)
  · have e' : ns = [] := List.map_eq_nil_iff.mp e
    subst e'
    exact ⟨.int d, H, I.kept hk, ⟨_, rfl⟩, q⟩
  · cases ns with
    | nil => cases e
    | cons n r =>
      obtain ⟨rfl, rfl⟩ := List.cons.inj e
      rw [PySem.W.maxD_ints] at hR
      cases hR with
      | int j t => exact ⟨.int _, H, I.kept hk, ⟨_, rfl⟩, q⟩
theorem maxOr_ge {d : Int} : ∀ {ns : List Int} {y : Int}, y ∈ ns → y ≤ maxOr d ns
  | x :: r, y, h => by
    have key : ∀ (r : List Int) (x y : Int), (y = x ∨ y ∈ r) → y ≤ r.foldl max x := by
      intro r
      induction r with
      | nil =>
        intro x y h
        rcases h with rfl | h
        · exact Int.le_refl _
        · cases h
      | cons z r ih =>
        intro x y h
        show y ≤ r.foldl max (max x z)
        rcases h with rfl | h
        · exact Int.le_trans (Int.le_max_left _ _) (ih _ _ (.inl rfl))
        · rcases List.mem_cons.mp h with rfl | h
          · exact Int.le_trans (Int.le_max_right _ _) (ih _ _ (.inl rfl))
          · exact ih _ _ (.inr h)
    exact key r x y (List.mem_cons.mp h)
theorem maxOr_mem {d : Int} : ∀ {ns : List Int}, ns ≠ [] → maxOr d ns ∈ ns
  | [], h => absurd rfl h
  | x :: r, _ => by
    have key : ∀ (r : List Int) (x : Int), r.foldl max x = x ∨ r.foldl max x ∈ r := by
      intro r
      induction r with
      | nil => exact fun x => .inl rfl
      | cons z r ih =>
        intro x
        show r.foldl max (max x z) = x ∨ r.foldl max (max x z) ∈ z :: r
        rcases ih (max x z) with e | e
        · rw [e]
          rcases Int.le_total x z with h | h
          · rw [Int.max_eq_right h]
            exact .inr (List.mem_cons_self ..)
          · rw [Int.max_eq_left h]
            exact .inl rfl
        · exact .inr (List.mem_cons_of_mem _ e)
    rcases key r x with e | e
    · show r.foldl max x ∈ x :: r
      rw [e]
      exact List.mem_cons_self ..
    · exact List.mem_cons_of_mem _ e
end My
namespace My
open PySem PySem.Spec PyProof.Rows L2
/-! ### rules with the written part told (for blocks of comprehensions) -/
section
variable {X : Cx} {K : PySem.W.Frag}
theorem ix_listK (h : X.K = K) : IxR X (rIxL K) := by
  subst h
  exact ix_list
theorem ix_tupK (h : X.K = K) : IxR X (rIxT K) := by
  subst h
  exact ix_tup
theorem ix_seqK (h : X.K = K) : IxR X (rIx K) := by
  subst h
  exact ix_seq
theorem op_in_seqK (h : X.K = K) : OpR X (compareOp .In) (rIn K false) := by
  subst h
  exact op_in_seq
theorem op_notIn_seqK (h : X.K = K) : OpR X (compareOp .NotIn) (rIn K true) := by
  subst h
  exact op_notIn_seq
theorem op_eqDK (h : X.K = K) (hu : X.A.units + 64 < cLine) : OpR X (compareOp .Eq) (rEqD K) := by
  subst h
  exact op_eqD hu
theorem op_neDK (h : X.K = K) (hu : X.A.units + 64 < cLine) : OpR X (compareOp .NotEq) (rNeD K) := by
  subst h
  exact op_neD hu
theorem call_len_seqK (h : X.K = K) : CallR X (.builtin "len") (fun xs H Q => ∃ p ys, xs = [.ref p] ∧ (SqL K H p ys ∨ SqT K H p ys) ∧ Q (.int ys.length) H) := by
  subst h
  exact call_len_seq
theorem call_list_ofK (h : X.K = K) : CallR X (.type "list") (fun xs H Q => ∃ p ys, xs = [.ref p] ∧ (SqL K H p ys ∨ SqT K H p ys) ∧ ∀ l, H l = none → Q (.ref l) (upd H l (.lst ys))) := by
  subst h
  exact call_list_of
theorem call_tuple_ofK (h : X.K = K) : CallR X (.type "tuple") (fun xs H Q => ∃ p ys, xs = [.ref p] ∧ ((SqL K H p ys ∧ ∀ l, H l = none → Q (.ref l) (upd H l (.tup ys))) ∨ (SqT K H p ys ∧ Q (.ref p) H))) := by
  subst h
  exact call_tuple_of
theorem sl_listK (h : X.K = K) : SlR X (rSlL K) := by
  subst h
  exact sl_list
theorem sl_tupAK (h : X.K = K) : SlR X (rSlA K) := by
  subst h
  exact sl_tupA
theorem cr_allK (h : X.K = K) (hc : X.calm = true) : CallR X (.builtin "all") (rAll K) := by
  subst h
  exact cr_all hc
theorem cr_anyK (h : X.K = K) (hc : X.calm = true) : CallR X (.builtin "any") (rAny K) := by
  subst h
  exact cr_any hc
theorem pe_fldK {ta : TE} {e : Expr} {f : Str} {pos : Pos} (h : X.K = K) (he : PE X e ta) (hb : attributeBase e f X.env (eval e X.env) = eval e X.env) : PE X (.Attribute e f pos) (tFld K ta f) := by
  subst h
  exact pe_fld he hb
end
theorem op_catAK {X : Cx} {K : PySem.W.Frag} (h : X.K = K) : OpR X (binaryOp .Add) (rCatA K) := by
  subst h
  exact op_catA
theorem tYes_of {te : TE} {σ : L2.St} {H : Hp} {R : VK} {R0 : Hp → Prop} (h : te σ H R) : tYes σ H fun b H3 => if b = true then te σ H3 R else R0 H3 := by
  show (if true = true then te σ H R else R0 H)
  rw [if_pos rfl]
  exact h
/-! ### enumerate of a list or a tuple -/
def iEnumA (K : PySem.W.Frag) (ta : TA) : TI := fun σ H R => ta σ H fun vs H1 => ∃ a xs, vs = [.ref a] ∧ ∃ H0, Same H0 H1 ∧ (SqL K H0 a xs ∨ SqT K H0 a xs) ∧
  ∀ (J : It) (G : Hp → Prop), Walk J xs.length G (YPair (fun i => some (.int (i : Nat))) (fun i => xs[i]?)) → (∀ H', Same H0 H' → G H') → R J H1
theorem pi_enumA {X : Cx} {e : Expr} {ta : TA} {p pos tpos : Pos} {elts : List Expr} {kk : Nat} (hg : Gl X "enumerate") (hm : X.mg "enumerate" = none) (ha : PA X [e] ta) (hs : starEach [e] X.env = [(false, eval e X.env)] := by rfl) :
    PI X (.Tuple elts kk tpos) (.Call (.Name "enumerate" p) [e] [] pos) (iEnumA X.K ta) := by
  refine ⟨fun pins s σ H R I h => ?_⟩
  refine Call_ (ld_blt I hg hm boot_enumerate (PyProof.Rows.callWith_type1 (thn (ha.run pos pins s σ H _ I h) fun us s1 ⟨vs, H1, I1, r1, q1⟩ => ?_) hs rfl))
  obtain ⟨a, xs, ex, q⟩ := q1
  subst ex
  cases r1 with
  | cons r rr =>
    cases rr
    cases r
    have fr : ∀ b, b ∈ [s1.heap.objs.size + 1, s1.heap.objs.size] → FpOk X pins H1 b := fun b hb => by
      have hle : s1.heap.objs.size ≤ b := by
        rcases (by simpa using hb : b = s1.heap.objs.size + 1 ∨ b = s1.heap.objs.size) with z | z
        · rw [z]; exact Nat.le_add_right _ _
        · rw [z]; exact Nat.le_refl _
      exact I1.fpOk hle (I1.hok.fresh hle)
    obtain ⟨H0, s0, hq0, q0⟩ := q
    rcases hq0 with hq0 | hq0
    · have hq := s0.seq hq0
      have q := q0 _ _ (walk_enum (K := X.K) (a := a) (xs := xs)) fun H' s' => s'.seq hq0
      obtain ⟨its, rv, p', hz⟩ := I1.list hq
      refine call_enumerate_list p'.isList fun h' he hit hsz hk => wpAny_pyIter_enum he ?_
      have I2 : Inv X pins σ H1 { s1 with heap := h' } := I1.kept (t' := s1.toks) hk
      exact ⟨s1.heap.objs.size + 1, [s1.heap.objs.size + 1, s1.heap.objs.size], _, _, H1, rfl, I2, turn_enum a (s1.heap.objs.size + 1) s1.heap.objs.size, ⟨⟨.none, he⟩, hit, Nat.succ_ne_self _⟩, fr, q⟩
    · have hq := s0.seqT hq0
      have q := q0 _ _ (walk_enumT (K := X.K) (a := a) (xs := xs)) fun H' s' => s'.seqT hq0
      obtain ⟨its, rv, p', hz⟩ := I1.tuple hq
      have lt_a : a < s1.heap.objs.size := by
        obtain ⟨o1, ho1, _⟩ := id p'
        exact Heap.lt_size ho1
      refine call_en1 (begins_tuple a its.toArray) (show s1.heap.IsTuple a its.toArray from p') fun h' he hit hk => wpAny_pyIter_enum he ?_
      have I2 : Inv X pins σ H1 { s1 with heap := h' } := I1.kept (t' := s1.toks) hk
      exact ⟨s1.heap.objs.size + 1, [s1.heap.objs.size + 1, s1.heap.objs.size], _, _, H1, rfl, I2, turn_enumT a (s1.heap.objs.size + 1) s1.heap.objs.size (Nat.succ_ne_self _) (fun z => absurd lt_a (by rw [← z]; exact Nat.not_lt_of_le (Nat.le_succ _))) (Nat.ne_of_lt lt_a), ⟨⟨.none, he⟩, ⟨_, hit, rfl, rfl⟩⟩, fr, q⟩
end My
namespace My
open PySem PySem.Spec PyProof.Rows L2
/-! ### set(t) of a tuple of ints, kept as an object -/
theorem nodup_len {α : Type} [DecidableEq α] {ks ns : List α} (h1 : ks.Nodup) (h2 : ns.Nodup) (h : ∀ k, k ∈ ks ↔ k ∈ ns) : ks.length = ns.length :=
  ((List.perm_ext_iff_of_nodup h1 h2).mpr h).length_eq
def rSetTI (K : PySem.W.Frag) (w : World) : List V → Hp → VK → Prop := fun xs H Q => ∃ (l : Addr) (ns : List Int), xs = [.ref l] ∧ SqT K H l (ns.map V.int) ∧ ns.length ≤ 1000 ∧
  ∀ (p : Addr) (ks : List Int), H p = none → ks.Nodup → (∀ k, k ∈ ks ↔ k ∈ ns) → Q (.ref p) (upd H p (SetO w p (fun j => decide (j ∈ ns)) ks.length))
section
variable {X : Cx}
theorem call_setTI (hc : X.calm = true) : CallR X (.type "set") (rSetTI X.K X.w) := by
  intro pins s σ H xs us Q I r h
  obtain ⟨l, ns, rfl, hq, hl, q⟩ := h
  obtain rfl := Vals.ref1 r
  obtain ⟨its, rv, pt, hz⟩ := I.tuple hq
  refine call_set_tupI ns (I.ok.hd hc) (show s.heap.IsTuple l its.toArray from pt) (ints_of_vals rv) (by unfold scanBound; omega) fun h' tk c R hcn k => ?_
  have hn : H s.heap.objs.size = none := I.hok.fresh (Nat.le_refl _)
  obtain ⟨ks, h1, h2, h3⟩ : ∃ ks : List Int, ks.Nodup ∧ (∀ k, k ∈ ks ↔ k ∈ ns) ∧ ks.length = c := by
    obtain ⟨o, es, ep, t, _, _, _, _, nd, hm, _, _, hn, _⟩ := R
    refine ⟨es.toList.map keyOf, nd, fun k => ?_, ?_⟩
    · rw [← hm k, decide_eq_true_eq]
    · rw [List.length_map, Array.length_toList, hn]
  subst h3
  exact ⟨.ref s.heap.objs.size, _, I.laid (t' := tk) k (Nat.le_refl _) (setO_new R), rfl, q _ ks hn h1 h2⟩
/-- len(s) of a set of ints -/
def rLenSO (w : World) : List V → Hp → VK → Prop := fun xs H Q => ∃ (a : Addr) (S : Int → Bool) (n : Nat), xs = [.ref a] ∧ H a = some (SetO w a S n) ∧ n ≤ 4000 ∧ Q (.int n) H
theorem call_lenSO : CallR X (.builtin "len") (rLenSO X.w) := by
  intro pins s σ H xs us Q I r h
  obtain ⟨a, S, n, rfl, ha, hl, q⟩ := h
  obtain rfl := Vals.ref1 r
  obtain ⟨o, es, ep, t, ho, hex, hd, _, _, _, _, hf, hn, _⟩ := setO_get I ha
  exact call_len_set ho hex hd hf (by rw [hn]; omega) ⟨.int n, H, I.tok _, ⟨_, by rw [hn]⟩, q⟩
theorem call_setTIK {K : PySem.W.Frag} {w : World} (h : X.K = K) (h2 : X.w = w) (hc : X.calm = true) : CallR X (.type "set") (rSetTI K w) := by
  subst h h2
  exact call_setTI hc
end
end My
namespace My
open PySem L2
/-! ### o[i] and len(o) by own methods -/
section
variable {X : Cx}
def inCx (X : Cx) : Cx := { X with A := X.A.in1 }
theorem ok_in (o : X.Ok) : (inCx X).Ok := ⟨o.mod, o.kind, o.glob, o.blt, o.above, o.inj, o.has, o.cab, o.hd, o.frames, o.stk, o.exf, o.bs, o.bsz, o.noex, o.exfs, o.funs, o.frf⟩
theorem ok_out (n : (inCx X).Ok) : X.Ok := ⟨n.mod, n.kind, n.glob, n.blt, n.above, n.inj, n.has, n.cab, n.hd, n.frames, n.stk, n.exf, n.bs, n.bsz, n.noex, n.exfs, n.funs, n.frf⟩
theorem inv_in {pins : List (Addr × Obj)} {σ : St} {H : Hp} {s : Shared} (I : L2.Inv X pins σ H s) : L2.Inv (inCx X) pins σ H s := ⟨ok_in I.ok, I.os, I.bare, I.base, I.loc, I.cell, I.free, I.freeC, I.pin, I.hok, I.len⟩
theorem inv_out {pins : List (Addr × Obj)} {σ : St} {H : Hp} {s : Shared} (I : L2.Inv (inCx X) pins σ H s) : L2.Inv X pins σ H s := ⟨ok_out I.ok, I.os, I.bare, I.base, I.loc, I.cell, I.free, I.freeC, I.pin, I.hok, I.len⟩
theorem passes_in {CX : CXT} {E : XK} (p : Passes CX X E) : Passes CX (inCx X) E := fun pins σ H s e s' I c => p pins σ H s e s' (inv_out I) c
def tItem (C : Addr) (sp : Sp) (E : XK) (ta tb : TE) : TE := fun σ H Q => ta σ H fun x H1 => tb σ H1 fun y H2 => ∃ (a dx : Addr) (fs : List (Str × V)), x = .ref a ∧ H2 a = some (.ins C dx fs) ∧ sp [.ref a, y] H2 Q E
theorem pe_item {CX : CXT} {k : Nat} {f C : Addr} {fd : FuncData} {ps : List Str} {sp : Sp} {E : XK} {ta tb : TE} {a b : PySem.Expr} {pos : Pos} (ha : PE X a ta) (hb : PE X b tb) (m : Meth X.K C "__getitem__" f) (fi : W.fnIn X.K f = true)
    (F : FnOk X.prog X.w X.K X.mg X.base CX k f fd ps sp) (hr : Room (k + 1) X.A) (bd : Binds X.K fd ps []) (px : Passes CX X E)
    (hs : ∀ (x : Addr) (i : Value), subscripted b true (.ref x) i = runValue (Code.builtin "lifetime.subscript" { pos := [.ref x, i] }) := by intros; with_unfolding_all rfl) : PE X (.Subscript a b pos) (tItem C sp E ta tb) := by
  refine ⟨fun pins s σ H Q I h => ?_⟩
  refine PyProof.Rows.Subscript_ (thn (ha.run pins s σ H _ I h) fun u s1 ⟨x, H1, I1, rx, q1⟩ => ?_)
  refine thn (hb.run pins s1 σ H1 _ I1 q1) fun v s2 ⟨y, H2, I2, ry, q2⟩ => ?_
  obtain ⟨p, dx, fs, rfl, hp, hsp⟩ := q2
  obtain rfl : u = .ref p := rx
  obtain ⟨mm, fr⟩ := I2.fr
  obtain ⟨mA, om, _⟩ := ins_get I2.hok hp
  obtain ⟨od, ia, _⟩ := om.look
  refine W.sub_K fr I2.ok.mod.kin ia m.at_ fi m.fn ?_ (hs p v)
  have q := run_fn (X := inCx X) F hr.in1 bd .nil (passes_in px) (inv_in I2) (vs := [.ref p, y]) (.cons rfl (.cons ry .nil)) (Q := Q) (by rw [List.append_nil]; exact hsp)
  exact thn q fun z s3 ⟨v3, H3, I3, r3, q3⟩ => ⟨v3, H3, inv_out I3, r3, q3⟩
theorem call_lenOwn {CX : CXT} {k : Nat} {f C : Addr} {fd : FuncData} {ps : List Str} {sp : Sp} {E : XK} (m : Meth X.K C "__len__" f)
    (F : FnOk X.prog X.w X.K X.mg X.base CX k f fd ps sp) (hr : Room (k + 1) X.A) (bd : Binds X.K fd ps []) (px : Passes CX X E) :
    CallR X (.builtin "len") (fun xs H Q => ∃ (a dx : Addr) (fs : List (Str × V)), xs = [.ref a] ∧ H a = some (.ins C dx fs) ∧ sp [.ref a] H (fun v H' => ∃ n : Int, v = .int n ∧ 0 ≤ n ∧ n < 2 ^ 63 ∧ Q (.int n) H') E) := by
  intro pins s σ H xs us Q I r h
  obtain ⟨p, dx, fs, rfl, hp, hsp⟩ := h
  obtain rfl := Vals.ref1 r
  obtain ⟨mm, fr⟩ := I.fr
  obtain ⟨mA, om, _⟩ := ins_get I.hok hp
  obtain ⟨od, ia, _⟩ := om.look
  refine W.len_K fr I.ok.mod.kin ia m.at_ m.fn ?_
  have q := run_fn (X := inCx X) F hr.in1 bd .nil (passes_in px) (inv_in I) (vs := [.ref p]) (.cons rfl .nil) (Q := fun v H' => ∃ n : Int, v = .int n ∧ 0 ≤ n ∧ n < 2 ^ 63 ∧ Q (.int n) H') (by rw [List.append_nil]; exact hsp)
  refine thn q fun z s3 ⟨v3, H3, I3, r3, q3⟩ => ?_
  obtain ⟨n, rfl, h0, h1, hq⟩ := q3
  obtain ⟨t, rfl⟩ := r3
  exact ⟨⟨h0, h1⟩, .int n, H3, (inv_out I3).tok _, ⟨_, rfl⟩, hq⟩
end
end My
namespace My
open PySem PySem.Spec PyProof.Rows L2
/-! ### sets of one kind, led: what they hold, that their places rise -/
section
variable {P : Program} {w : World} {κ : Type} [DecidableEq κ] {knd : KeyKind P w κ} {A : Around} {E : Value → Shared → Prop} {s : Shared} {a : Addr}
def Apart (knd : KeyKind P w κ) (e e' : Int × Value) : Prop := ∀ k, knd.is k e.snd = true → knd.is k e'.snd = true → False
def SetG (knd : KeyKind P w κ) (h : Heap) (a : Addr) (S : κ → Bool) (n : Nat) : Prop := ∃ o es ep t, h.get? a = some o ∧ o.ExactSet ∧ o.data = Data.set es ep t ∧ ElemsOf knd es.toList ∧ (∀ k, S k = true ↔ ∃ e, e ∈ es.toList ∧ knd.is k e.snd = true) ∧
  es.toList.Pairwise (Apart knd) ∧ es.size < scanBound ∧ t.fits es.size = true ∧ es.size = n ∧ Ris t.place.toList ∧ (w.params.followText "set-order" = true ∨ t.led = true)
theorem put_data {o : Obj} {es es' : Array (Int × Value)} {ep : Nat} {t t' : SetTable} (h : o.data = Data.set es ep t) (x : o.ExactSet) : (Obj.putSet es' t' o).data = Data.set es' (ep + 1) t' ∧ (Obj.putSet es' t' o).ExactSet ∧ (Obj.putSet es' t' o).isFreed = false := by
  obtain ⟨c, d, dt, sl⟩ := o
  obtain rfl : dt = Data.set es ep t := h
  exact ⟨rfl, x, rfl⟩
theorem same_put {h : Heap} {f : Obj → Obj} : Heap.SameBut a h (h.update a f) := ⟨Heap.size_update .., fun b n => Heap.get?_update_ne h b a f n⟩
theorem apart_perm {l l' : List (Int × Value)} (p : l.Perm l') (h : l'.Pairwise (Apart knd)) : l.Pairwise (Apart knd) :=
  (p.symm.pairwise_iff (fun {x y} (q : Apart knd x y) k h1 h2 => q k h2 h1)).mp h
theorem elems_perm {l l' : List (Int × Value)} (p : l.Perm l') (h : ElemsOf knd l') : ElemsOf knd l := fun e he => h e (p.mem_iff.mp he)
theorem setG_tail {g : Bool → Sem Unit} (hg : ∀ (b : Bool) (s₁ : Shared) (Q' : Unit → Shared → Prop), Q' () s₁ → wpAny (model P w) A (g b) Q' E s₁) {o : Obj} {es : Array (Int × Value)} {ep : Nat} {t : SetTable} (ho : s.heap.get? a = some o) (hx : o.ExactSet) (hd : o.data = Data.set es ep t)
    {es1 : Array (Int × Value)} {t2 : SetTable} {S' : κ → Bool} (he : ElemsOf knd es1.toList) (hS : ∀ k, S' k = true ↔ ∃ e, e ∈ es1.toList ∧ knd.is k e.snd = true) (hp : es1.toList.Pairwise (Apart knd)) (hz : es1.size < scanBound) (hf : t2.fits es1.size = true) (hr : Ris t2.place.toList) (hl : w.params.followText "set-order" = true ∨ t2.led = true)
    {wasDummy : Bool} {R : Option Bool → Shared → Prop} (k : ∀ h', Heap.SameBut a s.heap h' → SetG knd h' a S' es1.size → R (some true) { s with heap := h' }) :
    wpAny (model P w) A (do
      storeSet a es1 t2
      if (!wasDummy && t2.tooFull) = true then do
          g (relayAll t2 es1 (SetTable.grown es1.size)).snd.snd
          storeSet a (relayAll t2 es1 (SetTable.grown es1.size)).fst (relayAll t2 es1 (SetTable.grown es1.size)).snd.fst
          pure (some true)
        else pure (some true)) R E s := by
  have hb : ∀ n, n < scanBound → n ≤ sizeLine := fun n h => Nat.le_of_lt (Nat.lt_of_lt_of_le h (by decide))
  refine wpAny_bind (wpAny_storeSet_of ho hd ?_ (hb _ hz))
  obtain ⟨d1, x1, f1⟩ := put_data (es' := es1) (t' := t2) hd hx
  have h1 : (s.heap.update a (Obj.putSet es1 t2)).get? a = some (Obj.putSet es1 t2 o) := Heap.get?_update_self _ ho f1
  split
  · refine wpAny_bind (hg _ _ _ ?_)
    have pm := relayAll_perm t2 es1 (SetTable.grown es1.size)
    have ft := relayAll_fits t2 es1 (SetTable.grown es1.size)
    have rs := relayAll_ris t2 es1 (SetTable.grown es1.size)
    have ld := relayAll_led t2 es1 (SetTable.grown es1.size)
    generalize (relayAll t2 es1 (SetTable.grown es1.size)).fst = es2 at *
    generalize (relayAll t2 es1 (SetTable.grown es1.size)).snd.fst = t3 at *
    have sz : es2.size = es1.size := by
      have := pm.length_eq
      rwa [Array.length_toList, Array.length_toList] at this
    refine wpAny_bind (wpAny_storeSet_of h1 d1 ?_ (by rw [sz]; exact hb _ hz))
    refine wpAny_pure ?_
    obtain ⟨d2, x2, f2⟩ := put_data (es' := es2) (t' := t3) d1 x1
    refine k _ ⟨by rw [Heap.size_update, Heap.size_update], fun b n => by rw [Heap.get?_update_ne _ _ _ _ n, Heap.get?_update_ne _ _ _ _ n]⟩ ⟨_, es2, _, t3, Heap.get?_update_self _ h1 f2, x2, d2, elems_perm pm he, fun k => ?_, apart_perm pm hp, by rw [sz]; exact hz, ft, sz, rs, by rw [ld]; exact hl⟩
    rw [hS k]
    exact ⟨fun ⟨e, m, i⟩ => ⟨e, pm.mem_iff.mpr m, i⟩, fun ⟨e, m, i⟩ => ⟨e, pm.mem_iff.mp m, i⟩⟩
  · refine wpAny_pure ?_
    exact k _ same_put ⟨_, es1, _, t2, h1, x1, d1, he, hS, hp, hz, hf, rfl, hr, hl⟩
theorem gwAny {M : Model} {g : Bool → Sem Unit} {b : Bool} {Q : Unit → Shared → Prop} (h0 : g false = pure ()) (h1 : g true = rule "set.scan.the-table-gave-way") (q : Q () s) : wpAny M A (g b) Q E s := by
  cases b with
  | false =>
    rw [h0]
    exact wpAny_pure q
  | true =>
    rw [h1]
    exact wpAny_rule q
theorem setG_add_hashed {S : κ → Bool} {n : Nat} {k : κ} {x : Value} {Q : Bool → Shared → Prop} (hk : knd.is k x = true) (hsc : x.scannable = true) (hS : SetG knd s.heap a S n) (hn : n + 1 < scanBound)
    (c : ∀ h', Heap.SameBut a s.heap h' → SetG knd h' a (fun k' => S k' || decide (k' = k)) (if S k = true then n else n + 1) → Q (!S k) { s with heap := h' }) :
    wpAny (model P w) A (setAddHashed a x (knd.hash k)) Q E s := by
  obtain ⟨o, es, ep, t, ho, hx, hd, he, hm, hp, hz, hf, hsz, hr, hl⟩ := hS
  unfold setAddHashed
  refine wpAny_holding ?_
  unfold setAddHashedIn
  refine wpAny_bind (wpAny_setState_of ho hd hf ?_)
  have hbs := byScan_of (knd := knd) hsc hz he
  show wpAny _ _ (if byScan x es = true then _ else _) _ _ _
  rw [if_pos hbs]
  refine wpAny_bind ?_
  unfold setAddByScan
  refine wpAny_bind (wpAny_rule ?_)
  refine wpAny_bind (wpAny_setScan_of hk ho hd hf he ?_)
  cases hfi : List.findIdx? (fun e => knd.is k e.snd) es.toList with
  | some j =>
    refine wpAny_pure (wpAny_pure ?_)
    have hin : S k = true := by
      rw [hm k]
      obtain ⟨hj, hi, _⟩ := List.findIdx?_eq_some_iff_getElem.mp hfi
      exact ⟨_, List.getElem_mem hj, hi⟩
    have q := c s.heap ⟨rfl, fun _ _ => rfl⟩ ⟨o, es, ep, t, ho, hx, hd, he, fun k' => ?_, hp, hz, hf, by rw [if_pos hin]; exact hsz, hr, hl⟩
    · rw [hin] at q
      exact q
    · rw [← hm k', Bool.or_eq_true, decide_eq_true_eq]
      exact ⟨fun h => h.elim id fun e => by rw [e]; exact hin, .inl⟩
  | none =>
    have hout : S k = false := by
      cases q : S k with
      | false => rfl
      | true =>
        obtain ⟨e, em, ei⟩ := (hm k).mp q
        have := List.findIdx?_eq_none_iff.mp hfi e em
        rw [ei] at this
        cases this
    have pm := layNew_perm t es (knd.hash k) x
    have ft := layNew_fits t es (knd.hash k) x
    have ld := layNew_led t es (knd.hash k) x
    have rs := layNew_ris t es (knd.hash k) x hr
    dsimp only
    generalize layNew t es (knd.hash k) x = r at pm ft ld rs ⊢
    obtain ⟨es1, t1, wd, gv⟩ := r
    replace pm : es1.toList.Perm (es.push (knd.hash k, x)).toList := pm
    replace ft : t1.fits es1.size = true := ft
    replace ld : t1.led = t.led := ld
    replace rs : Ris t1.place.toList := rs
    have tl : (es.push (knd.hash k, x)).toList = es.toList ++ [(knd.hash k, x)] := Array.toList_push ..
    rw [tl] at pm
    have sz : es1.size = n + 1 := by
      have := pm.length_eq
      rw [Array.length_toList, List.length_append, Array.length_toList, hsz] at this
      exact this
    have he1 : ElemsOf knd es1.toList := elems_perm pm fun e hm' => by
      rcases List.mem_append.mp hm' with h | h
      · exact he e h
      · rw [List.mem_singleton.mp h]
        exact ⟨⟨k, hk, rfl⟩, hsc⟩
    have hS1 : ∀ k', (S k' || decide (k' = k)) = true ↔ ∃ e, e ∈ es1.toList ∧ knd.is k' e.snd = true := fun k' => by
      rw [Bool.or_eq_true, decide_eq_true_eq, hm k']
      constructor
      · rintro (⟨e, m, i⟩ | rfl)
        · exact ⟨e, pm.mem_iff.mpr (List.mem_append_left _ m), i⟩
        · exact ⟨_, pm.mem_iff.mpr (List.mem_append_right _ (List.mem_singleton.mpr rfl)), hk⟩
      · rintro ⟨e, m, i⟩
        rcases List.mem_append.mp (pm.mem_iff.mp m) with h | h
        · exact .inl ⟨e, h, i⟩
        · rw [List.mem_singleton.mp h] at i
          exact .inr (knd.inj _ _ _ i hk)
    have hp1 : es1.toList.Pairwise (Apart knd) := apart_perm pm (List.pairwise_append.mpr ⟨hp, List.pairwise_singleton _ _, fun e m e' m' k' h1 h2 => by
      rw [List.mem_singleton.mp m'] at h2
      have := knd.inj _ _ _ h2 hk
      subst this
      have z := (hm k').mpr ⟨e, m, h1⟩
      rw [hout] at z
      cases z⟩)
    have hz1 : es1.size < scanBound := by rw [sz]; exact hn
    have c' : ∀ h', Heap.SameBut a s.heap h' → SetG knd h' a (fun k' => S k' || decide (k' = k)) es1.size → Q true { s with heap := h' } := fun h' sb sg => by
      have q := c h' sb (by rw [hout, if_neg (by decide), ← sz]; exact sg)
      rw [hout] at q
      exact q
    dsimp only
    refine wpAny_bind (gwAny rfl rfl ?_)
    have T2 : ∀ b : Bool, (if b = true then t1 else { t1 with plain := false } : SetTable).fits es1.size = true ∧ Ris (if b = true then t1 else { t1 with plain := false } : SetTable).place.toList ∧ (w.params.followText "set-order" = true ∨ (if b = true then t1 else { t1 with plain := false } : SetTable).led = true) := fun b => by
      rw [← ld] at hl
      cases b with
      | true => exact ⟨ft, rs, hl⟩
      | false => exact ⟨ft, rs, hl⟩
    split
    · rw [hashByValue_scannable 8 hsc]
      refine wpAny_bind (wpAny_pure ?_)
      obtain ⟨q1, q2, q3⟩ := T2 (plainKind x)
      exact setG_tail (fun b s₁ Q' q => gwAny rfl rfl q) ho hx hd he1 hS1 hp1 hz1 q1 q2 q3 fun h' sb sg => wpAny_pure (c' h' sb sg)
    · refine wpAny_bind (wpAny_pure ?_)
      obtain ⟨q1, q2, q3⟩ := T2 true
      exact setG_tail (fun b s₁ Q' q => gwAny rfl rfl q) ho hx hd he1 hS1 hp1 hz1 q1 q2 q3 fun h' sb sg => wpAny_pure (c' h' sb sg)
theorem SetG.stay {h h' : Heap} {S : κ → Bool} {n : Nat} (q : SetG knd h a S n) (k : ∀ o, h.get? a = some o → h'.get? a = some o) : SetG knd h' a S n := by
  obtain ⟨o, es, ep, t, ho, r⟩ := q
  exact ⟨o, es, ep, t, k o ho, r⟩
theorem SetG.to {h : Heap} {S S' : κ → Bool} {n : Nat} (q : SetG knd h a S n) (e : ∀ k, S k = S' k) : SetG knd h a S' n := by
  rw [← funext e]
  exact q
theorem setG_update {I : Addr} {fp wr : List Addr} {G : Array GenState → Array GenState → Prop} {n : Nat} {Pv : Nat → Value → Prop} {St : Nat → Shared → Prop} {R : Result → Shared → Prop} (W : WalksS P w A.in1 I fp wr G n Pv St) (S : Addr) (hS : ¬ S ∈ fp) (ks : List κ) (hn : n = ks.length) (hb : ks.length + 1 < scanBound)
    (hv : ∀ i v, Pv i v → ∃ k, ks[i]? = some k ∧ knd.is k v = true ∧ v.scannable = true) : ∀ (d i : Nat) (s : Shared), n - i = d → i ≤ n → St i s → (∃ c, c ≤ i ∧ SetG knd s.heap S (fun j => decide (j ∈ ks.take i)) c) →
    (∀ s' c, Moved (S :: wr) G s s' → c ≤ n → SetG knd s'.heap S (fun j => decide (j ∈ ks)) c → R (Except.ok (Flow.ret Value.none)) s') → codeAny (model P w) A (Code.builtin "set.update.loop" { pos := [Value.ref S, Value.ref I] }) R s
  | 0, i, s, e, hi, hSt, ⟨c, hc, hG⟩, k => by
    obtain rfl : i = n := by omega
    refine codeAny_builtin PyProof.Rows.F.entry_set_update_loop ?_
    rw [Around.under_plain rfl (by with_unfolding_all rfl)]
    refine wpAny_bind (W.done s _ _ hSt fun s' mv => ?_)
    refine wpAny_pure ?_
    have hw : ¬ S ∈ wr := fun z => hS (W.sub S z)
    refine k s' c ⟨fun b o nb => mv.heap b o fun z => nb (List.mem_cons_of_mem _ z), mv.gens, mv.drawn, mv.os, mv.toks⟩ hc ((hG.stay fun o => mv.heap S o hw).to fun j => ?_)
    rw [List.take_of_length_le (by omega)]
  | d + 1, i, s, e, hi, hSt, ⟨c, hc, hG⟩, k => by
    refine codeAny_builtin PyProof.Rows.F.entry_set_update_loop ?_
    rw [Around.under_plain rfl (by with_unfolding_all rfl)]
    refine wpAny_bind (W.item i s _ _ (by omega) hSt fun v s' hp hSt' mv => ?_)
    obtain ⟨key, hk, his, hsc⟩ := hv i v hp
    have hw : ¬ S ∈ wr := fun z => hS (W.sub S z)
    have hG' := hG.stay (h' := s'.heap) fun o => mv.heap S o hw
    refine wpAny_bind (wpAny_holding (wpAny_holding ?_))
    refine wpAny_bind (knd.pyHash his ?_)
    refine setG_add_hashed (s := { s' with toks := s'.toks + 1 }) his hsc hG' (by omega) fun h'' sb sg => ?_
    refine wpAny_pure ?_
    refine And.intro (Code.quiet_builtin _ (by decide +kernel)) ?_
    have hil := (List.getElem?_eq_some_iff.mp hk).1
    have htk : ks.take (i + 1) = ks.take i ++ [key] := by
      rw [List.take_add_one, hk]
      rfl
    refine setG_update W S hS ks hn hb hv d (i + 1) _ (by omega) (by omega) (W.frame (i + 1) s' h'' (s'.toks + 1) hSt' (Nat.le_succ _) fun b hb o ho => ?_) ⟨_, ?_, sg.to fun j => ?_⟩ fun s3 c3 mv3 hc3 hg3 => ?_
    · rw [sb.2 b fun z => hS (z ▸ hb)]
      exact ho
    · split <;> omega
    · rw [htk]
      by_cases z : j ∈ ks.take i
      · rw [decide_eq_true z, Bool.true_or, decide_eq_true (List.mem_append_left _ z)]
      · by_cases z2 : j = key
        · rw [decide_eq_true z2, Bool.or_true, decide_eq_true (List.mem_append_right _ (List.mem_singleton.mpr z2))]
        · rw [decide_eq_false z, decide_eq_false z2, decide_eq_false (fun q => (List.mem_append.mp q).elim z fun q => z2 (List.mem_singleton.mp q))]
          rfl
    · refine k s3 c3 ⟨fun b o nb ho => ?_, W.gtrans _ _ _ mv.gens mv3.gens, mv3.drawn.trans mv.drawn, mv3.os.trans mv.os, Nat.le_trans mv.toks (Nat.le_trans (Nat.le_succ _) mv3.toks)⟩ hc3 hg3
      refine mv3.heap b o nb ?_
      rw [sb.2 b fun z => nb (by rw [z]; exact List.mem_cons_self ..)]
      exact mv.heap b o (fun z => nb (List.mem_cons_of_mem _ z)) ho
end
end My
namespace My
open PySem PySem.Spec PyProof.Rows L2
section
variable {P : Program} {w : World} {κ : Type} [DecidableEq κ] {knd : KeyKind P w κ} {A : Around} {E : Value → Shared → Prop} {s : Shared} {a : Addr}
def freshSet (w : World) : Obj := { cls := Value.type "set", data := Data.set #[] 0 (SetTable.fresh 0 0 !w.params.followText "set-order") }
theorem setG_fresh {h : Heap} {S : Addr} (hS : h.get? S = some (freshSet w)) (ks : List κ) : SetG knd h S (fun j => decide (j ∈ ks.take 0)) 0 := by
  refine ⟨freshSet w, #[], 0, _, hS, ⟨rfl, rfl, rfl⟩, rfl, (fun e (he : e ∈ ([] : List (Int × Value))) => nomatch he), fun k => ?_, List.Pairwise.nil, by decide, rfl, rfl, List.Pairwise.nil, ?_⟩
  · rw [List.take_zero]
    exact ⟨fun q => absurd (of_decide_eq_true q) (List.not_mem_nil), fun ⟨e, he, _⟩ => absurd he (List.not_mem_nil)⟩
  · cases q : w.params.followText "set-order" with
    | true => exact .inl rfl
    | false => exact .inr rfl
theorem setG_init {S l : Addr} {items : Array Value} (ks : List κ) {Φ : PySem.Fin → Shared → Prop} (hh : A.handled = none) (hS : s.heap.get? S = some (freshSet w)) (hl : s.heap.IsList l items) (hv : ∀ (i : Nat) (v : Value), items[i]? = some v → ∃ k, ks[i]? = some k ∧ knd.is k v = true ∧ v.scannable = true) (hn : items.size = ks.length) (hb : ks.length + 1 < scanBound)
    (h : ∀ (s' : Shared) (c : Nat), SetG knd s'.heap S (fun j => decide (j ∈ ks)) c → c ≤ ks.length → (∀ b o, b ≠ S → s.heap.get? b = some o → s'.heap.get? b = some o) → s'.gens = s.gens → s'.drawn = s.drawn → s'.os = s.os → Φ (Fin.done (Flow.ret .none)) s') :
    wpAny (model P w) A (Builtin.«set.__init__» { pos := [Value.ref S, Value.ref l] }) Φ E s := by
  have hT : s.TypeIs (Value.ref S) "set" := ⟨_, hS, rfl⟩
  have hl0 := hl
  obtain ⟨ol, hol, hlc, nl, hld⟩ := hl
  unfold Builtin.«set.__init__»
  refine wpAny_bind (wpAny_ite_true rfl (wpAny_pure ?_))
  refine wpAny_bind ?_
  refine wpAny_bind (wpAny_bind (wpAny_typeOf hT (wpAny_ite_false rfl (wpAny_pure (wpAny_pure ?_)))))
  unfold checkCount
  refine wpAny_bind (wpAny_ite_false rfl (wpAny_ite_false rfl (wpAny_ite_false rfl (wpAny_pure ?_))))
  refine wpAny_bind (wpAny_pure ?_)
  unfold setUsed
  refine wpAny_bind (wpAny_bind (wpAny_setState_of (es := #[]) hS rfl rfl ?_))
  refine wpAny_pure ?_
  refine wpAny_ite_false rfl ?_
  have hTl : s.TypeIs (Value.ref l) "list" := ⟨ol, hol, hlc⟩
  refine wpAny_bind ?_
  unfold Builtin.Frozenset.updateFrom Builtin.Frozenset.isAnySet
  refine wpAny_bind (wpAny_bind (wpAny_isInstance hTl F.sub_list_set ?_))
  refine wpAny_isInstance hTl F.sub_list_frozenset ?_
  refine wpAny_ite_false rfl ?_
  refine wpAny_bind (wpAny_typeOf hTl ?_)
  refine wpAny_ite_false rfl ?_
  refine wpAny_bind (wpAny_pyIter_list hl0 ?_)
  refine wpAny_bind (wpAny_runValue ?_)
  have hlt := Heap.lt_size hol
  have hSt := Heap.lt_size hS
  have hSl : S ≠ l := fun e => by
    rw [e, hol] at hS
    have z : ol.cls = Value.type "set" := by rw [Option.some.inj hS]; rfl
    exact absurd (Value.type.inj (hlc.symm.trans z)) (by decide)
  have W := Walks.toS (Walks.list (prog := P) (w := w) (A := A.in1) hh s.heap.objs.size l (Nat.ne_of_lt hlt) items)
  have pS := Heap.get?_push_of_some { cls := Value.type "list_iterator", data := Data.fields #[Value.ref l, Value.int 0 0] } hS
  have pl := Heap.get?_push_of_some { cls := Value.type "list_iterator", data := Data.fields #[Value.ref l, Value.int 0 0] } hol
  refine setG_update (knd := knd) W S (fun z => ?_) ks hn hb hv _ 0 _ rfl (Nat.zero_le _) ⟨?_, ⟨ol, pl, hlc, nl, hld⟩⟩ ⟨0, Nat.le_refl _, setG_fresh pS ks⟩ fun s' c mv hc hg => ?_
  · rcases List.mem_cons.mp z with z | z
    · exact absurd z (Nat.ne_of_lt hSt)
    · exact hSl (List.mem_singleton.mp z)
  · exact ⟨_, Heap.get?_push_size s.heap rfl, rfl, rfl⟩
  · show wpAny (model P w) A (pure ()) (fun a s' => wpAny (model P w) A ((fun __r => ret Value.none) a) Φ E s') E s'
    refine wpAny_pure ?_
    refine wpAny_pure ?_
    refine h s' c hg (by rw [← hn]; exact hc) (fun b o nb ho => ?_) mv.gens mv.drawn mv.os
    refine mv.heap b o (fun z => ?_) (Heap.get?_push_of_some _ ho)
    rcases List.mem_cons.mp z with z | z
    · exact nb z
    · rw [List.mem_singleton.mp z] at ho
      exact absurd (Heap.lt_size ho) (Nat.lt_irrefl _)
theorem call_set_listG {l : Addr} {items : Array Value} (ks : List κ) {Q : Value → Shared → Prop} (hh : A.handled = none) (hl : s.heap.IsList l items) (hv : ∀ (i : Nat) (v : Value), items[i]? = some v → ∃ k, ks[i]? = some k ∧ knd.is k v = true ∧ v.scannable = true) (hn : items.size = ks.length) (hb : ks.length + 1 < scanBound)
    (h : ∀ (h' : Heap) (tk c : Nat), SetG knd h' s.heap.objs.size (fun j => decide (j ∈ ks)) c → c ≤ ks.length → (∀ b o, s.heap.get? b = some o → h'.get? b = some o) → Q (.ref s.heap.objs.size) { s with heap := h', toks := tk }) : wpAny (model P w) A (call (.type "set") [.ref l]) Q E s := by
  obtain ⟨c, tl, hmro⟩ := F.called_set.mro
  have hmade := F.called_set.made
  have hsub := F.called_set.sub
  have h1 := F.called_set.notType
  have h2 := F.called_set.canCreate
  have hct := F.typeCall_set_1 (Value.ref l)
  refine wpAny_call (codeAny_of_tree ?_)
  refine wpAny_pure ⟨Code.quiet_builtin _ (by decide +kernel), codeAny_builtin F.entry_type_call ?_⟩
  rw [Around.under_plain (weight_type_call_type "set" [.ref l] []) (by with_unfolding_all rfl)]
  unfold Builtin.«type.__call__»
  refine wpAny_ite_false (Eq.refl _) ?_
  refine wpAny_ite_false (Eq.refl _) ?_
  refine wpAny_bind (wpAny_of_eq hct ?_)
  refine wpAny_bind (wpAny_of_eq hmro ?_)
  refine wpAny_ite_false rfl ?_
  refine wpAny_bind (wpAny_of_eq hmade ?_)
  refine wpAny_bind (wpAny_pure ?_)
  refine wpAny_bind (wpAny_holding ?_)
  refine wpAny_call (codeAny_mono (L2.code_set_led1 (E := fun _ _ => False) (Value.ref l) (Q₁ := fun v s₁ => v = .ref s.heap.objs.size ∧ s₁ = { s with heap := s.heap.push { cls := .type "set", data := Data.set #[] 0 (SetTable.fresh 0 0 !w.params.followText "set-order") } }) ⟨rfl, rfl⟩) fun r s₁ hr => ?_)
  obtain ⟨e1, e2⟩ | e3 : (∃ v, r = .ok (.ret v) ∧ v = .ref s.heap.objs.size ∧ s₁ = { s with heap := s.heap.push { cls := .type "set", data := Data.set #[] 0 (SetTable.fresh 0 0 !w.params.followText "set-order") } }) ∨ False := by
    cases r with
    | ok f =>
      cases f with
      | ret v => exact .inl ⟨v, rfl, hr⟩
      | _ => exact .inr hr
    | error e => exact .inr hr
  · obtain ⟨rfl, rfl, rfl⟩ := e2
    have hS := Heap.get?_push_size s.heap (o := { cls := .type "set", data := Data.set #[] 0 (SetTable.fresh 0 0 !w.params.followText "set-order") }) rfl
    have hT : Shared.TypeIs { s with heap := s.heap.push { cls := .type "set", data := Data.set #[] 0 (SetTable.fresh 0 0 !w.params.followText "set-order") } } (Value.ref s.heap.objs.size) "set" := ⟨_, hS, rfl⟩
    have hli := F.called_set.init.lookup
    have hbi := F.called_set.init.bind (Value.ref s.heap.objs.size)
    refine wpAny_bind (wpAny_isInstance hT hsub ?_)
    refine wpAny_ite_false rfl ?_
    refine wpAny_bind (wpAny_holding ?_)
    refine wpAny_bind (wpAny_specialOf hT hli ?_)
    refine wpAny_holding ?_
    refine wpAny_bind (wpAny_of_eq hbi ?_)
    refine wpAny_bind ?_
    refine wpAny_call (codeAny_mono (codeAny_call_builtin F.called_set.init.plain F.entry_set_init (check_set_init_1 hT ?_)) fun r s₂ hr2 => hr2)
    have hl1 : (s.heap.push (freshSet w)).IsList l items := by
      obtain ⟨ol, hol, hlc, nl, hld⟩ := hl
      exact ⟨ol, Heap.get?_push_of_some _ hol, hlc, nl, hld⟩
    refine setG_init (knd := knd) ks hh hS hl1 hv hn hb fun s' c hg hc hk hgn hdr hos => ?_
    refine wpAny_pure ?_
    refine wpAny_ite_false rfl ?_
    refine wpAny_pure ?_
    obtain ⟨hp', gn', dr', tk', os'⟩ := s'
    obtain rfl : gn' = s.gens := hgn
    obtain rfl : dr' = s.drawn := hdr
    obtain rfl : os' = s.os := hos
    refine h hp' tk' c hg hc fun b o ho => hk b o (fun z => ?_) (Heap.get?_push_of_some _ ho)
    rw [z] at ho
    exact absurd (Heap.lt_size ho) (Nat.lt_irrefl _)
  · exact e3.elim
end
end My
namespace My
open PySem PySem.Spec PyProof.Rows L2
/-! ### set(list of texts), its len, sorted of it -/
section
variable {P : Program} {w : World} {X : Cx}
theorem isStr {k : Str} {v : Value} (h : (PySem.strKind P w).is k v = true) : ∃ t, v = Value.str k t := by
  cases v with
  | str x t => exact ⟨t, by rw [eq_of_beq (show (x == k) = true from h)]⟩
  | _ => cases (show false = true from h)
theorem isStr_mk (k : Str) (t : Tok) : (PySem.strKind P w).is k (Value.str k t) = true := beq_self_eq_true k
def keyS : Value → Str
  | .str x _ => x
  | _ => Str.empty
def SetSO (P : Program) (w : World) (a : Addr) (S : Str → Bool) (n : Nat) : HO := .ext fun h => SetG (PySem.strKind P w) h a S n
theorem setS_ok {H : Hp} {h : Heap} {a : Addr} {S : Str → Bool} {n : Nat} (g : SetG (PySem.strKind P w) h a S n) : ObjOk P w H h a (SetSO P w a S n) := by
  refine ⟨g, ?_, fun h1 h2 q k => SetG.stay q k⟩
  obtain ⟨o, _, _, _, ho, _⟩ := g
  exact ⟨o, ho⟩
/-- the texts of a set, each once -/
theorem keysOf {l : List (Int × Value)} {S : Str → Bool} (he : ElemsOf (PySem.strKind P w) l) (hm : ∀ k, S k = true ↔ ∃ e, e ∈ l ∧ (PySem.strKind P w).is k e.snd = true) (hp : l.Pairwise (Apart (PySem.strKind P w))) :
    (l.map fun e => keyS e.snd).Nodup ∧ (∀ k, k ∈ (l.map fun e => keyS e.snd) ↔ S k = true) ∧ ∀ e ∈ l, ∃ t, e.snd = Value.str (keyS e.snd) t := by
  have hk : ∀ e ∈ l, ∃ t, e.snd = Value.str (keyS e.snd) t := fun e m => by
    obtain ⟨⟨k, i, _⟩, _⟩ := he e m
    obtain ⟨t, q⟩ := isStr i
    exact ⟨t, by rw [q]; rfl⟩
  refine ⟨?_, fun k => ?_, hk⟩
  · refine List.pairwise_map.mpr (hp.imp_of_mem fun {a b} ma mb q e => ?_)
    obtain ⟨t, ta⟩ := hk a ma
    obtain ⟨u, tb⟩ := hk b mb
    refine q (keyS a.snd) (by rw [ta]; exact isStr_mk _ _) ?_
    rw [e, tb]
    exact isStr_mk _ _
  · rw [hm k, List.mem_map]
    constructor
    · rintro ⟨e, m, rfl⟩
      obtain ⟨t, q⟩ := hk e m
      exact ⟨e, m, by rw [q]; exact isStr_mk _ _⟩
    · rintro ⟨e, m, i⟩
      obtain ⟨t, q⟩ := isStr i
      exact ⟨e, m, by rw [q]; rfl⟩
theorem vals_strs : ∀ {ws : List Str} {its : List Value}, Vals (ws.map V.str) its → its.length = ws.length ∧ ∀ (i : Nat) (v : Value), its[i]? = some v → ∃ k t, ws[i]? = some k ∧ v = Value.str k t
  | [], its, h => by
    cases h
    exact ⟨rfl, fun i v h => by simp at h⟩
  | x :: ws, its, h => by
    cases h with
    | cons r rr =>
      obtain ⟨t, rfl⟩ := r
      obtain ⟨l, g⟩ := vals_strs rr
      refine ⟨by rw [List.length_cons, List.length_cons, l], fun i v h => ?_⟩
      cases i with
      | zero =>
        cases h
        exact ⟨x, t, rfl, rfl⟩
      | succ i => exact g i v h
def rSetLS (K : PySem.W.Frag) (P : Program) (w : World) : List V → Hp → VK → Prop := fun xs H Q => ∃ (l : Addr) (ws : List Str), xs = [.ref l] ∧ SqL K H l (ws.map V.str) ∧ ws.length ≤ 1000 ∧
  ∀ (p : Addr) (ks : List Str), H p = none → ks.Nodup → (∀ k, k ∈ ks ↔ k ∈ ws) → Q (.ref p) (upd H p (SetSO P w p (fun j => decide (j ∈ ws)) ks.length))
theorem call_setLS (hc : X.calm = true) : CallR X (.type "set") (rSetLS X.K X.prog X.w) := by
  intro pins s σ H xs us Q I r h
  obtain ⟨l, ws, rfl, hq, hl, q⟩ := h
  obtain rfl := Vals.ref1 r
  obtain ⟨its, rv, pt, hz⟩ := I.list hq
  obtain ⟨hlen, hget⟩ := vals_strs rv
  refine call_set_listG (knd := PySem.strKind X.prog X.w) ws (I.ok.hd hc) (show s.heap.IsList l its.toArray from pt.isList) (fun i v hv => ?_) (by rw [List.size_toArray, hlen]) (by unfold scanBound; omega) fun h' tk c G hcn k => ?_
  · rw [List.getElem?_toArray] at hv
    obtain ⟨k, t, h1, rfl⟩ := hget i v hv
    exact ⟨k, h1, isStr_mk k t, rfl⟩
  · have hn : H s.heap.objs.size = none := I.hok.fresh (Nat.le_refl _)
    have G' := G
    obtain ⟨o, es, ep, t, _, _, _, he, hm, hp, _, _, hsz, _⟩ := G
    obtain ⟨h1, h2, _⟩ := keysOf he hm hp
    have h3 : (es.toList.map fun e => keyS e.snd).length = c := by rw [List.length_map, Array.length_toList, hsz]
    generalize (es.toList.map fun e => keyS e.snd) = ks at *
    subst h3
    exact ⟨.ref s.heap.objs.size, _, I.laid (t' := tk) k (Nat.le_refl _) (setS_ok G'), rfl, q _ ks hn h1 fun k => by rw [h2 k, decide_eq_true_eq]⟩
/-- len of such a set -/
def rLenSS (P : Program) (w : World) : List V → Hp → VK → Prop := fun xs H Q => ∃ (a : Addr) (S : Str → Bool) (n : Nat), xs = [.ref a] ∧ H a = some (SetSO P w a S n) ∧ n ≤ 4000 ∧ Q (.int n) H
theorem setS_get {pins : List (Addr × Obj)} {σ : L2.St} {H : Hp} {s : Shared} {a : Addr} {S : Str → Bool} {n : Nat} (I : L2.Inv X pins σ H s) (h : H a = some (SetSO X.prog X.w a S n)) : SetG (PySem.strKind X.prog X.w) s.heap a S n := (I.hok a _ h).1
theorem call_lenSS : CallR X (.builtin "len") (rLenSS X.prog X.w) := by
  intro pins s σ H xs us Q I r h
  obtain ⟨a, S, n, rfl, ha, hl, q⟩ := h
  obtain rfl := Vals.ref1 r
  obtain ⟨o, es, ep, t, ho, hex, hd, _, _, _, _, hf, hn, _⟩ := setS_get I ha
  exact call_len_set ho hex hd hf (by rw [hn]; omega) ⟨.int n, H, I.tok _, ⟨_, by rw [hn]⟩, q⟩
/-- sorted of such a set -/
def rSortedSS (P : Program) (w : World) : List V → Hp → VK → Prop := fun xs H Q => ∃ (a : Addr) (S : Str → Bool) (n : Nat), xs = [.ref a] ∧ H a = some (SetSO P w a S n) ∧ n < 64 ∧
  ∀ (ys : List Str) (p : Addr), ys.Nodup → sortedS ys = true → (∀ k, k ∈ ys ↔ S k = true) → ys.length = n → H p = none → Q (.ref p) (upd H p (.lst (ys.map V.str)))
theorem vals_of_perm {l : List (Int × Value)} {out : List Value} (hk : ∀ e ∈ l, ∃ t, e.snd = Value.str (keyS e.snd) t) (pm : out.Perm (l.map fun x => x.snd)) : ∃ zs : List Str, Vals (zs.map V.str) out ∧ zs.Perm (l.map fun e => keyS e.snd) := by
  refine ⟨out.map keyS, ?_, ?_⟩
  · have ho : ∀ v ∈ out, ∃ t, v = Value.str (keyS v) t := fun v m => by
      obtain ⟨e, me, rfl⟩ := List.mem_map.mp (pm.mem_iff.mp m)
      exact hk e me
    clear pm
    induction out with
    | nil => exact .nil
    | cons v r ih =>
      obtain ⟨t, e⟩ := ho v (List.mem_cons_self ..)
      exact .cons ⟨t, e⟩ (ih fun u m => ho u (List.mem_cons_of_mem _ m))
  · have q := pm.map keyS
    rw [List.map_map] at q
    exact q
theorem cr_sortedSS (hc : X.calm = true) : CallR X (.builtin "sorted") (rSortedSS X.prog X.w) := by
  intro pins s σ H xs us Q I r h
  obtain ⟨a, S, n, rfl, ha, hl, q⟩ := h
  obtain rfl := Vals.ref1 r
  obtain ⟨o, es, ep, t, ho, hex, hd, he, hm, hp, hz, hf, hn, hr, hled⟩ := setS_get I ha
  obtain ⟨k1, k2, k3⟩ := keysOf he hm hp
  refine Calls.call_function_entry kind_sorted plain_sorted entry_sorted (args_sorted1 _) ?_
  refine wpAny_bind (wpAny_pure ?_)
  refine wpAny_bind (collect_set (I.ok.hd hc) ⟨o, ho, hex.1, hd⟩ hf hz hr hled fun s' out keep hsz hg hos pm => ?_)
  obtain ⟨zs, vz, pz⟩ := vals_of_perm k3 pm
  have zl : zs.length = n := by
    have := pz.length_eq
    rw [List.length_map] at this
    rw [this, ← hn]
    exact Array.length_toList
  have I1 : L2.Inv X pins σ H s' := by
    have J := I.kept (t' := s'.toks) keep
    obtain ⟨hp', gn', dr', tk', os'⟩ := s'
    obtain rfl : gn' = s.gens := hg
    obtain rfl : os' = s.os := hos
    exact ⟨J.ok, J.os, J.bare, J.base, J.loc, J.cell, J.free, J.freeC, J.pin, J.hok, J.len⟩
  have ol : out.length = zs.length := (vals_strs vz).1
  have big : zs.length ≤ sizeLine := sizeLine_of (by omega) |> Nat.le_of_lt
  refine wpAny_bind (wpAny_newList ?_ (by rw [ol]; exact big))
  have I2 := I1.lnew (t' := s'.toks) vz (by rw [List.length_map]; exact big)
  have hn1 : H s'.heap.objs.size = none := I1.hok.fresh (Nat.le_refl _)
  refine wpAny_bind (wpAny_holding ?_)
  refine thn (mt_sortS (X := inCx X) pins _ σ _ (.ref s'.heap.objs.size) [] (.ref s'.heap.objs.size) [] (fun v H' => ∃ ys : List Str, ys.Perm zs ∧ sortedS ys = true ∧ H' = upd H s'.heap.objs.size (.lst (ys.map V.str))) (inv_in I2) rfl .nil ⟨_, zs, rfl, rfl, upd_same, by omega, fun ys h1 h2 => ⟨ys, h1, h2, upd_upd⟩⟩) fun v s3 ⟨x, H3, I3, _, ys, py, sy, e3⟩ => ?_
  subst e3
  refine wpAny_pure ⟨_, rfl, .ref s'.heap.objs.size, _, inv_out I3, rfl, ?_⟩
  have pk := py.trans pz
  exact q ys _ (pk.nodup_iff.mpr k1) sy (fun k => (pk.mem_iff).trans (k2 k)) (by rw [py.length_eq, zl]) hn1
end
end My
namespace My
open PySem PySem.Spec PyProof.Rows L2
section
variable {P : Program} {w : World} {X : Cx}
/-! ### set(list of ints) -/
theorem isInt {k : Int} {v : Value} (h : (intKind P w).is k v = true) : ∃ t, v = Value.int k t := by
  cases v with
  | int x t => exact ⟨t, by rw [eq_of_beq (show (x == k) = true from h)]⟩
  | _ => cases (show false = true from h)
theorem setR_of {h : Heap} {a : Addr} {S : Int → Bool} {n : Nat} (G : SetG (intKind P w) h a S n) : SetR w h a S n := by
  obtain ⟨o, es, ep, t, ho, hx, hd, he, hm, hp, hz, hf, hn, hr, hl⟩ := G
  have hk : ∀ e ∈ es.toList, ∃ t, e.snd = Value.int (keyOf e) t ∧ e.fst = hashInt (keyOf e) := fun e m => by
    obtain ⟨⟨k, i, q⟩, _⟩ := he e m
    obtain ⟨t, z⟩ := isInt i
    have kk : keyOf e = k := by
      unfold keyOf
      rw [z]
    rw [kk]
    exact ⟨t, z, q⟩
  have mk : ∀ (k : Int) (t : Tok), (intKind P w).is k (Value.int k t) = true := fun k t => beq_self_eq_true k
  refine ⟨o, es, ep, t, ho, hx, hd, fun e m => ?_, ?_, fun k => ?_, hz, hf, hn, hr, hl⟩
  · obtain ⟨t, z, q⟩ := hk e m
    exact ⟨_, t, z, q⟩
  · refine List.pairwise_map.mpr (hp.imp_of_mem fun {a b} ma mb q e => ?_)
    obtain ⟨t, ta, _⟩ := hk a ma
    obtain ⟨u, tb, _⟩ := hk b mb
    refine q (keyOf a) (by rw [ta]; exact mk _ _) ?_
    rw [e, tb]
    exact mk _ _
  · rw [hm k, List.mem_map]
    constructor
    · rintro ⟨e, m, i⟩
      obtain ⟨t, z⟩ := isInt i
      exact ⟨e, m, by unfold keyOf; rw [z]⟩
    · rintro ⟨e, m, rfl⟩
      obtain ⟨t, z, _⟩ := hk e m
      exact ⟨e, m, by rw [z]; exact mk _ _⟩
theorem vals_ints : ∀ {ns : List Int} {its : List Value}, Vals (ns.map V.int) its → its.length = ns.length ∧ ∀ (i : Nat) (v : Value), its[i]? = some v → ∃ k t, ns[i]? = some k ∧ v = Value.int k t
  | [], its, h => by
    cases h
    exact ⟨rfl, fun i v h => by simp at h⟩
  | x :: ns, its, h => by
    cases h with
    | cons r rr =>
      obtain ⟨t, rfl⟩ := r
      obtain ⟨l, g⟩ := vals_ints rr
      refine ⟨by rw [List.length_cons, List.length_cons, l], fun i v h => ?_⟩
      cases i with
      | zero =>
        cases h
        exact ⟨x, t, rfl, rfl⟩
      | succ i => exact g i v h
def rSetLI (K : PySem.W.Frag) (w : World) : List V → Hp → VK → Prop := fun xs H Q => ∃ (l : Addr) (ns : List Int), xs = [.ref l] ∧ SqL K H l (ns.map V.int) ∧ ns.length ≤ 1000 ∧
  ∀ (p : Addr) (ks : List Int), H p = none → ks.Nodup → (∀ k, k ∈ ks ↔ k ∈ ns) → Q (.ref p) (upd H p (SetO w p (fun j => decide (j ∈ ns)) ks.length))
theorem call_setLI (hc : X.calm = true) : CallR X (.type "set") (rSetLI X.K X.w) := by
  intro pins s σ H xs us Q I r h
  obtain ⟨l, ns, rfl, hq, hl, q⟩ := h
  obtain rfl := Vals.ref1 r
  obtain ⟨its, rv, pt, hz⟩ := I.list hq
  obtain ⟨hlen, hget⟩ := vals_ints rv
  refine call_set_listG (knd := intKind X.prog X.w) ns (I.ok.hd hc) (show s.heap.IsList l its.toArray from pt.isList) (fun i v hv => ?_) (by rw [List.size_toArray, hlen]) (by unfold scanBound; omega) fun h' tk c G hcn k => ?_
  · rw [List.getElem?_toArray] at hv
    obtain ⟨k, t, h1, rfl⟩ := hget i v hv
    exact ⟨k, h1, beq_self_eq_true k, rfl⟩
  · have hn : H s.heap.objs.size = none := I.hok.fresh (Nat.le_refl _)
    have R := setR_of G
    obtain ⟨ks, h1, h2, h3⟩ : ∃ ks : List Int, ks.Nodup ∧ (∀ k, k ∈ ks ↔ k ∈ ns) ∧ ks.length = c := by
      obtain ⟨o, es, ep, t, _, _, _, _, nd, hm, _, _, hn, _⟩ := R
      refine ⟨es.toList.map keyOf, nd, fun k => ?_, ?_⟩
      · rw [← hm k, decide_eq_true_eq]
      · rw [List.length_map, Array.length_toList, hn]
    subst h3
    exact ⟨.ref s.heap.objs.size, _, I.laid (t' := tk) k (Nat.le_refl _) (setO_new R), rfl, q _ ks hn h1 h2⟩
end
end My
namespace My
open PySem L2
theorem call_setLIK {X : Cx} {K : PySem.W.Frag} {w : World} (hK : X.K = K) (hw : X.w = w) (hc : X.calm = true) : CallR X (.type "set") (rSetLI K w) := by
  subst hK hw
  exact call_setLI hc
theorem cr_sortedSetK {X : Cx} {w : World} (hw : X.w = w) (hc : X.calm = true) : CallR X (.builtin "sorted") (rSortedSet w) := by
  subst hw
  exact cr_sortedSet hc
end My
namespace My
open PySem PySem.Spec PyProof.Rows L2
/-! ### set(tuple) -/
section
variable {P : Program} {w : World} {κ : Type} [DecidableEq κ] {knd : PySem.KeyKind P w κ} {A : Around} {E : Value → Shared → Prop} {s : Shared} {a : Addr}
theorem setG_initT {S l : Addr} {items : Array Value} (ks : List κ) {Φ : PySem.Fin → Shared → Prop} (hh : A.handled = none) (hS : s.heap.get? S = some (freshSet w)) (hl : s.heap.IsTuple l items) (hv : ∀ (i : Nat) (v : Value), items[i]? = some v → ∃ k, ks[i]? = some k ∧ knd.is k v = true ∧ v.scannable = true) (hn : items.size = ks.length) (hb : ks.length + 1 < scanBound)
    (h : ∀ (s' : Shared) (c : Nat), SetG knd s'.heap S (fun j => decide (j ∈ ks)) c → c ≤ ks.length → (∀ b o, b ≠ S → s.heap.get? b = some o → s'.heap.get? b = some o) → s'.gens = s.gens → s'.drawn = s.drawn → s'.os = s.os → Φ (Fin.done (Flow.ret .none)) s') :
    wpAny (model P w) A (Builtin.«set.__init__» { pos := [Value.ref S, Value.ref l] }) Φ E s := by
  have hT : s.TypeIs (Value.ref S) "set" := ⟨_, hS, rfl⟩
  have hl0 := hl
  obtain ⟨ol, hol, hlc, nl, hld⟩ := hl
  unfold Builtin.«set.__init__»
  refine wpAny_bind (wpAny_ite_true rfl (wpAny_pure ?_))
  refine wpAny_bind ?_
  refine wpAny_bind (wpAny_bind (wpAny_typeOf hT (wpAny_ite_false rfl (wpAny_pure (wpAny_pure ?_)))))
  unfold checkCount
  refine wpAny_bind (wpAny_ite_false rfl (wpAny_ite_false rfl (wpAny_ite_false rfl (wpAny_pure ?_))))
  refine wpAny_bind (wpAny_pure ?_)
  unfold setUsed
  refine wpAny_bind (wpAny_bind (wpAny_setState_of (es := #[]) hS rfl rfl ?_))
  refine wpAny_pure ?_
  refine wpAny_ite_false rfl ?_
  have hTl : s.TypeIs (Value.ref l) "tuple" := ⟨ol, hol, hlc⟩
  refine wpAny_bind ?_
  unfold Builtin.Frozenset.updateFrom Builtin.Frozenset.isAnySet
  refine wpAny_bind (wpAny_bind (wpAny_isInstance hTl F.sub_tuple_set ?_))
  refine wpAny_isInstance hTl F.sub_tuple_frozenset ?_
  refine wpAny_ite_false rfl ?_
  refine wpAny_bind (wpAny_typeOf hTl ?_)
  refine wpAny_ite_false rfl ?_
  refine wpAny_bind (wpAny_pyIter_tuple hl0 ?_)
  refine wpAny_bind (wpAny_runValue ?_)
  have hlt := Heap.lt_size hol
  have hSt := Heap.lt_size hS
  have hSl : S ≠ l := fun e => by
    rw [e, hol] at hS
    have z : ol.cls = Value.type "set" := by rw [Option.some.inj hS]; rfl
    exact absurd (Value.type.inj (hlc.symm.trans z)) (by decide)
  have W := Walks.toS (Walks.tuple (prog := P) (w := w) (A := A.in1) hh s.heap.objs.size l (Nat.ne_of_lt hlt) items)
  have pS := Heap.get?_push_of_some { cls := Value.type "tuple_iterator", data := Data.fields #[Value.ref l, Value.int 0 0] } hS
  have pl := Heap.get?_push_of_some { cls := Value.type "tuple_iterator", data := Data.fields #[Value.ref l, Value.int 0 0] } hol
  refine setG_update (knd := knd) W S (fun z => ?_) ks hn hb hv _ 0 _ rfl (Nat.zero_le _) ⟨?_, ⟨ol, pl, hlc, nl, hld⟩⟩ ⟨0, Nat.le_refl _, setG_fresh pS ks⟩ fun s' c mv hc hg => ?_
  · rcases List.mem_cons.mp z with z | z
    · exact absurd z (Nat.ne_of_lt hSt)
    · exact hSl (List.mem_singleton.mp z)
  · exact ⟨_, Heap.get?_push_size s.heap rfl, rfl, rfl⟩
  · show wpAny (model P w) A (pure ()) (fun a s' => wpAny (model P w) A ((fun __r => ret Value.none) a) Φ E s') E s'
    refine wpAny_pure ?_
    refine wpAny_pure ?_
    refine h s' c hg (by rw [← hn]; exact hc) (fun b o nb ho => ?_) mv.gens mv.drawn mv.os
    refine mv.heap b o (fun z => ?_) (Heap.get?_push_of_some _ ho)
    rcases List.mem_cons.mp z with z | z
    · exact nb z
    · rw [List.mem_singleton.mp z] at ho
      exact absurd (Heap.lt_size ho) (Nat.lt_irrefl _)
theorem call_set_tupG {l : Addr} {items : Array Value} (ks : List κ) {Q : Value → Shared → Prop} (hh : A.handled = none) (hl : s.heap.IsTuple l items) (hv : ∀ (i : Nat) (v : Value), items[i]? = some v → ∃ k, ks[i]? = some k ∧ knd.is k v = true ∧ v.scannable = true) (hn : items.size = ks.length) (hb : ks.length + 1 < scanBound)
    (h : ∀ (h' : Heap) (tk c : Nat), SetG knd h' s.heap.objs.size (fun j => decide (j ∈ ks)) c → c ≤ ks.length → (∀ b o, s.heap.get? b = some o → h'.get? b = some o) → Q (.ref s.heap.objs.size) { s with heap := h', toks := tk }) : wpAny (model P w) A (call (.type "set") [.ref l]) Q E s := by
  obtain ⟨c, tl, hmro⟩ := F.called_set.mro
  have hmade := F.called_set.made
  have hsub := F.called_set.sub
  have h1 := F.called_set.notType
  have h2 := F.called_set.canCreate
  have hct := F.typeCall_set_1 (Value.ref l)
  refine wpAny_call (codeAny_of_tree ?_)
  refine wpAny_pure ⟨Code.quiet_builtin _ (by decide +kernel), codeAny_builtin F.entry_type_call ?_⟩
  rw [Around.under_plain (weight_type_call_type "set" [.ref l] []) (by with_unfolding_all rfl)]
  unfold Builtin.«type.__call__»
  refine wpAny_ite_false (Eq.refl _) ?_
  refine wpAny_ite_false (Eq.refl _) ?_
  refine wpAny_bind (wpAny_of_eq hct ?_)
  refine wpAny_bind (wpAny_of_eq hmro ?_)
  refine wpAny_ite_false rfl ?_
  refine wpAny_bind (wpAny_of_eq hmade ?_)
  refine wpAny_bind (wpAny_pure ?_)
  refine wpAny_bind (wpAny_holding ?_)
  refine wpAny_call (codeAny_mono (L2.code_set_led1 (E := fun _ _ => False) (Value.ref l) (Q₁ := fun v s₁ => v = .ref s.heap.objs.size ∧ s₁ = { s with heap := s.heap.push { cls := .type "set", data := Data.set #[] 0 (SetTable.fresh 0 0 !w.params.followText "set-order") } }) ⟨rfl, rfl⟩) fun r s₁ hr => ?_)
  obtain ⟨e1, e2⟩ | e3 : (∃ v, r = .ok (.ret v) ∧ v = .ref s.heap.objs.size ∧ s₁ = { s with heap := s.heap.push { cls := .type "set", data := Data.set #[] 0 (SetTable.fresh 0 0 !w.params.followText "set-order") } }) ∨ False := by
    cases r with
    | ok f =>
      cases f with
      | ret v => exact .inl ⟨v, rfl, hr⟩
      | _ => exact .inr hr
    | error e => exact .inr hr
  · obtain ⟨rfl, rfl, rfl⟩ := e2
    have hS := Heap.get?_push_size s.heap (o := { cls := .type "set", data := Data.set #[] 0 (SetTable.fresh 0 0 !w.params.followText "set-order") }) rfl
    have hT : Shared.TypeIs { s with heap := s.heap.push { cls := .type "set", data := Data.set #[] 0 (SetTable.fresh 0 0 !w.params.followText "set-order") } } (Value.ref s.heap.objs.size) "set" := ⟨_, hS, rfl⟩
    have hli := F.called_set.init.lookup
    have hbi := F.called_set.init.bind (Value.ref s.heap.objs.size)
    refine wpAny_bind (wpAny_isInstance hT hsub ?_)
    refine wpAny_ite_false rfl ?_
    refine wpAny_bind (wpAny_holding ?_)
    refine wpAny_bind (wpAny_specialOf hT hli ?_)
    refine wpAny_holding ?_
    refine wpAny_bind (wpAny_of_eq hbi ?_)
    refine wpAny_bind ?_
    refine wpAny_call (codeAny_mono (codeAny_call_builtin F.called_set.init.plain F.entry_set_init (check_set_init_1 hT ?_)) fun r s₂ hr2 => hr2)
    have hl1 : (s.heap.push (freshSet w)).IsTuple l items := by
      obtain ⟨ol, hol, hlc, nl, hld⟩ := hl
      exact ⟨ol, Heap.get?_push_of_some _ hol, hlc, nl, hld⟩
    refine setG_initT (knd := knd) ks hh hS hl1 hv hn hb fun s' c hg hc hk hgn hdr hos => ?_
    refine wpAny_pure ?_
    refine wpAny_ite_false rfl ?_
    refine wpAny_pure ?_
    obtain ⟨hp', gn', dr', tk', os'⟩ := s'
    obtain rfl : gn' = s.gens := hgn
    obtain rfl : dr' = s.drawn := hdr
    obtain rfl : os' = s.os := hos
    refine h hp' tk' c hg hc fun b o ho => hk b o (fun z => ?_) (Heap.get?_push_of_some _ ho)
    rw [z] at ho
    exact absurd (Heap.lt_size ho) (Nat.lt_irrefl _)
  · exact e3.elim
end
section
variable {X : Cx}
def rSetTS (K : PySem.W.Frag) (P : Program) (w : World) : List V → Hp → VK → Prop := fun xs H Q => ∃ (l : Addr) (ws : List Str), xs = [.ref l] ∧ SqT K H l (ws.map V.str) ∧ ws.length ≤ 1000 ∧
  ∀ (p : Addr) (ks : List Str), H p = none → ks.Nodup → (∀ k, k ∈ ks ↔ k ∈ ws) → Q (.ref p) (upd H p (SetSO P w p (fun j => decide (j ∈ ws)) ks.length))
theorem call_setTS (hc : X.calm = true) : CallR X (.type "set") (rSetTS X.K X.prog X.w) := by
  intro pins s σ H xs us Q I r h
  obtain ⟨l, ws, rfl, hq, hl, q⟩ := h
  obtain rfl := Vals.ref1 r
  obtain ⟨its, rv, pt, hz⟩ := I.tuple hq
  obtain ⟨hlen, hget⟩ := vals_strs rv
  refine call_set_tupG (knd := PySem.strKind X.prog X.w) ws (I.ok.hd hc) (show s.heap.IsTuple l its.toArray from pt) (fun i v hv => ?_) (by rw [List.size_toArray, hlen]) (by unfold scanBound; omega) fun h' tk c G hcn k => ?_
  · rw [List.getElem?_toArray] at hv
    obtain ⟨k, t, h1, rfl⟩ := hget i v hv
    exact ⟨k, h1, isStr_mk k t, rfl⟩
  · have hn : H s.heap.objs.size = none := I.hok.fresh (Nat.le_refl _)
    have G' := G
    obtain ⟨o, es, ep, t, _, _, _, he, hm, hp, _, _, hsz, _⟩ := G
    obtain ⟨h1, h2, _⟩ := keysOf he hm hp
    have h3 : (es.toList.map fun e => keyS e.snd).length = c := by rw [List.length_map, Array.length_toList, hsz]
    generalize (es.toList.map fun e => keyS e.snd) = ks at *
    subst h3
    exact ⟨.ref s.heap.objs.size, _, I.laid (t' := tk) k (Nat.le_refl _) (setS_ok G'), rfl, q _ ks hn h1 fun k => by rw [h2 k, decide_eq_true_eq]⟩
theorem call_setTSK {K : PySem.W.Frag} {P : Program} {w : World} (hK : X.K = K) (hP : X.prog = P) (hw : X.w = w) (hc : X.calm = true) : CallR X (.type "set") (rSetTS K P w) := by
  subst hK hP hw
  exact call_setTS hc
end
end My
/-! sorted(xs, key=lambda one: ..), the keys texts: a lambda of one parameter that captures nothing -/
namespace My
open PySem L2 LamX PyProof.Rows
/-- what a key's expression makes of the item v: the text k; nothing that stood is changed -/
def KeyE (prog : Program) (w : World) (scope : Scope) (x : Str) (body : Expr) (R : Heap → Value → Str → Prop) : Prop :=
  ∀ (cenv : Env) (A' : Around) (E' : Value → Shared → Prop) (v : Value) (k : Str) (s₂ : Shared) (m₂ : Str → Option Value), cenv.scope = scope → s₂.heap.Ns cenv.locals m₂ → m₂ x = some v → R s₂.heap v k →
    wpAny (model prog w) A' (eval body cenv) (fun y s₃ => (∃ t, y = .str k t) ∧ Keeps s₂ s₃) E' s₂
/-- the tuple's first is the text -/
def TupK (h : Heap) (v : Value) (k : Str) : Prop := ∃ (t : Addr) (u : Tok) (its : List Value), v = .ref t ∧ IsTup h t (Value.str k u :: its).toArray
theorem tupK_keep {h h' : Heap} {v : Value} {k : Str} (e : ∀ b o, h.get? b = some o → h'.get? b = some o) (r : TupK h v k) : TupK h' v k := by
  obtain ⟨t, u, its, rfl, o, ho, r⟩ := r
  exact ⟨t, u, its, rfl, o, e _ _ ho, r⟩
theorem keeps_tok (s : Shared) (n : Nat) : Keeps s { s with toks := n } := ⟨s.heap, n, rfl, fun _ _ e => e⟩
/-- x[0] -/
theorem key_first {prog : Program} {w : World} {scope : Scope} {x : Str} {j : Nat} {p1 p2 p3 : Pos} (hk : scope.kind = .function) (hl : scope.names.lookup x = some .local) (hd : (x == ("__debug__" : Str)) = false := by decide) :
    KeyE prog w scope x (.Subscript (.Name x p1) (.Constant (.int 0) j p2) p3) TupK := by
  intro cenv A' E' v k s₂ m₂ hs hn hm r
  obtain ⟨t, u, its, rfl, pl⟩ := r
  refine Subscript_ (wpAny_Name (wpAny_loadName_local (by rw [hs]; exact hk) (show cenv.scope.names.lookup x = some .local by rw [hs]; exact hl) hn hm ?_) hd)
  refine wpAny_Constant_int ?_
  refine subscriptTail_builtinR (x := .str k u) (IsTup.typeIs (s := { s₂ with toks := _ }) pl) slot_tuple_getitem.lookup ?_ rfl
  refine getItem_tuple (k := 0) (j := 0) pl (by decide) (by decide) (by show seqIndex? 0 _ = some 0; unfold seqIndex?; simp) (by simp) ⟨rfl, ⟨u, rfl⟩, keeps_tok s₂ _⟩
/-- all but the tables of code objects -/
theorem extN_sql {K : PySem.W.Frag} {H H' : Hp} {a : Addr} {xs : List V} (e : ExtN H H') (h : SqL K H a xs) : SqL K H' a xs := by
  rcases h with (h | ⟨o, h⟩) | h
  · exact .inl (.inl (e _ _ h fun _ z => nomatch z))
  · exact .inl (.inr ⟨o, e _ _ h fun _ z => nomatch z⟩)
  · exact .inr h
theorem extN_imm {H H' : Hp} (e : ExtN H H') : Imm H H' := fun b o h i => e b o h fun ps z => by
  subst z
  cases i
theorem extN_same {H H' : Hp} (e : Same H H') : ExtN H H' := fun b o h _ => e b o h
def keyD (b : V × Str) : PyData := .str b.2
/-- sorted by the keys, equal ones as they stood -/
def sortBy (bs : List (V × Str)) : List (V × Str) := bs.mergeSort (PySem.W.dataLe false keyD)
theorem sortBy_perm (bs : List (V × Str)) : (sortBy bs).Perm bs := List.mergeSort_perm _ _
def tSortLam (K : PySem.W.Frag) (T : List (Addr × Str)) (RK : Hp → V → Str → Prop) (te : TE) : TE := fun σ H Q => te σ H fun v H1 => Tabs T H1 ∧ ∃ (a : Addr) (bs : List (V × Str)), v = .ref a ∧ SqL K H1 a (bs.map (·.1)) ∧ (∀ b ∈ bs, RK H1 b.1 b.2) ∧
  ∀ (p : Addr) (H2 : Hp), ExtN H1 H2 → Tabs T H2 → H2 p = none → Q (.ref p) (upd H2 p (.lst ((sortBy bs).map (·.1))))
section
variable {X : Cx}
theorem pe_sortLam {T : List (Addr × Str)} {te : TE} {c P : Addr} {k : Nat} {e : Expr} {params : Arguments} {body : Expr} {scope : Scope} {x : Str} {p lpos kpos pos : Pos} {R : Heap → Value → Str → Prop} {RK : Hp → V → Str → Prop}
    (hkey : KeyE X.prog X.w scope x body R) (hR : ∀ pins s σ H b u v, Inv X pins σ H s → RK H b u → RelV b v → R s.heap v u) (hRk : ∀ (h h' : Heap) v u, (∀ b o, h.get? b = some o → h'.get? b = some o) → R h v u → R h' v u) (hRe : ∀ H H' b u, ExtN H H' → RK H b u → RK H' b u)
    (hg : Gl X "sorted") (hm : X.mg "sorted" = none) (ha : PE X e te) (TB : TabB X.base X.mg c P) (hcode : X.env.code = .ref c) (hmT : (P, X.env.qual ++ "<lambda>") ∈ T) (hu : ∀ p ∈ T, p.1 = P → p.2 = X.env.qual ++ "<lambda>") (hr : Room k X.A)
    (hdef : defaultsOf params X.env = ([], [])) (hkind : scope.kind = .function) (hco : scope.isCoroutine = false) (hgen : scope.isGenerator = false) (hnames : ∀ y ∈ scope.names, y.2 ≠ .free ∧ y.2 ≠ .cell) (hx : scope.names.lookup x = some .local)
    (hbind : ∀ (q : Str) (cl : List (Str × Addr)) (pm cv ctv v : Value), bindArgs (PySem.W.kla_fn "<lambda>" q params body scope cl pm cv ctv) ⟨[v], []⟩ = pure [(x, v)])
    (hst : starEach [e] X.env = (false, eval e X.env) :: starEach [] X.env := by rfl) (he : backTo pos (starEach [e] X.env) = (false, eval e X.env) :: backTo pos (starEach [] X.env) := by rfl) (hpl : (backTo pos (starEach [e] X.env)).any (·.1) = false := by rfl) :
    PE X (.Call (.Name "sorted" p) [e] [⟨some "key", .Lambda params body scope lpos, kpos⟩] pos) (tSortLam X.K T RK te) := by
  refine ⟨fun pins s σ H Q I h => ?_⟩
  refine wpAny_Call_Name_kw (ld_blt (u := .builtin "sorted") I hg hm (by decide +kernel) ?_ (by decide) (by decide))
  refine PyProof.Rows.callWith_kw (thn ((pa_cons ha pa_nil hst).run pos pins s σ H (fun vs H1 => match vs with | [v] => Tabs T H1 ∧ ∃ (a : Addr) (bs : List (V × Str)), v = .ref a ∧ SqL X.K H1 a (bs.map (·.1)) ∧ (∀ b ∈ bs, RK H1 b.1 b.2) ∧ ∀ (p : Addr) (H2 : Hp), ExtN H1 H2 → Tabs T H2 → H2 p = none → Q (.ref p) (upd H2 p (.lst ((sortBy bs).map (·.1)))) | _ => False) I h) fun us s1 ⟨vs, H1, I1, r1, q1⟩ => ?_) he hpl rfl rfl
  obtain ⟨v, rfl⟩ : ∃ v, vs = [v] := by
    match vs, q1 with
    | [v], _ => exact ⟨v, rfl⟩
  obtain ⟨hT, a, bs, rfl, hL, hK, q⟩ := q1
  obtain rfl := Vals.ref1 r1
  show wpAny _ _ (evalAll [do let v ← eval (.Lambda params body scope lpos) X.env; standAt pos; pure v]) _ _ s1
  refine wpAny_evalAll_cons (wpAny_bind (lam_make2 I1 TB hcode hmT hu hT hdef (fun y hy z => absurd z (hnames y hy).1) fun f c' pm ctv H2 s2 I2 eN T2 hf hfn hfr hco' => wpAny_bind (wpAny_standAt (wpAny_pure (wpAny_evalAll_nil ?_)))))
  show wpAny (model X.prog X.w) X.A (call (.builtin "sorted") [.ref a] [("key", .ref f)]) _ _ s2
  have hL2 := extN_sql eN hL
  obtain ⟨its, rv, hl, hz⟩ := I2.list hL2
  obtain ⟨⟨oc, cvs, ct, hoc, hdc, hvc⟩, _, _⟩ := I2.hok c' _ hco'
  have hbs : ∀ (l : List (V × Str)) (us : List Value), Vals (l.map (·.1)) us → (∀ b ∈ l, b ∈ bs) → PySem.W.EachIs (fun (v : Value) (b : V × Str) => RelV b.1 v ∧ R s2.heap v b.2) us l := by
    intro l
    induction l with
    | nil =>
      intro us r _
      cases r
      exact .nil
    | cons b l ih =>
      intro us r m
      cases r with
      | cons r1 r2 => exact .cons ⟨r1, hR pins s2 σ H2 b.1 b.2 _ I2 (hRe _ _ _ _ eN (hK b (m b (.head _)))) r1⟩ (ih _ r2 fun b' h' => m b' (.tail _ h'))
  have e := hbs bs its rv fun _ h => h
  refine PySem.W.sorted_key_data (R := fun (v : Value) (b : V × Str) => RelV b.1 v ∧ R s2.heap v b.2) (b := false) keyD hl.isList e ?_ ?_ ?_ ?_ (PyProof.Rows.ksk_s1 _ _) (fun _ => PyProof.Rows.ksk_l1 _ _) (fun x => PyProof.Rows.ksk_t1 f x) (fun v b hb hm' g tk kp => ?_) fun out cc h' tk kp hn hD hlen hout => ?_
  · intro d hd d' hd'
    obtain ⟨b, _, rfl⟩ := List.mem_map.mp hd
    obtain ⟨b', _, rfl⟩ := List.mem_map.mp hd'
    rfl
  · refine .inr fun d hd => ?_
    obtain ⟨b, _, rfl⟩ := List.mem_map.mp hd
    exact ⟨nofun, fun _ => nofun⟩
  · rw [List.length_map] at hz
    exact hz
  · intro b _
    have := hr.units
    show X.A.units + 2 + (PyData.str b.2).depth < _
    have z : (PyData.str b.2).depth ≤ 1 := by show _ ≤ 1; simp [PyData.depth]
    omega
  · have of1 := kp _ _ hf
    refine wpAny_call ?_
    refine PySem.W.kla_callFunE (by have := hr.dp; show X.A.depth < _; omega) of1 rfl hco hgen rfl ⟨c', oc, cvs, ct, rfl, kp _ _ hoc, hdc, hvc⟩ ?_
    rw [hbind]
    refine wpAny_pure (wpAny_newFunctionEnv (fun y hy => (hnames y hy).2) (fun y hy => ?_) (fun h₁ hns hsb => ⟨(I2.nolimit.keeps kp).fresh _ hsb, ?_⟩) hkind)
    · obtain rfl := List.mem_singleton.mp hy
      exact hx
    · have kp1 : ∀ b o, g.get? b = some o → h₁.get? b = some o := fun b o e => hsb.extBut b o (Nat.ne_of_lt (Heap.lt_size e)) (Heap.get?_push_of_some _ e)
      refine PySem.W.kla_codeExpr (wpAny_mono (hkey _ _ (fun _ _ => False) v b.2 _ _ rfl hns (by simp) (hRk _ _ _ _ kp1 (hRk _ _ _ _ kp hb.2))) (fun y s3 hq => ?_) fun _ _ z => z.elim)
      obtain ⟨⟨t, rfl⟩, h3, tk3, rfl, kp3⟩ := hq
      exact ⟨h3, tk3, rfl, fun b o e => kp3 b o (kp1 b o e), .str _ _⟩
  · have hv : ∀ (l : List (V × Str)) (us : List Value), PySem.W.EachIs (fun (v : Value) (b : V × Str) => RelV b.1 v ∧ R s2.heap v b.2) us l → Vals (l.map (·.1)) us := by
      intro l us e
      induction e with
      | nil => exact .nil
      | cons r _ ih => exact .cons r.1 ih
    refine ⟨.ref _, upd H2 (s2.heap.objs.size + 1) (.lst ((sortBy bs).map (·.1))), I2.laid (t' := tk) kp (Nat.le_succ _) ⟨?_, out, cc, hv _ _ hout, hD⟩, rfl, q _ H2 eN T2 (I2.hok.fresh (Nat.le_succ _))⟩
    rw [List.length_map, (sortBy_perm bs).length_eq]
    rw [List.length_map] at hz
    exact hz
end
/-- the item is a tuple whose first is the text -/
def RKt (K : PySem.W.Frag) (H : Hp) (x : V) (k : Str) : Prop := ∃ (t : Addr) (xs : List V), x = .ref t ∧ SqT K H t (.str k :: xs)
section
variable {X : Cx}
/-- sorted(xs, key=lambda x: x[0]), the items tuples whose first is a text -/
theorem pe_sortFirst {te : TE} {c P : Addr} {k : Nat} {e : Expr} {params : Arguments} {scope : Scope} {x : Str} {j : Nat} {p p1 p2 p3 lpos kpos pos : Pos}
    (hg : Gl X "sorted") (hm : X.mg "sorted" = none) (ha : PE X e te) (TB : TabB X.base X.mg c P) (hcode : X.env.code = .ref c) (hr : Room k X.A)
    (hdef : defaultsOf params X.env = ([], []) := by rfl) (hkind : scope.kind = .function := by rfl) (hco : scope.isCoroutine = false := by rfl) (hgen : scope.isGenerator = false := by rfl) (hnames : ∀ y ∈ scope.names, y.2 ≠ .free ∧ y.2 ≠ .cell := by decide +kernel) (hx : scope.names.lookup x = some .local := by rfl)
    (hbind : ∀ (q : Str) (cl : List (Str × Addr)) (pm cv ctv v : Value), bindArgs (PySem.W.kla_fn "<lambda>" q params (.Subscript (.Name x p1) (.Constant (.int 0) j p2) p3) scope cl pm cv ctv) ⟨[v], []⟩ = pure [(x, v)] := by intros; rfl)
    (hd : (x == ("__debug__" : Str)) = false := by decide) (hst : starEach [e] X.env = (false, eval e X.env) :: starEach [] X.env := by rfl) (he : backTo pos (starEach [e] X.env) = (false, eval e X.env) :: backTo pos (starEach [] X.env) := by rfl) (hpl : (backTo pos (starEach [e] X.env)).any (·.1) = false := by rfl) :
    PE X (.Call (.Name "sorted" p) [e] [⟨some "key", .Lambda params (.Subscript (.Name x p1) (.Constant (.int 0) j p2) p3) scope lpos, kpos⟩] pos) (tSortLam X.K [(P, X.env.qual ++ "<lambda>")] (RKt X.K) te) := by
  refine pe_sortLam (x := x) (R := TupK) (RK := RKt X.K) (key_first hkind hx hd) (fun pins s σ H b u v I r rv => ?_) (fun h h' v u e r => tupK_keep e r) (fun H H' b u e r => ?_) hg hm ha TB hcode (.head _) (fun q hq _ => by rw [List.mem_singleton.mp hq]) hr hdef hkind hco hgen hnames hx hbind hst he hpl
  · obtain ⟨t, xs, rfl, hT⟩ := r
    obtain rfl : v = .ref t := rv
    obtain ⟨its, vs, pl, _⟩ := I.tuple hT
    cases vs with
    | cons r1 r2 =>
      obtain ⟨tk, rfl⟩ := r1
      exact ⟨t, tk, _, rfl, pl⟩
  · obtain ⟨t, xs, rfl, hT⟩ := r
    exact ⟨t, xs, rfl, (extN_imm e).seqT hT⟩
end
end My
namespace My
open PySem L2 LamX PyProof.Rows
/-- the rule for a def, its own code told -/
theorem _root_.L2.Fun.okC {P : Program} {w : World} {K : PySem.W.Frag} {mg : Str → Option Value} {base : Heap} {x qual : Str} {st : Stmt} {f : Addr} {fd : FuncData} {N ps : List Str} {k : Nat} {sp : Sp} (F : L2.Fun K x qual st f fd) (S : FnScope N ps (defScope st)) (len : ∀ vs H Q E, sp vs H Q E → vs.length = ps.length)
    (hbody : ∀ (A : Around) (outer : List Env) (s : Shared) (H : Hp) (vs : List V) (Q : VK) (E : XK), Room k (A.deeper (envOfC qual (defScope st) s.heap.objs.size f fd.code)) → sp vs H Q E →
      ∃ t, PSs (cxOf CX0 P w K mg base N qual (defScope st) f fd.code A outer s H E).nox (defBody st) t ∧ t { nx := fun _ H' => Q .non H', rt := Q } (start N vs) H) : FnOk P w K mg base CX0 (k + 1) f fd ps sp := by
  obtain ⟨oc, od, kV, doc, pm, an, cdv, ct, osl, rfl, lk, hcd⟩ := F.ex
  refine fn_of lk hcd S len fun A outer s H vs Q E hr hsp => ?_
  obtain ⟨t, h, q⟩ := hbody A outer s H vs Q E hr hsp
  exact ⟨t, h.nox, q⟩
/-- all but r and the tables -/
def ButN (r : Addr) (H H' : Hp) : Prop := ∀ b o, H b = some o → b ≠ r → (∀ ps, o ≠ .tbl ps) → H' b = some o
theorem ButN.of {r : Addr} {H H' : Hp} (b : But r H H') : ButN r H H' := fun c o h n _ => b c o h n
theorem ButN.ext {r : Addr} {H H1 H' : Hp} (b : But r H H1) (e : ExtN H1 H') : ButN r H H' := fun c o h n m => e c o (b c o h n) m
end My
namespace My
open PySem L2 LamX PyProof.Rows
theorem cut_take (xs : List V) (n : Nat) : cutV xs none (some (n : Int)) = xs.take n := by
  unfold cutV
  rw [show HT.sIx xs.length xs.length (some (n : Int)) = min n xs.length from HT.sIx_nat xs.length xs.length n, HT.sIx_none]
  show (xs.drop 0).take (min n xs.length - 0) = xs.take n
  rw [List.drop_zero, Nat.sub_zero]
  by_cases h : n ≤ xs.length
  · rw [Nat.min_eq_left h]
  · rw [Nat.min_eq_right (by omega), List.take_of_length_le (Nat.le_refl _), List.take_of_length_le (by omega)]
end My
namespace My
open PySem L2
section
variable {K : PySem.W.Frag} {H : Hp} {x y : V} {d : PyData} {Q : VK}
/-! ### equal data -/
theorem eqv_self (s : SeqAt.shaped d = true) : d.eqv d = true := by
  unfold SeqAt.shaped at s
  rw [Bool.and_eq_true] at s
  exact PySem.SeqAt.eqv_refl d s.1
theorem rNeD_self (h1 : Dp K H x d) (h2 : Dp K H y d) (s : SeqAt.shaped d = true) (q : Q (.bl false) H) : rNeD K x y H Q := ⟨d, d, h1, h2, s, s, by rw [eqv_self s]; exact q⟩
theorem rEqD_self (h1 : Dp K H x d) (h2 : Dp K H y d) (s : SeqAt.shaped d = true) (q : Q (.bl true) H) : rEqD K x y H Q := ⟨d, d, h1, h2, s, s, by rw [eqv_self s]; exact q⟩
/-- data of depth two: a tuple of scalars and tuples of ints -/
theorem can_app : ∀ a b : List PyData, PyData.canLayAll0 (a ++ b) = (PyData.canLayAll0 a && PyData.canLayAll0 b)
  | [], _ => (Bool.true_and _).symm
  | x :: r, b => by
    show (x.canLay0 && PyData.canLayAll0 (r ++ b)) = _
    rw [can_app r b]
    exact (Bool.and_assoc _ _ _).symm
end
end My
namespace My
open PySem PySem.Spec PyProof.Rows L2
/-! ### sets that grow: s.add(e), {e for ..}; of any kind of keys -/
/-- a kind of keys, as values -/
structure ZK (κ : Type) [DecidableEq κ] where
  kd : ∀ (P : Program) (w : World), KeyKind P w κ
  val : κ → V
  ok : ∀ (P : Program) (w : World) (k : κ) (v : Value), RelV (val k) v → (kd P w).is k v = true ∧ v.scannable = true
section
variable {κ : Type} [DecidableEq κ] (Z : ZK κ) {P : Program} {w : World} {X : Cx}
/-- the set at a: its members, how many -/
def SetZ (P : Program) (w : World) (a : Addr) (S : κ → Bool) (n : Nat) : HO := .ext fun h => SetG (Z.kd P w) h a S n
theorem setZ_ok {H : Hp} {h : Heap} {a : Addr} {S : κ → Bool} {n : Nat} (g : SetG (Z.kd P w) h a S n) : ObjOk P w H h a (SetZ Z P w a S n) := by
  have g' := g
  obtain ⟨o, _, _, _, ho, _⟩ := g'
  exact ⟨g, ⟨o, ho⟩, fun _ _ q k => q.stay k⟩
/-- with one more -/
def more (S : κ → Bool) (k : κ) : κ → Bool := fun j => S j || decide (j = k)
def moreN (S : κ → Bool) (k : κ) (n : Nat) : Nat := if S k = true then n else n + 1
/-- set.add: the object grows, nothing else does -/
theorem setZ_add {A : Around} {E : Value → Shared → Prop} {s : Shared} {a : Addr} {S : κ → Bool} {n : Nat} {k : κ} {v : Value} {Q : Value → Shared → Prop} (hv : RelV (Z.val k) v) (G : SetG (Z.kd P w) s.heap a S n) (hn : n + 1 < scanBound)
    (c : ∀ h', Heap.SameBut a s.heap h' → SetG (Z.kd P w) h' a (more S k) (moreN S k n) → Q .none { s with heap := h', toks := s.toks + 1 }) : wpAny (model P w) A (call (.builtin "set.add") [.ref a, v]) Q E s := by
  obtain ⟨his, hsc⟩ := Z.ok P w k v hv
  have hT : s.TypeIs (.ref a) "set" := by
    obtain ⟨o, _, _, _, ho, hx, _⟩ := G
    exact ⟨o, ho, hx.1⟩
  refine wpAny_call_entry F.slot_set_add hT F.entry_set_add ?_ (F.args_set_add_2 _ _)
  unfold Builtin.«set.add» Builtin.Frozenset.oneOther Builtin.Frozenset.addrOf setAdd
  simp only [List.isEmpty_nil, bind_assoc]
  refine wpAny_bind (wpAny_pure (wpAny_bind (wpAny_pure (wpAny_bind (wpAny_holding (wpAny_bind ((Z.kd P w).pyHash his ?_)))))))
  exact setG_add_hashed (s := { s with toks := s.toks + 1 }) his hsc G hn fun h' sb g => wpAny_pure ⟨_, rfl, c h' sb g⟩
/-- .. where the set is tracked -/
theorem setZ_grows {pins : List (Addr × Obj)} {σ : L2.St} {H : Hp} {s : Shared} {E : Value → Shared → Prop} {a : Addr} {S : κ → Bool} {n : Nat} {k : κ} {v : Value} {Q : Value → Shared → Prop} (I : Inv X pins σ H s) (ha : H a = some (SetZ Z X.prog X.w a S n)) (hv : RelV (Z.val k) v) (hn : n + 1 < scanBound)
    (c : ∀ s', Inv X pins σ (upd H a (SetZ Z X.prog X.w a (more S k) (moreN S k n))) s' → Q .none s') : wpAny (model X.prog X.w) X.A (call (.builtin "set.add") [.ref a, v]) Q E s := by
  have G : SetG (Z.kd X.prog X.w) s.heap a S n := (I.hok a _ ha).1
  refine setZ_add Z hv G hn fun h' sb g => c _ ?_
  have g' := g
  obtain ⟨o, _, _, _, ho, _⟩ := g'
  refine I.write (x := a) (e := a) (t' := s.toks + 1) (by rw [ha]; exact True.intro) (Or.inl rfl) (fun b u hb hu => ?_) ⟨o, ho⟩ (setZ_ok Z g)
  rw [sb.2 b hb]
  exact hu
/-- a.add(e) -/
def tGrow (P : Program) (w : World) (to te : TE) : TE := fun σ H Q => to σ H fun x H1 => ∃ a : Addr, x = .ref a ∧ (∃ S n, H1 a = some (SetZ Z P w a S n)) ∧ te σ H1 fun y H2 => ∃ (k : κ) (S : κ → Bool) (n : Nat), y = Z.val k ∧ H2 a = some (SetZ Z P w a S n) ∧ n ≤ 2000 ∧ Q .non (upd H2 a (SetZ Z P w a (more S k) (moreN S k n)))
theorem pe_grow {o e : Expr} {to te : TE} {apos cpos : Pos} (ho : PE X o to) (ha : PE X e te) (hbase : attributeBase o "add" X.env (eval o X.env) = eval o X.env := by rfl)
    (hfew : ((backTo cpos (starEach [e] X.env)).all (fun x => !x.1) && (backToKw cpos (keywordEach [] X.env)).all (fun x => x.1.isSome) && decide ([e].length + ([] : List Keyword).length + (if ([] : List Keyword).isEmpty then 0 else 1) < 30)) = true := by rfl)
    (hline : (apos.endLine == cpos.line) = true := by rfl) (hs : starEach [e] X.env = (false, eval e X.env) :: starEach [] X.env := by rfl) : PE X (.Call (.Attribute o "add" apos) [e] [] cpos) (tGrow Z X.prog X.w to te) := by
  refine ⟨fun pins s σ H Q I h => wpAny_Call_method_late hbase hfew hline rfl (thn (ho.run pins s σ H _ I h) fun v s1 ⟨x, H1, I1, r1, a, ex, ⟨S0, n0, h0⟩, q1⟩ => ?_)⟩
  subst ex
  obtain rfl : v = .ref a := r1
  have G0 : SetG (Z.kd X.prog X.w) s1.heap a S0 n0 := (I1.hok a _ h0).1
  obtain ⟨o0, es0, ep0, t0, ho0, hx0, _⟩ := G0
  refine ⟨"set", "set.add", F.plainAttrs_set, F.slot_set_add, F.type_set_add, ⟨o0, ho0, hx0.1⟩, fun b hb => ⟨o0, by cases hb; exact ho0, hx0.2.1⟩, ?_⟩
  rw [hs]
  refine Calls.callWith_builtin (by rfl) (Calls.evalArgs_plain ?_)
  refine Calls.spliced_cons (thn (ha.run pins s1 σ H1 _ I1 q1) fun u s2 ⟨y, H2, I2, r2, k, S, n, ey, h2, hn, q2⟩ => Calls.spliced_nil ?_)
  subst ey
  exact setZ_grows Z I2 h2 r2 (by unfold scanBound; omega) fun s' I' => ⟨.non, _, I', rfl, q2⟩
/-- an empty set, just made -/
theorem setZ_zero {h : Heap} : SetG (Z.kd P w) (h.push (freshSet w)) h.objs.size (fun _ => false) 0 :=
  (setG_fresh (knd := Z.kd P w) (Heap.get?_push_size h rfl) []).to fun k => by rw [List.take_nil]; exact decide_eq_false List.not_mem_nil
/-- {e for t in i if c ..}: J the thing walked over, D the new set, W what holds between the turns -/
def tSetZ (P : Program) (w : World) (wi : TI) (g : TG) (tt : TT) (te : TE) (vs : List Nat) : TE := fun σ H Q => wi σ H fun J H1 => ∀ D, H1 D = none → ∃ W : Nat → Nat → Hp → Prop, (∃ m, W 0 m (upd H1 D (SetZ Z P w D (fun _ => false) 0))) ∧ ∀ i m H, W i m H →
  (J.stop i H ∧ Q (.ref D) H) ∨ (J.go i H ∧ ∃ Nx : Hp → Prop, (∀ H', Nx H' → ∃ m', m' < m ∧ W (i + 1) m' H') ∧ ∀ x H', J.yld i H x H' → g x (wipe σ vs) H' fun σ2 H2 => wipe σ2 vs = wipe σ vs ∧ tt σ2 H2 fun b H3 =>
    if b = true then te σ2 H3 fun y H4 => ∃ (k : κ) (S : κ → Bool) (n : Nat), y = Z.val k ∧ H4 D = some (SetZ Z P w D S n) ∧ n ≤ 2000 ∧ Nx (upd H4 D (SetZ Z P w D (more S k) (moreN S k n))) else Nx H3)
theorem pe_setZ {elt tg iter : Expr} {ifs : List Expr} {scope : Scope} {own : List (Str × Nat)} {pos : Pos} {wi : TI} {g : TG} {tt : TT} {te : TE} (calm : X.calm = true) (nd : X.N.Nodup) (walks : PI X tg iter wi) (ok : BlkOk X.N X.env.scope scope own)
    (target : ∀ s H C cl fp, PG (X.blk s H scope (compEnvC scope cl C X.env) fp) tg g) (tests : ∀ s H C cl fp, PTs (X.blk s H scope (compEnvC scope cl C X.env) fp) ifs tt) (elem : ∀ s H C cl fp, PE (X.blk s H scope (compEnvC scope cl C X.env) fp) elt te)
    (hs : ∀ x, foldedSetIterable iter X.env x = pure x := by intro _; rfl) : PE X (.SetComp elt [⟨tg, iter, ifs, 0⟩] scope pos) (tSetZ Z X.prog X.w wi g tt te (own.map (·.2))) := by
  refine ⟨fun pins s σ H Q I spec => ?_⟩
  rw [PpSet.eval_SetComp]
  have caught : ∀ y ∈ scope.names, y.2 = .free → ∃ c, X.env.cells.lookup y.1 = some c := fun y hy e => (ok.free y hy e).elim (fun k => I.ok.has _ (.inl k)) fun k => I.ok.has _ (.inr k)
  refine wpAny_comprehension_free rfl hs (closure_ok caught) ok.kind (fun y hy e => by rw [ok.uniq y hy, e]) (thn (walks.run pins s σ H _ I spec) fun v0 s1 at1 => thn at1 fun v1 s2 at2 => ?_)
  obtain ⟨it, fp, tn, J, H2, rfl, I2, T, tn2, apart, spec2⟩ := at2
  refine PpSet.newSet_ok (newEnv_comp ?_)
  have free2 : H2 s2.heap.objs.size = none := I2.hok.fresh (Nat.le_refl _)
  have inside : ∀ b ∈ fp, b < s2.heap.objs.size := fun b hb => let ⟨_, e, _⟩ := T.obj _ _ tn2 b hb; Heap.lt_size e
  obtain ⟨W, ⟨m0, w0⟩, turn⟩ := spec2 _ free2
  -- the state with the new set
  have I3 := I2.laid (t' := s2.toks) (o := SetZ Z X.prog X.w s2.heap.objs.size (fun _ => false) 0) (h' := s2.heap.push (freshSet X.w)) (fun _ _ e => Heap.get?_push_of_some _ e) (Nat.le_refl _) (setZ_ok Z (setZ_zero Z))
  have apart3 : ∀ b ∈ fp, FpOk X pins (upd H2 s2.heap.objs.size (SetZ Z X.prog X.w s2.heap.objs.size (fun _ => false) 0)) b ∧ b < (s2.heap.push (freshSet X.w)).objs.size := fun b hb => by
    have lt := inside b hb
    have ne : b ≠ s2.heap.objs.size := Nat.ne_of_lt lt
    exact ⟨⟨(upd_ne ne).trans (apart b hb).1, (apart b hb).2⟩, by rw [Heap.size_push]; exact Nat.lt_succ_of_lt lt⟩
  have tn3 : tn 0 (s2.heap.push (freshSet X.w)) := T.keep _ _ _ tn2 fun b _ o e => Heap.get?_push_of_some _ e
  have I4 := block_start I3 ok nd apart3
  have tn4 : tn 0 (pushCells ((s2.heap.push (freshSet X.w)).push { cls := .type "dict", data := .dict #[] }) scope.names) := T.keep _ _ _ tn3 fun b _ o e => pushCells_keeps _ _ _ _ (Heap.get?_push_of_some _ e)
  have none3 : ∀ b ∈ fp, (upd H2 s2.heap.objs.size (SetZ Z X.prog X.w s2.heap.objs.size (fun _ => false) 0)) b = none := fun b hb => (apart3 b hb).1.1
  generalize s2.heap.objs.size = D at *
  generalize upd H2 D (SetZ Z X.prog X.w D (fun _ => false) 0) = H3 at *
  show codeAny (model X.prog X.w) X.A (.compStart (.SetComp elt [⟨tg, iter, ifs, 0⟩] scope pos) 0 (.ref it) (.ref D) (compEnvC scope (cellsFrom ((s2.heap.push (freshSet X.w)).objs.size + 1) scope.names (cloFrom X.env.cells scope.names [])) (s2.heap.push (freshSet X.w)).objs.size X.env)) _ _
  generalize hs3 : ({ s2 with heap := s2.heap.push (freshSet X.w) } : Shared) = s3 at I3 I4
  have e3 : s2.heap.push (freshSet X.w) = s3.heap := by rw [← hs3]
  rw [e3] at tn4 ⊢
  generalize hce : compEnvC scope (cellsFrom (s3.heap.objs.size + 1) scope.names (cloFrom X.env.cells scope.names [])) s3.heap.objs.size X.env = ce
  have T1 := target s3 H3 s3.heap.objs.size (cellsFrom (s3.heap.objs.size + 1) scope.names (cloFrom X.env.cells scope.names [])) fp
  have T2 := tests s3 H3 s3.heap.objs.size (cellsFrom (s3.heap.objs.size + 1) scope.names (cloFrom X.env.cells scope.names [])) fp
  have T3 := elem s3 H3 s3.heap.objs.size (cellsFrom (s3.heap.objs.size + 1) scope.names (cloFrom X.env.cells scope.names [])) fp
  rw [hce] at T1 T2 T3 I4
  have own_ : ce.locals = s3.heap.objs.size := by rw [← hce]; rfl
  have aside : ∀ {σ' : L2.St} {H' : Hp} {s' : Shared}, Inv (X.blk s3 H3 scope ce fp) [] σ' H' s' → (∀ b ∈ fp, H' b = none) → ∀ b ∈ fp, FpOk (X.blk s3 H3 scope ce fp) [] H' b := fun J' n b hb =>
    ⟨n b hb, (J'.ok.exf b hb).1, J'.ok.exfs b hb, Or.inl hb, fun x c e => (J'.ok.exf b hb).2 x c e, fun p hp => absurd (show p ∈ ([] : List (Addr × Obj)) ++ [] from hp) List.not_mem_nil⟩
  have whole : codeAny (model X.prog X.w) X.A (.compLoop (.SetComp elt [⟨tg, iter, ifs, 0⟩] scope pos) 0 (.ref it) (.ref D) ce) (compPost (model X.prog X.w) X.A X.xe none (EP X pins σ Q) (.ref D) s3.heap.objs.size) { s2 with heap := pushCells (s3.heap.push { cls := .type "dict", data := .dict #[] }) scope.names } := by
    refine PpSet.compLoopS_any (fun m s' => ∃ i H', Inv (X.blk s3 H3 scope ce fp) [] (wipe σ (own.map (·.2))) H' s' ∧ tn i s'.heap ∧ (∀ b ∈ fp, H' b = none) ∧ W i m H') (fun m s' ⟨i, H', J', tn', none', w'⟩ => ?_) m0 ⟨0, H3, by subst hs3; exact I4, tn4, none3, w0⟩
    rcases turn i m H' w' with ⟨stop, q⟩ | ⟨go, Nx, next, step⟩
    · refine thnF (T.done (X.blk s3 H3 scope ce fp) rfl rfl rfl calm i [] s' _ H' (fun _ _ => False) J' (aside J' none') tn' stop) fun r s'' ⟨er, J''⟩ => ?_
      subst er
      have back : Inv X pins σ H' s'' := I3.call' (ch := fp) J''.os J''.base J''.hok J''.bare fun b hb => ⟨(apart3 b hb).1.2.2.2.1, (apart3 b hb).1.2.1, (apart3 b hb).1.2.2.2.2.1, (apart3 b hb).1.2.2.2.2.2⟩
      have none'' : H' s3.heap.objs.size = none := by
        rw [← own_]
        exact J''.free
      obtain ⟨names, at_, _⟩ := J''.loc
      have at' : s''.heap.Ns s3.heap.objs.size names := by
        rw [← own_]
        exact at_
      obtain ⟨f0, f1, f2, f3, f4, f5⟩ := I3.fpOk (b := s3.heap.objs.size) (Nat.le_refl _) none''
      exact ⟨names, at', fun h2 sb => ⟨.ref D, H', back.turned (t' := s''.toks) (fun b o hb e => (sb.2 b hb).trans e) f0 f1 f3 f4 f5, rfl, q⟩⟩
    · refine thnF (T.item (X.blk s3 H3 scope ce fp) rfl rfl rfl calm i [] s' _ H' (fun _ _ => False) J' (aside J' none') tn' go) fun r s'' ⟨u, er, item⟩ => ?_
      subst er
      refine thnF item fun _ s5 ⟨x, H5, J5, rx, yx, tn5, none5⟩ => ?_
      have J5p := J5.pinned (aside J5 none5) (T.obj _ _ tn5)
      refine thnF (T1.run _ s5 _ H5 x u _ J5p rx (step x H5 yx)) fun _ s6 ⟨σ6, H6, J6, wiped, q6⟩ => ?_
      refine thnF (T2.run _ s6 σ6 H6 _ J6 q6) fun b s7 ⟨H7, J7, q7⟩ => ?_
      have ends : ∀ {s8 : Shared} {H8 : Hp}, Inv (X.blk s3 H3 scope ce fp) ([] ++ pinsAt fp s5.heap) σ6 H8 s8 → Nx H8 → ∃ m', m' < m ∧ ∃ i H', Inv (X.blk s3 H3 scope ce fp) [] (wipe σ (own.map (·.2))) H' s8 ∧ tn i s8.heap ∧ (∀ b ∈ fp, H' b = none) ∧ W i m' H' := fun {s8 H8} J8 nx => by
        obtain ⟨m', less, w8⟩ := next H8 nx
        have stays : ∀ b ∈ fp, ∀ o, s5.heap.get? b = some o → s8.heap.get? b = some o ∧ H8 b = none := fun b hb o e => by
          obtain ⟨a1, a2, _⟩ := J8.pin (b, o) (List.mem_append_right _ (List.mem_append_right _ (mem_pinsAt hb e)))
          exact ⟨a1, a2⟩
        refine ⟨m', less, i + 1, H8, (J8.unpinned (pins := [])).weak (by rw [← wiped, wipe_length]) (fun j v e => (wipe_some (by rw [wiped]; exact e)).1), T.keep _ _ _ tn5 fun b hb o e => (stays b hb o e).1, fun b hb => ?_, w8⟩
        obtain ⟨o, e, _⟩ := T.obj _ _ tn5 b hb
        exact (stays b hb o e).2
      cases b with
      | false => exact ends J7 q7
      | true =>
        refine thnF (T3.run _ s7 σ6 H7 _ J7 q7) fun z s8 ⟨yv, H8, J8, ry, k, S, n, ey, hD, hn, nx⟩ => ?_
        subst ey
        exact setZ_grows Z (X := X.blk s3 H3 scope ce fp) J8 hD ry (by unfold scanBound; omega) fun s9 J9 => ends J9 nx
  have r := PpSet.codeAny_compStart_set whole (T.self X.A 0 _ _ _ tn4 whole)
  subst hs3
  exact r
/-- .. where the elements are told by a function, and nothing that stands is changed -/
theorem sz_fn {J : It} {n : Nat} {G : Hp → Prop} {Y : Nat → Hp → V → Hp → Prop} (wk : Walk J n G Y) {g : TG} {tt : TT} {te : TE} {vs : List Nat} {σ : L2.St} {H1 : Hp} {D : Addr} {Qd : Hp → Prop} (hn : n ≤ 1000) (hD : H1 D = none) (f : Nat → Option κ) (hG : ∀ H, Same H1 H → G H)
    (hs : ∀ i x H H', i < n → Same H1 H → Y i H x H' → ∀ (R : V → Hp → Prop) (R0 : Hp → Prop), (∀ k H4, f i = some k → Same H H4 → R (Z.val k) H4) → (∀ H3, f i = none → Same H H3 → R0 H3) →
      g x (wipe σ vs) H' fun σ2 H2 => wipe σ2 vs = wipe σ vs ∧ tt σ2 H2 fun b H3 => if b = true then te σ2 H3 R else R0 H3)
    (hd : ∀ (H : Hp) (S : κ → Bool) (c : Nat), Same H1 H → (∀ k, S k = true ↔ k ∈ (List.range n).filterMap f) → c ≤ n → H D = some (SetZ Z P w D S c) → Qd H) :
    ∃ W : Nat → Nat → Hp → Prop, (∃ m, W 0 m (upd H1 D (SetZ Z P w D (fun _ => false) 0))) ∧ ∀ i m H, W i m H →
      (J.stop i H ∧ Qd H) ∨ (J.go i H ∧ ∃ Nx : Hp → Prop, (∀ H', Nx H' → ∃ m', m' < m ∧ W (i + 1) m' H') ∧ ∀ x H', J.yld i H x H' → g x (wipe σ vs) H' fun σ2 H2 => wipe σ2 vs = wipe σ vs ∧ tt σ2 H2 fun b H3 =>
        if b = true then te σ2 H3 fun y H4 => ∃ (k : κ) (S : κ → Bool) (n : Nat), y = Z.val k ∧ H4 D = some (SetZ Z P w D S n) ∧ n ≤ 2000 ∧ Nx (upd H4 D (SetZ Z P w D (more S k) (moreN S k n))) else Nx H3) := by
  refine ⟨fun i m H => m = n - i ∧ i ≤ n ∧ Same H1 H ∧ ∃ (S : κ → Bool) (c : Nat), (∀ k, S k = true ↔ k ∈ (List.range i).filterMap f) ∧ c ≤ i ∧ H D = some (SetZ Z P w D S c), ⟨n, rfl, Nat.zero_le _, same_new hD, fun _ => false, 0, fun k => by simp, Nat.le_refl _, upd_same⟩, ?_⟩
  rintro i m H ⟨rfl, hi, s, S, c, hS, hc, eD⟩
  by_cases hlt : i < n
  · refine .inr ⟨wk.goes i H hlt (hG H s), fun H' => i + 1 ≤ n ∧ Same H1 H' ∧ ∃ (S : κ → Bool) (c : Nat), (∀ k, S k = true ↔ k ∈ (List.range (i + 1)).filterMap f) ∧ c ≤ i + 1 ∧ H' D = some (SetZ Z P w D S c), fun H' p' => ⟨n - (i + 1), by omega, rfl, p'⟩, fun x H' y => ?_⟩
    have rg : (List.range (i + 1)).filterMap f = (List.range i).filterMap f ++ (f i).toList := by
      rw [List.range_succ, List.filterMap_append]
      cases q : f i <;> simp [q]
    refine hs i x H H' hlt s (wk.yields i H x H' hlt (hG H s) y) _ _ (fun k H4 hk s4 => ?_) (fun H3 hk s3 => ?_)
    · refine ⟨k, S, c, rfl, s4 _ _ eD, by omega, hlt, same_mut (s.trans s4) hD, _, _, fun j => ?_, ?_, upd_same⟩
      · rw [rg, hk]
        show (S j || decide (j = k)) = true ↔ _
        rw [Bool.or_eq_true, decide_eq_true_eq, hS j, List.mem_append]
        exact or_congr Iff.rfl ⟨fun z => List.mem_singleton.mpr z, fun z => List.mem_singleton.mp z⟩
      · unfold moreN
        split <;> omega
    · exact ⟨hlt, s.trans s3, S, c, fun j => by rw [rg, hk, hS j]; simp, by omega, s3 _ _ eD⟩
  · obtain rfl : i = n := by omega
    exact .inl ⟨wk.stops H (hG H s), hd H S c s hS hc eD⟩
end
def zStr : ZK Str := ⟨fun P w => PySem.strKind P w, V.str, fun P w k v r => by
  obtain ⟨t, rfl⟩ := r
  exact ⟨isStr_mk k t, rfl⟩⟩
def zInt : ZK Int := ⟨fun P w => intKind P w, V.int, fun P w k v r => by
  obtain ⟨t, rfl⟩ := r
  exact ⟨beq_self_eq_true k, rfl⟩⟩
end My
namespace My
open PySem PySem.Spec PyProof.Rows L2
/-! ### d != e, == : dicts whose values are equal data -/
def EqKV (K : PySem.W.Frag) (H : Hp) (x y : V) : Prop := ∃ (a b : Addr) (ks ls : List (Key × V)), x = .ref a ∧ y = .ref b ∧ H a = some (.dK ks) ∧ H b = some (.dK ls) ∧ ks.length = ls.length ∧
  ∀ p ∈ ks, ∃ (u : V) (d : PyData), valV ls p.1 = some u ∧ Dp K H p.2 d ∧ Dp K H u d ∧ SeqAt.shaped d = true
def rNeKV (K : PySem.W.Frag) : R2 := fun x y H Q => EqKV K H x y ∧ Q (.bl false) H
section
variable {X : Cx} {pins : List (Addr × Obj)} {σ : L2.St} {H : Hp} {s : Shared}
theorem kv_hits (I : Inv X pins σ H s) {A : Around} (hu : A.units + 64 < cLine) {ls : List (Key × V)} {vb : List (Key × Value)} (rb : KV ls vb) : ∀ {ks : List (Key × V)} {va : List (Key × Value)}, KV ks va →
    (∀ p ∈ ks, ∃ (u : V) (d : PyData), valV ls p.1 = some u ∧ Dp X.K H p.2 d ∧ Dp X.K H u d ∧ SeqAt.shaped d = true) → PySem.W.KeqHits A s vb va true := by
  intro ks va ra
  unfold KV at ra
  induction ra with
  | nil => exact fun _ => .nil
  | @cons p q ps qs h t ih =>
    intro hp
    obtain ⟨kq, vq⟩ := q
    obtain ⟨kp, vp⟩ := p
    obtain ⟨h1, h2⟩ := h
    obtain rfl : kp = kq := h1
    obtain ⟨u, d, e, d1, d2, sh⟩ := hp (kp, vp) (.head _)
    obtain ⟨y, hy, ry⟩ := (show RelO (some u) (valueAt vb kp) by rw [← e]; exact rb.val kp).some_of
    obtain ⟨as, r1⟩ := Dp.reads I d vp vq d1 h2
    obtain ⟨bs, r2⟩ := Dp.reads I d u y d2 ry
    have pl := PySem.PyData.plain_of_canLay0 d (SeqAt.canLay_of_shaped sh)
    have dp := SeqAt.depth_of_shaped sh
    have q := SeqAt.eqAt_plain d d A s vq y as bs r1 r2 pl pl (by omega)
    rw [eqv_self sh] at q
    exact PySem.W.KeqHits.hit (e := true) (b := true) hy q (ih fun p' hm => hp p' (.tail _ hm))
theorem op_neKV (hu : X.A.units + 80 < cLine) : OpR X (compareOp .NotEq) (rNeKV X.K) := by
  intro pins s σ H x y v u Q I rx ry h
  obtain ⟨⟨a, b, ks, ls, rfl, rfl, ea, eb, hlen, hp⟩, q⟩ := h
  obtain rfl : v = Value.ref a := rx
  obtain rfl : u = Value.ref b := ry
  obtain ⟨_, ya, va, ra, da⟩ := (show ObjOk X.prog X.w H s.heap a (.dK ks) from I.hok a _ ea)
  obtain ⟨_, yb, vb, rb, db⟩ := (show ObjOk X.prog X.w H s.heap b (.dK ls) from I.hok b _ eb)
  refine PySem.W.keq_ne (knd := mixKind X.prog X.w) (r := true) ya yb da db (by omega) (fun _ => kv_hits I (A := X.A.in1) (by show X.A.units + 1 + 64 < cLine; omega) rb ra hp) ?_
  have e : va.length = vb.length := by rw [← ra.length, ← rb.length, hlen]
  have z : (!(va.length == vb.length && true)) = false := by rw [e]; simp
  rw [z]
  exact ⟨.bl false, H, I, rfl, q⟩
end
/-! ### dicts filled by new keys -/
theorem putK_new {κ : Type} [DecidableEq κ] {kvs : List (κ × V)} {k : κ} {v : V} (h : ∀ p ∈ kvs, p.1 ≠ k) : putK kvs k v = kvs ++ [(k, v)] := by
  unfold putK
  rw [if_neg]
  intro z
  obtain ⟨p, hp, e⟩ := List.any_eq_true.mp z
  exact h p hp (of_decide_eq_true e)
theorem mergeK_new : ∀ {more kvs : List (Key × V)}, (kvs ++ more).Pairwise (fun p q => p.1 ≠ q.1) → mergeK kvs more = kvs ++ more
  | [], kvs, _ => (List.append_nil kvs).symm
  | (k, v) :: r, kvs, h => by
    have h1 : ∀ p ∈ kvs, p.1 ≠ k := fun p hp => (List.pairwise_append.mp h).2.2 p hp (k, v) (.head _)
    have e : mergeK kvs ((k, v) :: r) = mergeK (putK kvs k v) r := rfl
    rw [e, putK_new h1, mergeK_new (by rw [List.append_assoc]; exact h), List.append_assoc]
    rfl
theorem valV_at {κ : Type} [DecidableEq κ] : ∀ {kvs : List (κ × V)} {k : κ} {v : V}, kvs.Pairwise (fun p q => p.1 ≠ q.1) → (k, v) ∈ kvs → valV kvs k = some v
  | (k0, v0) :: r, k, v, h, hm => by
    obtain ⟨h1, h2⟩ := List.pairwise_cons.mp h
    rcases List.mem_cons.mp hm with e | hm
    · cases e
      exact valV_pos rfl
    · rw [valV_neg fun e => h1 _ hm e]
      exact valV_at h2 hm
theorem _root_.L2.Room.units80 {k : Nat} {A : Around} (r : Room k A) : A.units + 80 < cLine := by have := r.un; omega
end My
namespace My
open PySem PySem.Spec PyProof.Rows L2
section
variable {X : Cx}
/-! ### sorted(tuple of texts) -/
def rSortedTS (K : PySem.W.Frag) : List V → Hp → VK → Prop := fun xs H Q => ∃ (a : Addr) (ws : List Str), xs = [.ref a] ∧ SqT K H a (ws.map V.str) ∧ ws.length < 64 ∧
  ∀ (ys : List Str) (p : Addr), ys.Perm ws → sortedS ys = true → H p = none → Q (.ref p) (upd H p (.lst (ys.map V.str)))
theorem cr_sortedTS : CallR X (.builtin "sorted") (rSortedTS X.K) := by
  intro pins s σ H xs us Q I r h
  obtain ⟨a, ws, rfl, hq, hl, q⟩ := h
  obtain rfl := Vals.ref1 r
  obtain ⟨its, rv, pt, hz⟩ := I.tuple hq
  obtain ⟨hlen, hget⟩ := vals_strs rv
  obtain ⟨o, ho, hcl, n, hd⟩ := id pt
  refine Calls.call_function_entry kind_sorted plain_sorted entry_sorted (args_sorted1 _) ?_
  refine wpAny_bind (wpAny_pure ?_)
  have big : its.length ≤ sizeLine := by rw [hlen]; exact Nat.le_of_lt (sizeLine_of (by omega))
  refine wpAny_bind (wpAny_collect_seq a (.inr rfl) ho hcl hd (fun h' keep => ?_) (by rw [List.size_toArray]; exact big))
  have I1 : L2.Inv X pins σ H { s with heap := h' } := I.kept (t' := s.toks) keep
  refine wpAny_bind (wpAny_newList ?_ big)
  have I2 := I1.lnew (t' := s.toks) rv (by rw [List.length_map, ← hlen]; exact big)
  have hn1 : H h'.objs.size = none := I1.hok.fresh (Nat.le_refl _)
  refine wpAny_bind (wpAny_holding ?_)
  refine thn (mt_sortS (X := inCx X) pins _ σ _ (.ref h'.objs.size) [] (.ref h'.objs.size) [] (fun v H' => ∃ ys : List Str, ys.Perm ws ∧ sortedS ys = true ∧ H' = upd H h'.objs.size (.lst (ys.map V.str))) (inv_in I2) rfl .nil ⟨_, ws, rfl, rfl, upd_same, by omega, fun ys h1 h2 => ⟨ys, h1, h2, upd_upd⟩⟩) fun v s3 ⟨x, H3, I3, _, ys, py, sy, e3⟩ => ?_
  subst e3
  exact wpAny_pure ⟨_, rfl, .ref h'.objs.size, _, inv_out I3, rfl, q ys _ py sy hn1⟩
theorem cr_sortedTSK {K : PySem.W.Frag} (hK : X.K = K) : CallR X (.builtin "sorted") (rSortedTS K) := by
  subst hK
  exact cr_sortedTS
/-! ### a new dict that is locked from here on -/
def tFrz (td : TE) : TE := fun σ H Q => td σ H fun x H1 => ∃ d u, x = .ref d ∧ H1 d = some u ∧ Mut (some u) ∧ ∀ od, Q x (upd H1 d (.frz od u))
theorem pe_frz {e : Expr} {td : TE} (h : PE X e td) : PE X e (tFrz td) := by
  refine ⟨fun pins s σ H Q I hw => ?_⟩
  refine thn (h.run pins s σ H _ I hw) fun v s1 ⟨x, H1, I1, r, d, u, ex, hd, mu, q⟩ => ?_
  obtain ⟨od, I2⟩ := I1.lock hd mu
  exact ⟨x, _, I2, r, q od⟩
/-! ### a statement, and what holds behind it -/
def tMid (t : TS) : TS := fun D σ H => ∃ Pv : L2.St → Hp → Prop, t { D with nx := Pv } σ H ∧ ∀ σ' H', Pv σ' H' → D.nx σ' H'
theorem ps_mid {X : Cx} {st : Stmt} {t : TS} (h : PS X st t) : PS X st (tMid t) := by
  refine ⟨fun pins s σ H D I hw => ?_⟩
  obtain ⟨Pv, h1, h2⟩ := hw
  refine thn (h.run pins s σ _ _ I h1) fun f s1 q => ?_
  cases f with
  | next => obtain ⟨σ', H', I2, q⟩ := q; exact ⟨σ', H', I2, h2 _ _ q⟩
  | brk => exact q
  | cont => exact q
  | ret v => exact q
/-! ### K told -/
theorem pi_listK {X : Cx} {K : PySem.W.Frag} {tg l : Expr} {tl : TE} (h : X.K = K) (hl : PE X l tl) : PI X tg l (iList K tl) := by
  subst h
  exact pi_list hl
theorem pi_tupK {X : Cx} {K : PySem.W.Frag} {tg l : Expr} {tl : TE} (h : X.K = K) (hl : PE X l tl) : PI X tg l (iTup K tl) := by
  subst h
  exact pi_tup hl
/-! ### loops -/
theorem for_items {d : Addr} {o : Obj} {kvs : List (Key × V)} {g : TG} {tb : TS} {D : Ends} {σ : L2.St} {H : Hp} (Pv : Nat → L2.St → Hp → Prop) (h0 : Pv 0 σ H) (hl : ∀ i σ H, i ≤ kvs.length → Pv i σ H → H d = some (.frz o (.dK kvs)))
    (hs : ∀ i k v T σ H, kvs[i]? = some (k, v) → Pv i σ H → H T = none → g (.ref T) σ (upd H T (.tup [kV k, v])) fun σ2 H2 => tb { D with nx := Pv (i + 1), ct := Pv (i + 1), bk := D.nx } σ2 H2) (hd : ∀ σ H, Pv kvs.length σ H → D.nx σ H) :
    ∃ W : Nat → Nat → L2.St → Hp → Prop, (∃ m, W 0 m σ H) ∧ ∀ i m σ H, W i m σ H →
      ((Iti d o kvs).stop i H ∧ D.nx σ H) ∨ ((Iti d o kvs).go i H ∧ ∃ N : L2.St → Hp → Prop, (∀ σ' H', N σ' H' → ∃ m', m' < m ∧ W (i + 1) m' σ' H') ∧ ∀ x H', (Iti d o kvs).yld i H x H' → g x σ H' fun σ2 H2 => tb { D with nx := N, ct := N, bk := D.nx } σ2 H2) := by
  refine ⟨fun i m σ H => m = kvs.length - i ∧ i ≤ kvs.length ∧ Pv i σ H, ⟨kvs.length, by simp, Nat.zero_le _, h0⟩, ?_⟩
  rintro i m σ H ⟨rfl, hi, p⟩
  have q := hl i σ H hi p
  by_cases hlt : i < kvs.length
  · refine .inr ⟨⟨q, hlt⟩, Pv (i + 1), fun σ' H' n => ⟨kvs.length - (i + 1), by omega, rfl, hlt, n⟩, ?_⟩
    rintro x H' ⟨T, k, v, h1, rfl, h3, rfl⟩
    exact hs i k v T σ H h1 p h3
  · have e : i = kvs.length := by omega
    subst e
    exact .inl ⟨⟨q, Nat.le_refl _⟩, hd σ H p⟩
theorem for_enum {K : PySem.W.Frag} {a : Addr} {xs : List V} {g : TG} {tb : TS} {D : Ends} {σ : L2.St} {H : Hp} (Pv : Nat → L2.St → Hp → Prop) (h0 : Pv 0 σ H) (hl : ∀ i σ H, i ≤ xs.length → Pv i σ H → SqL K H a xs)
    (hs : ∀ i x T σ H, xs[i]? = some x → Pv i σ H → H T = none → g (.ref T) σ (upd H T (.tup [.int (i : Nat), x])) fun σ2 H2 => tb { D with nx := Pv (i + 1), ct := Pv (i + 1), bk := D.nx } σ2 H2) (hd : ∀ σ H, Pv xs.length σ H → D.nx σ H) :
    ∃ W : Nat → Nat → L2.St → Hp → Prop, (∃ m, W 0 m σ H) ∧ ∀ i m σ H, W i m σ H →
      ((Ite K a).stop i H ∧ D.nx σ H) ∨ ((Ite K a).go i H ∧ ∃ N : L2.St → Hp → Prop, (∀ σ' H', N σ' H' → ∃ m', m' < m ∧ W (i + 1) m' σ' H') ∧ ∀ x H', (Ite K a).yld i H x H' → g x σ H' fun σ2 H2 => tb { D with nx := N, ct := N, bk := D.nx } σ2 H2) := by
  refine ⟨fun i m σ H => m = xs.length - i ∧ i ≤ xs.length ∧ Pv i σ H, ⟨xs.length, by simp, Nat.zero_le _, h0⟩, ?_⟩
  rintro i m σ H ⟨rfl, hi, p⟩
  have q := hl i σ H hi p
  by_cases hlt : i < xs.length
  · obtain ⟨x, hx⟩ : ∃ x, xs[i]? = some x := ⟨xs[i], List.getElem?_eq_getElem hlt⟩
    refine .inr ⟨⟨xs, x, q, hx⟩, Pv (i + 1), fun σ' H' n => ⟨xs.length - (i + 1), by omega, rfl, hlt, n⟩, ?_⟩
    rintro y H' ⟨T, z, rfl, h3, rfl, h4⟩
    exact hs i z T σ H (h4 xs q) p h3
  · have e : i = xs.length := by omega
    subst e
    exact .inl ⟨⟨xs, q, Nat.le_refl _⟩, hd σ H p⟩
end
end My
namespace My
open PySem PySem.Spec PyProof.Rows L2
section
variable {X : Cx}
/-! ### sorted of a set of ints that a comprehension has made -/
def rSortedZI (P : Program) (w : World) : List V → Hp → VK → Prop := fun xs H Q => ∃ (a : Addr) (S : Int → Bool) (n : Nat), xs = [.ref a] ∧ H a = some (SetZ zInt P w a S n) ∧ n < 64 ∧
  ∀ (ys : List Int) (p : Addr), ys.Pairwise (· < ·) → (∀ k, k ∈ ys ↔ S k = true) → H p = none → Q (.ref p) (upd H p (.lst (ys.map V.int)))
theorem cr_sortedZI {P : Program} {w : World} (hP : X.prog = P) (hw : X.w = w) (hc : X.calm = true) : CallR X (.builtin "sorted") (rSortedZI P w) := by
  subst hP hw
  intro pins s σ H xs us Q I r h
  obtain ⟨a, S, n, rfl, ha, h64, q⟩ := h
  obtain rfl := Vals.ref1 r
  have G : SetG (intKind X.prog X.w) s.heap a S n := (I.hok a _ ha).1
  refine sorted_set (setR_of G) (I.ok.hd hc) h64 fun s' p out c ys keep hg hos hp hat hi hs hm hl => ?_
  have big : (ys.map V.int).length ≤ sizeLine := by rw [List.length_map, hl]; exact Nat.le_of_lt (sizeLine_of (by omega))
  have hn : H p = none := I.hok.fresh hp
  have I1 : L2.Inv X pins σ (upd H p (.lst (ys.map V.int))) s' := by
    have J := I.laid (a := p) (o := .lst (ys.map V.int)) (h' := s'.heap) (t' := s'.toks) keep hp ⟨big, out.toList, c, vals_of_ints hi, hat⟩
    obtain ⟨hp', gn', dr', tk', os'⟩ := s'
    obtain rfl : gn' = s.gens := hg
    obtain rfl : os' = s.os := hos
    exact ⟨J.ok, J.os, J.bare, J.base, J.loc, J.cell, J.free, J.freeC, J.pin, J.hok, J.len⟩
  exact ⟨.ref p, _, I1, rfl, q ys p hs hm hn⟩
end
end My
namespace My
open PySem L2
section
variable {H1 : Hp}
/-- .. where what is told of the elements lies in lists: all stands but the list that is made -/
theorem lc_relB {J : It} {n : Nat} {G : Hp → Prop} {Y : Nat → Hp → V → Hp → Prop} (w : Walk J n G Y) {g : TG} {tt : TT} {te : TE} {vs : List Nat} {σ : St} {D : Addr} {Qd : Hp → Prop} (hn : n ≤ 1000000) (hD : H1 D = none)
    (Rl : Nat → Option V → Hp → Prop) (mono : ∀ i z H H', But D H H' → Rl i z H → Rl i z H') (hG : ∀ H, Same H1 H → G H)
    (hs : ∀ i x H H', i < n → Same H1 H → (∃ acc, H D = some (.lst acc)) → Y i H x H' → ∀ (R : V → Hp → Prop) (R0 : Hp → Prop), (∀ y H4, Rl i (some y) H4 → Same H H4 → R y H4) → (∀ H3, Rl i none H3 → Same H H3 → R0 H3) →
      g x (wipe σ vs) H' fun σ2 H2 => wipe σ2 vs = wipe σ vs ∧ tt σ2 H2 fun b H3 => if b = true then te σ2 H3 R else R0 H3)
    (hd : ∀ H (zs : List (Option V)), Same H1 H → zs.length = n → (∀ i z, zs[i]? = some z → Rl i z H) → H D = some (.lst (zs.filterMap id)) → Qd H) :
    ∃ W : Nat → Nat → Hp → Prop, (∃ m, W 0 m (upd H1 D (.lst []))) ∧ ∀ i m H, W i m H →
      (J.stop i H ∧ Qd H) ∨ (J.go i H ∧ ∃ Nx : Hp → Prop, (∀ H', Nx H' → ∃ m', m' < m ∧ W (i + 1) m' H') ∧ ∀ x H', J.yld i H x H' → g x (wipe σ vs) H' fun σ2 H2 => wipe σ2 vs = wipe σ vs ∧ tt σ2 H2 fun b H3 =>
        if b = true then te σ2 H3 fun y H4 => ∃ acc, H4 D = some (.lst acc) ∧ acc.length < sizeLine ∧ Nx (upd H4 D (.lst (acc ++ [y]))) else Nx H3) := by
  have fl : ∀ zs : List (Option V), (zs.filterMap id).length ≤ zs.length := fun zs => List.length_filterMap_le _ _
  have get_app : ∀ (zs : List (Option V)) (z : Option V) (j : Nat) (y : Option V), (zs ++ [z])[j]? = some y → zs[j]? = some y ∨ (j = zs.length ∧ y = z) := fun zs z j y h => by
    by_cases hj : j < zs.length
    · rw [List.getElem?_append_left hj] at h
      exact .inl h
    · rw [List.getElem?_append_right (by omega)] at h
      have hj2 : j - zs.length = 0 := by
        cases e : j - zs.length with
        | zero => rfl
        | succ k => rw [e] at h; simp at h
      rw [hj2] at h
      exact .inr ⟨by omega, (Option.some.inj h).symm⟩
  refine lc_it w (fun i H => ∃ zs : List (Option V), zs.length = i ∧ Same H1 H ∧ (∀ j z, zs[j]? = some z → Rl j z H) ∧ H D = some (.lst (zs.filterMap id)))
    ⟨[], rfl, same_new hD, fun j z h => by simp at h, upd_same⟩ (fun i H _ ⟨_, _, s, _⟩ => hG H s) ?_ (fun H ⟨zs, l, s, r, e⟩ => hd H zs s l r e)
  rintro i x H H' hi ⟨zs, l, s, r, e⟩ hy
  refine hs i x H H' hi s ⟨_, e⟩ hy _ _ (fun y H4 hr s4 => ?_) (fun H3 hr s3 => ?_)
  · refine ⟨zs.filterMap id, s4 _ _ e, sizeLine_of (by have := fl zs; omega), zs ++ [some y], by rw [List.length_append, l]; rfl, same_mut (s.trans s4) hD, fun j z h => ?_, ?_⟩
    · have im : But D H (upd H4 D (.lst (zs.filterMap id ++ [y]))) := fun c o h n => by rw [upd_ne n]; exact s4 _ _ h
      have im4 : But D H4 (upd H4 D (.lst (zs.filterMap id ++ [y]))) := fun c o h n => by rw [upd_ne n]; exact h
      rcases get_app zs _ j z h with h | ⟨rfl, rfl⟩
      · exact mono j z _ _ im (r j z h)
      · rw [l]
        exact mono i _ _ _ im4 hr
    · rw [upd_same, List.filterMap_append]
      rfl
  · refine ⟨zs ++ [none], by rw [List.length_append, l]; rfl, s.trans s3, fun j z h => ?_, ?_⟩
    · rcases get_app zs _ j z h with h | ⟨rfl, rfl⟩
      · exact mono j z _ _ (fun c o h _ => s3 _ _ h) (r j z h)
      · rw [l]
        exact hr
    · rw [s3 _ _ e, List.filterMap_append]
      simp
end
end My
/-! a property of an own class, read below the rules: nothing that stood is changed; sorted by such a property -/
namespace My
open PySem L2 LamX PyProof.Rows
theorem objM_keeps {h h' : Heap} {x dx C : Addr} {m : Str → Option Value} (O : ObjM h x dx C m) (k : ∀ b o, h.get? b = some o → h'.get? b = some o) : ObjM h' x dx C m := ⟨k _ _ O.obj, O.ns.at fun o q => k _ _ q, O.ne⟩
theorem keeps_trans {s s' s'' : Shared} (a : Keeps s s') (b : Keeps s' s'') : Keeps s s'' := by
  obtain ⟨h, t, rfl, k⟩ := a
  obtain ⟨h2, t2, rfl, k2⟩ := b
  exact ⟨h2, t2, rfl, fun b o e => k2 b o (k b o e)⟩
section
variable {P : Program} {w : World} {K : PySem.W.Frag} {C p g a dx : Addr} {f fld x qual : Str} {st : Stmt} {fd : FuncData} {mA : Str → Option Value} {u : Value} {p1 p2 p3 : Pos} {A : Around}
theorem prop_low {b : Bool} {s : Shared} {E : Value → Shared → Prop} {Q : Value → Shared → Prop} (KX : K.In s.heap) (lim : s.heap.NoLimit) (O : ObjM s.heap a dx C mA) (hu : mA fld = some u) (hh : PySem.W.handedIn u = true)
    (c : Cls K C) (hp : PropOf K C f p g) (F : Fun K x qual st g fd) (hk : (defScope st).kind = .function) (hco : (defScope st).isCoroutine = false) (hge : (defScope st).isGenerator = false)
    (hb : Binds K fd ["self"] []) (n : NoAttr K C fld) (hbody : defBody st = [.Return (some (.Attribute (.Name "self" p1) fld p2)) p3]) (hself : (defScope st).names.lookup ("self" : Str) = some NameKind.local) (nocell : ∀ y ∈ (defScope st).names, y.2 ≠ .cell)
    (hd : A.depth + 3 < recursionLimit) (h : ∀ s', Keeps s s' → Q u s') : wpAny (model P w) A (getAttr (.ref a) f b) Q E s := by
  obtain ⟨od, J, _⟩ := O.look
  obtain ⟨rest, hrec⟩ := hp.rec_
  have hc : (PySem.W.clsIn K C).isSome = true := by
    obtain ⟨cd, hc, _⟩ := PySem.W.any_some c.hd
    rw [hc]
    rfl
  refine PySem.W.get_bind KX J (PySem.W.plainGet_of (c.get f)).1 (PySem.W.findObj_data hc hp.at_ hp.get hp.tak) (PySem.W.plainGet_of (c.get f)).2 (wpAny_call (PySem.W.prop_get (s := { s with toks := s.toks + 1 }) KX hrec ?_))
  obtain ⟨oc, od2, kV, doc, pm, an, cdv, ct, osl, rfl, lk, hcd⟩ := F.ex
  refine codeAny_call_function (by show A.depth < _; omega) (KX _ _ lk) rfl hco hge rfl (PySem.W.codeRec_of KX hcd) ?_
  refine hb { s with toks := s.toks + 1 } [.ref a] KX rfl _ _ _ _ ?_
  refine wpAny_newFunctionEnv nocell (fun y hy => ?_) (fun h₁ hns hsb => ⟨?_, codeAny_func ?_⟩) hk
  · obtain rfl := List.mem_singleton.mp hy
    exact hself
  · exact lim.keeps fun b o e => hsb.extBut b o (Nat.ne_of_lt (Heap.lt_size e)) (Heap.get?_push_of_some _ e)
  · have kp1 : ∀ b o, s.heap.get? b = some o → h₁.get? b = some o := fun b o e => hsb.extBut b o (Nat.ne_of_lt (Heap.lt_size e)) (Heap.get?_push_of_some _ e)
    show wpAny _ _ (execs (defBody st) _) _ _ _
    rw [hbody]
    refine wpAny_execs_cons (wpAny_Return_some (attr_of rfl (wpAny_Name (wpAny_loadName_local hk hself hns (by rfl) ?_) (by decide))))
    refine get_map (K := K) (KX.keeps kp1) (objM_keeps O kp1) (c.get fld) c.hd n hu hh ?_
    show wpAny _ _ (handedOut u) _ _ _
    rw [PySem.W.handedOut_of hh]
    exact wpAny_pure (h _ ⟨_, _, rfl, kp1⟩)
end
/-- what a key's expression makes of the item v: the text k; nothing that stood is changed; the text is there, and room for a call -/
def KeyEP (K : PySem.W.Frag) (prog : Program) (w : World) (scope : Scope) (x : Str) (body : Expr) (R : Heap → Value → Str → Prop) : Prop :=
  ∀ (cenv : Env) (A' : Around) (E' : Value → Shared → Prop) (v : Value) (k : Str) (s₂ : Shared) (m₂ : Str → Option Value), cenv.scope = scope → s₂.heap.Ns cenv.locals m₂ → m₂ x = some v → R s₂.heap v k → K.In s₂.heap → s₂.heap.NoLimit → A'.depth + 3 < recursionLimit →
    wpAny (model prog w) A' (eval body cenv) (fun y s₃ => (∃ t, y = .str k t) ∧ Keeps s₂ s₃) E' s₂
def InsK (C : Addr) (fld : Str) (h : Heap) (v : Value) (k : Str) : Prop := ∃ (a dx : Addr) (mA : Str → Option Value) (t : Tok), v = .ref a ∧ ObjM h a dx C mA ∧ mA fld = some (.str k t)
theorem insK_keep {C : Addr} {fld : Str} {h h' : Heap} {v : Value} {k : Str} (e : ∀ b o, h.get? b = some o → h'.get? b = some o) (r : InsK C fld h v k) : InsK C fld h' v k := by
  obtain ⟨a, dx, m, t, rfl, O, hm⟩ := r
  exact ⟨a, dx, m, t, rfl, objM_keeps O e, hm⟩
/-- x.f, a property: return self.fld -/
theorem key_prop {P : Program} {w : World} {K : PySem.W.Frag} {C p g : Addr} {f fld x y qual : Str} {st : Stmt} {fd : FuncData} {p1 p2 p3 q1 q2 : Pos} {scope : Scope} (hk : scope.kind = .function) (hl : scope.names.lookup x = some .local) (hdb : (x == ("__debug__" : Str)) = false)
    (c : Cls K C) (hp : PropOf K C f p g) (F : Fun K y qual st g fd) (hk2 : (defScope st).kind = .function) (hco : (defScope st).isCoroutine = false) (hge : (defScope st).isGenerator = false)
    (hb : Binds K fd ["self"] []) (n : NoAttr K C fld) (hbody : defBody st = [.Return (some (.Attribute (.Name "self" p1) fld p2)) p3]) (hself : (defScope st).names.lookup ("self" : Str) = some NameKind.local) (nocell : ∀ y ∈ (defScope st).names, y.2 ≠ .cell) :
    KeyEP K P w scope x (.Attribute (.Name x q1) f q2) (InsK C fld) := by
  intro cenv A' E' v k s₂ m₂ hs hn hm r KX lim hd
  obtain ⟨a, dx, m, t, rfl, O, hu⟩ := r
  refine attr_of rfl (wpAny_Name (wpAny_loadName_local (by rw [hs]; exact hk) (show cenv.scope.names.lookup x = some .local by rw [hs]; exact hl) hn hm ?_) hdb)
  exact prop_low KX lim O hu rfl c hp F hk2 hco hge hb n hbody hself nocell hd fun s' kp => ⟨⟨t, rfl⟩, kp⟩
section
variable {X : Cx}
theorem pe_sortLamP {T : List (Addr × Str)} {te : TE} {c P : Addr} {k : Nat} {e : Expr} {params : Arguments} {body : Expr} {scope : Scope} {x : Str} {p lpos kpos pos : Pos} {R : Heap → Value → Str → Prop} {RK : Hp → V → Str → Prop}
    (hkey : KeyEP X.K X.prog X.w scope x body R) (hR : ∀ pins s σ H b u v, Inv X pins σ H s → RK H b u → RelV b v → R s.heap v u) (hRk : ∀ (h h' : Heap) v u, (∀ b o, h.get? b = some o → h'.get? b = some o) → R h v u → R h' v u) (hRe : ∀ H H' b u, ExtN H H' → RK H b u → RK H' b u)
    (hg : Gl X "sorted") (hm : X.mg "sorted" = none) (ha : PE X e te) (TB : TabB X.base X.mg c P) (hcode : X.env.code = .ref c) (hmT : (P, X.env.qual ++ "<lambda>") ∈ T) (hu : ∀ p ∈ T, p.1 = P → p.2 = X.env.qual ++ "<lambda>") (hr : Room k X.A)
    (hdef : defaultsOf params X.env = ([], [])) (hkind : scope.kind = .function) (hco : scope.isCoroutine = false) (hgen : scope.isGenerator = false) (hnames : ∀ y ∈ scope.names, y.2 ≠ .free ∧ y.2 ≠ .cell) (hx : scope.names.lookup x = some .local)
    (hbind : ∀ (q : Str) (cl : List (Str × Addr)) (pm cv ctv v : Value), bindArgs (PySem.W.kla_fn "<lambda>" q params body scope cl pm cv ctv) ⟨[v], []⟩ = pure [(x, v)])
    (hst : starEach [e] X.env = (false, eval e X.env) :: starEach [] X.env := by rfl) (he : backTo pos (starEach [e] X.env) = (false, eval e X.env) :: backTo pos (starEach [] X.env) := by rfl) (hpl : (backTo pos (starEach [e] X.env)).any (·.1) = false := by rfl) :
    PE X (.Call (.Name "sorted" p) [e] [⟨some "key", .Lambda params body scope lpos, kpos⟩] pos) (tSortLam X.K T RK te) := by
  refine ⟨fun pins s σ H Q I h => ?_⟩
  refine wpAny_Call_Name_kw (ld_blt (u := .builtin "sorted") I hg hm (by decide +kernel) ?_ (by decide) (by decide))
  refine PyProof.Rows.callWith_kw (thn ((pa_cons ha pa_nil hst).run pos pins s σ H (fun vs H1 => match vs with | [v] => Tabs T H1 ∧ ∃ (a : Addr) (bs : List (V × Str)), v = .ref a ∧ SqL X.K H1 a (bs.map (·.1)) ∧ (∀ b ∈ bs, RK H1 b.1 b.2) ∧ ∀ (p : Addr) (H2 : Hp), ExtN H1 H2 → Tabs T H2 → H2 p = none → Q (.ref p) (upd H2 p (.lst ((sortBy bs).map (·.1)))) | _ => False) I h) fun us s1 ⟨vs, H1, I1, r1, q1⟩ => ?_) he hpl rfl rfl
  obtain ⟨v, rfl⟩ : ∃ v, vs = [v] := by
    match vs, q1 with
    | [v], _ => exact ⟨v, rfl⟩
  obtain ⟨hT, a, bs, rfl, hL, hK, q⟩ := q1
  obtain rfl := Vals.ref1 r1
  show wpAny _ _ (evalAll [do let v ← eval (.Lambda params body scope lpos) X.env; standAt pos; pure v]) _ _ s1
  refine wpAny_evalAll_cons (wpAny_bind (lam_make2 I1 TB hcode hmT hu hT hdef (fun y hy z => absurd z (hnames y hy).1) fun f c' pm ctv H2 s2 I2 eN T2 hf hfn hfr hco' => wpAny_bind (wpAny_standAt (wpAny_pure (wpAny_evalAll_nil ?_)))))
  show wpAny (model X.prog X.w) X.A (call (.builtin "sorted") [.ref a] [("key", .ref f)]) _ _ s2
  have hL2 := extN_sql eN hL
  obtain ⟨its, rv, hl, hz⟩ := I2.list hL2
  obtain ⟨⟨oc, cvs, ct, hoc, hdc, hvc⟩, _, _⟩ := I2.hok c' _ hco'
  have hbs : ∀ (l : List (V × Str)) (us : List Value), Vals (l.map (·.1)) us → (∀ b ∈ l, b ∈ bs) → PySem.W.EachIs (fun (v : Value) (b : V × Str) => RelV b.1 v ∧ R s2.heap v b.2) us l := by
    intro l
    induction l with
    | nil =>
      intro us r _
      cases r
      exact .nil
    | cons b l ih =>
      intro us r m
      cases r with
      | cons r1 r2 => exact .cons ⟨r1, hR pins s2 σ H2 b.1 b.2 _ I2 (hRe _ _ _ _ eN (hK b (m b (.head _)))) r1⟩ (ih _ r2 fun b' h' => m b' (.tail _ h'))
  have e := hbs bs its rv fun _ h => h
  refine PySem.W.sorted_key_data (R := fun (v : Value) (b : V × Str) => RelV b.1 v ∧ R s2.heap v b.2) (b := false) keyD hl.isList e ?_ ?_ ?_ ?_ (PyProof.Rows.ksk_s1 _ _) (fun _ => PyProof.Rows.ksk_l1 _ _) (fun x => PyProof.Rows.ksk_t1 f x) (fun v b hb hm' g tk kp => ?_) fun out cc h' tk kp hn hD hlen hout => ?_
  · intro d hd d' hd'
    obtain ⟨b, _, rfl⟩ := List.mem_map.mp hd
    obtain ⟨b', _, rfl⟩ := List.mem_map.mp hd'
    rfl
  · refine .inr fun d hd => ?_
    obtain ⟨b, _, rfl⟩ := List.mem_map.mp hd
    exact ⟨nofun, fun _ => nofun⟩
  · rw [List.length_map] at hz
    exact hz
  · intro b _
    have := hr.units
    show X.A.units + 2 + (PyData.str b.2).depth < _
    have z : (PyData.str b.2).depth ≤ 1 := by show _ ≤ 1; simp [PyData.depth]
    omega
  · have of1 := kp _ _ hf
    refine wpAny_call ?_
    refine PySem.W.kla_callFunE (by have := hr.dp; show X.A.depth < _; omega) of1 rfl hco hgen rfl ⟨c', oc, cvs, ct, rfl, kp _ _ hoc, hdc, hvc⟩ ?_
    rw [hbind]
    refine wpAny_pure (wpAny_newFunctionEnv (fun y hy => (hnames y hy).2) (fun y hy => ?_) (fun h₁ hns hsb => ⟨(I2.nolimit.keeps kp).fresh _ hsb, ?_⟩) hkind)
    · obtain rfl := List.mem_singleton.mp hy
      exact hx
    · have kp1 : ∀ b o, g.get? b = some o → h₁.get? b = some o := fun b o e => hsb.extBut b o (Nat.ne_of_lt (Heap.lt_size e)) (Heap.get?_push_of_some _ e)
      refine PySem.W.kla_codeExpr (wpAny_mono (hkey _ _ (fun _ _ => False) v b.2 _ _ rfl hns (by simp) (hRk _ _ _ _ kp1 (hRk _ _ _ _ kp hb.2)) ((I2.kIn.keeps kp).keeps kp1) ((I2.nolimit.keeps kp).fresh _ hsb) (by have := hr.dp; show X.A.depth + 1 + 3 < _; omega)) (fun y s3 hq => ?_) fun _ _ z => z.elim)
      obtain ⟨⟨t, rfl⟩, h3, tk3, rfl, kp3⟩ := hq
      exact ⟨h3, tk3, rfl, fun b o e => kp3 b o (kp1 b o e), .str _ _⟩
  · have hv : ∀ (l : List (V × Str)) (us : List Value), PySem.W.EachIs (fun (v : Value) (b : V × Str) => RelV b.1 v ∧ R s2.heap v b.2) us l → Vals (l.map (·.1)) us := by
      intro l us e
      induction e with
      | nil => exact .nil
      | cons r _ ih => exact .cons r.1 ih
    refine ⟨.ref _, upd H2 (s2.heap.objs.size + 1) (.lst ((sortBy bs).map (·.1))), I2.laid (t' := tk) kp (Nat.le_succ _) ⟨?_, out, cc, hv _ _ hout, hD⟩, rfl, q _ H2 eN T2 (I2.hok.fresh (Nat.le_succ _))⟩
    rw [List.length_map, (sortBy_perm bs).length_eq]
    rw [List.length_map] at hz
    exact hz
end
/-- an own instance with this text -/
def RKi (C : Addr) (fld : Str) (H : Hp) (x : V) (k : Str) : Prop := ∃ (a dx : Addr) (fs : List (Str × V)), x = .ref a ∧ H a = some (.ins C dx fs) ∧ fs.lookup fld = some (.str k)
section
variable {X : Cx}
/-- sorted(xs, key=lambda x: x.f), f a property that returns a text of the instance -/
theorem pe_sortProp {te : TE} {c P C p g : Addr} {k : Nat} {e : Expr} {params : Arguments} {scope : Scope} {x f fld y qual : Str} {st : Stmt} {fd : FuncData} {pp q1 q2 lpos kpos pos p1 p2 p3 : Pos}
    (hg : Gl X "sorted") (hm : X.mg "sorted" = none) (ha : PE X e te) (TB : TabB X.base X.mg c P) (hcode : X.env.code = .ref c) (hr : Room k X.A)
    (cl : Cls X.K C) (hp : PropOf X.K C f p g) (F : Fun X.K y qual st g fd) (hb : Binds X.K fd ["self"] []) (n : NoAttr X.K C fld) (hbody : defBody st = [.Return (some (.Attribute (.Name "self" p1) fld p2)) p3] := by rfl)
    (hk2 : (defScope st).kind = .function := by rfl) (hco2 : (defScope st).isCoroutine = false := by rfl) (hge2 : (defScope st).isGenerator = false := by rfl) (hself : (defScope st).names.lookup ("self" : Str) = some NameKind.local := by rfl) (nocell : ∀ y ∈ (defScope st).names, y.2 ≠ .cell := by decide +kernel)
    (hdef : defaultsOf params X.env = ([], []) := by rfl) (hkind : scope.kind = .function := by rfl) (hco : scope.isCoroutine = false := by rfl) (hgen : scope.isGenerator = false := by rfl) (hnames : ∀ y ∈ scope.names, y.2 ≠ .free ∧ y.2 ≠ .cell := by decide +kernel) (hx : scope.names.lookup x = some .local := by rfl)
    (hbind : ∀ (q : Str) (cl : List (Str × Addr)) (pm cv ctv v : Value), bindArgs (PySem.W.kla_fn "<lambda>" q params (.Attribute (.Name x q1) f q2) scope cl pm cv ctv) ⟨[v], []⟩ = pure [(x, v)] := by intros; rfl)
    (hd : (x == ("__debug__" : Str)) = false := by decide) (hst : starEach [e] X.env = (false, eval e X.env) :: starEach [] X.env := by rfl) (he : backTo pos (starEach [e] X.env) = (false, eval e X.env) :: backTo pos (starEach [] X.env) := by rfl) (hpl : (backTo pos (starEach [e] X.env)).any (·.1) = false := by rfl) :
    PE X (.Call (.Name "sorted" pp) [e] [⟨some "key", .Lambda params (.Attribute (.Name x q1) f q2) scope lpos, kpos⟩] pos) (tSortLam X.K [(P, X.env.qual ++ "<lambda>")] (RKi C fld) te) := by
  refine pe_sortLamP (x := x) (R := InsK C fld) (RK := RKi C fld) (key_prop hkind hx hd cl hp F hk2 hco2 hge2 hb n hbody hself nocell) (fun pins s σ H b u v I r rv => ?_) (fun h h' v u e r => insK_keep e r) (fun H H' b u e r => ?_) hg hm ha TB hcode (.head _) (fun q hq _ => by rw [List.mem_singleton.mp hq]) hr hdef hkind hco hgen hnames hx hbind hst he hpl
  · obtain ⟨a, dx, fs, rfl, ea, l⟩ := r
    obtain rfl : v = .ref a := rv
    obtain ⟨mA, O, r, _, _, _⟩ := ins_get I.hok ea
    obtain ⟨t, ht, rt⟩ := RelO.some_of (v := .str u) (o := mA fld) (by rw [← l]; exact r fld)
    obtain ⟨tk, rfl⟩ := rt
    exact ⟨a, dx, mA, tk, rfl, O, ht⟩
  · obtain ⟨a, dx, fs, rfl, ea, l⟩ := r
    exact ⟨a, dx, fs, rfl, e _ _ ea (fun _ z => nomatch z), l⟩
end
end My
namespace My
open PySem L2
theorem fstr_empty (a : Str) : Str.empty ++ a = a := PySem.Str.empty_append a
end My
/-! errors: X() of an own class over ValueError; a def that calls what it got and tells which error came; sorted by a property among several tables -/
namespace My
open PySem L2 LamX PyProof.Rows
theorem ps_nox {X : Cx} {st : Stmt} {t : TS} (h : PS X.nox st t) : PS X st t := ⟨fun pins s σ H D I hw =>
  wpAny_mono (h.run pins s σ H D (I.wish _) hw) (fun _ _ q => q.unwish) fun _ _ z => False.elim z⟩
/-- what is known of an own error class without a body -/
structure ErrC (K : PySem.W.Frag) (C : Addr) : Prop where
  exc : PySem.W.excIn K C [.type "ValueError", .type "Exception", .type "BaseException", .type "object"] "ValueError.__new__" = true
  kp : PySem.W.keepIn K (.ref C) = true
  sub : PySem.W.subIn K (.ref C) (.type "BaseException") = some true
  ty : PySem.W.typeIn K (.ref C) = some (.type "type")
theorem exm_by {K : PySem.W.Frag} {a b : Addr} {r : Bool} (h1 : PySem.W.subIn K (.ref b) (.type "BaseException") = some true) (h2 : PySem.W.isClsIn K b = true) (h3 : PySem.W.typeIn K (.ref b) = some (.type "type")) (h4 : PySem.W.subIn K (.ref a) (.ref b) = some r) : PySem.W.exmOne K (.ref a) (.ref b) = some r := by
  unfold PySem.W.isClsIn at h2
  unfold PySem.W.exmOne PySem.W.kitCls
  rw [h1]
  simp [h2, h3, h4]
section
variable {X : Cx} {C : Addr}
/-- X() -/
theorem pmk_own0 {x : Str} {p pos : Pos} (c : ErrC X.K C) (gC : X.mg x = some (.ref C)) (hg : Gl X x) (hdb : (x == ("__debug__" : Str)) = false := by decide) : PMk X (.Call (.Name x p) [] [] pos) (fun _ H Q => Q (.ref C) none H) := by
  intro pins s σ H Q I h
  refine wpAny_Call_Name_kw (ld_glob I hg gC ?_ hdb)
  refine PySem.W.callWith_K0 I.kIn c.kp ?_
  show wpAny _ _ (call (.ref C) []) _ _ _
  obtain ⟨bm, N, nm, qn, bs, hdct, sn, sub, ab, col, dd, k0, k1, k2, k3, k5, mN, hC, hN, hni, T⟩ := exc_obj I.kIn c.exc
  refine wpAny_call_exc_subT PySem.F.excBase_ValueError T hC hN hni (fun h' e hm => ?_) (Nat.zero_le _)
  exact mk_of I hm (raises_own c.sub c.ty) h (I.hok.gone hm.new)
/-- raise X(), in a def's own body -/
theorem ps_err {E : XK} {x : Str} {p pos p2 : Pos} {E₁ : Value → Shared → Prop} (c : ErrC X.K C) (gC : X.mg x = some (.ref C)) (hg : Gl X x) (hc : X.calm = true) (hs : X.stack = X.env :: X.outer) (hf : X.env.frame = some X.env.locals) (hex : X.ex = [])
    (hx : X.xe = fun e s' => wpAny (model X.prog X.w) X.A (leaving X.env e) (fun _ s'' => CX X.prog X.w X.outer X.H_0 X.s_0 E e s'') E₁ s') (hdb : (x == ("__debug__" : Str)) = false := by decide) :
    PS X (.Raise (some (.Call (.Name x p) [] [] pos)) none p2) (fun _ _ H => E (.ref C) none H) := ps_raise hc (takes_of hs hf hex hx) (pmk_own0 c gC hg hdb)
/-- a def's own wish takes what a callee may let out -/
theorem passX {E E' : XK} {E₁ : Value → Shared → Prop} (h : ∀ cls d H, E' cls d H → E cls d H) (hs : X.stack = X.env :: X.outer) (hf : X.env.frame = some X.env.locals) (hex : X.ex = [])
    (hx : X.xe = fun e s' => wpAny (model X.prog X.w) X.A (leaving X.env e) (fun _ s'' => CX X.prog X.w X.outer X.H_0 X.s_0 E e s'') E₁ s') : Passes (CX X.prog X.w) X E' := passes_call (takes_of hs hf hex hx) fun cls d _ H z => h cls d H z
end
/-! ### told: try: a() / except x: return r / .. / return None -/
def wChain (K : PySem.W.Frag) (Q : VK) : List (Addr × Str) → XK
  | [] => fun _ _ _ => False
  | (C, r) :: l => fun cls d H => ∃ b, PySem.W.exmOne K cls (.ref C) = some b ∧ (b = true → Q (.str r) H) ∧ (b = false → wChain K Q l cls d H)
def TToldM (K : PySem.W.Frag) (l : List (Addr × Str)) : (XK → Hp → VK → Prop) → Hp → VK → Prop := fun tl H Q => tl (wChain K Q l) H fun _ H' => Q .non H'
/-- the handlers: except x: return r -/
inductive HdsT (mg : Str → Option Value) (sg : Scope) : List ExceptHandler → List (Addr × Str) → Prop
  | nil : HdsT mg sg [] []
  | cons {e r : Str} {C : Addr} {j : Nat} {p4 p5 p6 p7 : Pos} {hs : List ExceptHandler} {l : List (Addr × Str)} (hge : sg.names.lookup e = some .globalImplicit) (hme : mg e = some (.ref C)) (hde : (e == ("__debug__" : Str)) = false) (t : HdsT mg sg hs l) :
      HdsT mg sg (.ExceptHandler (some (.Name e p4)) none [.Return (some (.Constant (.str r) j p5)) p6] p7 :: hs) ((C, r) :: l)
def tsOf (r : Str) : Addr → Value → Option Addr → TS := fun _ _ _ => tRet (tC (.str r))
theorem wMany_chain {K : PySem.W.Frag} {D : Ends} : ∀ (l : List (Addr × Str)) {cls : Value} {d : Option Addr} {σ : L2.St} {H : Hp}, wChain K D.rt l cls d H →
    wMany K (fun _ _ _ _ => False) D (l.map fun (y : Addr × Str) => (Value.ref y.1, tsOf y.2)) cls d σ H
  | [], _, _, _, _, h => h
  | (C, r) :: l, _, _, _, _, ⟨b, h1, h2, h3⟩ => ⟨b, h1, fun e a _ => h2 e, fun e => wMany_chain l (h3 e)⟩
theorem hds_ok {Y : Cx} {mg : Str → Option Value} {sg : Scope} (hsc : Y.env.scope = sg) : ∀ {hs : List ExceptHandler} {l : List (Addr × Str)}, (hmg : Y.mg = mg) → HdsT mg sg hs l → HdsOk Y hs (l.map fun (y : Addr × Str) => (Value.ref y.1, tsOf y.2)) := by
  intro hs l hmg h
  induction h with
  | nil => exact .nil
  | cons hge hme hde t ih =>
    refine .cons ⟨by show Y.env.scope.names.lookup _ = _; rw [hsc]; exact hge, hde, .inl (by rw [hmg]; exact hme)⟩ (fun a oe cls d pn _ _ => ?_) ih
    exact pss_one (ps_ret pe_str)
section
variable {X : Cx}
theorem toldM_gives {Ng : List Str} {x a q : Str} {sg : Scope} {g : Addr} {cdg : Value} {h₀ : ExceptHandler} {hds : List ExceptHandler} {l : List (Addr × Str)} {p1 p2 p3 p8 p9 pn0 : Pos} {jn : Nat} (hT : HdsT X.mg sg (h₀ :: hds) l) (h0 : ∀ f : Addr, (L2.start Ng [V.ref f])[0]? = some (some (V.ref f))) :
    GivesTo X Ng x sg g cdg [.Try [.Expr (.Call (.Name a p1) [] [] p2) p3] (h₀ :: hds) [] [] p8, .Return (some (.Constant .none jn pn0)) p9] a q (TToldM X.K l) := by
  intro f c' s H Q tl act hc h
  refine ⟨_, pss_cons (ps_try_many (X := (cxOf C8.CX0 X.prog X.w X.K X.mg X.base Ng x sg g cdg X.A X.stack s H C8.E0).nox) (Wout := fun _ _ _ _ => False)
      (tb := fun W D σ H => ∃ Ech : XK, (∀ cls d σ' H', Ech cls d H' → W cls d σ' H') ∧ σ[0]? = some (some (.ref f)) ∧ H c' = some (CodeO c' q) ∧ tl Ech H fun _ H' => D.nx σ H')
      rfl rfl takes_none5 (fun W pn xe tk _ => ?_) (hds_ok rfl rfl hT)) (pss_one (ps_ret pe_non)), ?_⟩
  · refine ⟨fun pins s' σ H' D I h' => ?_⟩
    obtain ⟨Ech, hW, h1, h2, h3⟩ := h'
    have hp := act W pn xe Ech p1 p2 tk hW
    have hq := pss_one (ps_expr (pos := p3) hp)
    exact hq.run pins s' σ H' D I ⟨h1, h2, h3⟩
  · exact ⟨wChain X.K Q l, fun cls d σ' H' z => wMany_chain l z, h0 f, hc, h⟩
/-- sorted(xs, key=lambda x: x.f), f a property that returns a text of the instance -/
theorem pe_sortPropT {T : List (Addr × Str)} {te : TE} {c P C p g : Addr} {k : Nat} {e : Expr} {params : Arguments} {scope : Scope} {x f fld y qual : Str} {st : Stmt} {fd : FuncData} {pp q1 q2 lpos kpos pos p1 p2 p3 : Pos}
    (hmT : (P, X.env.qual ++ "<lambda>") ∈ T) (hu : ∀ p ∈ T, p.1 = P → p.2 = X.env.qual ++ "<lambda>") (hg : Gl X "sorted") (hm : X.mg "sorted" = none) (ha : PE X e te) (TB : TabB X.base X.mg c P) (hcode : X.env.code = .ref c) (hr : Room k X.A)
    (cl : Cls X.K C) (hp : PropOf X.K C f p g) (F : Fun X.K y qual st g fd) (hb : Binds X.K fd ["self"] []) (n : NoAttr X.K C fld) (hbody : defBody st = [.Return (some (.Attribute (.Name "self" p1) fld p2)) p3] := by rfl)
    (hk2 : (defScope st).kind = .function := by rfl) (hco2 : (defScope st).isCoroutine = false := by rfl) (hge2 : (defScope st).isGenerator = false := by rfl) (hself : (defScope st).names.lookup ("self" : Str) = some NameKind.local := by rfl) (nocell : ∀ y ∈ (defScope st).names, y.2 ≠ .cell := by decide +kernel)
    (hdef : defaultsOf params X.env = ([], []) := by rfl) (hkind : scope.kind = .function := by rfl) (hco : scope.isCoroutine = false := by rfl) (hgen : scope.isGenerator = false := by rfl) (hnames : ∀ y ∈ scope.names, y.2 ≠ .free ∧ y.2 ≠ .cell := by decide +kernel) (hx : scope.names.lookup x = some .local := by rfl)
    (hbind : ∀ (q : Str) (cl : List (Str × Addr)) (pm cv ctv v : Value), bindArgs (PySem.W.kla_fn "<lambda>" q params (.Attribute (.Name x q1) f q2) scope cl pm cv ctv) ⟨[v], []⟩ = pure [(x, v)] := by intros; rfl)
    (hd : (x == ("__debug__" : Str)) = false := by decide) (hst : starEach [e] X.env = (false, eval e X.env) :: starEach [] X.env := by rfl) (he : backTo pos (starEach [e] X.env) = (false, eval e X.env) :: backTo pos (starEach [] X.env) := by rfl) (hpl : (backTo pos (starEach [e] X.env)).any (·.1) = false := by rfl) :
    PE X (.Call (.Name "sorted" pp) [e] [⟨some "key", .Lambda params (.Attribute (.Name x q1) f q2) scope lpos, kpos⟩] pos) (tSortLam X.K T (RKi C fld) te) := by
  refine pe_sortLamP (x := x) (R := InsK C fld) (RK := RKi C fld) (key_prop hkind hx hd cl hp F hk2 hco2 hge2 hb n hbody hself nocell) (fun pins s σ H b u v I r rv => ?_) (fun h h' v u e r => insK_keep e r) (fun H H' b u e r => ?_) hg hm ha TB hcode hmT hu hr hdef hkind hco hgen hnames hx hbind hst he hpl
  · obtain ⟨a, dx, fs, rfl, ea, l⟩ := r
    obtain rfl : v = .ref a := rv
    obtain ⟨mA, O, r, _, _, _⟩ := ins_get I.hok ea
    obtain ⟨t, ht, rt⟩ := RelO.some_of (v := .str u) (o := mA fld) (by rw [← l]; exact r fld)
    obtain ⟨tk, rfl⟩ := rt
    exact ⟨a, dx, mA, tk, rfl, O, ht⟩
  · obtain ⟨a, dx, fs, rfl, ea, l⟩ := r
    exact ⟨a, dx, fs, rfl, e _ _ ea (fun _ z => nomatch z), l⟩
/-- o.f = v, as a target -/
def gFld (K : PySem.W.Frag) (ta : TE) (f : Str) : TG := fun v σ H Q => ta σ H fun x H2 => ∃ a C dx fs, x = .ref a ∧ H2 a = some (.ins C dx fs) ∧ Cls K C ∧ NoAttr K C f ∧ fs.length < 1000 ∧ Q σ (upd H2 a (.ins C dx (putF f v fs)))
theorem pg_fld {o : Expr} {f : Str} {pos : Pos} {ta : TE} (ho : PE X o ta) : PG X (.Attribute o f pos) (gFld X.K ta f) := by
  refine ⟨fun pins s σ H v u Q I r h => ?_⟩
  rw [assign_Attribute]
  refine wpAny_bind (wpAny_holding (thn (ho.run pins s σ H _ I h) fun ov s1 ⟨x, H1, I1, r1, a, C, dx, fs, ex, ea, c, n, l, q⟩ => ?_))
  subst ex
  obtain rfl : ov = Value.ref a := r1
  refine wpAny_bind (wpAny_standAt (wpAny_bind (wpAny_holding (setattr_ok I1 ea c n l r fun s2 I2 => wpAny_release ⟨σ, _, I2, q⟩))))
end
end My
/-! == and != that may run an own __eq__, with both answers -/
namespace My
open PySem PySem.SeqAt L2 LamX PyProof.Rows
open AutoSeq1 (wpAny_loadPart')
open MeetsSeq MeetsSeq2 MeetsSeq3 SeqRoads2
section
variable {prog : Program} {w : World} {A : Around} {R : Result → Shared → Prop}
abbrev FinB (prog : Program) (w : World) (A : Around) (R : Result → Shared → Prop) : Fin → Shared → Prop := fun fin s' => match fin with
  | .done f => R (.ok f) s'
  | .again c' => c'.quiet = true ∧ codeAny (model prog w) A c' R s'
/-- the two lists are there at each turn, the i-th items' answer is e i -/
def ItB (prog : Program) (w : World) (A : Around) (E : Value → Shared → Prop) (l b : Addr) (N : Nat) (e : Nat → Bool) (I : Nat → Shared → Prop) : Prop :=
  ∀ i s, I i s → ∃ (xs ys : Array Value) (n m : Nat), s.heap.get? l = some { cls := .type "list", data := .seq xs n } ∧ s.heap.get? b = some { cls := .type "list", data := .seq ys m } ∧ xs.size = N ∧ ys.size = N ∧
    ∀ (h1 : i < xs.size) (h2 : i < ys.size), wpAny (model prog w) A.in1 (eqBool xs[i] ys[i]) (fun r s' => r = e i ∧ I (i + 1) s') E s
theorem loop_eq (l b : Addr) (N : Nat) (e : Nat → Bool) (I : Nat → Shared → Prop) (hl : ItB prog w A (fun e s' => R (.error e) s') l b N e I)
    (f1 : ∀ s, I N s → (∀ j < N, e j = true) → R (.ok (.ret (.bool true))) s) (f0 : ∀ i s, i < N → e i = false → I (i + 1) s → R (.ok (.ret (.bool false))) s) (k : Nat) :
    ∀ i : Nat, N - i = k → i ≤ N → (∀ j < i, e j = true) → ∀ s, I i s → wpAny (model prog w) A.in1 (Builtin.«list.__eq__.loop» ⟨[.ref l, .ref b, rawInt i, rawInt 2], []⟩) (FinB prog w A R) (fun e s' => R (.error e) s') s := by
  induction k with
  | zero =>
    intro i hk hi hp s h
    obtain ⟨xs, ys, n, m, a1, a2, z1, z2, _⟩ := hl _ _ h
    obtain rfl : i = N := by omega
    have q := f1 s h hp
    obtain ⟨hh, g, d, tk, os⟩ := s
    wp_walk using wpAny_loadPart' a1, wpAny_loadPart' a2
    rw [show xs[((i : Nat) : Int).toNat]? = none from by simp; omega, show ys[((i : Nat) : Int).toNat]? = none from by simp; omega]
    wp_walk using wpAny_loadPart' a1, wpAny_loadPart' a2
    show R (.ok (.ret (.bool (xs.size == ys.size)))) _
    rw [z1, z2]
    simpa using q
  | succ k ih =>
    intro i hk hi hp s h
    obtain ⟨xs, ys, n, m, a1, a2, z1, z2, turn⟩ := hl _ _ h
    have i1 : i < xs.size := by omega
    have i2 : i < ys.size := by omega
    have ht := turn i1 i2
    obtain ⟨hh, g, d, tk, os⟩ := s
    wp_walk using wpAny_loadPart' a1, wpAny_loadPart' a2
    rw [show xs[((i : Nat) : Int).toNat]? = some xs[i] from by simp [i1], show ys[((i : Nat) : Int).toNat]? = some ys[i] from by simp [i2]]
    refine wpAny_bind (wpAny_mono ht (fun r s2 h2 => ?_) fun _ _ x => x)
    obtain ⟨hr, h2⟩ := h2
    cases he : e i with
    | true =>
      rw [he] at hr
      subst hr
      have hrec := ih (i + 1) (by omega) (by omega) (fun j hj => by
        by_cases z : j = i
        · rw [z]; exact he
        · exact hp j (by omega)) s2 h2
      obtain ⟨hh2, g2, d2, tk2, os2⟩ := s2
      wp_walk
      rw [show ((i : Int) + 1) = ((i + 1 : Nat) : Int) from by omega]
      exact ⟨plainId_quiet plain_eq_loop _, codeAny_builtin entry_eq_loop (by
        rw [Around.under_plainId plain_eq_loop _]
        exact hrec)⟩
    | false =>
      rw [he] at hr
      subst hr
      have q := f0 i s2 (by omega) he h2
      obtain ⟨xs', ys', n', m', b1, b2, y1, y2, _⟩ := hl _ _ h2
      obtain ⟨hh2, g2, d2, tk2, os2⟩ := s2
      wp_walk using wpAny_loadPart' b1, wpAny_loadPart' b2
      rw [show xs'[((i : Nat) : Int).toNat]? = some (xs'[i]'(by omega)) from by simp, show ys'[((i : Nat) : Int).toNat]? = some (ys'[i]'(by omega)) from by simp]
      wp_walk
      exact q
theorem list_eq (l b : Addr) (N : Nat) (e : Nat → Bool) (I : Nat → Shared → Prop) (hl : ItB prog w A (fun e s' => R (.error e) s') l b N e I)
    (f1 : ∀ s, I N s → (∀ j < N, e j = true) → R (.ok (.ret (.bool true))) s) (f0 : ∀ i s, i < N → e i = false → I (i + 1) s → R (.ok (.ret (.bool false))) s) {s : Shared} (h : I 0 s) :
    wpAny (model prog w) A.in1 (Builtin.«list.__eq__» ⟨[.ref l, .ref b], []⟩) (FinB prog w A R) (fun e s' => R (.error e) s') s := by
  obtain ⟨xs, ys, n, m, a1, a2, z1, z2, _⟩ := hl _ _ h
  have hrec := loop_eq (A := A) (R := R) l b N e I hl f1 f0 _ 0 rfl (Nat.zero_le _) (fun j hj => absurd hj (Nat.not_lt_zero j)) s h
  obtain ⟨hh, g, d, tk, os⟩ := s
  have f3 := AutoSeq1.sub_list_list
  have hne : ¬ (xs.size != ys.size) = true := by simp [z1, z2]
  wp_walk using wpAny_loadPart' a1, wpAny_loadPart' a2
  exact ⟨plainId_quiet plain_eq_loop _, codeAny_builtin entry_eq_loop (by
    rw [Around.under_plainId plain_eq_loop _]
    exact hrec)⟩
/-- lists of unlike lengths -/
theorem list_eq_len {l b : Addr} {xs ys : Array Value} {n m : Nat} {s : Shared} (a1 : s.heap.get? l = some { cls := .type "list", data := .seq xs n }) (a2 : s.heap.get? b = some { cls := .type "list", data := .seq ys m }) (hz : xs.size ≠ ys.size) (q : R (.ok (.ret (.bool false))) s) :
    wpAny (model prog w) A.in1 (Builtin.«list.__eq__» ⟨[.ref l, .ref b], []⟩) (FinB prog w A R) (fun e s' => R (.error e) s') s := by
  obtain ⟨hh, g, d, tk, os⟩ := s
  have f3 := AutoSeq1.sub_list_list
  have hne : (xs.size != ys.size) = true := by simp [hz]
  wp_walk using wpAny_loadPart' a1, wpAny_loadPart' a2
  exact q
theorem loop_ne (l b : Addr) (N : Nat) (e : Nat → Bool) (I : Nat → Shared → Prop) (hl : ItB prog w A (fun e s' => R (.error e) s') l b N e I)
    (f1 : ∀ s, I N s → (∀ j < N, e j = true) → R (.ok (.ret (.bool false))) s) (f0 : ∀ i s, i < N → e i = false → I (i + 1) s → R (.ok (.ret (.bool true))) s) (k : Nat) :
    ∀ i : Nat, N - i = k → i ≤ N → (∀ j < i, e j = true) → ∀ s, I i s → wpAny (model prog w) A.in1 (Builtin.«list.__eq__.loop» ⟨[.ref l, .ref b, rawInt i, rawInt 3], []⟩) (FinB prog w A R) (fun e s' => R (.error e) s') s := by
  induction k with
  | zero =>
    intro i hk hi hp s h
    obtain ⟨xs, ys, n, m, a1, a2, z1, z2, _⟩ := hl _ _ h
    obtain rfl : i = N := by omega
    have q := f1 s h hp
    obtain ⟨hh, g, d, tk, os⟩ := s
    wp_walk using wpAny_loadPart' a1, wpAny_loadPart' a2
    rw [show xs[((i : Nat) : Int).toNat]? = none from by simp; omega, show ys[((i : Nat) : Int).toNat]? = none from by simp; omega]
    wp_walk using wpAny_loadPart' a1, wpAny_loadPart' a2
    show R (.ok (.ret (.bool (xs.size != ys.size)))) _
    rw [z1, z2]
    simpa using q
  | succ k ih =>
    intro i hk hi hp s h
    obtain ⟨xs, ys, n, m, a1, a2, z1, z2, turn⟩ := hl _ _ h
    have i1 : i < xs.size := by omega
    have i2 : i < ys.size := by omega
    have ht := turn i1 i2
    obtain ⟨hh, g, d, tk, os⟩ := s
    wp_walk using wpAny_loadPart' a1, wpAny_loadPart' a2
    rw [show xs[((i : Nat) : Int).toNat]? = some xs[i] from by simp [i1], show ys[((i : Nat) : Int).toNat]? = some ys[i] from by simp [i2]]
    refine wpAny_bind (wpAny_mono ht (fun r s2 h2 => ?_) fun _ _ x => x)
    obtain ⟨hr, h2⟩ := h2
    cases he : e i with
    | true =>
      rw [he] at hr
      subst hr
      have hrec := ih (i + 1) (by omega) (by omega) (fun j hj => by
        by_cases z : j = i
        · rw [z]; exact he
        · exact hp j (by omega)) s2 h2
      obtain ⟨hh2, g2, d2, tk2, os2⟩ := s2
      wp_walk
      rw [show ((i : Int) + 1) = ((i + 1 : Nat) : Int) from by omega]
      exact ⟨plainId_quiet plain_eq_loop _, codeAny_builtin entry_eq_loop (by
        rw [Around.under_plainId plain_eq_loop _]
        exact hrec)⟩
    | false =>
      rw [he] at hr
      subst hr
      have q := f0 i s2 (by omega) he h2
      obtain ⟨xs', ys', n', m', b1, b2, y1, y2, _⟩ := hl _ _ h2
      obtain ⟨hh2, g2, d2, tk2, os2⟩ := s2
      wp_walk using wpAny_loadPart' b1, wpAny_loadPart' b2
      rw [show xs'[((i : Nat) : Int).toNat]? = some (xs'[i]'(by omega)) from by simp, show ys'[((i : Nat) : Int).toNat]? = some (ys'[i]'(by omega)) from by simp]
      wp_walk
      exact q
theorem list_ne (l b : Addr) (N : Nat) (e : Nat → Bool) (I : Nat → Shared → Prop) (hl : ItB prog w A (fun e s' => R (.error e) s') l b N e I)
    (f1 : ∀ s, I N s → (∀ j < N, e j = true) → R (.ok (.ret (.bool false))) s) (f0 : ∀ i s, i < N → e i = false → I (i + 1) s → R (.ok (.ret (.bool true))) s) {s : Shared} (h : I 0 s) :
    wpAny (model prog w) A.in1 (Builtin.«list.__ne__» ⟨[.ref l, .ref b], []⟩) (FinB prog w A R) (fun e s' => R (.error e) s') s := by
  obtain ⟨xs, ys, n, m, a1, a2, z1, z2, _⟩ := hl _ _ h
  have hrec := loop_ne (A := A) (R := R) l b N e I hl f1 f0 _ 0 rfl (Nat.zero_le _) (fun j hj => absurd hj (Nat.not_lt_zero j)) s h
  obtain ⟨hh, g, d, tk, os⟩ := s
  have f3 := AutoSeq1.sub_list_list
  have hne : ¬ (xs.size != ys.size) = true := by simp [z1, z2]
  wp_walk using wpAny_loadPart' a1, wpAny_loadPart' a2
  exact ⟨plainId_quiet plain_eq_loop _, codeAny_builtin entry_eq_loop (by
    rw [Around.under_plainId plain_eq_loop _]
    exact hrec)⟩
/-- lists of unlike lengths -/
theorem list_ne_len {l b : Addr} {xs ys : Array Value} {n m : Nat} {s : Shared} (a1 : s.heap.get? l = some { cls := .type "list", data := .seq xs n }) (a2 : s.heap.get? b = some { cls := .type "list", data := .seq ys m }) (hz : xs.size ≠ ys.size) (q : R (.ok (.ret (.bool true))) s) :
    wpAny (model prog w) A.in1 (Builtin.«list.__ne__» ⟨[.ref l, .ref b], []⟩) (FinB prog w A R) (fun e s' => R (.error e) s') s := by
  obtain ⟨hh, g, d, tk, os⟩ := s
  have f3 := AutoSeq1.sub_list_list
  have hne : (xs.size != ys.size) = true := by simp [hz]
  wp_walk using wpAny_loadPart' a1, wpAny_loadPart' a2
  exact q
end
end My
/-! == and != that may run an own __eq__: tuples, own classes, operators -/
namespace My
open PySem PySem.SeqAt L2 LamX PyProof.Rows
open AutoSeq1 (wpAny_loadPart')
open MeetsSeq MeetsSeq2 MeetsSeq3 SeqRoads2
section
variable {prog : Program} {w : World} {A : Around} {R : Result → Shared → Prop} {E : Value → Shared → Prop} {s : Shared}
theorem tup_eq (l b : Addr) (xs ys : Array Value) (n m : Nat) (dd dd2 : Option Addr) (sl sl2 : Array (Option Value)) (hsz : xs.size = ys.size) (e : Nat → Bool) (I : Nat → Shared → Prop)
    (turn : ∀ i (h1 : i < xs.size) (h2 : i < ys.size) s, I i s → wpAny (model prog w) A.in1 (eqBool xs[i] ys[i]) (fun r s' => r = e i ∧ I (i + 1) s') (fun e s' => R (.error e) s') s)
    (f1 : ∀ s, I xs.size s → (∀ j < xs.size, e j = true) → R (.ok (.ret (.bool true))) s) (f0 : ∀ i s, i < xs.size → e i = false → I (i + 1) s → R (.ok (.ret (.bool false))) s) {s : Shared}
    (a1 : s.heap.get? l = some { cls := .type "tuple", dict := dd, data := .seq xs n, slots := sl }) (a2 : s.heap.get? b = some { cls := .type "tuple", dict := dd2, data := .seq ys m, slots := sl2 }) (h : I 0 s) :
    wpAny (model prog w) A.in1 (Builtin.«tuple.__eq__» ⟨[.ref l, .ref b], []⟩) (FinB prog w A R) (fun e s' => R (.error e) s') s := by
  have f2 := AutoSeq1.sub_tuple_tuple
  have hZ : (xs.toList.zip ys.toList).length = xs.size := by simp [hsz]
  have h0 := h
  obtain ⟨hh, g, d, tk, os⟩ := s
  wp_walk using wpAny_loadPart' a1, wpAny_loadPart' a2, wpAny_forIn_list _ (fun rest b s' => (b.1 = none ∧ ∃ i, rest = (xs.toList.zip ys.toList).drop i ∧ i ≤ xs.size ∧ I i s' ∧ ∀ j < i, e j = true) ∨ (b.1 = some (.done (.ret (.bool false))) ∧ rest = [] ∧ R (.ok (.ret (.bool false))) s'))
  case turn =>
    rintro ⟨y, x⟩ rest b s' (⟨hb, i, hz, hi, hI, hp⟩ | ⟨_, hz, _⟩)
    · have hlt : i < (xs.toList.zip ys.toList).length := by
        rcases Nat.lt_or_ge i (xs.toList.zip ys.toList).length with z | z
        · exact z
        · rw [List.drop_of_length_le z] at hz; cases hz
      have h1 : i < xs.size := hZ ▸ hlt
      have h2 : i < ys.size := hsz ▸ h1
      rw [List.drop_eq_getElem_cons hlt] at hz
      injection hz with hyx hrest
      obtain rfl : y = xs[i] := by simpa using congrArg Prod.fst hyx
      obtain rfl : x = ys[i] := by simpa using congrArg Prod.snd hyx
      refine wpAny_bind (wpAny_mono (turn i h1 h2 s' hI) (fun r s2 q2 => ?_) fun _ _ x => x)
      obtain ⟨hr, q2⟩ := q2
      cases he : e i with
      | true =>
        rw [he] at hr
        subst hr
        wp_walk
        exact .inl ⟨rfl, i + 1, hrest, h1, q2, fun j hj => by
          by_cases z : j = i
          · rw [z]; exact he
          · exact hp j (by omega)⟩
      | false =>
        rw [he] at hr
        subst hr
        have q := f0 i s2 h1 he q2
        wp_walk
        exact q
    · cases hz
  case fin =>
    rintro ⟨b1, b2⟩ s' (⟨hb, i, hz, hi, hI, hp⟩ | ⟨hb, _, q⟩)
    · simp only at hb
      subst hb
      have hge : xs.size ≤ i := by
        rcases Nat.lt_or_ge i (xs.toList.zip ys.toList).length with z | z
        · rw [List.drop_eq_getElem_cons z] at hz; cases hz
        · exact hZ ▸ z
      obtain rfl : i = xs.size := by omega
      have q := f1 s' hI hp
      wp_walk
      simpa [Builtin.Tuple.tupleCompareSizes, hsz] using q
    · simp only at hb
      subst hb
      wp_walk
      exact q
  case h =>
    exact .inl ⟨rfl, 0, rfl, Nat.zero_le _, h0, fun j hj => absurd hj (Nat.not_lt_zero j)⟩
theorem tup_ne (l b : Addr) (xs ys : Array Value) (n m : Nat) (dd dd2 : Option Addr) (sl sl2 : Array (Option Value)) (hsz : xs.size = ys.size) (e : Nat → Bool) (I : Nat → Shared → Prop)
    (turn : ∀ i (h1 : i < xs.size) (h2 : i < ys.size) s, I i s → wpAny (model prog w) A.in1 (eqBool xs[i] ys[i]) (fun r s' => r = e i ∧ I (i + 1) s') (fun e s' => R (.error e) s') s)
    (f1 : ∀ s, I xs.size s → (∀ j < xs.size, e j = true) → R (.ok (.ret (.bool false))) s) (f0 : ∀ i s, i < xs.size → e i = false → I (i + 1) s → R (.ok (.ret (.bool true))) s) {s : Shared}
    (a1 : s.heap.get? l = some { cls := .type "tuple", dict := dd, data := .seq xs n, slots := sl }) (a2 : s.heap.get? b = some { cls := .type "tuple", dict := dd2, data := .seq ys m, slots := sl2 }) (h : I 0 s) :
    wpAny (model prog w) A.in1 (Builtin.«tuple.__ne__» ⟨[.ref l, .ref b], []⟩) (FinB prog w A R) (fun e s' => R (.error e) s') s := by
  have f2 := AutoSeq1.sub_tuple_tuple
  have hZ : (xs.toList.zip ys.toList).length = xs.size := by simp [hsz]
  have h0 := h
  obtain ⟨hh, g, d, tk, os⟩ := s
  wp_walk using wpAny_loadPart' a1, wpAny_loadPart' a2, wpAny_forIn_list _ (fun rest b s' => (b.1 = none ∧ ∃ i, rest = (xs.toList.zip ys.toList).drop i ∧ i ≤ xs.size ∧ I i s' ∧ ∀ j < i, e j = true) ∨ (b.1 = some (.done (.ret (.bool true))) ∧ rest = [] ∧ R (.ok (.ret (.bool true))) s'))
  case turn =>
    rintro ⟨y, x⟩ rest b s' (⟨hb, i, hz, hi, hI, hp⟩ | ⟨_, hz, _⟩)
    · have hlt : i < (xs.toList.zip ys.toList).length := by
        rcases Nat.lt_or_ge i (xs.toList.zip ys.toList).length with z | z
        · exact z
        · rw [List.drop_of_length_le z] at hz; cases hz
      have h1 : i < xs.size := hZ ▸ hlt
      have h2 : i < ys.size := hsz ▸ h1
      rw [List.drop_eq_getElem_cons hlt] at hz
      injection hz with hyx hrest
      obtain rfl : y = xs[i] := by simpa using congrArg Prod.fst hyx
      obtain rfl : x = ys[i] := by simpa using congrArg Prod.snd hyx
      refine wpAny_bind (wpAny_mono (turn i h1 h2 s' hI) (fun r s2 q2 => ?_) fun _ _ x => x)
      obtain ⟨hr, q2⟩ := q2
      cases he : e i with
      | true =>
        rw [he] at hr
        subst hr
        wp_walk
        exact .inl ⟨rfl, i + 1, hrest, h1, q2, fun j hj => by
          by_cases z : j = i
          · rw [z]; exact he
          · exact hp j (by omega)⟩
      | false =>
        rw [he] at hr
        subst hr
        have q := f0 i s2 h1 he q2
        wp_walk
        exact q
    · cases hz
  case fin =>
    rintro ⟨b1, b2⟩ s' (⟨hb, i, hz, hi, hI, hp⟩ | ⟨hb, _, q⟩)
    · simp only at hb
      subst hb
      have hge : xs.size ≤ i := by
        rcases Nat.lt_or_ge i (xs.toList.zip ys.toList).length with z | z
        · rw [List.drop_eq_getElem_cons z] at hz; cases hz
        · exact hZ ▸ z
      obtain rfl : i = xs.size := by omega
      have q := f1 s' hI hp
      wp_walk
      simpa [Builtin.Tuple.tupleCompareSizes, hsz] using q
    · simp only at hb
      subst hb
      wp_walk
      exact q
  case h =>
    exact .inl ⟨rfl, 0, rfl, Nat.zero_le _, h0, fun j hj => absurd hj (Nat.not_lt_zero j)⟩
end
end My
/-! == and != that may run an own __eq__: by the abstract heap -/
namespace My
open PySem PySem.Spec L2 LamX PyProof.Rows
section
variable {prog : Program} {w : World} {A : Around} {E : Value → Shared → Prop} {s : Shared}
theorem rc_list_eq {l b : Addr} {N : Nat} {e : Nat → Bool} {Q : Value → Shared → Prop} (hu : A.units < cLine) (I : Nat → Shared → Prop) (hl : ItB prog w A E l b N e I) (f1 : ∀ s, I N s → (∀ j < N, e j = true) → Q (.bool true) s)
    (f0 : ∀ i s, i < N → e i = false → I (i + 1) s → Q (.bool false) s) (h : I 0 s) : wpAny (model prog w) A (richCompare .Eq (.ref l) (.ref b)) Q E s := by
  obtain ⟨xs, ys, n, m, a1, a2, _⟩ := hl _ _ h
  refine wpAny_richCompare_same_room (op := .Eq) ⟨_, a1, rfl⟩ ⟨_, a2, rfl⟩ PySem.F.slot_list_eq (GQ.call_here PySem.F.slot_list_eq ⟨_, a1, rfl⟩ PySem.F.entry_list_eq (PySem.F.args_list_eq_2 _ _) ?_) hu
  exact list_eq (R := wants (fun v s' => v ≠ .notImplemented ∧ Q v s') E) l b N e I hl (fun s' q1 q2 => ⟨nofun, f1 s' q1 q2⟩) (fun i s' q1 q2 q3 => ⟨nofun, f0 i s' q1 q2 q3⟩) h
theorem rc_list_ne {l b : Addr} {N : Nat} {e : Nat → Bool} {Q : Value → Shared → Prop} (hu : A.units < cLine) (I : Nat → Shared → Prop) (hl : ItB prog w A E l b N e I) (f1 : ∀ s, I N s → (∀ j < N, e j = true) → Q (.bool false) s)
    (f0 : ∀ i s, i < N → e i = false → I (i + 1) s → Q (.bool true) s) (h : I 0 s) : wpAny (model prog w) A (richCompare .NotEq (.ref l) (.ref b)) Q E s := by
  obtain ⟨xs, ys, n, m, a1, a2, _⟩ := hl _ _ h
  refine wpAny_richCompare_same_room (op := .NotEq) ⟨_, a1, rfl⟩ ⟨_, a2, rfl⟩ PySem.F.slot_list_ne (GQ.call_here PySem.F.slot_list_ne ⟨_, a1, rfl⟩ PySem.F.entry_list_ne (PySem.F.args_list_ne_2 _ _) ?_) hu
  exact list_ne (R := wants (fun v s' => v ≠ .notImplemented ∧ Q v s') E) l b N e I hl (fun s' q1 q2 => ⟨nofun, f1 s' q1 q2⟩) (fun i s' q1 q2 q3 => ⟨nofun, f0 i s' q1 q2 q3⟩) h
theorem rc_list_eq_len {l b : Addr} {xs ys : Array Value} {n m : Nat} {Q : Value → Shared → Prop} (hu : A.units < cLine) (a1 : s.heap.get? l = some { cls := .type "list", data := .seq xs n }) (a2 : s.heap.get? b = some { cls := .type "list", data := .seq ys m }) (hz : xs.size ≠ ys.size) (q : Q (.bool false) s) :
    wpAny (model prog w) A (richCompare .Eq (.ref l) (.ref b)) Q E s := by
  refine wpAny_richCompare_same_room (op := .Eq) ⟨_, a1, rfl⟩ ⟨_, a2, rfl⟩ PySem.F.slot_list_eq (GQ.call_here PySem.F.slot_list_eq ⟨_, a1, rfl⟩ PySem.F.entry_list_eq (PySem.F.args_list_eq_2 _ _) ?_) hu
  exact list_eq_len (R := wants (fun v s' => v ≠ .notImplemented ∧ Q v s') E) a1 a2 hz ⟨nofun, q⟩
theorem rc_list_ne_len {l b : Addr} {xs ys : Array Value} {n m : Nat} {Q : Value → Shared → Prop} (hu : A.units < cLine) (a1 : s.heap.get? l = some { cls := .type "list", data := .seq xs n }) (a2 : s.heap.get? b = some { cls := .type "list", data := .seq ys m }) (hz : xs.size ≠ ys.size) (q : Q (.bool true) s) :
    wpAny (model prog w) A (richCompare .NotEq (.ref l) (.ref b)) Q E s := by
  refine wpAny_richCompare_same_room (op := .NotEq) ⟨_, a1, rfl⟩ ⟨_, a2, rfl⟩ PySem.F.slot_list_ne (GQ.call_here PySem.F.slot_list_ne ⟨_, a1, rfl⟩ PySem.F.entry_list_ne (PySem.F.args_list_ne_2 _ _) ?_) hu
  exact list_ne_len (R := wants (fun v s' => v ≠ .notImplemented ∧ Q v s') E) a1 a2 hz ⟨nofun, q⟩
theorem rc_tup_eq {l b : Addr} {xs ys : Array Value} {e : Nat → Bool} {Q : Value → Shared → Prop} (hsz : xs.size = ys.size) (hu : A.units < cLine) (I : Nat → Shared → Prop) (hl : s.heap.IsTuple l xs) (hb : s.heap.IsTuple b ys)
    (turn : ∀ i (h1 : i < xs.size) (h2 : i < ys.size) s, I i s → wpAny (model prog w) A.in1 (eqBool xs[i] ys[i]) (fun r s' => r = e i ∧ I (i + 1) s') E s) (f1 : ∀ s, I xs.size s → (∀ j < xs.size, e j = true) → Q (.bool true) s)
    (f0 : ∀ i s, i < xs.size → e i = false → I (i + 1) s → Q (.bool false) s) (h : I 0 s) : wpAny (model prog w) A (richCompare .Eq (.ref l) (.ref b)) Q E s := by
  obtain ⟨⟨cls, dd, data, sl⟩, ho, hc, n, hd⟩ := id hl
  obtain ⟨⟨cls2, dd2, data2, sl2⟩, ho2, hc2, n2, hd2⟩ := id hb
  simp only at hc hd hc2 hd2
  subst hc hd hc2 hd2
  refine wpAny_richCompare_same_room (op := .Eq) ⟨_, ho, rfl⟩ ⟨_, ho2, rfl⟩ PySem.F.slot_tuple_eq (GQ.call_here PySem.F.slot_tuple_eq ⟨_, ho, rfl⟩ PySem.F.entry_tuple_eq (PySem.F.args_tuple_eq_2 _ _) ?_) hu
  exact tup_eq (R := wants (fun v s' => v ≠ .notImplemented ∧ Q v s') E) l b xs ys n n2 dd dd2 sl sl2 hsz e I turn (fun s' q1 q2 => ⟨nofun, f1 s' q1 q2⟩) (fun i s' q1 q2 q3 => ⟨nofun, f0 i s' q1 q2 q3⟩) ho ho2 h
theorem rc_tup_ne {l b : Addr} {xs ys : Array Value} {e : Nat → Bool} {Q : Value → Shared → Prop} (hsz : xs.size = ys.size) (hu : A.units < cLine) (I : Nat → Shared → Prop) (hl : s.heap.IsTuple l xs) (hb : s.heap.IsTuple b ys)
    (turn : ∀ i (h1 : i < xs.size) (h2 : i < ys.size) s, I i s → wpAny (model prog w) A.in1 (eqBool xs[i] ys[i]) (fun r s' => r = e i ∧ I (i + 1) s') E s) (f1 : ∀ s, I xs.size s → (∀ j < xs.size, e j = true) → Q (.bool false) s)
    (f0 : ∀ i s, i < xs.size → e i = false → I (i + 1) s → Q (.bool true) s) (h : I 0 s) : wpAny (model prog w) A (richCompare .NotEq (.ref l) (.ref b)) Q E s := by
  obtain ⟨⟨cls, dd, data, sl⟩, ho, hc, n, hd⟩ := id hl
  obtain ⟨⟨cls2, dd2, data2, sl2⟩, ho2, hc2, n2, hd2⟩ := id hb
  simp only at hc hd hc2 hd2
  subst hc hd hc2 hd2
  refine wpAny_richCompare_same_room (op := .NotEq) ⟨_, ho, rfl⟩ ⟨_, ho2, rfl⟩ PySem.F.slot_tuple_ne (GQ.call_here PySem.F.slot_tuple_ne ⟨_, ho, rfl⟩ PySem.F.entry_tuple_ne (PySem.F.args_tuple_ne_2 _ _) ?_) hu
  exact tup_ne (R := wants (fun v s' => v ≠ .notImplemented ∧ Q v s') E) l b xs ys n n2 dd dd2 sl sl2 hsz e I turn (fun s' q1 q2 => ⟨nofun, f1 s' q1 q2⟩) (fun i s' q1 q2 q3 => ⟨nofun, f0 i s' q1 q2 q3⟩) ho ho2 h
end
/-! ### own classes: != by object.__ne__ and the own __eq__ -/
section
open PySem.W
variable {prog : Program} {w : World} {A : Around} {E : Value → Shared → Prop} {s : Shared} {K : Frag} {x C L f : Addr} {h₀ : Heap} {m : Str → Option Value} {ox : Obj} {od : Option Obj} {b : Value}
theorem ifBound_ne {M : Model} {Q : Option Value → Shared → Prop} (X : K.In s.heap) (I : InstAt s.heap x ox C od) (hs : findIn K (.ref C) "__ne__" = some (some (.builtin "object.__ne__")))
    (h : wpAny M A (call (.builtin "object.__ne__") [.ref x, b]) (fun v => Q (some v)) E s) : wpAny M A (callSpecialIfBound? (.ref x) "__ne__" [b]) Q E s := by
  simp only [callSpecialIfBound?, bindSpecialIfBound?]
  refine wpAny_holding (wpAny_bind (wpAny_bind (wpAny_bind (I.type.here ((looks_findIn X hs).here ?_)))))
  simp only [PySem.F.cmp_object.ne.bind]
  refine wpAny_bind (wpAny_askSetting (wpAny_ite ?_))
  have fin : wpAny M A (call (.builtin "object.__ne__") ([.ref x] ++ [b]) >>= fun v => pure (some v)) Q E s := wpAny_bind (wpAny_mono h (fun v s' h' => wpAny_pure h') fun _ _ h' => h')
  split
  · exact wpAny_bind (wpAny_pure (wpAny_pure fin))
  · exact wpAny_tryCatch (wpAny_bind (wpAny_pure (wpAny_pure fin)))
theorem ne_K {y : Addr} {oy : Obj} {od' : Option Obj} {Q : Value → Shared → Prop} (hu : A.units + 1 < cLine) (X : K.In s.heap) (I : InstAt s.heap x ox C od) (J : InstAt s.heap y oy C od') (hs : findIn K (.ref C) "__ne__" = some (some (.builtin "object.__ne__")))
    (ho : subIn K (.ref C) (.type "object") = some true) (he : findIn K (.ref C) "__eq__" = some (some (.ref f))) (hf : isFn K (.ref f) = true)
    (h : wpAny (model prog w) A.in1 (call (.ref f) [.ref x, .ref y]) (fun v s' => ∃ r, v = .bool r ∧ Q (.bool (!r)) s') E s) : wpAny (model prog w) A (richCompare .NotEq (.ref x) (.ref y)) Q E s := by
  have one : wpAny (model prog w) A (tryCompare (.ref x) (cmpInfo .NotEq).2.1 (.ref y)) (fun r s' => ∃ v, r = some v ∧ Q v s') E s := by
    unfold tryCompare
    refine wpAny_bind (ifBound_ne X I hs (wpAny_call (codeAny_call_builtin PySem.F.cmp_object.ne.plain PySem.F.cmpEntry_ne (check_slot PySem.F.cmpKind_ne PySem.F.cmpSplit_ne (I.type.andThen (looks_subIn X ho)) (PySem.F.cmpArgs_ne _ _) ?_))))
    have hb : wpAny (model prog w) A.in1 (callSpecialIfBound? (.ref x) "__eq__" [.ref y]) (fun o s' => ∃ r, o = some (.bool r) ∧ Q (.bool (!r)) s') E s := ifBound_K X I he hf (wpAny_mono h (fun v s' ⟨r, e, q⟩ => ⟨r, by rw [e], q⟩) fun _ _ e => e)
    obtain ⟨hh, g, d, tk, os⟩ := s
    unfold Builtin.«object.__ne__»
    repeat (first | with_reducible refine wpAny_cRoomFor hu ?_ | with_reducible refine wpAny_mono hb (fun o s' ho => ?_) (fun _ _ e => ?_) | wp_step)
    · obtain ⟨r, rfl, q⟩ := ho
      refine wpAny_bind (wpAny_truthy_bool ?_)
      exact wpAny_pure (wpAny_pure ⟨_, rfl, q⟩)
    · assumption
  unfold richCompare
  simp only [oneThing_ref]
  refine wpAny_holding (wpAny_bind (wpAny_cRoomFor (Nat.lt_of_succ_lt hu) ?_))
  refine wpAny_bind (I.type.here (wpAny_bind (J.type.here ?_)))
  rw [if_neg (by simp)]
  refine wpAny_bind (wpAny_pure ?_)
  simp only [Bool.false_eq_true, if_false]
  refine wpAny_bind (wpAny_mono one (fun r s' z => ?_) fun _ _ e => e)
  obtain ⟨v, rfl, hq⟩ := z
  exact wpAny_pure hq
end
/-! ### the answer about two values; the heap may grow -/
abbrev EqvB := V → V → Bool → Hp → Prop
def MonB (D : EqvB) : Prop := ∀ x y b H H', Ext H H' → D x y b H → D x y b H'
def EqB (X : Cx) (n : Nat) (D : EqvB) : Prop :=
  ∀ (A : Around) (pins : List (Addr × Obj)) (s : Shared) (σ : L2.St) (H : Hp) (x y : V) (u v : Value) (b : Bool), L2.Sub X n A → Inv X pins σ H s → RelV x u → RelV y v → D x y b H →
    wpAny (model X.prog X.w) A (eqBool u v) (fun r s' => r = b ∧ ∃ H', Inv X pins σ H' s' ∧ Ext H H') X.xe s
def RcB (X : Cx) (n : Nat) (ne : Bool) (D : EqvB) : Prop :=
  ∀ (A : Around) (pins : List (Addr × Obj)) (s : Shared) (σ : L2.St) (H : Hp) (x y : V) (u v : Value) (b : Bool), L2.Sub X n A → Inv X pins σ H s → RelV x u → RelV y v → D x y b H →
    wpAny (model X.prog X.w) A (richCompare (if ne = true then .NotEq else .Eq) u v) (fun r s' => r = .bool (if ne = true then !b else b) ∧ ∃ H', Inv X pins σ H' s' ∧ Ext H H') X.xe s
section
variable {X : Cx} {n : Nat} {D : EqvB}
def DFlatB : EqvB := fun x y b _ => flatV x = true ∧ flatV y = true ∧ eqV x y = b
theorem monB_flat : MonB DFlatB := fun _ _ _ _ _ _ d => d
theorem eqB_flat : EqB X 0 DFlatB := by
  intro A pins s σ H x y u v b sb I rx ry d
  obtain ⟨fx, fy, e⟩ := d
  have q := eqAt_V (A := A) (s := s) rx ry fx fy
  rw [e] at q
  exact q X.prog X.w X.xe _ ⟨rfl, H, I, Ext.rfl'⟩
/-- item by item: the answers e -/
def PrsB (D : EqvB) (xs ys : List V) (e : Nat → Bool) (H : Hp) : Prop := xs.length = ys.length ∧ ∀ (i : Nat) x y, xs[i]? = some x → ys[i]? = some y → D x y (e i) H
theorem turnB (hD : MonB D) (h : EqB X n D) {A : Around} (sb : L2.Sub X (n + 1) A) {pins : List (Addr × Obj)} {σ : L2.St} {H : Hp} {xs ys : List V} {e : Nat → Bool} {us vs : List Value} (p : PrsB D xs ys e H) (r : Vals xs us) (r2 : Vals ys vs)
    (i : Nat) (h1 : i < us.toArray.size) (h2 : i < vs.toArray.size) (s' : Shared) (l : LoopI X pins σ H s') :
    wpAny (model X.prog X.w) A.in1 (eqBool us.toArray[i] vs.toArray[i]) (fun r s2 => r = e i ∧ LoopI X pins σ H s2) X.xe s' := by
  obtain ⟨H1, I1, e1⟩ := l
  have g1 : us[i]? = some us.toArray[i] := by
    have z : i < us.length := by simpa using h1
    rw [List.getElem?_eq_getElem z] <;> simp
  have g2 : vs[i]? = some vs.toArray[i] := by
    have z : i < vs.length := by simpa using h2
    rw [List.getElem?_eq_getElem z] <;> simp
  have k1 : i < xs.length := by rw [r.length]; simpa using h1
  have k2 : i < ys.length := by rw [r2.length]; simpa using h2
  obtain ⟨u, hu, ru⟩ := r.get (List.getElem?_eq_getElem k1)
  obtain ⟨v, hv, rv⟩ := r2.get (List.getElem?_eq_getElem k2)
  rw [g1] at hu
  rw [g2] at hv
  rw [Option.some.inj hu, Option.some.inj hv]
  refine wpAny_mono (h A.in1 pins s' σ H1 _ _ u v _ sb.in1 I1 ru rv (hD _ _ _ _ _ e1 (p.2 i _ _ (List.getElem?_eq_getElem k1) (List.getElem?_eq_getElem k2)))) (fun r s2 q => ?_) fun _ _ x => x
  obtain ⟨hr, H2, I2, e2⟩ := q
  exact ⟨hr, H2, I2, e1.trans e2⟩
def allB (n : Nat) (e : Nat → Bool) : Bool := (List.range n).all e
theorem allB_t {n : Nat} {e : Nat → Bool} (h : ∀ j < n, e j = true) : allB n e = true := List.all_eq_true.mpr fun j hj => h j (List.mem_range.mp hj)
theorem allB_f {n i : Nat} {e : Nat → Bool} (h : i < n) (he : e i = false) : allB n e = false := Bool.eq_false_iff.mpr fun z => by
  rw [List.all_eq_true.mp z i (List.mem_range.mpr h)] at he
  cases he
/-- two lists -/
def DListB (D : EqvB) : EqvB := fun x y b H => ∃ p q xs ys, x = .ref p ∧ y = .ref q ∧ H p = some (.lst xs) ∧ H q = some (.lst ys) ∧ ((xs.length ≠ ys.length ∧ b = false) ∨ ∃ e, PrsB D xs ys e H ∧ b = allB xs.length e)
/-- two tuples of one length -/
def DTupB (K : PySem.W.Frag) (D : EqvB) : EqvB := fun x y b H => ∃ p q xs ys e, x = .ref p ∧ y = .ref q ∧ SqT K H p xs ∧ SqT K H q ys ∧ PrsB D xs ys e H ∧ b = allB xs.length e
theorem rcB_list (hD : MonB D) (h : EqB X n D) : ∀ ne, RcB X (n + 1) ne (DListB D) := by
  intro ne A pins s σ H x y u v b sb I rx ry d
  obtain ⟨p, q, xs, ys, rfl, rfl, hp, hq, d⟩ := d
  cases rx
  cases ry
  rcases d with ⟨hne, rfl⟩ | ⟨e, pr, rfl⟩
  · obtain ⟨z, us, k, r, a1⟩ := I.hok p _ hp
    obtain ⟨z2, vs, k2, r2, a2⟩ := I.hok q _ hq
    have hsz : us.toArray.size ≠ vs.toArray.size := by rw [List.size_toArray, List.size_toArray, ← r.length, ← r2.length]; exact hne
    cases ne with
    | true => exact rc_list_ne_len sb.room.units0 a1 a2 hsz ⟨rfl, H, I, Ext.rfl'⟩
    | false => exact rc_list_eq_len sb.room.units0 a1 a2 hsz ⟨rfl, H, I, Ext.rfl'⟩
  · have it : ItB X.prog X.w A X.xe p q xs.length e (fun _ s' => LoopI X pins σ H s') := fun i s' l => by
      obtain ⟨H1, I1, e1⟩ := id l
      obtain ⟨z, us, k, r, a1⟩ := I1.hok p _ (e1 _ _ hp)
      obtain ⟨z2, vs, k2, r2, a2⟩ := I1.hok q _ (e1 _ _ hq)
      exact ⟨us.toArray, vs.toArray, k, k2, a1, a2, by rw [List.size_toArray, ← r.length], by rw [List.size_toArray, ← r2.length, ← pr.1], fun h1 h2 => turnB hD h sb pr r r2 i h1 h2 s' l⟩
    cases ne with
    | true => exact rc_list_ne sb.room.units0 _ it (fun s' l ha => ⟨by rw [allB_t ha]; rfl, l⟩) (fun i s' hi he l => ⟨by rw [allB_f hi he]; rfl, l⟩) ⟨H, I, Ext.rfl'⟩
    | false => exact rc_list_eq sb.room.units0 _ it (fun s' l ha => ⟨by rw [allB_t ha]; rfl, l⟩) (fun i s' hi he l => ⟨by rw [allB_f hi he]; rfl, l⟩) ⟨H, I, Ext.rfl'⟩
theorem rcB_tup (hD : MonB D) (h : EqB X n D) : ∀ ne, RcB X (n + 1) ne (DTupB X.K D) := by
  intro ne A pins s σ H x y u v b sb I rx ry d
  obtain ⟨p, q, xs, ys, e, rfl, rfl, hp, hq, pr, rfl⟩ := d
  cases rx
  cases ry
  obtain ⟨us, r, a1, z⟩ := I.tuple hp
  obtain ⟨vs, r2, a2, z2⟩ := I.tuple hq
  have hl : us.toArray.size = xs.length := by rw [List.size_toArray, ← r.length]
  have hsz : us.toArray.size = vs.toArray.size := by rw [hl, List.size_toArray, ← r2.length]; exact pr.1
  have tn : ∀ i (h1 : i < us.toArray.size) (h2 : i < vs.toArray.size) s, LoopI X pins σ H s → wpAny (model X.prog X.w) A.in1 (eqBool us.toArray[i] vs.toArray[i]) (fun r s' => r = e i ∧ LoopI X pins σ H s') X.xe s := fun i h1 h2 s' l => turnB hD h sb pr r r2 i h1 h2 s' l
  cases ne with
  | true => exact rc_tup_ne hsz sb.room.units0 (fun _ s' => LoopI X pins σ H s') a1 a2 tn (fun s' l ha => ⟨by rw [allB_t fun j hj => ha j (by rw [hl]; exact hj)]; rfl, l⟩) (fun i s' hi he l => ⟨by rw [allB_f (by rw [← hl]; exact hi) he]; rfl, l⟩) ⟨H, I, Ext.rfl'⟩
  | false => exact rc_tup_eq hsz sb.room.units0 (fun _ s' => LoopI X pins σ H s') a1 a2 tn (fun s' l ha => ⟨by rw [allB_t fun j hj => ha j (by rw [hl]; exact hj)]; rfl, l⟩) (fun i s' hi he l => ⟨by rw [allB_f (by rw [← hl]; exact hi) he]; rfl, l⟩) ⟨H, I, Ext.rfl'⟩
/-- two instances of the class at C: R tells the answer -/
def DInsB (C : Addr) (R : Addr → V → Bool → Hp → Prop) : EqvB := fun x y b H => ∃ p q dx dy fs gs, x = .ref p ∧ y = .ref q ∧ H p = some (.ins C dx fs) ∧ H q = some (.ins C dy gs) ∧ R p y b H
/-- an instance and None -/
def DNonB (C : Addr) (R : Addr → V → Bool → Hp → Prop) : EqvB := fun x y b H => ∃ p dx fs, x = .ref p ∧ y = .non ∧ H p = some (.ins C dx fs) ∧ R p y b H
def spEqB (R : Addr → V → Bool → Hp → Prop) : Sp := fun vs H Q _ => ∃ p y b, vs = [.ref p, y] ∧ R p y b H ∧ ∀ H', Ext H H' → Q (.bl b) H'
/-- what is known of a class with its own == and no != -/
structure EqC (K : PySem.W.Frag) (C f : Addr) : Prop where
  eq : PySem.W.findIn K (.ref C) "__eq__" = some (some (.ref f))
  ne : PySem.W.findIn K (.ref C) "__ne__" = some (some (.builtin "object.__ne__"))
  fn : PySem.W.isFn K (.ref f) = true
  ob : PySem.W.subIn K (.ref C) (.type "object") = some true
theorem run_eqB {C f : Addr} {fd : FuncData} {ps : List Str} {R : Addr → V → Bool → Hp → Prop} (F : FnOk X.prog X.w X.K X.mg X.base C8.CX0 n f fd ps (spEqB R)) (hb : Binds X.K fd ps []) {A' : Around} (hro : Room n A') (hf : A'.frames = X.A.frames) {pins : List (Addr × Obj)} {s : Shared} {σ : L2.St} {H : Hp} {p : Addr} {y : V} {v : Value} {b : Bool}
    (I : Inv X pins σ H s) (ry : RelV y v) (hr : R p y b H) : wpAny (model X.prog X.w) A' (call (.ref f) [.ref p, v]) (fun v s' => v = .bool b ∧ ∃ H', Inv X pins σ H' s' ∧ Ext H H') X.xe s := by
  have hsp : spEqB R [.ref p, y] H (fun v H' => v = .bl b ∧ Ext H H') C8.E0 := ⟨p, y, b, rfl, hr, fun H' e => ⟨rfl, e⟩⟩
  have e0 : Env0 X.prog X.w X.K X.mg X.base A' X.stack s H := by
    have e := I.env0
    exact ⟨by rw [hf]; exact e.frames, e.mod, e.bs, e.bsz, e.funs, e.frf, e.hok, e.bare⟩
  have hl := F.len _ _ _ _ hsp
  have r2 : Vals [V.ref p, y] [Value.ref p, v] := .cons rfl (.cons ry .nil)
  refine wpAny_call (codeAny_mono (F.run A' X.stack s H ⟨[.ref p, v], []⟩ [.ref p, v] [.ref p, y] _ C8.E0 hro e0 (by
    have := hb s [.ref p, v] I.kIn (by simpa using hl)
    simpa using this) r2 hsp) fun r s' hq => ?_)
  cases r with
  | error e => exact (show False from hq).elim
  | ok fl =>
    cases fl with
    | ret w =>
      obtain ⟨z, H', I', rz, ez, ex⟩ := I.after hq
      subst ez
      cases rz
      exact ⟨rfl, H', I', ex⟩
    | next => exact False.elim hq
    | brk => exact False.elim hq
    | cont => exact False.elim hq
theorem rcB_ins {C f : Addr} {fd : FuncData} {ps : List Str} {R : Addr → V → Bool → Hp → Prop} (c : EqC X.K C f) (F : FnOk X.prog X.w X.K X.mg X.base C8.CX0 n f fd ps (spEqB R)) (hb : Binds X.K fd ps []) : ∀ ne, RcB X (n + 1) ne (DInsB C R) := by
  intro ne A pins s σ H x y u v b sb I rx ry d
  obtain ⟨p, q, dx, dy, fs, gs, rfl, rfl, hp, hq, hr⟩ := d
  cases rx
  cases ry
  obtain ⟨mA, J, _⟩ := ins_get I.hok hp
  obtain ⟨mB, J', _⟩ := ins_get I.hok hq
  obtain ⟨od, J, _⟩ := J.look
  obtain ⟨od', J', _⟩ := J'.look
  obtain ⟨m, hF⟩ := I.fr
  cases ne with
  | false =>
    refine PySem.W.cmp_K (op := .Eq) (tb := .ref C) sb.room.units0 hF I.ok.mod.kin J J'.type (by simp [PySem.W.notFirst]) c.eq c.fn (wpAny_mono (run_eqB (C := C) (y := .ref q) F hb (sb.mono (Nat.le_succ n)).room sb.fr I rfl hr) (fun v s' hv => ?_) fun _ _ e => e)
    obtain ⟨rfl, q⟩ := hv
    exact ⟨rfl, q⟩
  | true =>
    refine ne_K sb.in1.room.units0 I.kIn J J' c.ne c.ob c.eq c.fn (wpAny_mono (run_eqB (C := C) (y := .ref q) F hb sb.in1.room sb.in1.fr I rfl hr) (fun v s' hv => ?_) fun _ _ e => e)
    obtain ⟨rfl, q⟩ := hv
    exact ⟨b, rfl, rfl, q⟩
/-- x == None -/
theorem rcB_non {C f : Addr} {fd : FuncData} {ps : List Str} {R : Addr → V → Bool → Hp → Prop} (c : EqC X.K C f) (hn : PySem.W.subIn X.K (.type "NoneType") (.ref C) = some false) (F : FnOk X.prog X.w X.K X.mg X.base C8.CX0 n f fd ps (spEqB R)) (hb : Binds X.K fd ps []) : RcB X (n + 1) false (DNonB C R) := by
  intro A pins s σ H x y u v b sb I rx ry d
  obtain ⟨p, dx, fs, rfl, rfl, hp, hr⟩ := d
  cases rx
  cases ry
  obtain ⟨mA, J, _⟩ := ins_get I.hok hp
  obtain ⟨od, J, _⟩ := J.look
  obtain ⟨m, hF⟩ := I.fr
  refine PySem.W.cmp_K (op := .Eq) (tb := .type "NoneType") sb.room.units0 hF I.ok.mod.kin J (PySem.W.Looks.of_pure rfl) (by unfold PySem.W.notFirst; rw [hn]; simp) c.eq c.fn (wpAny_mono (run_eqB (C := C) (y := .non) F hb (sb.mono (Nat.le_succ n)).room sb.fr I rfl hr) (fun v s' hv => ?_) fun _ _ e => e)
  obtain ⟨rfl, q⟩ := hv
  exact ⟨rfl, q⟩
theorem RcB.or {ne : Bool} {D' : EqvB} (h : RcB X n ne D) (h' : RcB X n ne D') : RcB X n ne (fun x y b H => D x y b H ∨ D' x y b H) := fun A pins s σ H x y u v b sb I rx ry d => by
  rcases d with d | d
  · exact h A pins s σ H x y u v b sb I rx ry d
  · exact h' A pins s σ H x y u v b sb I rx ry d
/-- the same object on both sides -/
def DSame : EqvB := fun x y b _ => (∃ p, x = .ref p ∧ y = .ref p) ∧ b = true
theorem monB_same : MonB DSame := fun _ _ _ _ _ _ d => d
theorem eqB_same : EqB X 0 DSame := by
  intro A pins s σ H x y u v b sb I rx ry d
  obtain ⟨⟨p, rfl, rfl⟩, rfl⟩ := d
  cases rx
  cases ry
  exact SeqAt.EqAt.same (A := A) (s := s) (.ref p) X.prog X.w X.xe _ ⟨rfl, H, I, Ext.rfl'⟩
theorem EqB.mono {m : Nat} (h : EqB X n D) (hn : n ≤ m) : EqB X m D := fun A pins s σ H x y u v b sb => h A pins s σ H x y u v b (sb.mono hn)
/-- from comparisons of references to == within a list or tuple -/
theorem RcB.eqB (h : RcB X n false D) (hr : ∀ x y b H, D x y b H → ∃ p q, x = .ref p ∧ y = .ref q) (hs : ∀ (pins : List (Addr × Obj)) (s : Shared) (σ : L2.St) (H : Hp) (p : Addr) (b : Bool), Inv X pins σ H s → D (.ref p) (.ref p) b H → b = true) : EqB X n D := by
  intro A pins s σ H x y u v b sb I rx ry d
  obtain ⟨p, q, rfl, rfl⟩ := hr _ _ _ _ d
  cases rx
  cases ry
  by_cases hpq : p = q
  · subst hpq
    rw [hs pins s σ H p b I d]
    exact SeqAt.EqAt.same (A := A) (s := s) (.ref p) X.prog X.w X.xe _ ⟨rfl, H, I, Ext.rfl'⟩
  · refine GQ.eqBool_refG hpq (wpAny_mono (h A pins s σ H (.ref p) (.ref q) _ _ b sb I rfl rfl d) (fun r s' z => ?_) fun _ _ x => x)
    obtain ⟨hr', z⟩ := z
    exact ⟨b, hr', rfl, z⟩
/-- one tuple, read twice -/
theorem sqT_uniq {pins : List (Addr × Obj)} {s : Shared} {σ : L2.St} {H : Hp} {a : Addr} {xs ys : List V} (I : Inv X pins σ H s) (h1 : SqT X.K H a xs) (h2 : SqT X.K H a ys) : ∃ us : List Value, Vals xs us ∧ Vals ys us := by
  obtain ⟨us, r1, t1, _⟩ := I.tuple h1
  obtain ⟨us', r2, t2, _⟩ := I.tuple h2
  obtain ⟨o, e1, _, n, d1⟩ := t1
  obtain ⟨o', e2, _, n', d2⟩ := t2
  obtain rfl := Option.some.inj (e1.symm.trans e2)
  rw [d1] at d2
  have z : us.toArray = us'.toArray := by injection d2
  have z2 : us = us' := by simpa using congrArg Array.toList z
  subst z2
  exact ⟨us, r1, r2⟩
theorem valsI_uniq : ∀ {xs ys : List Int} {us : List Value}, Vals (xs.map V.int) us → Vals (ys.map V.int) us → xs = ys
  | [], [], _, _, _ => rfl
  | [], _ :: _, _, r1, r2 => by cases r1; cases r2
  | _ :: _, [], _, r1, r2 => by cases r2; cases r1
  | x :: xs, y :: ys, _, r1, r2 => by
    cases r1 with
    | cons a b =>
      cases r2 with
      | cons c d =>
        obtain ⟨t, rfl⟩ := (show ∃ t, _ = Value.int x t from a)
        obtain ⟨t', e⟩ := (show ∃ t', _ = Value.int y t' from c)
        injection e with e1
        rw [e1, valsI_uniq b d]
theorem valsS_uniq : ∀ {xs ys : List Str} {us : List Value}, Vals (xs.map V.str) us → Vals (ys.map V.str) us → xs = ys
  | [], [], _, _, _ => rfl
  | [], _ :: _, _, r1, r2 => by cases r1; cases r2
  | _ :: _, [], _, r1, r2 => by cases r2; cases r1
  | x :: xs, y :: ys, _, r1, r2 => by
    cases r1 with
    | cons a b =>
      cases r2 with
      | cons c d =>
        obtain ⟨t, rfl⟩ := (show ∃ t, _ = Value.str x t from a)
        obtain ⟨t', e⟩ := (show ∃ t', _ = Value.str y t' from c)
        injection e with e1
        rw [e1, valsS_uniq b d]
/-- x == y, x != y -/
def rEqB (ne : Bool) (D : EqvB) : R2 := fun x y H Q => ∃ b, D x y b H ∧ ∀ H', Ext H H' → Q (.bl (if ne = true then !b else b)) H'
theorem op_eqB (h : RcB X n false D) (hr : Room n X.A) : OpR X (compareOp .Eq) (rEqB false D) := by
  intro pins s σ H x y v u Q I rx ry hq
  obtain ⟨b, d, q⟩ := hq
  show wpAny (model X.prog X.w) X.A (richCompare .Eq v u) (EP X pins σ Q) X.xe s
  refine wpAny_mono (h X.A pins s σ H x y v u b ⟨hr, rfl⟩ I rx ry d) (fun r s' z => ?_) fun _ _ x => x
  obtain ⟨hr', H', I', e⟩ := z
  subst hr'
  exact ⟨.bl b, H', I', rfl, q H' e⟩
theorem op_neB (h : RcB X n true D) (hr : Room n X.A) : OpR X (compareOp .NotEq) (rEqB true D) := by
  intro pins s σ H x y v u Q I rx ry hq
  obtain ⟨b, d, q⟩ := hq
  show wpAny (model X.prog X.w) X.A (richCompare .NotEq v u) (EP X pins σ Q) X.xe s
  refine wpAny_mono (h X.A pins s σ H x y v u b ⟨hr, rfl⟩ I rx ry d) (fun r s' z => ?_) fun _ _ x => x
  obtain ⟨hr', H', I', e⟩ := z
  subst hr'
  exact ⟨.bl (!b), H', I', rfl, q H' e⟩
end
end My
/-! a def that calls what it got: whether an error came -/
namespace My
open PySem L2 LamX PyProof.Rows
/-- try: a() / except x: return True / return False -/
def TToldB (K : PySem.W.Frag) (C : Addr) : (XK → Hp → VK → Prop) → Hp → VK → Prop := fun tl H Q => tl (fun cls _ H' => ∃ b, PySem.W.exmOne K cls (.ref C) = some b ∧ (b = true → Q (.bl true) H') ∧ (b = false → False)) H fun _ H' => Q (.bl false) H'
def tsB (r : Bool) : Addr → Value → Option Addr → TS := fun _ _ _ => tRet (tC (.bl r))
section
variable {X : Cx}
theorem toldB_gives {Ng : List Str} {x a q e : Str} {sg : Scope} {g C : Addr} {cdg : Value} {p1 p2 p3 p4 p5 p6 p7 p8 p9 pn0 : Pos} {j jn : Nat} (hge : sg.names.lookup e = some .globalImplicit) (hme : X.mg e = some (.ref C)) (hde : (e == ("__debug__" : Str)) = false) (h0 : ∀ f : Addr, (L2.start Ng [V.ref f])[0]? = some (some (V.ref f))) :
    GivesTo X Ng x sg g cdg [.Try [.Expr (.Call (.Name a p1) [] [] p2) p3] [.ExceptHandler (some (.Name e p4)) none [.Return (some (.Constant (.bool true) j p5)) p6] p7] [] [] p8, .Return (some (.Constant (.bool false) jn pn0)) p9] a q (TToldB X.K C) := by
  intro f c' s H Q tl act hc h
  refine ⟨_, pss_cons (ps_try_many (X := (cxOf C8.CX0 X.prog X.w X.K X.mg X.base Ng x sg g cdg X.A X.stack s H C8.E0).nox) (Wout := fun _ _ _ _ => False) (l := [(Value.ref C, tsB true)])
      (tb := fun W D σ H => ∃ Ech : XK, (∀ cls d σ' H', Ech cls d H' → W cls d σ' H') ∧ σ[0]? = some (some (.ref f)) ∧ H c' = some (CodeO c' q) ∧ tl Ech H fun _ H' => D.nx σ H')
      rfl rfl takes_none5 (fun W pn xe tk _ => ?_) (.cons ⟨hge, hde, .inl hme⟩ (fun a oe cls d pn _ _ => pss_one (ps_ret pe_bl)) .nil)) (pss_one (ps_ret pe_bl)), ?_⟩
  · refine ⟨fun pins s' σ H' D I h' => ?_⟩
    obtain ⟨Ech, hW, h1, h2, h3⟩ := h'
    have hp := act W pn xe Ech p1 p2 tk hW
    have hq := pss_one (ps_expr (pos := p3) hp)
    exact hq.run pins s' σ H' D I ⟨h1, h2, h3⟩
  · exact ⟨fun cls _ H' => ∃ b, PySem.W.exmOne X.K cls (.ref C) = some b ∧ (b = true → Q (.bl true) H') ∧ (b = false → False), fun cls d σ' H' ⟨b, e1, e2, e3⟩ => ⟨b, e1, fun hb a _ => e2 hb, fun hb => e3 hb⟩, h0 f, hc, h⟩
end
theorem toldB_to {K : PySem.W.Frag} {C : Addr} {tl : (XK → Hp → VK → Prop)} {H : Hp} {Q0 : VK} (Pv : V → Hp → Prop) (a : ∀ Q : VK, (∀ v H', Pv v H' → Q v H') → TToldB K C tl H Q) (b : ∀ v H', Pv v H' → Q0 v H') : TToldB K C tl H Q0 := a Q0 b
/-- what holds behind an expression, named -/
def tMidE (te : TE) : TE := fun σ H Q => ∃ Pv : V → Hp → Prop, te σ H Pv ∧ ∀ v H', Pv v H' → Q v H'
theorem pe_mid {X : Cx} {e : Expr} {te : TE} (h : PE X e te) : PE X e (tMidE te) := ⟨fun pins s σ H Q I ⟨Pv, h1, h2⟩ => wpAny_mono (h.run pins s σ H Pv I h1) (fun u s' ⟨v, H', I', r, q⟩ => ⟨v, H', I', r, h2 v H' q⟩) fun _ _ z => z⟩
end My
/-! x != None by an own __eq__; min of a list of pairs of a number and a text -/
namespace My
open PySem PySem.Spec L2 LamX PyProof.Rows
section
open PySem.W
variable {prog : Program} {w : World} {A : Around} {E : Value → Shared → Prop} {s : Shared} {K : Frag} {x C f : Addr} {ox : Obj} {od : Option Obj} {b tb : Value}
theorem ne_KV {Q : Value → Shared → Prop} (hu : A.units + 1 < cLine) (X : K.In s.heap) (I : InstAt s.heap x ox C od) (hb : Looks (model prog w) s.heap (typeOf b) tb) (hn : notFirst K C tb = true) (hs : findIn K (.ref C) "__ne__" = some (some (.builtin "object.__ne__")))
    (ho : subIn K (.ref C) (.type "object") = some true) (he : findIn K (.ref C) "__eq__" = some (some (.ref f))) (hf : isFn K (.ref f) = true)
    (h : wpAny (model prog w) A.in1 (call (.ref f) [.ref x, b]) (fun v s' => ∃ r, v = .bool r ∧ Q (.bool (!r)) s') E s) : wpAny (model prog w) A (richCompare .NotEq (.ref x) b) Q E s := by
  have one : wpAny (model prog w) A (tryCompare (.ref x) (cmpInfo .NotEq).2.1 b) (fun r s' => ∃ v, r = some v ∧ Q v s') E s := by
    unfold tryCompare
    refine wpAny_bind (ifBound_ne X I hs (wpAny_call (codeAny_call_builtin PySem.F.cmp_object.ne.plain PySem.F.cmpEntry_ne (check_slot PySem.F.cmpKind_ne PySem.F.cmpSplit_ne (I.type.andThen (looks_subIn X ho)) (PySem.F.cmpArgs_ne _ _) ?_))))
    have hb : wpAny (model prog w) A.in1 (callSpecialIfBound? (.ref x) "__eq__" [b]) (fun o s' => ∃ r, o = some (.bool r) ∧ Q (.bool (!r)) s') E s := ifBound_K X I he hf (wpAny_mono h (fun v s' ⟨r, e, q⟩ => ⟨r, by rw [e], q⟩) fun _ _ e => e)
    obtain ⟨hh, g, d, tk, os⟩ := s
    unfold Builtin.«object.__ne__»
    repeat (first | with_reducible refine wpAny_cRoomFor hu ?_ | with_reducible refine wpAny_mono hb (fun o s' ho => ?_) (fun _ _ e => ?_) | wp_step)
    · obtain ⟨r, rfl, q⟩ := ho
      refine wpAny_bind (wpAny_truthy_bool ?_)
      exact wpAny_pure (wpAny_pure ⟨_, rfl, q⟩)
    · assumption
  unfold richCompare
  simp only [oneThing_ref]
  refine wpAny_holding (wpAny_bind (wpAny_cRoomFor (Nat.lt_of_succ_lt hu) ?_))
  refine wpAny_bind (I.type.here (wpAny_bind (hb.here ?_)))
  have fin : wpAny (model prog w) A (tryCompare (.ref x) (cmpInfo .NotEq).2.1 b) (fun r s' => ∃ v, r = some v ∧ Q v s') E s := one
  split
  · rename_i q
    have e : subIn K tb (.ref C) = some false := by
      rcases Bool.or_eq_true_iff.mp hn with e | e
      · rw [beq_iff_eq.mp e] at q; simp at q
      · exact beq_iff_eq.mp e
    refine wpAny_bind ((looks_subIn X e).here ?_)
    simp only [Bool.false_eq_true, if_false]
    refine wpAny_bind (wpAny_mono one (fun r s' z => ?_) fun _ _ e => e)
    obtain ⟨v, rfl, hq⟩ := z
    exact wpAny_pure hq
  · refine wpAny_bind (wpAny_pure ?_)
    simp only [Bool.false_eq_true, if_false]
    refine wpAny_bind (wpAny_mono one (fun r s' z => ?_) fun _ _ e => e)
    obtain ⟨v, rfl, hq⟩ := z
    exact wpAny_pure hq
end
section
variable {X : Cx} {n : Nat}
/-- x != None -/
theorem rcB_nonNe {C f : Addr} {fd : FuncData} {ps : List Str} {R : Addr → V → Bool → Hp → Prop} (c : EqC X.K C f) (hn : PySem.W.subIn X.K (.type "NoneType") (.ref C) = some false) (F : FnOk X.prog X.w X.K X.mg X.base C8.CX0 n f fd ps (spEqB R)) (hb : Binds X.K fd ps []) : RcB X (n + 1) true (DNonB C R) := by
  intro A pins s σ H x y u v b sb I rx ry d
  obtain ⟨p, dx, fs, rfl, rfl, hp, hr⟩ := d
  cases rx
  cases ry
  obtain ⟨mA, J, _⟩ := ins_get I.hok hp
  obtain ⟨od, J, _⟩ := J.look
  refine ne_KV (tb := .type "NoneType") sb.in1.room.units0 I.kIn J (PySem.W.Looks.of_pure rfl) (by unfold PySem.W.notFirst; rw [hn]; simp) c.ne c.ob c.eq c.fn (wpAny_mono (run_eqB (C := C) (y := .non) F hb sb.in1.room sb.in1.fr I rfl hr) (fun v s' hv => ?_) fun _ _ e => e)
  obtain ⟨rfl, q⟩ := hv
  exact ⟨b, rfl, rfl, q⟩
/-! ### min of pairs -/
def prD (p : Int × Str) : PyData := .tuple [.int p.1, .str p.2]
/-- the object holds this pair -/
def PairAt (K : PySem.W.Frag) (H : Hp) (v : V) (p : Int × Str) : Prop := ∃ a, v = .ref a ∧ SqT K H a [.int p.1, .str p.2]
theorem pair_dp {K : PySem.W.Frag} {H : Hp} {v : V} {p : Int × Str} (h : PairAt K H v p) : Dp K H v (prD p) := by
  obtain ⟨a, rfl, h⟩ := h
  exact .tup h (.cons (.int _) (.cons (.str _) .nil))
theorem pairs_dp {K : PySem.W.Frag} {H : Hp} : ∀ {xs : List V} {ps : List (Int × Str)}, xs.length = ps.length → (∀ (i : Nat) x p, xs[i]? = some x → ps[i]? = some p → PairAt K H x p) → DpAll K H xs (ps.map prD)
  | [], [], _, _ => .nil
  | [], _ :: _, h, _ => by cases h
  | _ :: _, [], h, _ => by cases h
  | x :: xs, p :: ps, h, hp => .cons (pair_dp (hp 0 x p rfl rfl)) (pairs_dp (Nat.succ.inj h) fun i y q h1 h2 => hp (i + 1) y q h1 h2)
theorem pairs_alike (ps : List (Int × Str)) : PySem.W.AlikeAll (ps.map prD) := by
  refine ⟨fun x hx y hy => ?_, fun x hx => ?_⟩
  · obtain ⟨p, _, rfl⟩ := List.mem_map.mp hx
    obtain ⟨q, _, rfl⟩ := List.mem_map.mp hy
    rfl
  · obtain ⟨p, _, rfl⟩ := List.mem_map.mp hx
    exact nofun
def ltP (p q : Int × Str) : Bool := PySem.W.dataLt (prD p) (prD q)
def minP (p : Int × Str) (ps : List (Int × Str)) : Int × Str := ps.foldl (fun a y => if ltP y a = true then y else a) p
theorem minD_P : ∀ (ps : List (Int × Str)) (p : Int × Str), PySem.W.minD (prD p) (ps.map prD) = prD (minP p ps)
  | [], _ => rfl
  | q :: ps, p => by
    show PySem.W.minD (if PySem.W.dataLt (prD q) (prD p) then prD q else prD p) (ps.map prD) = prD (minP (if ltP q p = true then q else p) ps)
    have e : (if PySem.W.dataLt (prD q) (prD p) then prD q else prD p) = prD (if ltP q p = true then q else p) := by
      unfold ltP
      split <;> rfl
    rw [e]
    exact minD_P ps _
def rMinP (K : PySem.W.Frag) : List V → Hp → VK → Prop := fun vs H Q => ∃ (a : Addr) (xs : List V) (p : Int × Str) (ps : List (Int × Str)), vs = [V.ref a] ∧ SqL K H a xs ∧ xs.length = ps.length + 1 ∧ (∀ (i : Nat) x q, xs[i]? = some x → (p :: ps)[i]? = some q → PairAt K H x q) ∧
  ∀ v, v ∈ xs → PairAt K H v (minP p ps) → Q v H
theorem reads_int {h : Heap} {i j : Int} {t : Tok} {bs : List Addr} (r : Reads h (.int i t) (.int j) bs) : i = j := by
  cases r
  rfl
theorem reads_str {h : Heap} {i j : Str} {t : Tok} {bs : List Addr} (r : Reads h (.str i t) (.str j) bs) : i = j := by
  cases r
  rfl
theorem pairs_depth : ∀ ps : List (Int × Str), PyData.depthAll (ps.map prD) ≤ 2
  | [] => Nat.zero_le _
  | p :: ps => by
    show max (prD p).depth (PyData.depthAll (ps.map prD)) ≤ 2
    have := pairs_depth ps
    have h2 : (prD p).depth ≤ 2 := by show (max 0 (max 0 0)) + 1 ≤ 2; decide
    omega
theorem cr_minP (hc : X.calm = true) (hu : X.A.units + 64 < cLine) : CallR X (.builtin "min") (rMinP X.K) := by
  intro pins s σ H vs us Q I r h
  obtain ⟨a, xs, p, ps, rfl, hs, hl, hp, q⟩ := h
  obtain ⟨its, rv, hL, _⟩ := I.list hs
  rw [Vals.ref1 r]
  have dp := pairs_dp (ps := p :: ps) hl hp
  obtain ⟨as, ra⟩ := Dp.readsAll I ((p :: ps).map prD) xs its dp rv
  refine PySem.W.min_list_data (x := prD p) (xs := ps.map prD) (I.ok.hd hc) hL.isList (by simpa using ra) (pairs_alike (p :: ps)) (by have := pairs_depth (p :: ps); show _ + 1 + PyData.depthAll ((p :: ps).map prD) < _; omega) fun i v h' tk bs hv hR hk => ?_
  have hv' : its[i]? = some v := by simpa using hv
  have hi : i < its.length := (List.getElem?_eq_some_iff.mp hv').1
  have hx : i < xs.length := by rw [rv.length]; exact hi
  obtain ⟨v2, g1, rx⟩ := rv.get (List.getElem?_eq_getElem hx)
  rw [hv'] at g1
  obtain rfl := Option.some.inj g1
  have hq : i < (p :: ps).length := by rw [List.length_cons, ← hl]; exact hx
  obtain ⟨b, eb, hb⟩ := hp i _ _ (List.getElem?_eq_getElem hx) (List.getElem?_eq_getElem hq)
  refine ⟨xs[i], H, I.kept hk, rx, q _ (List.getElem_mem hx) ?_⟩
  refine ⟨b, eb, ?_⟩
  rw [eb] at rx
  obtain rfl : v = Value.ref b := rx
  rw [minD_P] at hR
  have e : minP p ps = (p :: ps)[i] := by
    obtain ⟨us', r1, t1, _⟩ := I.tuple hb
    obtain ⟨o, e1, _, n, d1⟩ := t1
    have e1' := hk _ _ e1
    unfold prD at hR
    cases hR with
    | tuple k1 k2 k3 k4 =>
      rename_i o2 vs2 n2
      obtain rfl := Option.some.inj (e1'.symm.trans k1)
      rw [d1] at k3
      injection k3 with k5 k6
      subst k5
      cases r1 with
      | cons a1 b1 =>
        cases b1 with
        | cons a2 b2 =>
          cases b2
          obtain ⟨t1, rfl⟩ := (show ∃ t, _ = Value.int _ t from a1)
          obtain ⟨t2, rfl⟩ := (show ∃ t, _ = Value.str _ t from a2)
          have k7 : ReadsAll h' [Value.int ((p :: ps)[i]).1 t1, Value.str ((p :: ps)[i]).2 t2] [.int (minP p ps).1, .str (minP p ps).2] bs := by simpa using k4
          cases k7 with
          | cons c1 c2 =>
            cases c2 with
            | cons c3 c4 =>
              have z1 : ((p :: ps)[i]).1 = (minP p ps).1 := reads_int c1
              have z2 : ((p :: ps)[i]).2 = (minP p ps).2 := reads_str c3
              exact (Prod.ext z1 z2).symm
  rw [e]
  exact hb
end
end My
/-! a def that calls what it got: what comes of it, or which error came -/
namespace My
open PySem L2 LamX PyProof.Rows
/-- try: return a() / except x: return r / .. -/
def TToldR (K : PySem.W.Frag) (l : List (Addr × Str)) : (XK → Hp → VK → Prop) → Hp → VK → Prop := fun tl H Q => tl (wChain K Q l) H Q
section
variable {X : Cx}
theorem toldR_gives {Ng : List Str} {x a q : Str} {sg : Scope} {g : Addr} {cdg : Value} {h₀ : ExceptHandler} {hds : List ExceptHandler} {l : List (Addr × Str)} {p1 p2 p3 p8 : Pos} (hT : HdsT X.mg sg (h₀ :: hds) l) (h0 : ∀ f : Addr, (L2.start Ng [V.ref f])[0]? = some (some (V.ref f))) :
    GivesTo X Ng x sg g cdg [.Try [.Return (some (.Call (.Name a p1) [] [] p2)) p3] (h₀ :: hds) [] [] p8] a q (TToldR X.K l) := by
  intro f c' s H Q tl act hc h
  refine ⟨_, pss_one (ps_try_many (X := (cxOf C8.CX0 X.prog X.w X.K X.mg X.base Ng x sg g cdg X.A X.stack s H C8.E0).nox) (Wout := fun _ _ _ _ => False)
      (tb := fun W D σ H => ∃ Ech : XK, (∀ cls d σ' H', Ech cls d H' → W cls d σ' H') ∧ σ[0]? = some (some (.ref f)) ∧ H c' = some (CodeO c' q) ∧ tl Ech H fun v H' => D.rt v H')
      rfl rfl takes_none5 (fun W pn xe tk _ => ?_) (hds_ok rfl rfl hT)), ?_⟩
  · refine ⟨fun pins s' σ H' D I h' => ?_⟩
    obtain ⟨Ech, hW, h1, h2, h3⟩ := h'
    have hp := act W pn xe Ech p1 p2 tk hW
    have hq := pss_one (ps_ret (pos := p3) hp)
    exact hq.run pins s' σ H' D I ⟨h1, h2, h3⟩
  · exact ⟨wChain X.K Q l, fun cls d σ' H' z => wMany_chain l z, h0 f, hc, h⟩
end
theorem toldR_to {K : PySem.W.Frag} {l : List (Addr × Str)} {tl : (XK → Hp → VK → Prop)} {H : Hp} {Q0 : VK} (Pv : V → Hp → Prop) (a : ∀ Q : VK, (∀ v H', Pv v H' → Q v H') → TToldR K l tl H Q) (b : ∀ v H', Pv v H' → Q0 v H') : TToldR K l tl H Q0 := a Q0 b
end My
/-! x in c, x not in c, of data without dicts -/
namespace My
open PySem L2 LamX PyProof.Rows
section
variable {X : Cx}
def rInD (K : PySem.W.Frag) (neg : Bool) : R2 := fun x y H Q => ∃ (d : PyData) (xs : List PyData), Dp K H x d ∧ (Dp K H y (.list xs) ∨ Dp K H y (.tuple xs)) ∧ PyData.plainAll xs = true ∧ d.plain = true ∧ d.depth ≤ 32 ∧ Q (.bl (if neg then !xs.any fun z => PyData.eqv z d else xs.any fun z => PyData.eqv z d)) H
theorem op_inD (hu : X.A.units + 64 < cLine) : OpR X (compareOp .In) (rInD X.K false) := by
  intro pins s σ H x y v u Q I rx ry h
  obtain ⟨d, xs, hd, hc, hp, hp2, hl, q⟩ := h
  obtain ⟨as, r1⟩ := Dp.reads I d x v hd rx
  have hm : X.A.units + 1 + min (PyData.depthAll xs) d.depth < cLine := by
    have := Nat.min_le_right (PyData.depthAll xs) d.depth
    omega
  rcases hc with hc | hc
  · obtain ⟨bs, r2⟩ := Dp.reads I _ y u hc ry
    exact SeqAt.in_list_data r2 r1 hp hp2 hm ⟨.bl _, H, I, rfl, q⟩
  · obtain ⟨bs, r2⟩ := Dp.reads I _ y u hc ry
    exact SeqAt.in_tuple_data r2 r1 hp hp2 hm ⟨.bl _, H, I, rfl, q⟩
theorem op_notInD (hu : X.A.units + 64 < cLine) : OpR X (compareOp .NotIn) (rInD X.K true) := by
  intro pins s σ H x y v u Q I rx ry h
  obtain ⟨d, xs, hd, hc, hp, hp2, hl, q⟩ := h
  obtain ⟨as, r1⟩ := Dp.reads I d x v hd rx
  have hm : X.A.units + 1 + min (PyData.depthAll xs) d.depth < cLine := by
    have := Nat.min_le_right (PyData.depthAll xs) d.depth
    omega
  rcases hc with hc | hc
  · obtain ⟨bs, r2⟩ := Dp.reads I _ y u hc ry
    exact SeqAt.notIn_list_data r2 r1 hp hp2 hm ⟨.bl _, H, I, rfl, q⟩
  · obtain ⟨bs, r2⟩ := Dp.reads I _ y u hc ry
    exact SeqAt.notIn_tuple_data r2 r1 hp hp2 hm ⟨.bl _, H, I, rfl, q⟩
theorem op_inDK {K : PySem.W.Frag} (h : X.K = K) (hu : X.A.units + 64 < cLine) : OpR X (compareOp .In) (rInD K false) := by
  subst h
  exact op_inD hu
theorem op_notInDK {K : PySem.W.Frag} (h : X.K = K) (hu : X.A.units + 64 < cLine) : OpR X (compareOp .NotIn) (rInD K true) := by
  subst h
  exact op_notInD hu
end
theorem rInD_to {K : PySem.W.Frag} {neg : Bool} {x y : V} {d : PyData} {xs : List PyData} {b : Bool} {H : Hp} {Q : VK} (h1 : Dp K H x d) (h2 : Dp K H y (.list xs) ∨ Dp K H y (.tuple xs)) (p1 : PyData.plainAll xs = true) (p2 : d.plain = true) (hl : d.depth ≤ 32) (e : (if neg then !xs.any fun z => PyData.eqv z d else xs.any fun z => PyData.eqv z d) = b) (q : Q (.bl b) H) : rInD K neg x y H Q :=
  ⟨d, xs, h1, h2, p1, p2, hl, by rw [e]; exact q⟩
end My
/-! try with several clauses, any of them with a name -/
namespace My
open PySem L2 LamX PyProof.Rows
/-- an exception of the body that stands before the clauses -/
def Fell (X : Cx) (pins : List (Addr × Obj)) (σ : L2.St) (H : Hp) (a : Addr) (cls : Value) (d : Option Addr) (s : Shared) : Prop := ∃ (B : Heap) (sI : Shared),
  L2.Inv X pins σ H sI ∧ (∀ (b : Addr) (o : Obj), sI.heap.get? b = some o → b ∉ frs X.stack → B.get? b = some o) ∧ sI.heap.UpToSlots s.heap ∧ HandSPX.FlyingZ B (X.env :: X.outer) a (Zc cls d) s.heap ∧ H a = none ∧ s.os = sI.os ∧ AllBare s.gens
section
variable {X : Cx} {pins : List (Addr × Obj)} {σ : L2.St} {H : Hp} {a : Addr} {cls : Value} {d : Option Addr} {s : Shared}
theorem Fell.inv (F : Fell X pins σ H a cls d s) : L2.Inv X pins σ H s := by
  obtain ⟨B, sI, J, nb, up, fl, _, os, ag⟩ := F
  exact J.landed nb fl.1 up os ag
theorem Fell.at (hs : X.stack = X.env :: X.outer) (hf : X.env.frame = some X.env.locals) (F : Fell X pins σ H a cls d s) :
    ∃ (oe : Obj) (vs : Array Value), s.heap.get? a = some oe ∧ Zc cls d oe ∧ oe.data = .fields vs ∧ L2.Inv (X.suite a ((a, oe) :: (X.pn ++ pins))) [] σ H s := by
  have J := F.inv
  obtain ⟨B, sI, _, _, _, fl, na, _, _⟩ := F
  obtain ⟨oe, vs, e1, e2, e3⟩ := fl.there
  have off : a ∉ frs (X.env :: X.outer) := fun hm => by
    obtain ⟨_, o', q1, q2⟩ := fl.2.2.1.mem hm
    have q3 := Option.some.inj (e1.symm.trans q1)
    subst q3
    exact q2 _ e3
  refine ⟨oe, vs, e1, e2, e3, J.suite e1 e3 na (fun z => off ?_) (fun hm => off ?_)⟩
  · exact List.mem_filterMap.mpr ⟨X.env, .head _, by rw [hf, z]⟩
  · obtain ⟨v, hv, q⟩ := List.mem_filterMap.mp hm
    exact List.mem_filterMap.mpr ⟨v, .tail _ hv, q⟩
/-- a clause: its class, its name's slot, its suite's reading -/
abbrev Cl := Value × Option Nat × (Addr → Value → Option Addr → TS)
def unName (i : Nat) (D : Ends) : Ends := { nx := fun σ H => D.nx (σ.set i none) H, rt := D.rt, bk := fun σ H => D.bk (σ.set i none) H, ct := fun σ H => D.ct (σ.set i none) H }
def runCl (o : Option Nat) (ts : Addr → Value → Option Addr → TS) (a : Addr) (cls : Value) (d : Option Addr) : TS := fun D σ H => match o with
  | none => ts a cls d D σ H
  | some i => i < σ.length → ts a cls d (unName i D) (σ.set i (some (.ref a))) H
def wAll (K : PySem.W.Frag) (Wout : WX) (D : Ends) : List Cl → WX
  | [] => Wout
  | (c, o, ts) :: r => fun cls d σ H => ∃ b, PySem.W.exmOne K cls c = some b ∧ (b = true → ∀ a, H a = none → runCl o ts a cls d D σ H) ∧ (b = false → wAll K Wout D r cls d σ H)
def SuiteOk (X : Cx) (suite : List Stmt) (ts : Addr → Value → Option Addr → TS) : Prop := ∀ (a : Addr) (oe : Obj) (cls : Value) (d : Option Addr) (pn : List (Addr × Obj)), Zc cls d oe → (∃ vs, oe.data = .fields vs) → PSs (X.suite a ((a, oe) :: pn)) suite (ts a cls d)
inductive ClsOk (X : Cx) : List ExceptHandler → List Cl → Prop
  | nil : ClsOk X [] []
  | plain {x : Str} {c : Value} {ts : Addr → Value → Option Addr → TS} {b₀ : Stmt} {suite : List Stmt} {np p' : Pos} {hds : List ExceptHandler} {l : List Cl} (hc : Names X x c) (hsu : SuiteOk X (b₀ :: suite) ts) (r : ClsOk X hds l) :
      ClsOk X (.ExceptHandler (some (.Name x np)) none (b₀ :: suite) p' :: hds) ((c, none, ts) :: l)
  | named {x n : Str} {i : Nat} {c : Value} {ts : Addr → Value → Option Addr → TS} {b₀ : Stmt} {suite : List Stmt} {np p' : Pos} {hds : List ExceptHandler} {l : List Cl} (hN : X.N.Nodup) (hi : X.N[i]? = some n) (hl : X.env.kindOf n = some .local) (hc : Names X x c) (hsu : SuiteOk X (b₀ :: suite) ts) (r : ClsOk X hds l) :
      ClsOk X (.ExceptHandler (some (.Name x np)) (some n) (b₀ :: suite) p' :: hds) ((c, some i, ts) :: l)
/-- the class that a clause names is held against the exception -/
theorem Fell.test {x : Str} {c : Value} {np : Pos} {b : Bool} (hs : X.stack = X.env :: X.outer) (hf : X.env.frame = some X.env.locals) (hc : Names X x c) (F : Fell X pins σ H a cls d s) (hb : PySem.W.exmOne X.K cls c = some b) {Q : Bool → Shared → Prop} {E : Value → Shared → Prop} (q : Q b s) :
    wpAny (model X.prog X.w) (X.A.mark (some (.ref a))) (eval (.Name x np) X.env) (fun v s' => wpAny (model X.prog X.w) (X.A.mark (some (.ref a))) (excMatches (.ref a) v) Q E s') E s := by
  obtain ⟨oe, vs, e1, e2, e3, S⟩ := F.at hs hf
  have LT : PySem.W.Looks (model X.prog X.w) s.heap (typeOf (.ref a)) cls := fun A Q E s' k q => wpAny_typeOf_ref (k _ _ e1) (by rw [e2.1]; exact q)
  have LM := PySem.W.exm_one (M := model X.prog X.w) F.inv.kIn LT hb
  obtain ⟨hg, hd, hm | ⟨hm, hv, hn⟩⟩ := hc
  · exact ld_glob (X := X.suite a ((a, oe) :: (X.pn ++ pins))) S hg hm (LM.here q) hd
  · exact ld_blt (X := X.suite a ((a, oe) :: (X.pn ++ pins))) S hg hm hv (LM.here q) hn hd
/-- the exception takes off again for its suite -/
theorem Fell.on {M : Model} {A : Around} {E : Value → Shared → Prop} {Q : Unit → Shared → Prop} (F : Fell X pins σ H a cls d s) (q : ∀ s', Fell X pins σ H a cls d s' → Q () s') : wpAny M A (setFlight (.ref a) none) Q E s := by
  obtain ⟨B, sI, J, nb, up, fl, na, os, ag⟩ := F
  exact HandSPX.lands_againZ fl fun h' fl' up' => q _ ⟨B, sI, J, nb, up.trans up', fl', na, os, ag⟩
/-- no clause was meant -/
theorem Fell.out {Wout : WX} {Q : Flow → Shared → Prop} (hs : X.stack = X.env :: X.outer) (hf : X.env.frame = some X.env.locals) (tk : Takes X Wout) (F : Fell X pins σ H a cls d s) (hw : Wout cls d σ H) : wpAny (model X.prog X.w) X.A (handleBy (.ref a) X.env []) Q X.xe s := by
  obtain ⟨B, sI, J, nb, up, fl, na, os, ag⟩ := F
  obtain ⟨_, _, _, o, fs, tr, _, _, g1, _, g2, g3, _⟩ := id fl
  have last : wpAny (model X.prog X.w) X.A (setFlight (.ref a) X.env.frame) (fun _ z => wpAny (model X.prog X.w) X.A (throw (.ref a) : Sem Flow) Q X.xe z) X.xe s := by
    rw [hf]
    exact HandSPX.setFlight_upZ fl fun h' hd' up' => wpAny_throw (tk _ _ ⟨a, B, sI, pins, σ, H, cls, d, rfl, J, nb, up.trans up', .inr (.inr (hs ▸ hd')), na, os, ag, hw⟩)
  refine wpAny_handleBy_nil ?_
  unfold PySem.passOn
  refine wpAny_bind (wpAny_field g1 g2 g3 ?_)
  rw [if_neg (show ¬ (Value.ref tr == Value.none) = true from by simp)]
  first
    | exact wpAny_bind (wpAny_pure (wpAny_bind last))
    | exact wpAny_bind last
theorem Fell.caught {Wout : WX} {D : Ends} (ok : X.Ok) (hs : X.stack = X.env :: X.outer) (hf : X.env.frame = some X.env.locals) (tk : Takes X Wout) {hds : List ExceptHandler} {l : List Cl} (hk : ClsOk X hds l) :
    ∀ {s : Shared}, Fell X pins σ H a cls d s → wAll X.K Wout D l cls d σ H → wpAny (model X.prog X.w) X.A (handleBy (.ref a) X.env hds) (SP X pins D) X.xe s := by
  induction hk with
  | nil => exact fun F hw => F.out hs hf tk hw
  | plain hc hsu r ih =>
    intro s F hw
    obtain ⟨b, h1, h2, h3⟩ := hw
    refine wpAny_handleBy_cons (codeAny_handlers_test (F.test hs hf hc h1 ?_)) (by intro q; cases q)
    cases b with
    | false => exact ih F (h3 rfl)
    | true =>
      refine codeAny_handlers_suite (F.on fun s' F' => ?_)
      obtain ⟨oe, vs, e1, e2, e3, S⟩ := F'.at hs hf
      have na : H a = none := by
        obtain ⟨_, _, _, _, _, _, n, _, _⟩ := F'
        exact n
      refine wpAny_mono ((hsu a oe cls d (X.pn ++ pins) e2 ⟨_, e3⟩).run [] _ _ H _ S (h2 rfl a na)) (fun f s6 hsp => ?_) fun _ _ z => z.elim
      cases f with
      | ret u =>
        obtain ⟨v, σ6, H6, S6, rr, q6⟩ := hsp
        exact ⟨v, σ6, H6, S6.unsuite ok, rr, q6⟩
      | next => exact let ⟨σ6, H6, S6, q6⟩ := hsp; ⟨σ6, H6, S6.unsuite ok, q6⟩
      | brk => exact let ⟨σ6, H6, S6, q6⟩ := hsp; ⟨σ6, H6, S6.unsuite ok, q6⟩
      | cont => exact let ⟨σ6, H6, S6, q6⟩ := hsp; ⟨σ6, H6, S6.unsuite ok, q6⟩
  | named hN hi hl hc hsu r ih =>
    intro s F hw
    obtain ⟨b, h1, h2, h3⟩ := hw
    refine wpAny_handleBy_cons (codeAny_handlers_test (F.test hs hf hc h1 ?_)) (by intro q; cases q)
    cases b with
    | false => exact ih F (h3 rfl)
    | true =>
      refine codeAny_handlers_suite_as (F.on fun s' F' => ?_)
      obtain ⟨oe, vs, e1, e2, e3, S⟩ := F'.at hs hf
      have na : H a = none := by
        obtain ⟨_, _, _, _, _, _, n, _, _⟩ := F'
        exact n
      refine store_ok (X := X.suite a ((a, oe) :: (X.pn ++ pins))) (v := .ref a) S hN hi (.inl hl) rfl (fun s5 S5 => ?_) (.inr hl)
      refine wpAny_mono ((hsu a oe cls d (X.pn ++ pins) e2 ⟨_, e3⟩).run [] s5 _ H _ S5 (h2 rfl a na (by rw [F'.inv.len]; exact (List.getElem?_eq_some_iff.mp hi).1))) (fun f s6 hsp => ?_) fun _ _ z => z.elim
      cases f with
      | ret u =>
        obtain ⟨v, σ6, H6, S6, rr, q6⟩ := hsp
        exact gone_ok (S6.unsuite ok) hN hi hl fun s7 J7 => ⟨v, _, H6, J7, rr, q6⟩
      | next =>
        obtain ⟨σ6, H6, S6, q6⟩ := hsp
        exact gone_ok (S6.unsuite ok) hN hi hl fun s7 J7 => ⟨_, H6, J7, q6⟩
      | brk =>
        obtain ⟨σ6, H6, S6, q6⟩ := hsp
        exact gone_ok (S6.unsuite ok) hN hi hl fun s7 J7 => ⟨_, H6, J7, q6⟩
      | cont =>
        obtain ⟨σ6, H6, S6, q6⟩ := hsp
        exact gone_ok (S6.unsuite ok) hN hi hl fun s7 J7 => ⟨_, H6, J7, q6⟩
end
section
variable {X : Cx} {body : List Stmt} {h₀ : ExceptHandler} {hds : List ExceptHandler} {l : List Cl} {pos : Pos} {tb : WX → TS} {Wout : WX}
theorem ps_try_all (hs : X.stack = X.env :: X.outer) (hf : X.env.frame = some X.env.locals) (tk : Takes X Wout)
    (hb : ∀ (W : WX) (pn : List (Addr × Obj)) (xe : Value → Shared → Prop), Takes (X.tr pn xe) W → PassesOwn (model X.prog X.w) X.A X.env xe → PSs (X.tr pn xe) body (tb W)) (hh : ClsOk X (h₀ :: hds) l) :
    PS X (.Try body (h₀ :: hds) [] [] pos) (fun D σ H => tb (wAll X.K Wout D l) D σ H) := by
  refine ⟨fun pins s σ H D I h => ?_⟩
  have ok := I.ok
  have hfr : X.A.frames = some (X.env :: X.outer) := by rw [ok.frames, hs]
  have down : ∀ u s', XE (X.tr (X.pn ++ pins) (fun e z => wpAny (model X.prog X.w) X.A (noteFrame e X.env) (fun _ z2 => wpAny (model X.prog X.w) X.A (setFlight e none) (fun _ z3 => wpAny (model X.prog X.w) X.A (handleBy e X.env (h₀ :: hds)) (SP X pins D) X.xe z3) X.xe z2) X.xe z)) (wAll X.K Wout D l) u s' →
      wpAny (model X.prog X.w) X.A (noteFrame u X.env) (fun _ z2 => wpAny (model X.prog X.w) X.A (setFlight u none) (fun _ z3 => wpAny (model X.prog X.w) X.A (handleBy u X.env (h₀ :: hds)) (SP X pins D) X.xe z3) X.xe z2) X.xe s' := fun u s' xx => by
    obtain ⟨a, B, sI, pins', σ', H', cls, d, rfl, J', nb, up, sky, na, os, ag, w⟩ := xx
    have sky' : L2.Sky B (X.env :: X.outer) a (Zc cls d) X.env.locals s'.heap := hs ▸ sky
    exact Sky.land Zc.steady hfr hf sky' fun h3 fl up3 => Fell.caught ok hs hf tk hh ⟨B, sI, J'.ofTry ok, nb, up.trans up3, fl, na, os, ag⟩ w
  refine wpAny_Try_except (wpAny_mono ((hb _ (X.pn ++ pins) _ down PassesOwn.looking).run [] s σ H D (I.toTry _) h) (fun f s1 hsp => ?_) fun e s1 he => he)
  cases f with
  | ret u =>
    obtain ⟨v, σ', H', J, rr, q⟩ := hsp
    exact ⟨v, σ', H', J.ofTry ok, rr, q⟩
  | next => exact let ⟨σ', H', J, q⟩ := hsp; wpAny_execs_nil ⟨σ', H', J.ofTry ok, q⟩
  | brk => exact let ⟨σ', H', J, q⟩ := hsp; ⟨σ', H', J.ofTry ok, q⟩
  | cont => exact let ⟨σ', H', J, q⟩ := hsp; ⟨σ', H', J.ofTry ok, q⟩
end
/-! ### a def that calls what it got: which error came, with what it tells -/
abbrev CK := Value → Option Addr → Hp → VK → Prop
def ckW (r : Str) : CK := fun _ _ H Q => Q (.str r) H
def FldOf (C : Addr) (f : Str) (cls : Value) (d : Option Addr) (H : Hp) (v : V) : Prop := cls = .ref C ∧ ∃ (dd : Addr) (fs : List (Str × V)), d = some dd ∧ H dd = some (.xd fs) ∧ fs.lookup f = some v
def ckF (C : Addr) (r f : Str) : CK := fun cls d H Q => ∃ v, FldOf C f cls d H v ∧ ∀ t, H t = none → Q (.ref t) (upd H t (.tup [.str r, v]))
def ckFF (C : Addr) (f g : Str) : CK := fun cls d H Q => ∃ v u, FldOf C f cls d H v ∧ FldOf C g cls d H u ∧ ∀ t, H t = none → Q (.ref t) (upd H t (.tup [v, u]))
def ckG (C : Addr) (f : Str) : CK := fun cls d H Q => ∃ v, FldOf C f cls d H v ∧ Q v H
def ckWI (r : Str) (n : Int) : CK := fun _ _ H Q => ∀ t, H t = none → Q (.ref t) (upd H t (.tup [.str r, .int n]))
def wChainA (K : PySem.W.Frag) (Q : VK) : List (Addr × CK) → XK
  | [] => fun _ _ _ => False
  | (C, k) :: l => fun cls d H => ∃ b, PySem.W.exmOne K cls (.ref C) = some b ∧ (b = true → k cls d H Q) ∧ (b = false → wChainA K Q l cls d H)
def TToldA (K : PySem.W.Frag) (l : List (Addr × CK)) : (XK → Hp → VK → Prop) → Hp → VK → Prop := fun tl H Q => tl (wChainA K Q l) H fun _ H' => Q .non H'
inductive HdsA (K : PySem.W.Frag) (mg : Str → Option Value) (sg : Scope) (n : Str) : List ExceptHandler → List (Addr × CK) → Prop
  | nil : HdsA K mg sg n [] []
  | word {e r : Str} {C : Addr} {j : Nat} {p4 p5 p6 p7 : Pos} {hs : List ExceptHandler} {l : List (Addr × CK)} (hge : sg.names.lookup e = some .globalImplicit) (hme : mg e = some (.ref C)) (hde : (e == ("__debug__" : Str)) = false) (t : HdsA K mg sg n hs l) :
      HdsA K mg sg n (.ExceptHandler (some (.Name e p4)) none [.Return (some (.Constant (.str r) j p5)) p6] p7 :: hs) ((C, ckW r) :: l)
  | fld {e r f : Str} {C : Addr} {j k : Nat} {p4 p5 p6 p7 q1 q2 q3 : Pos} {hs : List ExceptHandler} {l : List (Addr × CK)} (hge : sg.names.lookup e = some .globalImplicit) (hme : mg e = some (.ref C)) (hde : (e == ("__debug__" : Str)) = false) (T : XfC K C) (hno : PySem.W.findIn K (.ref C) f = some none) (t : HdsA K mg sg n hs l) :
      HdsA K mg sg n (.ExceptHandler (some (.Name e p4)) (some n) [.Return (some (.Tuple [.Constant (.str r) j p5, .Attribute (.Name n q1) f q2] k q3)) p6] p7 :: hs) ((C, ckF C r f) :: l)
  | flds {e f g : Str} {C : Addr} {k : Nat} {p4 p6 p7 q1 q2 q3 q4 q5 : Pos} {hs : List ExceptHandler} {l : List (Addr × CK)} (hge : sg.names.lookup e = some .globalImplicit) (hme : mg e = some (.ref C)) (hde : (e == ("__debug__" : Str)) = false) (T : XfC K C) (hno : PySem.W.findIn K (.ref C) f = some none) (hno2 : PySem.W.findIn K (.ref C) g = some none) (t : HdsA K mg sg n hs l) :
      HdsA K mg sg n (.ExceptHandler (some (.Name e p4)) (some n) [.Return (some (.Tuple [.Attribute (.Name n q1) f q2, .Attribute (.Name n q4) g q5] k q3)) p6] p7 :: hs) ((C, ckFF C f g) :: l)
  | attr {e f : Str} {C : Addr} {p4 p6 p7 q1 q2 : Pos} {hs : List ExceptHandler} {l : List (Addr × CK)} (hge : sg.names.lookup e = some .globalImplicit) (hme : mg e = some (.ref C)) (hde : (e == ("__debug__" : Str)) = false) (T : XfC K C) (hno : PySem.W.findIn K (.ref C) f = some none) (t : HdsA K mg sg n hs l) :
      HdsA K mg sg n (.ExceptHandler (some (.Name e p4)) (some n) [.Return (some (.Attribute (.Name n q1) f q2)) p6] p7 :: hs) ((C, ckG C f) :: l)
  | num {e r : Str} {C : Addr} {m : Int} {j j2 k : Nat} {p4 p5 p6 p7 q2 q3 : Pos} {hs : List ExceptHandler} {l : List (Addr × CK)} (hge : sg.names.lookup e = some .globalImplicit) (hme : mg e = some (.ref C)) (hde : (e == ("__debug__" : Str)) = false) (t : HdsA K mg sg n hs l) :
      HdsA K mg sg n (.ExceptHandler (some (.Name e p4)) none [.Return (some (.Tuple [.Constant (.str r) j p5, .Constant (.int m) j2 q2] k q3)) p6] p7 :: hs) ((C, ckWI r m) :: l)
theorem at_set {σ : L2.St} {i : Nat} {v : V} (h : i < σ.length) : (σ.set i (some v))[i]? = some (some v) := List.getElem?_set_self h
theorem hdsA_ok {Y : Cx} {mg : Str → Option Value} {sg : Scope} {n : Str} {i : Nat} (hsc : Y.env.scope = sg) (hmg : Y.mg = mg) (hN : Y.N.Nodup) (hi : Y.N[i]? = some n) (hl : sg.names.lookup n = some .local) (hd1 : (n == ("__debug__" : Str)) = false) (hd2 : (n == ("__classdict__" : Str)) = false) :
    ∀ {hs : List ExceptHandler} {l : List (Addr × CK)}, HdsA Y.K mg sg n hs l → ∃ L : List Cl, ClsOk Y hs L ∧ ∀ (D : Ends) (cls : Value) (d : Option Addr) (σ : L2.St) (H : Hp), wChainA Y.K D.rt l cls d H → wAll Y.K (fun _ _ _ _ => False) D L cls d σ H := by
  intro hs l h
  have lk : Y.env.kindOf n = some .local := by
    show Y.env.scope.names.lookup n = _
    rw [hsc]
    exact hl
  have nm : ∀ {e : Str} {C : Addr}, sg.names.lookup e = some .globalImplicit → mg e = some (.ref C) → (e == ("__debug__" : Str)) = false → Names Y e (.ref C) := fun {e C} hge hme hde => ⟨by show Y.env.scope.names.lookup _ = _; rw [hsc]; exact hge, hde, .inl (by rw [hmg]; exact hme)⟩
  induction h with
  | nil => exact ⟨[], .nil, fun D cls d σ H z => z.elim⟩
  | word hge hme hde t ih =>
    obtain ⟨L, h1, h2⟩ := ih
    refine ⟨(_, none, fun _ _ _ => tRet (tC (.str _))) :: L, .plain (nm hge hme hde) (fun a oe cls d pn _ _ => pss_one (ps_ret pe_str)) h1, fun D cls d σ H ⟨b, e1, e2, e3⟩ => ⟨b, e1, fun e a _ => e2 e, fun e => h2 D cls d σ H (e3 e)⟩⟩
  | num hge hme hde t ih =>
    obtain ⟨L, h1, h2⟩ := ih
    refine ⟨(_, none, fun _ _ _ => tRet _) :: L, .plain (nm hge hme hde) (fun a oe cls d pn _ _ => pss_one (ps_ret (pe_tup (pa_cons pe_str (pa_cons pe_int pa_nil))))) h1, fun D cls d σ H ⟨b, e1, e2, e3⟩ => ⟨b, e1, fun e a _ => ?_, fun e => h2 D cls d σ H (e3 e)⟩⟩
    exact ⟨by show 2 ≤ sizeLine; decide, fun t ht => e2 e t ht⟩
  | attr hge hme hde T hno t ih =>
    obtain ⟨L, h1, h2⟩ := ih
    refine ⟨(_, some i, fun a cls d => tRet _) :: L, .named hN hi lk (nm hge hme hde) (fun a oe cls d pn hz hf => pss_one (ps_ret (pe_xf (a := a) (cls := cls) (d := d) T hno hz hf (pe_var hi (.inl lk) hd1 hd2)))) h1, fun D cls d σ H ⟨b, e1, e2, e3⟩ => ⟨b, e1, fun e a _ hlen => ?_, fun e => h2 D cls d σ H (e3 e)⟩⟩
    obtain ⟨v, ⟨hc, dd, fs, hd, hx, hv⟩, q⟩ := e2 e
    exact ⟨_, at_set hlen, rfl, hc, dd, fs, v, hd, hx, hv, q⟩
  | fld hge hme hde T hno t ih =>
    obtain ⟨L, h1, h2⟩ := ih
    refine ⟨(_, some i, fun a cls d => tRet _) :: L, .named hN hi lk (nm hge hme hde) (fun a oe cls d pn hz hf => pss_one (ps_ret (pe_tup (pa_cons pe_str (pa_cons (pe_xf (a := a) (cls := cls) (d := d) T hno hz hf (pe_var hi (.inl lk) hd1 hd2)) pa_nil))))) h1, fun D cls d σ H ⟨b, e1, e2, e3⟩ => ⟨b, e1, fun e a _ hlen => ?_, fun e => h2 D cls d σ H (e3 e)⟩⟩
    obtain ⟨v, ⟨hc, dd, fs, hd, hx, hv⟩, q⟩ := e2 e
    exact ⟨_, at_set hlen, rfl, hc, dd, fs, v, hd, hx, hv, by show 2 ≤ sizeLine; decide, fun t ht => q t ht⟩
  | flds hge hme hde T hno hno2 t ih =>
    obtain ⟨L, h1, h2⟩ := ih
    refine ⟨(_, some i, fun a cls d => tRet _) :: L, .named hN hi lk (nm hge hme hde) (fun a oe cls d pn hz hf => pss_one (ps_ret (pe_tup (pa_cons (pe_xf (a := a) (cls := cls) (d := d) T hno hz hf (pe_var hi (.inl lk) hd1 hd2)) (pa_cons (pe_xf (a := a) (cls := cls) (d := d) T hno2 hz hf (pe_var hi (.inl lk) hd1 hd2)) pa_nil))))) h1, fun D cls d σ H ⟨b, e1, e2, e3⟩ => ⟨b, e1, fun e a _ hlen => ?_, fun e => h2 D cls d σ H (e3 e)⟩⟩
    obtain ⟨v, u, ⟨hc, dd, fs, hd, hx, hv⟩, ⟨_, dd', fs', hd', hx', hu⟩, q⟩ := e2 e
    exact ⟨_, at_set hlen, rfl, hc, dd, fs, v, hd, hx, hv, _, at_set hlen, rfl, hc, dd', fs', u, hd', hx', hu, by show 2 ≤ sizeLine; decide, fun t ht => q t ht⟩
section
variable {X : Cx}
theorem toldA_gives {Ng : List Str} {x a q n : Str} {i : Nat} {sg : Scope} {g : Addr} {cdg : Value} {h₀ : ExceptHandler} {hds : List ExceptHandler} {l : List (Addr × CK)} {p1 p2 p3 p8 p9 pn0 : Pos} {jn : Nat} (hN : Ng.Nodup) (hi : Ng[i]? = some n) (hl : sg.names.lookup n = some .local) (hT : HdsA X.K X.mg sg n (h₀ :: hds) l) (h0 : ∀ f : Addr, (L2.start Ng [V.ref f])[0]? = some (some (V.ref f))) (hd1 : (n == ("__debug__" : Str)) = false := by decide) (hd2 : (n == ("__classdict__" : Str)) = false := by decide) :
    GivesTo X Ng x sg g cdg [.Try [.Expr (.Call (.Name a p1) [] [] p2) p3] (h₀ :: hds) [] [] p8, .Return (some (.Constant .none jn pn0)) p9] a q (TToldA X.K l) := by
  intro f c' s H Q tl act hc h
  obtain ⟨L, hL, hw⟩ := hdsA_ok (Y := (cxOf C8.CX0 X.prog X.w X.K X.mg X.base Ng x sg g cdg X.A X.stack s H C8.E0).nox) rfl rfl hN hi hl hd1 hd2 hT
  refine ⟨_, pss_cons (ps_try_all (Wout := fun _ _ _ _ => False)
      (tb := fun W D σ H => ∃ Ech : XK, (∀ cls d σ' H', Ech cls d H' → W cls d σ' H') ∧ σ[0]? = some (some (.ref f)) ∧ H c' = some (CodeO c' q) ∧ tl Ech H fun _ H' => D.nx σ H')
      rfl rfl takes_none5 (fun W pn xe tk _ => ?_) hL) (pss_one (ps_ret pe_non)), ?_⟩
  · refine ⟨fun pins s' σ H' D I h' => ?_⟩
    obtain ⟨Ech, hW, h1, h2, h3⟩ := h'
    exact (pss_one (ps_expr (pos := p3) (act W pn xe Ech p1 p2 tk hW))).run pins s' σ H' D I ⟨h1, h2, h3⟩
  · exact ⟨wChainA X.K Q l, fun cls d σ' H' z => hw _ cls d σ' H' z, h0 f, hc, h⟩
end
theorem toldA_to {K : PySem.W.Frag} {l : List (Addr × CK)} {tl : (XK → Hp → VK → Prop)} {H : Hp} {Q0 : VK} (Pv : V → Hp → Prop) (a : ∀ Q : VK, (∀ v H', Pv v H' → Q v H') → TToldA K l tl H Q) (b : ∀ v H', Pv v H' → Q0 v H') : TToldA K l tl H Q0 := a Q0 b
/-! ### B.__init__(self, ..), B an own class over ValueError without an __init__ -/
/-- what the written part says of such a base -/
structure BaseC (K : PySem.W.Frag) (S : Addr) : Prop where
  ga : PySem.W.specialIn K (.ref S) "__getattribute__" = some (some (.builtin "type.__getattribute__"))
  rd : PySem.W.readsIn K S (.type "type") = true
  vV : PySem.W.findCls K (.ref S) (.type "type") "__init__" = some (.val (.builtin "ValueError.__init__"))
section
variable {X : Cx} {e : Expr} {es : List Expr} {ta : TA} {S : Addr} {x : Str} {p1 p2 pos : Pos}
theorem pe_binit {pl : Sem Bool} (B : BaseC X.K S) (hg : Gl X x) (hm : X.mg x = some (.ref S)) (ha : PA X (e :: es) ta)
    (hc : eval (.Call (.Attribute (.Name x p1) "__init__" p2) (e :: es) [] pos) X.env = (do
      let v ← eval (.Name x p1) X.env
      standAt p2.atName
      let (f, first) ← holding [v] (getMethod v "__init__" pl)
      callWith pos f first (backTo pos (starEach (e :: es) X.env)) (backToKw pos (keywordEach [] X.env))) := by rfl)
    (hdb : (x == ("__debug__" : Str)) = false := by decide) (he : starEach (e :: es) X.env = (false, eval e X.env) :: starEach es X.env := by rfl) (hpl : (backTo pos (starEach es X.env)).any (·.1) = false := by rfl) :
    PE X (.Call (.Attribute (.Name x p1) "__init__" p2) (e :: es) [] pos) (tVeI X.K ta) := by
  refine ⟨fun pins s σ H Q I h => PySem.W.methodCall_KW (ld_glob I hg hm ?_ hdb) hc⟩
  refine PySem.W.method_cls I.kIn B.ga (PySem.W.cls_value I.kIn B.rd B.vV (by decide +kernel) ?_)
  show wpAny _ _ (callWith pos (Value.builtin "ValueError.__init__") [] (backTo pos (starEach (e :: es) X.env)) []) _ _ _
  refine PyProof.Rows.callWith_method1 (thn (ha.run pos pins _ σ H _ (I.tok _) h) fun us s1 ⟨vs, H1, I1, r1, q1⟩ => ?_) he hpl
  obtain ⟨a, C, ws, rfl, hl, T, ea, q⟩ := q1
  cases r1 with
  | @cons _ u0 _ ur ra rr =>
    obtain rfl : u0 = Value.ref a := ra
    exact oinit_ok T I1 ea (by rw [← Paired.length rr, sizeLine_eq]; omega) fun s' J => ⟨.non, H1, J, rfl, q⟩
end
/-- what is left of an error that told one thing -/
theorem xd_same {H1 : Hp} {a C dx : Addr} {f : Str} {v : V} (na : H1 a = none) (nd : H1 dx = none) (n : dx ≠ a) :
    ∃ H' : Hp, H' = upd (del (upd (upd (upd H1 a (exo a C none)) dx (exd dx [(f, v)])) a (exo a C (some dx))) a) dx (.xd [(f, v)]) ∧ Same H1 H' ∧ H' dx = some (.xd [(f, v)]) := by
  refine ⟨_, rfl, fun b o h => ?_, upd_same⟩
  rw [upd_ne (ne_of_none h nd), del_ne (ne_of_none h na), upd_ne (ne_of_none h na), upd_ne (ne_of_none h nd), upd_ne (ne_of_none h na)]
  exact h
end My
/-! xs.extend(t), t a tuple -/
namespace My
open PySem L2 LamX PyProof.Rows
section
open PySem.AutoSeq1 MeetsSeq MeetsSeq2 MeetsSeq3
set_option maxRecDepth 8000 in
theorem ext_tup (l b : Addr) (xs ys : Array Value) (n m : Nat) (dd : Option Addr) (sl : Array (Option Value)) (few : ¬(!xs.isEmpty && Builtin.List.listTooLong (xs.size + ys.size)) = true) (h1 : xs.size ≤ sizeLine) (h2 : (xs ++ ys).size ≤ sizeLine + 1) :
    Meets (Builtin.«list.extend» ⟨[.ref l, .ref b], []⟩) (fun _ R s => s.heap.get? l = some { cls := .type "list", dict := none, data := .seq xs n, slots := #[] } ∧ s.heap.get? b = some { cls := .type "tuple", dict := dd, data := .seq ys m, slots := sl } ∧ R (.ok (.ret Value.none)) { s with heap := s.heap.update l (Obj.mapSeq fun x => x ++ ys), toks := s.toks }) := by
  refine .of_wp fun prog w A R s ⟨e1, e2, q⟩ => ?_
  obtain ⟨hp, g, d, tk, os⟩ := s
  have k1 := idx_int
  have k2 := AutoSeq1.sub_tuple_tuple
  have k3 := AutoSeq1.sub_list_list
  have k4 := AutoSeq1.sub_tuple_list
  have k5 := AutoSeq1.sub_list_tuple
  wp_walk using (wpAny_updateSeq e1 rfl (hz := h1) (_hz' := h2)), wpAny_loadPart' e1, wpAny_loadPart' e2
  exact ⟨_, rfl, q⟩
end
section
variable {X : Cx}
def rExtendT (K : PySem.W.Frag) : V → List V → Hp → VK → Prop := fun x vs H Q => ∃ l b xs zs, x = .ref l ∧ vs = [.ref b] ∧ H l = some (.lst xs) ∧ SqT K H b zs ∧ xs.length + zs.length ≤ sizeLine ∧ Q .non (upd H l (.lst (xs ++ zs)))
theorem mt_extendT : MtR X "list.extend" (rExtendT X.K) := by
  intro pins s σ H x vs v us Q I rx rv h
  obtain ⟨l, b, xs, zs, rfl, rfl, hH, hB, hz, q⟩ := h
  cases rx
  obtain ⟨u, rfl, ru⟩ := rv.one
  cases ru
  obtain ⟨z1, its, n, r, hl, e⟩ := I.lstM hH
  obtain ⟨jts, r2, tp, z2⟩ := I.tuple hB
  have l1 := r.length
  have l2 := r2.length
  have few : ¬ (!its.toArray.isEmpty && Builtin.List.listTooLong (its.toArray.size + jts.toArray.size)) = true := by
    rw [notLongL (by rw [List.size_toArray, List.size_toArray]; omega), Bool.and_false]
    exact Bool.false_ne_true
  obtain ⟨o, t1, t2, n2, t3⟩ := id tp
  obtain ⟨oc, od, ot, os⟩ := o
  dsimp only at t2 t3
  subst t2 t3
  refine call_meets F.slot_list_extend ⟨_, e, rfl⟩ F.entry_list_extend (F.args_list_extend_2 _ _) (ext_tup l b its.toArray jts.toArray n n2 od os few (by rw [List.size_toArray]; omega) (by rw [Array.size_append, List.size_toArray, List.size_toArray]; omega)) ⟨e, t1, ?_⟩
  exact ⟨.non, _, I.lset (its' := its ++ jts) hH e (by simp) (r.append r2) (by rw [List.length_append]; omega), rfl, q⟩
end
end My
/-! raise X(e, ..) of an own class with an own __init__; a try around one call, several clauses -/
namespace My
open PySem L2 LamX PyProof.Rows
section
variable {X : Cx} {C : Addr} {e : Expr} {es : List Expr} {ta : TA}
/-- raise X(e, ..), in a def's own body -/
theorem ps_errO {E : XK} {E₁ : Value → Shared → Prop} {CY : CXT} {x : Str} {fI : Addr} {k : Nat} {fd : FuncData} {ps : List Str} {sp : Sp} {ds : List Value} {dvs : List V} {p pos p2 : Pos} (T : OexC X.K C) (iC : PySem.W.findIn X.K (.ref C) "__init__" = some (some (.ref fI))) (tI : PySem.W.typeIn X.K (.ref fI) = some (.type "function"))
    (F1 : FnOk X.prog X.w X.K X.mg X.base CY k fI fd ps sp) (hr : Room (k + 1) X.A) (hb : Binds X.K fd ps ds) (hd : Vals dvs ds) (hx0 : Passes CY X (fun _ _ _ => False)) (hm : X.mg x = some (.ref C)) (hg : Gl X x) (ha : PA X (e :: es) ta)
    (hc : X.calm = true) (hs : X.stack = X.env :: X.outer) (hf : X.env.frame = some X.env.locals) (hex : X.ex = [])
    (hx : X.xe = fun e s' => wpAny (model X.prog X.w) X.A (leaving X.env e) (fun _ s'' => CX X.prog X.w X.outer X.H_0 X.s_0 E e s'') E₁ s')
    (hdb : (x == ("__debug__" : Str)) = false := by decide) (he : starEach (e :: es) X.env = (false, eval e X.env) :: starEach es X.env := by rfl) (hpl : (backTo pos (starEach es X.env)).any (·.1) = false := by rfl) :
    PS X (.Raise (some (.Call (.Name x p) (e :: es) [] pos)) none p2) (fun _ σ H => tMkO C sp dvs ta σ H E) := ps_raise hc (takes_of hs hf hex hx) (pmk_oex T iC tI F1 hr hb hd hx0 hg hm ha hdb he hpl)
/-- try: e / except ..: several clauses -/
theorem ps_tryA {n : Str} {i : Nat} {sg : Scope} {h₀ : ExceptHandler} {hds : List ExceptHandler} {l : List (Addr × CK)} {p3 p8 : Pos} {te : XK → TE} (hs : X.stack = X.env :: X.outer) (hf : X.env.frame = some X.env.locals) (hsc : X.env.scope = sg) (hN : X.N.Nodup) (hi : X.N[i]? = some n) (hl : sg.names.lookup n = some .local) (hT : HdsA X.K X.mg sg n (h₀ :: hds) l)
    (call : ∀ (W : WX) (pn : List (Addr × Obj)) (xe : Value → Shared → Prop) (Ech : XK), Takes (X.tr pn xe) W → (∀ cls d σ H, Ech cls d H → W cls d σ H) → PE (X.tr pn xe) e (te Ech))
    (hd1 : (n == ("__debug__" : Str)) = false := by decide) (hd2 : (n == ("__classdict__" : Str)) = false := by decide) (hsw : swapsWith e none p3.line X.env = pure false := by rfl) :
    PS X (.Try [.Expr e p3] (h₀ :: hds) [] [] p8) (fun D σ H => te (wChainA X.K D.rt l) σ H fun _ H' => D.nx σ H') := by
  obtain ⟨L, hL, hw⟩ := hdsA_ok (Y := X) hsc rfl hN hi hl hd1 hd2 hT
  refine ⟨fun pins s σ H D I h => ?_⟩
  refine (ps_try_all (Wout := fun _ _ _ _ => False)
      (tb := fun W D σ H => ∃ Ech : XK, (∀ cls d σ' H', Ech cls d H' → W cls d σ' H') ∧ te Ech σ H fun _ H' => D.nx σ H')
      hs hf takes_none5 (fun W pn xe tk _ => ?_) hL).run pins s σ H D I ⟨wChainA X.K D.rt l, fun cls d σ' H' z => hw D cls d σ' H' z, h⟩
  refine ⟨fun pins s' σ H' D I h' => ?_⟩
  obtain ⟨Ech, hW, h3⟩ := h'
  exact (pss_one (ps_expr (pos := p3) (call W pn xe Ech tk hW) hsw)).run pins s' σ H' D I h3
end
end My
/-! an error out of a comprehension, in a def's own body -/
namespace My
open PySem L2 LamX PyProof.Rows
section
variable {M : Model} {A : Around} {E₀ : Value → Shared → Prop} {s : Shared} {B : Heap} {env : Env} {outer : List Env} {e L : Addr} {Z : Obj → Prop} {fl : Value}
/-- an exception is noted, whatever frame its record names -/
theorem noted_any {Q : Unit → Shared → Prop} (hZ : HandSPX.Steady Z) (hfr : A.frames = some (env :: outer)) (hf : env.frame = some L) (k : B.StaysIn s.heap) (n : B.get? e = none) (l : s.heap.FunFrames B (env :: outer)) (t : HandSPX.TracedZ s.heap B e Z fl)
    (q : ∀ h', HandSPX.HeldZ B (env :: outer) e Z L h' → s.heap.UpToSlots h' → Q () { s with heap := h' }) : wpAny M A (noteFrame (.ref e) env) Q E₀ s := by
  by_cases hl : (fl == rawInt L) = true
  · have z : fl = rawInt L := eq_of_beq hl
    subst z
    exact HandSPX.againZ hf t (q s.heap ⟨k, n, l, t⟩ (Heap.UpToSlots.refl _))
  · obtain ⟨oe, vs, T, oT, ts, g1, g2, g3, g4, g5, g6, g7, g8, g9⟩ := t
    have away : ∀ b, b ≠ T → (s.heap.update T (Obj.mapFields (·.setIfInBounds 3 Value.none))).get? b = s.heap.get? b := fun b hb => Heap.get?_update_other _ _ (Ne.symm hb)
    have nrec : ∀ b o, s.heap.get? b = some o → (∀ x, o.data ≠ .fields x) → b ≠ T := by
      rintro b o hb hd rfl
      rw [g7] at hb
      cases hb
      exact hd ts g8
    unfold noteFrame
    rw [hf]
    refine wpAny_bind (wpAny_field g1 g3 g4 ?_)
    rw [if_pos (by simp : (Value.ref T != Value.none) = true)]
    refine wpAny_bind (wpAny_field g7 g8 g9 ?_)
    rw [if_neg hl]
    refine wpAny_bind (wpAny_setField g7 g8 (Array.getElem?_eq_some_iff.mp g9).1 ?_)
    refine HandSPX.wpAny_entryZ hZ hfr (l.of_keeps fun b o hb hd => ⟨o, (away b (nrec b o hb hd)).trans hb, rfl⟩) hf ((away e (Ne.symm g6)).trans g1) (fun b o hb => (away b (by rintro rfl; rw [g5] at hb; cases hb)).trans (k b o hb)) n g3 (Array.getElem?_eq_some_iff.mp g4).1 g2 fun h' hN => ?_
    exact q h' ⟨hN.1, n, hN.2.1, hN.2.2.1⟩ fun b o hb hd => hN.2.2.2 b o ((away b (nrec b o hb hd)).trans hb) hd
end
/-- frames stand as long as they are left as they are -/
theorem frames_at {h h' base : Heap} : ∀ {l : List Env}, h.FunFrames base l → (∀ b ∈ frs l, h'.get? b = h.get? b) → h'.FunFrames base l
  | [], _, _ => trivial
  | env :: l, ⟨hk, ⟨L, o, hf, hn, ho, hd⟩, hr⟩, e => ⟨hk, ⟨L, o, hf, hn, (e L (List.mem_filterMap.mpr ⟨env, .head _, hf⟩)).trans ho, hd⟩, frames_at hr fun b hb => e b (by
      obtain ⟨v, hv, q⟩ := List.mem_filterMap.mp hb
      exact List.mem_filterMap.mpr ⟨v, .tail _ hv, q⟩)⟩
section
variable {X : Cx} {pins : List (Addr × Obj)} {σ : L2.St} {H : Hp} {sI s' : Shared} {B : Heap} {E : XK} {a : Addr} {cls : Value} {d : Option Addr} {fl : Value} {E₁ : Value → Shared → Prop}
/-- .. and leaves the def -/
theorem leave_any (hs : X.stack = X.env :: X.outer) (hf : X.env.frame = some X.env.locals) (hex : X.ex = []) (I : L2.Inv X pins σ H sI) (nb : ∀ b o, sI.heap.get? b = some o → b ∉ frs X.stack → B.get? b = some o) (up : sI.heap.UpToSlots s'.heap)
    (k : B.StaysIn s'.heap) (n : B.get? a = none) (l : s'.heap.FunFrames B X.stack) (t : HandSPX.TracedZ s'.heap B a (Zc cls d) fl) (na : H a = none) (os : s'.os = sI.os) (ag : AllBare s'.gens) (w : E cls d H) :
    wpAny (model X.prog X.w) X.A (leaving X.env (.ref a)) (fun _ s'' => L2.CX X.prog X.w X.outer X.H_0 X.s_0 E (.ref a) s'') E₁ s' := by
  have hfr : X.A.frames = some (X.env :: X.outer) := by rw [I.ok.frames, hs]
  rw [hs] at l
  unfold leaving
  refine wpAny_bind (noted_any Zc.steady hfr hf k n l t fun h1 hh u1 => ?_)
  refine HandSPX.landsZ hh fun h2 f2 u2 => ?_
  have off : ∀ b o, X.s_0.heap.get? b = some o → b ∉ X.fs → b ∉ frs X.stack := fun b o e hb hm => by
    rcases List.mem_cons.mp (I.stkSub b hm) with z | z
    · have h1 := Heap.lt_size e
      have h3 := I.ok.above
      rw [z] at h1
      exact absurd (Nat.lt_of_lt_of_le h1 h3) (Nat.lt_irrefl _)
    · exact hb z
  have hex' : ∀ b, b ∉ X.ex := fun b hb => by rw [hex] at hb; cases hb
  obtain ⟨k2, n2, l2, t2⟩ := f2
  refine ⟨a, B, H, cls, d, rfl, ⟨k2, n2, l2.2.2, t2⟩, I.inGround nb, ⟨fun b o e z hb => nb b o (I.base.keep b o e z hb (hex' b)) (off b o e hb), fun b o e hb => ?_, fun b o e z => I.base.free b o e z (hex' b), fun b o e hb => ?_, I.base.tups, I.base.frzs, I.base.tbls⟩, na, os.trans I.os, ag, w⟩
  · obtain ⟨_, o₀, e₀, hd⟩ := I.ok.funs.mem hb
    rw [e] at e₀
    cases e₀
    obtain ⟨l1, e1⟩ := I.base.slot b o e (I.ok.frf b hb) hb (hex' b)
    obtain ⟨l2, e2⟩ := up b _ e1 hd
    obtain ⟨l3, e3⟩ := u1 b _ e2 hd
    obtain ⟨l4, e4⟩ := u2 b _ e3 hd
    exact ⟨l4, e4⟩
  · obtain ⟨o', e1⟩ := I.base.there b o e (hex' b)
    exact ⟨o', nb b o' e1 (off b o e hb)⟩
/-- what comes out of a block -/
def OutB (X : Cx) (s3 : Shared) (H3 : Hp) (scope : Scope) (ce : Env) (fp : List Addr) (E : XK) : Value → Shared → Prop := fun u s' =>
  ∃ (pl : List (Addr × Obj)) (σ' : L2.St) (H1 : Hp) (s1 : Shared), L2.Inv (X.blk s3 H3 scope ce fp) pl σ' H1 s1 ∧ L2.CX X.prog X.w X.stack H1 s1 E u s'
theorem block_out {s3 : Shared} {H3 : Hp} {scope : Scope} {ce : Env} {fp : List Addr} {C D : Addr} {Qf : Value → Shared → Prop} {u : Value} (hs : X.stack = X.env :: X.outer) (hf : X.env.frame = some X.env.locals) (hex : X.ex = [])
    (hx : X.xe = fun e s' => wpAny (model X.prog X.w) X.A (leaving X.env e) (fun _ s'' => L2.CX X.prog X.w X.outer X.H_0 X.s_0 E e s'') E₁ s')
    (I3 : L2.Inv X pins σ H3 s3) (hC : ce.locals = C) (hCs : s3.heap.objs.size ≤ C) (hcf : ce.frame = X.env.frame) (hfp : ∀ b ∈ fp, FpOk X pins H3 b) (o : OutB X s3 H3 scope ce fp E u s') :
    notedBy (model X.prog X.w) X.A ce (fun e s2 => compPost (model X.prog X.w) X.A X.xe none Qf (.ref D) C (.error e) s2) u s' := by
  obtain ⟨pl, σ', H1, s1, Ib, c⟩ := o
  obtain ⟨a, B, sI, pi, σi, H', cls, d, rfl, Ii, nb, up, sky, na, os, ag, w⟩ := XE.of_call (X := X.blk s3 H3 scope ce fp) (W := fun cls d _ H => E cls d H) Ib (fun _ _ _ h => h) c
  have hfr : X.A.frames = some (X.env :: X.outer) := by rw [I3.ok.frames, hs]
  have en : noteFrame (.ref a) ce = noteFrame (.ref a) X.env := by
    unfold noteFrame PySem.frameOf
    rw [hcf]
  have IX : L2.Inv X pins σ H' sI := I3.call' (ch := fp) Ii.os Ii.base Ii.hok Ii.bare fun b hb => ⟨(hfp b hb).2.2.2.1, (hfp b hb).2.1, (hfp b hb).2.2.2.2.1, (hfp b hb).2.2.2.2.2⟩
  have fC : FpOk X pins H' C := I3.fpOk hCs (by have z : H' ce.locals = none := Ii.free; rw [hC] at z; exact z)
  have cF : C ∉ frs X.stack := fun hm => by
    rcases List.mem_cons.mp (I3.stkSub C hm) with z | z
    · exact fC.2.1 z
    · exact fC.2.2.1 z
  show wpAny _ _ (noteFrame (.ref a) ce) _ _ _
  rw [en]
  have rest : ∀ h1, HandSPX.HeldZ B (X.env :: X.outer) a (Zc cls d) X.env.locals h1 → s'.heap.UpToSlots h1 → compPost (model X.prog X.w) X.A X.xe none Qf (.ref D) C (.error (.ref a)) { s' with heap := h1 } := fun h1 hh u1 => by
    obtain ⟨k1, n1, l1, t1⟩ := hh
    obtain ⟨m, hm, _⟩ := Ii.loc
    have hm : sI.heap.Ns ce.locals m := hm
    rw [hC] at hm
    obtain ⟨oC, es, ep, gC, rC⟩ := hm
    have gB : B.get? C = some oC := nb C oC gC cF
    refine ⟨m, ⟨oC, es, ep, k1 C oC gB, rC⟩, fun h2 sb ce' _ => ?_⟩
    obtain ⟨B2, b1, b2⟩ := restrict B fun b => decide (b ≠ C)
    obtain ⟨G, q1, q2⟩ := restrict sI.heap fun b => decide (b ≠ C)
    have B2of : ∀ b o, B2.get? b = some o → b ≠ C ∧ B.get? b = some o := fun b o e => by
      by_cases z : b = C
      · rw [b2 b (by simp [z])] at e
        cases e
      · exact ⟨z, by rw [← b1 b (by simp [z])]; exact e⟩
    have Gof : ∀ b o, G.get? b = some o → b ≠ C ∧ sI.heap.get? b = some o := fun b o e => by
      by_cases z : b = C
      · rw [q2 b (by simp [z])] at e
        cases e
      · exact ⟨z, by rw [← q1 b (by simp [z])]; exact e⟩
    have same2 : ∀ b, b ≠ C → h2.get? b = h1.get? b := fun b hb => sb.2 b hb
    have k2 : B2.StaysIn h2 := fun b o e => by
      obtain ⟨z, e'⟩ := B2of b o e
      rw [same2 b z]
      exact k1 b o e'
    have none2 : ∀ b, B.get? b = none → B2.get? b = none := fun b e => by
      cases z : B2.get? b with
      | none => rfl
      | some o =>
        have := (B2of b o z).2
        rw [e] at this
        cases this
    have neC : ∀ b, B.get? b = none → b ≠ C := fun b e z => by rw [z, gB] at e; cases e
    have l2 : h2.FunFrames B2 (X.env :: X.outer) := by
      have lB : ∀ b ∈ frs (X.env :: X.outer), B.get? b = none := fun b hb => (l1.mem hb).1
      have l0 : h1.FunFrames B2 (X.env :: X.outer) := funFrames_none l1 fun b hb => none2 b (lB b hb)
      exact frames_at l0 fun b hb => same2 b fun z => neC b (lB b hb) z
    have t2 : HandSPX.TracedZ h2 B2 a (Zc cls d) (rawInt X.env.locals) := by
      obtain ⟨oe, vs, T, oT, ts, g1, g2, g3, g4, g5, g6, g7, g8, g9⟩ := t1
      exact ⟨oe, vs, T, oT, ts, (same2 a (neC a n1)).trans g1, g2, g3, g4, none2 T g5, g6, (same2 T (neC T g5)).trans g7, g8, g9⟩
    obtain ⟨oe, vs, T, oT, ts, g1, g2, g3, g4, g5, g6, g7, g8, g9⟩ := id t2
    unfold PySem.passOn
    refine wpAny_bind (wpAny_field g1 g3 g4 ?_)
    rw [if_neg (show ¬ (Value.ref T == Value.none) = true by simp)]
    first
      | refine wpAny_bind (wpAny_pure ?_)
      | skip
    refine wpAny_bind (HandSPX.setFlight_anyZ k2 l2 t2 fun h3 k3 l3 t3 u3 => ?_)
    refine wpAny_throw ?_
    rw [hx]
    have J : L2.Inv X pins σ H' { sI with heap := G } := IX.turned (t' := sI.toks) (it := C) (fun b o hb e => by rw [q1 b (by simp [hb])]; exact e) fC.1 fC.2.1 fC.2.2.2.1 fC.2.2.2.2.1 fC.2.2.2.2.2
    refine leave_any hs hf hex (sI := { sI with heap := G }) (B := B2) J (fun b o e hb => ?_) (fun b o e hd => ?_) k3 (none2 a n1) (hs ▸ l3) t3 na os ag w
    · obtain ⟨z, e'⟩ := Gof b o e
      rw [b1 b (by simp [z])]
      exact nb b o e' hb
    · obtain ⟨z, e'⟩ := Gof b o e
      obtain ⟨x1, e1⟩ := up b o e' hd
      obtain ⟨x2, e2⟩ := u1 b _ e1 hd
      obtain ⟨x3, e3⟩ := u3 b _ ((same2 b z).trans e2) hd
      exact ⟨x3, e3⟩
  rcases sky with ⟨f1, f2, f3, oe, vs, f4, f5, f6, f7⟩ | ⟨f1, f2, f3, f4⟩ | ⟨f1, f2, f3, f4⟩
  · have f3 : s'.heap.FunFrames B X.stack := f3
    rw [hs] at f3
    exact HandSPX.look_newZ Zc.steady hfr f3 hf f4 f1 f2 f6 f7 f5 rest
  · have f3 : s'.heap.FunFrames B X.stack := f3
    rw [hs] at f3
    exact noted_any Zc.steady hfr hf f1 f2 f3 f4 rest
  · have f3 : s'.heap.FunFrames B X.stack := f3
    rw [hs] at f3
    exact noted_any Zc.steady hfr hf f1 f2 f3 f4 rest
end
end My
/-! [elt for target in iter if ..] whose elt may let an error out, in a def's own body -/
namespace My
open PySem L2 LamX PyProof.Rows
section
variable {X : Cx} {E : XK} {E₁ : Value → Shared → Prop}
/-- where the block of a comprehension stands -/
abbrev envB (X : Cx) (scope : Scope) (s3 : Shared) : Env := compEnvC scope (cellsFrom (s3.heap.objs.size + 1) scope.names (cloFrom X.env.cells scope.names [])) s3.heap.objs.size X.env
/-- one turn, the errors of the element among its ends -/
theorem turn_out {s3 : Shared} {H3 : Hp} {scope : Scope} {fp : List Addr} {ce : Env} {D : Addr} {R : Result → Shared → Prop} {elt tg : Expr} {ifs : List Expr} {g : TG} {tt : TT} {te : TE} {σ : L2.St} {vs : List Nat} {Nx : Hp → Prop} {Goal : Shared → Prop} {H5 : Hp} {s5 : Shared}
    (pg : PG (X.blk s3 H3 scope ce fp) tg g) (pt : PTs (X.blk s3 H3 scope ce fp) ifs tt) (pe : PE ((X.blk s3 H3 scope ce fp).wish (OutB X s3 H3 scope ce fp E)) elt te)
    (out : ∀ u s', OutB X s3 H3 scope ce fp E u s' → notedBy (model X.prog X.w) X.A ce (fun e s2 => R (.error e) s2) u s')
    {x : V} {u : Value} (I7 : L2.Inv (X.blk s3 H3 scope ce fp) ([] ++ pinsAt fp s5.heap) (wipe σ vs) H5 s5) (r : RelV x u)
    (step : g x (wipe σ vs) H5 fun σ2 H2 => wipe σ2 vs = wipe σ vs ∧ tt σ2 H2 fun b H3 => if b = true then te σ2 H3 fun y H4 => ∃ acc, H4 D = some (.lst acc) ∧ acc.length < sizeLine ∧ Nx (upd H4 D (.lst (acc ++ [y]))) else Nx H3)
    (fin : ∀ (σ8 : L2.St) (s' : Shared) (H' : Hp), wipe σ8 vs = wipe σ vs → L2.Inv (X.blk s3 H3 scope ce fp) ([] ++ pinsAt fp s5.heap) σ8 H' s' → Nx H' → Goal s') :
    wpAny (model X.prog X.w) X.A (assign tg ce u) (fun _ s₂ =>
      wpAny (model X.prog X.w) X.A (forIn ifs true fun c r => if r = true then do let ok ← isTrue c ce (eval c ce); pure (ForInStep.yield ok) else pure (ForInStep.yield r)) (fun ok s₃ =>
        if ok = true then wpAny (model X.prog X.w) X.A (eval elt ce) (fun x s₄ =>
          wpAny (model X.prog X.w) X.A (call (.builtin "list.append") [.ref D, x]) (fun _ s₅ => Goal s₅) (notedBy (model X.prog X.w) X.A ce fun e s' => R (.error e) s') s₄) (notedBy (model X.prog X.w) X.A ce fun e s' => R (.error e) s') s₃
        else Goal s₃) (notedBy (model X.prog X.w) X.A ce fun e s' => R (.error e) s') s₂) (notedBy (model X.prog X.w) X.A ce fun e s' => R (.error e) s') s5 := by
  refine thnF (pg.run _ s5 _ H5 x u _ I7 r step) fun _ s8 ⟨σ8, H8, I8, w8, q8⟩ => ?_
  refine thnF (pt.run _ s8 σ8 H8 _ I8 q8) fun b s9 ⟨H9, I9, q9⟩ => ?_
  cases b with
  | true =>
    have q9 : te σ8 H9 fun y H4 => ∃ acc, H4 D = some (.lst acc) ∧ acc.length < sizeLine ∧ Nx (upd H4 D (.lst (acc ++ [y]))) := q9
    show wpAny _ _ (eval elt ce) _ _ _
    refine wpAny_mono (pe.run _ s9 σ8 H9 _ (I9.wish _) q9) (fun z s10 hz => ?_) fun e s' o => out e s' o
    obtain ⟨yv, H10, I10, r10, acc, a1, a2, a3⟩ := hz
    exact app_ok (X := X.blk s3 H3 scope ce fp) I10.unwish a1 a2 r10 fun s11 I11 => fin σ8 s11 _ w8 I11 a3
  | false => exact fin σ8 s9 H9 w8 I9 q9
theorem pe_lcX {elt tg iter : Expr} {ifs : List Expr} {scope : Scope} {own : List (Str × Nat)} {pos : Pos} {wi : TI} {g : TG} {tt : TT} {te : TE} (hc : X.calm = true) (hN : X.N.Nodup) (hi : PI X tg iter wi) (ok : BlkOk X.N X.env.scope scope own)
    (hg : ∀ (s : Shared) (H : Hp) (C : Addr) (cl : List (Str × Addr)) (fp : List Addr), PG (X.blk s H scope (compEnvC scope cl C X.env) fp) tg g) (ht : ∀ (s : Shared) (H : Hp) (C : Addr) (cl : List (Str × Addr)) (fp : List Addr), PTs (X.blk s H scope (compEnvC scope cl C X.env) fp) ifs tt)
    (he : ∀ (s : Shared) (H : Hp) (C : Addr) (cl : List (Str × Addr)) (fp : List Addr), PE ((X.blk s H scope (compEnvC scope cl C X.env) fp).wish (OutB X s H scope (compEnvC scope cl C X.env) fp E)) elt te)
    (hS : X.stack = X.env :: X.outer) (hf : X.env.frame = some X.env.locals) (hex : X.ex = [])
    (hx : X.xe = fun e s' => wpAny (model X.prog X.w) X.A (leaving X.env e) (fun _ s'' => L2.CX X.prog X.w X.outer X.H_0 X.s_0 E e s'') E₁ s')
    (hs : ∀ x, foldedSetIterable iter X.env x = pure x := by intro _; rfl) :
    PE X (.ListComp elt [⟨tg, iter, ifs, 0⟩] scope pos) (tLc wi g tt te (own.map (·.2))) := by
  refine ⟨fun pins s σ H Q I h => ?_⟩
  rw [eval_ListComp]
  have hcl : ∀ y ∈ scope.names, y.2 = .free → ∃ c, X.env.cells.lookup y.1 = some c := fun y hy e => I.ok.has _ (ok.free y hy e)
  refine wpAny_comprehension_free (use := none) rfl hs (closure_ok hcl) ok.kind (fun y hy e => by rw [ok.uniq y hy, e]) (thn (hi.run pins s σ H _ I h) fun xv s1 hx1 => thn hx1 fun itv s2 h2 => ?_)
  obtain ⟨it, fp, tn, J, H2, e, I2, T, st2, f2, q⟩ := h2
  subst e
  refine wpAny_newObj_type (newEnv_comp ?_) (by show 0 ≤ sizeLine; decide)
  have nD : H2 s2.heap.objs.size = none := I2.hok.fresh (Nat.le_refl _)
  obtain ⟨W, ⟨m0, w0⟩, turn⟩ := q _ nD
  generalize eD : s2.heap.objs.size = D at *
  obtain ⟨s3, e3⟩ : ∃ s3 : Shared, s3 = { s2 with heap := s2.heap.push { cls := .type "list", data := .seq ([] : List Value).toArray } } := ⟨_, rfl⟩
  have h3 : s3.heap = s2.heap.push { cls := .type "list", data := .seq ([] : List Value).toArray } := by rw [e3]
  have I3 : L2.Inv X pins σ (upd H2 D (.lst [])) s3 := by
    rw [e3]
    refine I2.laid (t' := s2.toks) (fun b o e => Heap.get?_push_of_some _ e) (Nat.le_of_eq eD) ⟨Nat.zero_le _, [], 0, .nil, ?_⟩
    rw [← eD]
    exact Heap.get?_push_size _ rfl
  have old : ∀ b ∈ fp, b < s2.heap.objs.size := fun b hb => by
    obtain ⟨o, e, _⟩ := T.obj _ _ st2 b hb
    exact Heap.lt_size e
  have f3 : ∀ b ∈ fp, FpOk X pins (upd H2 D (.lst [])) b ∧ b < s3.heap.objs.size := fun b hb => by
    have lt := old b hb
    have ne : b ≠ D := by rw [← eD]; exact Nat.ne_of_lt lt
    exact ⟨⟨by rw [upd_ne ne]; exact (f2 b hb).1, (f2 b hb).2⟩, by rw [h3, Heap.size_push]; exact Nat.lt_succ_of_lt lt⟩
  have st3 : tn 0 s3.heap := T.keep _ _ _ st2 fun b _ o e => by rw [h3]; exact Heap.get?_push_of_some _ e
  have I4 := block_start I3 ok hN f3
  generalize upd H2 D (.lst []) = H3 at I3 f3 I4 w0
  have pg := hg s3 H3 s3.heap.objs.size (cellsFrom (s3.heap.objs.size + 1) scope.names (cloFrom X.env.cells scope.names [])) fp
  have pt := ht s3 H3 s3.heap.objs.size (cellsFrom (s3.heap.objs.size + 1) scope.names (cloFrom X.env.cells scope.names [])) fp
  have pe := he s3 H3 s3.heap.objs.size (cellsFrom (s3.heap.objs.size + 1) scope.names (cloFrom X.env.cells scope.names [])) fp
  rw [← e3]
  show codeAny _ _ (.compStart (.ListComp elt [⟨tg, iter, ifs, 0⟩] scope pos) 0 (.ref it) (.ref D) (envB X scope s3)) (compPost (model X.prog X.w) X.A X.xe none _ (.ref D) s3.heap.objs.size) { s3 with heap := pushCells (s3.heap.push { cls := .type "dict", data := .dict #[] }) scope.names }
  have hL : (envB X scope s3).locals = s3.heap.objs.size := rfl
  have hF : (envB X scope s3).frame = X.env.frame := rfl
  change L2.Inv (X.blk s3 H3 scope (envB X scope s3) fp) _ _ _ _ at I4
  change PG (X.blk s3 H3 scope (envB X scope s3) fp) _ _ at pg
  change PTs (X.blk s3 H3 scope (envB X scope s3) fp) _ _ at pt
  change PE ((X.blk s3 H3 scope (envB X scope s3) fp).wish (OutB X s3 H3 scope (envB X scope s3) fp E)) _ _ at pe
  generalize envB X scope s3 = ce at *
  have out : ∀ u s', OutB X s3 H3 scope ce fp E u s' → notedBy (model X.prog X.w) X.A ce (fun e s2 => compPost (model X.prog X.w) X.A X.xe none (EP X pins σ Q) (.ref D) s3.heap.objs.size (.error e) s2) u s' := fun u s' o => block_out hS hf hex hx I3 hL (Nat.le_refl _) hF (fun b hb => (f3 b hb).1) o
  have st4 : tn 0 (pushCells (s3.heap.push { cls := .type "dict", data := .dict #[] }) scope.names) := T.keep _ _ _ st3 fun b _ o e => pushCells_keeps _ _ _ _ (Heap.get?_push_of_some _ e)
  have no4 : ∀ b ∈ fp, H3 b = none := fun b hb => (f3 b hb).1.1
  have frb : ∀ {σ' : L2.St} {H' : Hp} {s' : Shared}, L2.Inv (X.blk s3 H3 scope ce fp) [] σ' H' s' → (∀ b ∈ fp, H' b = none) → ∀ b ∈ fp, FpOk (X.blk s3 H3 scope ce fp) [] H' b := fun {σ' H' s'} I' hn b hb =>
    ⟨hn b hb, (I'.ok.exf b hb).1, I'.ok.exfs b hb, .inl hb, fun x c e => (I'.ok.exf b hb).2 x c e, fun p hp => by cases hp⟩
  obtain ⟨s4, e4⟩ : ∃ s4 : Shared, s4 = { s3 with heap := pushCells (s3.heap.push { cls := .type "dict", data := .dict #[] }) scope.names } := ⟨_, rfl⟩
  rw [← e4] at I4 ⊢
  have st4 : tn 0 s4.heap := by rw [e4]; exact st4
  have loop : codeAny (model X.prog X.w) X.A (.compLoop (.ListComp elt [⟨tg, iter, ifs, 0⟩] scope pos) 0 (.ref it) (.ref D) ce) (compPost (model X.prog X.w) X.A X.xe none (EP X pins σ Q) (.ref D) s3.heap.objs.size) s4 := by
    refine compLoop_any (fun n z => ∃ i H', L2.Inv (X.blk s3 H3 scope ce fp) [] (wipe σ (own.map (·.2))) H' z ∧ tn i z.heap ∧ (∀ b ∈ fp, H' b = none) ∧ W i n H') (fun n s5 hI => ?_) m0 ⟨0, H3, I4, st4, no4, w0⟩
    obtain ⟨i, H5, I5, st5, n5, w5⟩ := hI
    rcases turn i n H5 w5 with ⟨stop, qd⟩ | ⟨go, Nx, down, step⟩
    · refine thnF (T.done (X.blk s3 H3 scope ce fp) rfl rfl rfl hc i [] s5 _ H5 (fun _ _ => False) I5 (frb I5 n5) st5 stop) fun r s6 hr => ?_
      obtain ⟨er, I6⟩ := hr
      subst er
      have IX : L2.Inv X pins σ H5 s6 := I3.call' (ch := fp) I6.os I6.base I6.hok I6.bare fun b hb => let k := (f3 b hb).1; ⟨k.2.2.2.1, k.2.1, k.2.2.2.2.1, k.2.2.2.2.2⟩
      have nC : H5 s3.heap.objs.size = none := by
        have z : H5 ce.locals = none := I6.free
        rw [hL] at z
        exact z
      obtain ⟨m, hm, _⟩ := I6.loc
      have hm : s6.heap.Ns ce.locals m := hm
      rw [hL] at hm
      have k := I3.fpOk (Nat.le_refl _) nC
      exact ⟨m, hm, fun h' sb => ⟨.ref D, H5, IX.turned (t' := s6.toks) (fun b o hb e => (sb.2 b hb).trans e) k.1 k.2.1 k.2.2.2.1 k.2.2.2.2.1 k.2.2.2.2.2, rfl, qd⟩⟩
    · refine thnF (T.item (X.blk s3 H3 scope ce fp) rfl rfl rfl hc i [] s5 _ H5 (fun _ _ => False) I5 (frb I5 n5) st5 go) fun r s6 hr => ?_
      obtain ⟨u, er, h6⟩ := hr
      subst er
      refine thnF h6 fun _ s7 h7 => ?_
      obtain ⟨x, H7, I7, r7, y7, st7, n7⟩ := h7
      refine turn_out (R := compPost (model X.prog X.w) X.A X.xe none (EP X pins σ Q) (.ref D) s3.heap.objs.size) pg pt pe out (I7.pinned (frb I7 n7) (T.obj _ _ st7)) r7 (step x H7 y7) fun σ8 z H8 w8 I8 nx => ?_
      obtain ⟨m', lt, w'⟩ := down H8 nx
      have stay : ∀ b ∈ fp, ∀ o, s7.heap.get? b = some o → z.heap.get? b = some o ∧ H8 b = none := fun b hb o e =>
        let k := I8.pin (b, o) (List.mem_append_right _ (List.mem_append_right _ (mem_pinsAt hb e)))
        ⟨k.1, k.2.1⟩
      have ln : (wipe σ (own.map (·.2))).length = σ8.length := by rw [← w8, wipe_length]
      refine ⟨m', lt, i + 1, H8, (I8.unpinned (pins := [])).weak ln (fun j v e => ?_), T.keep _ _ _ st7 fun b hb o e => (stay b hb o e).1, fun b hb => ?_, w'⟩
      · rw [← w8] at e
        exact (wipe_some e).1
      · obtain ⟨o, e, _⟩ := T.obj _ _ st7 b hb
        exact (stay b hb o e).2
  exact codeAny_compStart_list loop (T.self X.A 0 _ _ _ st4 loop)
/-- what a callee lets out leaves the block -/
theorem passB {s : Shared} {H : Hp} {scope : Scope} {ce : Env} {fp : List Addr} : Passes (L2.CX X.prog X.w) ((X.blk s H scope ce fp).wish (OutB X s H scope ce fp E)) E := fun pl σ H1 s1 e s' I c => ⟨pl, σ, H1, s1, I.unwish, c⟩
end
end My
/-! text.index(sign) of a letter of the alphabet -/
namespace My
open PySem L2
/-- where a sign first stands in a text, if it stands there -/
def firstAt (x y : Str) : Nat := (Builtin.Str.occurrences x y 0 x.length 1).headD 0
theorem first_of {x y : Str} (h : Builtin.Str.occurrences x y 0 x.length 1 ≠ []) : ∃ r, Builtin.Str.occurrences x y 0 x.length 1 = firstAt x y :: r := by
  unfold firstAt
  cases e : Builtin.Str.occurrences x y 0 x.length 1 with
  | nil => exact absurd e h
  | cons a r => exact ⟨r, rfl⟩
end My
namespace My
open PySem PySem.Spec PyProof.Rows L2
/-! tracked tuples; enumerate of a tuple as a for; == of unlike things -/
theorem for_enumT {K : PySem.W.Frag} {a : Addr} {xs : List V} {g : TG} {tb : TS} {D : Ends} {σ : L2.St} {H : Hp} (Pv : Nat → L2.St → Hp → Prop) (h0 : Pv 0 σ H) (hl : ∀ i σ H, i ≤ xs.length → Pv i σ H → SqT K H a xs)
    (hs : ∀ i x T σ H, xs[i]? = some x → Pv i σ H → H T = none → g (.ref T) σ (upd H T (.tup [.int (i : Nat), x])) fun σ2 H2 => tb { D with nx := Pv (i + 1), ct := Pv (i + 1), bk := D.nx } σ2 H2) (hd : ∀ σ H, Pv xs.length σ H → D.nx σ H) :
    ∃ W : Nat → Nat → L2.St → Hp → Prop, (∃ m, W 0 m σ H) ∧ ∀ i m σ H, W i m σ H →
      ((IteT K a).stop i H ∧ D.nx σ H) ∨ ((IteT K a).go i H ∧ ∃ N : L2.St → Hp → Prop, (∀ σ' H', N σ' H' → ∃ m', m' < m ∧ W (i + 1) m' σ' H') ∧ ∀ x H', (IteT K a).yld i H x H' → g x σ H' fun σ2 H2 => tb { D with nx := N, ct := N, bk := D.nx } σ2 H2) := by
  refine ⟨fun i m σ H => m = xs.length - i ∧ i ≤ xs.length ∧ Pv i σ H, ⟨xs.length, by simp, Nat.zero_le _, h0⟩, ?_⟩
  rintro i m σ H ⟨rfl, hi, p⟩
  have q := hl i σ H hi p
  by_cases hlt : i < xs.length
  · obtain ⟨x, hx⟩ : ∃ x, xs[i]? = some x := ⟨xs[i], List.getElem?_eq_getElem hlt⟩
    refine .inr ⟨⟨xs, x, q, hx⟩, Pv (i + 1), fun σ' H' n => ⟨xs.length - (i + 1), by omega, rfl, hlt, n⟩, ?_⟩
    rintro y H' ⟨T, z, rfl, h3, rfl, h4⟩
    exact hs i z T σ H (h4 xs q) p h3
  · have e : i = xs.length := by omega
    subst e
    exact .inl ⟨⟨xs, q, rfl⟩, hd σ H p⟩
theorem EqB.or {X : Cx} {n : Nat} {D D' : EqvB} (h : EqB X n D) (h' : EqB X n D') : EqB X n (fun x y b H => D x y b H ∨ D' x y b H) := fun A pins s σ H x y u v b sb I rx ry d => by
  rcases d with d | d
  · exact h A pins s σ H x y u v b sb I rx ry d
  · exact h' A pins s σ H x y u v b sb I rx ry d
theorem MonB.or {D D' : EqvB} (h : MonB D) (h' : MonB D') : MonB (fun x y b H => D x y b H ∨ D' x y b H) := fun x y b H H' e d => d.imp (h x y b H H' e) (h' x y b H H' e)
theorem _root_.L2.Room.units65 {k : Nat} {A : Around} (r : Room k A) : A.units + 65 < cLine := by have := r.un; omega
/-- a + b of tracked tuples is one -/
theorem catA_toT {K : PySem.W.Frag} {a b : Addr} {xs ys : List V} {H : Hp} {Q : VK} (h1 : H a = some (.tup xs)) (h2 : H b = some (.tup ys)) (hz : xs.length + ys.length ≤ sizeLine) (k : ∀ (p : Addr) (H' : Hp), Same H H' → H' p = some (.tup (xs ++ ys)) → Q (.ref p) H') : rCatA K (.ref a) (.ref b) H Q :=
  ⟨a, b, xs, ys, rfl, rfl, SqT.of h1, SqT.of h2, hz, fun e => k b H (Same.refl _) (by rw [e]; exact h2), fun _ e => k a H (Same.refl _) (by rw [e, List.append_nil]; exact h1), fun _ _ p hp => k p _ (same_new hp) upd_same⟩
end My
namespace My
open PySem PySem.Spec PyProof.Rows L2
/-! a loop over the items of a locked dict whose keys are tuples -/
section
variable {X : Cx} {pins : List (Addr × Obj)} {σ : L2.St} {H : Hp} {s : Shared} {d : Addr} {o : Obj}
/-- the entries of a locked dict with tuple keys, keys and values told -/
theorem frzT_told {kvs : List (List Key × V)} (I : L2.Inv X pins σ H s) (h : H d = some (.frz o (.dT kvs))) :
    (d == sysModules) = false ∧ s.heap.get? d = some o ∧ o.ExactDict ∧ ∃ (es : Array DictEntry) (ep : Nat), o.data = .dict es ep ∧ es.size = kvs.length ∧
      ∀ (i : Nat) (hi : i < es.size) (k : List Key) (v : V), kvs[i]? = some (k, v) → ∃ q : Addr, es[i].key = .ref q ∧ H q = some (.tup (k.map kV)) ∧ RelV v es[i].val := by
  obtain ⟨hg, _, hsys, xs, pr, o2, es, ep, hg2, hex, hdat, hes, _⟩ := I.hok d _ h
  obtain rfl : o = o2 := Option.some.inj (hg.symm.trans hg2)
  have hlx : kvs.length = xs.length := Paired.length pr
  have hle : es.size = xs.length := by
    have := congrArg List.length hes
    rw [Array.length_toList, List.length_map] at this
    exact this
  refine ⟨hsys, hg, hex, es, ep, hdat, hle.trans hlx.symm, fun i hi k v hk => ?_⟩
  obtain ⟨x, hx, e1, e2, e3⟩ := paired_get pr hk
  have he : es.toList[i]? = some (entryOfKey (tupleKind (mixKind X.prog X.w)) x) := by
    rw [hes, List.getElem?_map, hx]
    rfl
  rw [Array.getElem?_toList, Array.getElem?_eq_getElem hi] at he
  rw [Option.some.inj he]
  exact ⟨x.2.1, rfl, e2, e3⟩
end
/-- the pairs of a key's own tuple and a value, each a new tuple -/
def ItT (d : Addr) (o : Obj) (kvs : List (List Key × V)) : It :=
  ⟨fun i H => H d = some (.frz o (.dT kvs)) ∧ i < kvs.length,
   fun i H x H' => ∃ (T q : Addr) (k : List Key) (v : V), kvs[i]? = some (k, v) ∧ H q = some (.tup (k.map kV)) ∧ x = .ref T ∧ H T = none ∧ H' = upd H T (.tup [.ref q, v]),
   fun i H => H d = some (.frz o (.dT kvs)) ∧ kvs.length ≤ i⟩
theorem turn_ItT {P : Program} {w : World} {K : PySem.W.Frag} {d : Addr} {o : Obj} {es : Array DictEntry} {ep : Nat} {kvs : List (List Key × V)} {elts : List Expr} {kk : Nat} {tpos : Pos} (it : Addr) (hod : o.data = .dict es ep) (hn : es.size = kvs.length) :
    Turn P w K (.Tuple elts kk tpos) (ItT d o kvs) [it] it (fun i h => ∃ ok ov, IsItemIter h it d i es.size ep ok ov) where
  mem := List.mem_singleton.mpr rfl
  obj := fun i h st b hb => by
    obtain ⟨_, _, e⟩ := st
    rw [List.mem_singleton.mp hb]
    exact ⟨_, e, fun _ z => nomatch z⟩
  keep := fun i h h' st k => by
    obtain ⟨u1, u2, e⟩ := st
    exact ⟨u1, u2, k it (List.mem_singleton.mpr rfl) _ e⟩
  item := by
    intro X hP hw hK hc i pins s σ H E I hf st hg
    subst hP hw hK
    obtain ⟨hgo, hlt⟩ := hg
    obtain ⟨_, hg0, hex, es2, ep2, hdat, _, told⟩ := frzT_told I hgo
    have z := hod.symm.trans hdat
    injection z with z1 z2
    subst z1 z2
    have hi : i < es.size := by omega
    have hkv : kvs[i]? = some kvs[i] := List.getElem?_eq_getElem hlt
    obtain ⟨q, ek, hq, rv⟩ := told i hi kvs[i].1 kvs[i].2 hkv
    obtain ⟨u1, u2, e⟩ := st
    have hiz : it < s.heap.objs.size := Heap.lt_size e
    refine DT.nextI e ⟨o, hg0, hex, hod⟩ hi fun h1 e1 t1 z1 kp1 => ?_
    refine ⟨_, rfl, wpAny_letOwnedTupleGo_items (s := { s with heap := h1 }) e1 fun h2 e2 sb => ?_⟩
    have t2 : h2.get? s.heap.objs.size = some { cls := .type "tuple", data := .seq #[es[i].key, es[i].val] } := (sb.2 _ (Nat.ne_of_gt hiz)).trans t1
    have new : ObjOk X.prog X.w (upd H s.heap.objs.size (.tup [.ref q, kvs[i].2])) h2 s.heap.objs.size (.tup [.ref q, kvs[i].2]) :=
      ⟨by show 2 ≤ sizeLine; decide, [es[i].key, es[i].val], .cons ek (.cons rv .nil), ⟨_, t2, rfl, _, rfl⟩⟩
    have I2 : L2.Inv X pins σ (upd H s.heap.objs.size (.tup [.ref q, kvs[i].2])) { s with heap := h2 } :=
      I.turnedNew (t' := s.toks) (ch := [it]) (fun b ob hb eb => by
        have hne : b ≠ it := fun x => hb (List.mem_singleton.mpr x)
        exact (sb.2 b hne).trans (kp1 b ob hne eb)) hf (Nat.le_refl _) new
    refine ⟨.ref s.heap.objs.size, _, I2, rfl, ⟨_, q, kvs[i].1, kvs[i].2, hkv, hq, rfl, I.hok.fresh (Nat.le_refl _), rfl⟩, ⟨_, _, e2⟩, fun b hb => ?_⟩
    rw [List.mem_singleton.mp hb, upd_ne (Nat.ne_of_lt hiz)]
    exact (hf it (List.mem_singleton.mpr rfl)).1
  done := by
    intro X hP hw hK hc i pins s σ H E I hf st hg
    subst hP hw hK
    obtain ⟨hgo, hge⟩ := hg
    obtain ⟨f0, f1, _, f3, f4, f5⟩ := hf it (List.mem_singleton.mpr rfl)
    obtain ⟨_, hg0, hex, es2, ep2, hdat, _, _⟩ := frzT_told I hgo
    have z := hod.symm.trans hdat
    injection z with z1 z2
    subst z1 z2
    obtain ⟨u1, u2, e⟩ := st
    exact DT.endI (I.ok.hd hc) e ⟨o, hg0, hex, hod⟩ (by omega) fun h1 eb => ⟨rfl, I.turned (t' := s.toks) (fun b ob hb x => eb b ob hb x) f0 f1 f3 f4 f5⟩
  self := fun A i s Q E st h => by
    obtain ⟨_, _, e⟩ := st
    exact PySem.W.kcp_self e h
def iItemsT (td : TE) : TI := fun σ H R => td σ H fun x H1 => ∃ d o kvs, x = .ref d ∧ H1 d = some (.frz o (.dT kvs)) ∧ R (ItT d o kvs) H1
theorem pi_itemsT {X : Cx} {e : Expr} {td : TE} {apos cpos : Pos} {elts : List Expr} {kk : Nat} {tpos : Pos} (he : PE X e td) (hbase : attributeBase e "items" X.env (eval e X.env) = eval e X.env := by rfl) (hline : (apos.endLine == cpos.line) = true := by rfl) :
    PI X (.Tuple elts kk tpos) (.Call (.Attribute e "items" apos) [] [] cpos) (iItemsT td) := by
  refine ⟨fun pins s σ H R I h => ?_⟩
  refine wpAny_Call_method (T := "dict") (id := "dict.items") hbase rfl hline F.plainAttrs_dict F.slot_dict_items F.type_dict_items (thn (he.run pins s σ H _ I h) fun u s1 ⟨x, H1, I1, rx, d, o, kvs, ex, hd, q⟩ => ?_)
  subst ex
  obtain rfl : u = Value.ref d := rx
  obtain ⟨hsys, hg0, hex, es, ep, hdat, hn, _⟩ := frzT_told I1 hd
  have hraw : DT.Raw s1.heap d es ep := ⟨o, hg0, hex, hdat⟩
  refine ⟨hraw.typeIs, ?_, ?_⟩
  · intro b hb
    obtain rfl : d = b := Value.ref.inj hb
    exact ⟨o, hg0, hex.2.1⟩
  · have I2 : L2.Inv X pins σ H1 { s1 with heap := s1.heap.push { cls := .type "dict_items", data := .fields #[.ref d] } } := I1.kept (t' := s1.toks) fun b ob q => Heap.get?_push_of_some _ q
    have fin : wpAny (model X.prog X.w) X.A (pyIter (.ref s1.heap.objs.size)) (PIE X pins σ (.Tuple elts kk tpos) R) X.xe { s1 with heap := s1.heap.push { cls := .type "dict_items", data := .fields #[.ref d] } } := by
      refine DT.iterI ⟨_, Heap.get?_push_size _ rfl, rfl, rfl⟩ (hraw.push _) (pi_one (tk := s1.toks) I2 _ (turn_ItT _ hdat hn) ⟨.none, .none, ?_⟩ q)
      exact Heap.get?_push_size _ rfl
    show wpAny _ _ (callWith cpos (.builtin "dict.items") [.ref d] [] []) _ X.xe s1
    exact method_meetsIn F.slot_dict_items F.entry_dict_items rfl (PySem.evalArgs_none ⟨rfl, hraw.typeIs, F.args_dict_items_1 _, _, DT.meetsItems (es := es) (ep := ep) hsys, hraw, fin⟩)
theorem for_itemsT {d : Addr} {o : Obj} {kvs : List (List Key × V)} {g : TG} {tb : TS} {D : Ends} {σ : L2.St} {H : Hp} (Pv : Nat → L2.St → Hp → Prop) (h0 : Pv 0 σ H) (hl : ∀ i σ H, i ≤ kvs.length → Pv i σ H → H d = some (.frz o (.dT kvs)))
    (hs : ∀ i k v q T σ H, kvs[i]? = some (k, v) → H q = some (.tup (k.map kV)) → Pv i σ H → H T = none → g (.ref T) σ (upd H T (.tup [.ref q, v])) fun σ2 H2 => tb { D with nx := Pv (i + 1), ct := Pv (i + 1), bk := D.nx } σ2 H2) (hd : ∀ σ H, Pv kvs.length σ H → D.nx σ H) :
    ∃ W : Nat → Nat → L2.St → Hp → Prop, (∃ m, W 0 m σ H) ∧ ∀ i m σ H, W i m σ H →
      ((ItT d o kvs).stop i H ∧ D.nx σ H) ∨ ((ItT d o kvs).go i H ∧ ∃ N : L2.St → Hp → Prop, (∀ σ' H', N σ' H' → ∃ m', m' < m ∧ W (i + 1) m' σ' H') ∧ ∀ x H', (ItT d o kvs).yld i H x H' → g x σ H' fun σ2 H2 => tb { D with nx := N, ct := N, bk := D.nx } σ2 H2) := by
  refine ⟨fun i m σ H => m + i = kvs.length ∧ Pv i σ H, ⟨kvs.length, rfl, h0⟩, fun i m σ H ⟨hm, p⟩ => ?_⟩
  have q := hl i σ H (by omega) p
  cases m with
  | zero =>
    obtain rfl : i = kvs.length := by omega
    exact .inl ⟨⟨q, Nat.le_refl _⟩, hd σ H p⟩
  | succ m =>
    refine .inr ⟨⟨q, by omega⟩, Pv (i + 1), fun σ' H' n => ⟨m, by omega, by omega, n⟩, fun x H' hy => ?_⟩
    obtain ⟨T, t, k, v, h1, h2, rfl, h3, rfl⟩ := hy
    exact hs i k v t T σ H h1 h2 p h3
/-! {k: v} where k is a tuple -/
def tDispT1 (tk tv : TE) : TE := fun σ H Q => ∀ p, H p = none → tk σ (upd H p (.dT [])) fun x H1 => tv σ H1 fun y H2 => ∃ (b : Addr) (k : List Key), x = .ref b ∧ H2 p = some (.dT []) ∧ H2 b = some (.tup (k.map kV)) ∧ Q (.ref p) (upd H2 p (.dT [(k, y)]))
theorem pe_dispT1 {X : Cx} {pos : Pos} {k v : Expr} {tk tv : TE} (hu : X.A.units + 1 < cLine) (hk : PE X k tk) (hv : PE X v tv) : PE X (.Dict [some k] [v] pos) (tDispT1 tk tv) := by
  refine ⟨fun pins s σ H Q I q => ?_⟩
  have hn := I.hok.fresh (Nat.le_refl s.heap.objs.size)
  have I1 := I.laid (a := s.heap.objs.size) (o := .dT []) (h' := s.heap.push { cls := .type "dict", data := .dict #[] }) (t' := s.toks) (fun _ _ q => Heap.get?_push_of_some _ q) (Nat.le_refl _) (dt_empty s.heap I.big)
  refine wpAny_Dict_any rfl rfl (fun z => nomatch z) (by show 1 ≤ 15; decide) (thn ((pps_cons hk hv pps_nil).run pins _ σ _ (fun ps H2 => match ps with | [(x, y)] => ∃ (b : Addr) (k : List Key), x = .ref b ∧ H2 s.heap.objs.size = some (.dT []) ∧ H2 b = some (.tup (k.map kV)) ∧ Q (.ref s.heap.objs.size) (upd H2 s.heap.objs.size (.dT [(k, y)])) | _ => False) I1 (q _ hn)) fun ws s2 hx => ?_)
  obtain ⟨ps, H2, I2, rel, hx⟩ := hx
  split at hx
  · rename_i x y
    obtain ⟨b, kk, rfl, e, eb, q2⟩ := hx
    cases rel with
    | @cons a1 b1 as bs r1 r2 =>
    cases r2
    obtain ⟨u, r⟩ := b1
    obtain ⟨ru, ry⟩ := r1
    cases (show u = Value.ref b from ru)
    obtain ⟨z, hd, xs, kt, dd⟩ := dt_of I2.hok e
    cases kt
    refine wpAny_storeAllH (knd := tupleKind (mixKind X.prog X.w)) (show X.A.units < cLine by omega) [(.ref b, r)] [(kk, b, r)] [] s2 _ ⟨rfl, rfl, key_of I2.hok eb, trivial⟩ dd (by rw [sizeLine_eq]; show 0 + 1 ≤ 16777216; decide) fun h' tk' dd' hs => ⟨.ref s.heap.objs.size, _, ?_, rfl, q2⟩
    obtain ⟨o, es, ep, ho, h2, h3, h4, _, h5⟩ := dd'
    refine d_write I2 (by rw [e]; exact True.intro) hs ⟨o, ho⟩ ⟨(by rw [sizeLine_eq]; show 1 ≤ 16777216; decide), hd, [(kk, b, r)], .cons ⟨rfl, ?_, ry⟩ .nil, o, es, ep, ho, h2, h3, h4, h5⟩
    rw [upd_ne (ne_of eb e (fun z => nomatch z))]
    exact eb
  · exact hx.elim
end My
namespace My
open PySem PySem.Spec PyProof.Rows L2 LamX
/-! sorted(t, key=lambda x: x.f) of a tuple -/
open PySem.W in
theorem sorted_key_dataT {prog : Program} {w : World} {A : Around} {E : Value → Shared → Prop} {s : Shared} {β : Type} {R : Value → β → Prop} {vs : List Value} {bs : List β} {l : Addr} {f : Value} {kw : List (Str × Value)} {b : Bool} {Q : Value → Shared → Prop} (k : β → PyData) (hl : IsTup s.heap l vs.toArray) (e : EachIs R vs bs) (hal : AllAlike (bs.map k)) (hk : Sortable (bs.map k)) (hL : bs.length ≤ sizeLine)
    (hu : ∀ x, x ∈ bs → A.units + 2 + (k x).depth < cLine) (ha1 : argsOk "sorted" ⟨[.ref l], kw⟩) (ha2 : ∀ x, argsOk "list.sort" ⟨[.ref x], kw⟩) (ht : ∀ x, Builtin.«list.sort» ⟨[.ref x], kw⟩ = ksk_tree x f b)
    (turn : ∀ (v : Value) (x : β), R v x → x ∈ bs → ∀ (h : Heap) (tk : Nat), (∀ b o, s.heap.get? b = some o → h.get? b = some o) →
      wpAny (model prog w) A.in1.in1 (call f [v]) (KeyPure (k x) { s with heap := h, toks := tk }) (fun _ _ => False) { s with heap := h, toks := tk })
    (h : ∀ out c h' tk (h1 : Heap), (∀ b o, s.heap.get? b = some o → h1.get? b = some o) → (∀ b o, h1.get? b = some o → h'.get? b = some o) → h'.get? h1.objs.size = some (seqObj "list" (List.toArray out) c) → out.length = bs.length → EachIs R out (bs.mergeSort (dataLe b k)) →
      Q (.ref h1.objs.size) { s with heap := h', toks := tk }) :
    wpAny (model prog w) A (call (.builtin "sorted") [.ref l] kw) Q E s := by
  obtain ⟨o, ho, hcl, n, hd⟩ := id hl
  have big : vs.length ≤ sizeLine := by rw [e.length]; exact hL
  refine call_function_entry_kw kind_sorted plain_sorted entry_sorted ha1 ?_
  refine wpAny_bind (wpAny_pure ?_)
  refine wpAny_bind (wpAny_collect_seq l (.inr rfl) ho hcl hd (fun h1 keep => ?_) (by rw [List.size_toArray]; exact big))
  refine wpAny_bind (wpAny_newList ?_ big)
  refine wpAny_bind (wpAny_holding ?_)
  have fr : s.heap.get? h1.objs.size = none := by
    cases z : s.heap.get? h1.objs.size with
    | none => rfl
    | some u => exact absurd (Heap.lt_size (keep _ _ z)) (Nat.lt_irrefl _)
  have ho1 : (h1.push { cls := .type "list", data := .seq vs.toArray }).get? h1.objs.size = some (seqObj "list" vs.toArray 0) := Heap.get?_push_size _ rfl
  have up : ∀ {g : Heap}, KeepsBut h1.objs.size (h1.push { cls := .type "list", data := .seq vs.toArray }) g → ∀ b o, s.heap.get? b = some o → g.get? b = some o := fun {g} kp b o q =>
    kp b o (fun z => by rw [z, fr] at q; cases q) (Heap.get?_push_of_some _ (keep b o q))
  refine list_sort_key_data (A := A.in1) (s := { s with heap := h1.push { cls := .type "list", data := .seq vs.toArray } }) k ho1 e hal hk hL (fun x hx => hu x hx) (ha2 _) (ht _) (fun v x hR hx g tk kp => turn v x hR hx g tk (up kp)) fun out c h' tk kp hD hlen hE => ?_
  exact wpAny_pure ⟨_, rfl, h out c h' tk h1 keep (fun b o q => kp b o (Nat.ne_of_lt (Heap.lt_size q)) (Heap.get?_push_of_some _ q)) hD hlen hE⟩
def tSortLamT (K : PySem.W.Frag) (T : List (Addr × Str)) (RK : Hp → V → Str → Prop) (te : TE) : TE := fun σ H Q => te σ H fun v H1 => Tabs T H1 ∧ ∃ (a : Addr) (bs : List (V × Str)), v = .ref a ∧ SqT K H1 a (bs.map (·.1)) ∧ (∀ b ∈ bs, RK H1 b.1 b.2) ∧
  ∀ (p : Addr) (H2 : Hp), ExtN H1 H2 → Tabs T H2 → H2 p = none → Q (.ref p) (upd H2 p (.lst ((sortBy bs).map (·.1))))
section
variable {X : Cx}
theorem pe_sortLamTP {T : List (Addr × Str)} {te : TE} {c P : Addr} {k : Nat} {e : Expr} {params : Arguments} {body : Expr} {scope : Scope} {x : Str} {p lpos kpos pos : Pos} {R : Heap → Value → Str → Prop} {RK : Hp → V → Str → Prop}
    (hkey : KeyEP X.K X.prog X.w scope x body R) (hR : ∀ pins s σ H b u v, Inv X pins σ H s → RK H b u → RelV b v → R s.heap v u) (hRk : ∀ (h h' : Heap) v u, (∀ b o, h.get? b = some o → h'.get? b = some o) → R h v u → R h' v u) (hRe : ∀ H H' b u, ExtN H H' → RK H b u → RK H' b u)
    (hg : Gl X "sorted") (hm : X.mg "sorted" = none) (ha : PE X e te) (TB : TabB X.base X.mg c P) (hcode : X.env.code = .ref c) (hmT : (P, X.env.qual ++ "<lambda>") ∈ T) (hu : ∀ p ∈ T, p.1 = P → p.2 = X.env.qual ++ "<lambda>") (hr : Room k X.A)
    (hdef : defaultsOf params X.env = ([], [])) (hkind : scope.kind = .function) (hco : scope.isCoroutine = false) (hgen : scope.isGenerator = false) (hnames : ∀ y ∈ scope.names, y.2 ≠ .free ∧ y.2 ≠ .cell) (hx : scope.names.lookup x = some .local)
    (hbind : ∀ (q : Str) (cl : List (Str × Addr)) (pm cv ctv v : Value), bindArgs (PySem.W.kla_fn "<lambda>" q params body scope cl pm cv ctv) ⟨[v], []⟩ = pure [(x, v)])
    (hst : starEach [e] X.env = (false, eval e X.env) :: starEach [] X.env := by rfl) (he : backTo pos (starEach [e] X.env) = (false, eval e X.env) :: backTo pos (starEach [] X.env) := by rfl) (hpl : (backTo pos (starEach [e] X.env)).any (·.1) = false := by rfl) :
    PE X (.Call (.Name "sorted" p) [e] [⟨some "key", .Lambda params body scope lpos, kpos⟩] pos) (tSortLamT X.K T RK te) := by
  refine ⟨fun pins s σ H Q I h => ?_⟩
  refine wpAny_Call_Name_kw (ld_blt (u := .builtin "sorted") I hg hm (by decide +kernel) ?_ (by decide) (by decide))
  refine PyProof.Rows.callWith_kw (thn ((pa_cons ha pa_nil hst).run pos pins s σ H (fun vs H1 => match vs with | [v] => Tabs T H1 ∧ ∃ (a : Addr) (bs : List (V × Str)), v = .ref a ∧ SqT X.K H1 a (bs.map (·.1)) ∧ (∀ b ∈ bs, RK H1 b.1 b.2) ∧ ∀ (p : Addr) (H2 : Hp), ExtN H1 H2 → Tabs T H2 → H2 p = none → Q (.ref p) (upd H2 p (.lst ((sortBy bs).map (·.1)))) | _ => False) I h) fun us s1 ⟨vs, H1, I1, r1, q1⟩ => ?_) he hpl rfl rfl
  obtain ⟨v, rfl⟩ : ∃ v, vs = [v] := by
    match vs, q1 with
    | [v], _ => exact ⟨v, rfl⟩
  obtain ⟨hT, a, bs, rfl, hL, hK, q⟩ := q1
  obtain rfl := Vals.ref1 r1
  show wpAny _ _ (evalAll [do let v ← eval (.Lambda params body scope lpos) X.env; standAt pos; pure v]) _ _ s1
  refine wpAny_evalAll_cons (wpAny_bind (lam_make2 I1 TB hcode hmT hu hT hdef (fun y hy z => absurd z (hnames y hy).1) fun f c' pm ctv H2 s2 I2 eN T2 hf hfn hfr hco' => wpAny_bind (wpAny_standAt (wpAny_pure (wpAny_evalAll_nil ?_)))))
  show wpAny (model X.prog X.w) X.A (call (.builtin "sorted") [.ref a] [("key", .ref f)]) _ _ s2
  have hL2 := (extN_imm eN).seqT hL
  obtain ⟨its, rv, hl, hz⟩ := I2.tuple hL2
  obtain ⟨⟨oc, cvs, ct, hoc, hdc, hvc⟩, _, _⟩ := I2.hok c' _ hco'
  have hbs : ∀ (l : List (V × Str)) (us : List Value), Vals (l.map (·.1)) us → (∀ b ∈ l, b ∈ bs) → PySem.W.EachIs (fun (v : Value) (b : V × Str) => RelV b.1 v ∧ R s2.heap v b.2) us l := by
    intro l
    induction l with
    | nil =>
      intro us r _
      cases r
      exact .nil
    | cons b l ih =>
      intro us r m
      cases r with
      | cons r1 r2 => exact .cons ⟨r1, hR pins s2 σ H2 b.1 b.2 _ I2 (hRe _ _ _ _ eN (hK b (m b (.head _)))) r1⟩ (ih _ r2 fun b' h' => m b' (.tail _ h'))
  have e := hbs bs its rv fun _ h => h
  refine sorted_key_dataT (R := fun (v : Value) (b : V × Str) => RelV b.1 v ∧ R s2.heap v b.2) (b := false) keyD hl e ?_ ?_ ?_ ?_ (PyProof.Rows.ksk_s1 _ _) (fun _ => PyProof.Rows.ksk_l1 _ _) (fun x => PyProof.Rows.ksk_t1 f x) (fun v b hb hm' g tk kp => ?_) fun out cc h' tk h1 kp1 kp hD hlen hout => ?_
  · intro d hd d' hd'
    obtain ⟨b, _, rfl⟩ := List.mem_map.mp hd
    obtain ⟨b', _, rfl⟩ := List.mem_map.mp hd'
    rfl
  · refine .inr fun d hd => ?_
    obtain ⟨b, _, rfl⟩ := List.mem_map.mp hd
    exact ⟨nofun, fun _ => nofun⟩
  · rw [List.length_map] at hz
    exact hz
  · intro b _
    have := hr.units
    show X.A.units + 2 + (PyData.str b.2).depth < _
    have z : (PyData.str b.2).depth ≤ 1 := by show _ ≤ 1; simp [PyData.depth]
    omega
  · have of1 := kp _ _ hf
    refine wpAny_call ?_
    refine PySem.W.kla_callFunE (by have := hr.dp; show X.A.depth < _; omega) of1 rfl hco hgen rfl ⟨c', oc, cvs, ct, rfl, kp _ _ hoc, hdc, hvc⟩ ?_
    rw [hbind]
    refine wpAny_pure (wpAny_newFunctionEnv (fun y hy => (hnames y hy).2) (fun y hy => ?_) (fun h₁ hns hsb => ⟨(I2.nolimit.keeps kp).fresh _ hsb, ?_⟩) hkind)
    · obtain rfl := List.mem_singleton.mp hy
      exact hx
    · have kp1 : ∀ b o, g.get? b = some o → h₁.get? b = some o := fun b o e => hsb.extBut b o (Nat.ne_of_lt (Heap.lt_size e)) (Heap.get?_push_of_some _ e)
      refine PySem.W.kla_codeExpr (wpAny_mono (hkey _ _ (fun _ _ => False) v b.2 _ _ rfl hns (by simp) (hRk _ _ _ _ kp1 (hRk _ _ _ _ kp hb.2)) ((I2.kIn.keeps kp).keeps kp1) ((I2.nolimit.keeps kp).fresh _ hsb) (by have := hr.dp; show X.A.depth + 1 + 3 < _; omega)) (fun y s3 hq => ?_) fun _ _ z => z.elim)
      obtain ⟨⟨t, rfl⟩, h3, tk3, rfl, kp3⟩ := hq
      exact ⟨h3, tk3, rfl, fun b o e => kp3 b o (kp1 b o e), .str _ _⟩
  · have hv : ∀ (l : List (V × Str)) (us : List Value), PySem.W.EachIs (fun (v : Value) (b : V × Str) => RelV b.1 v ∧ R s2.heap v b.2) us l → Vals (l.map (·.1)) us := by
      intro l us e
      induction e with
      | nil => exact .nil
      | cons r _ ih => exact .cons r.1 ih
    have I3 := I2.kept (t' := tk) kp1
    refine ⟨.ref _, upd H2 h1.objs.size (.lst ((sortBy bs).map (·.1))), I3.laid (t' := tk) kp (Nat.le_refl _) ⟨?_, out, cc, hv _ _ hout, hD⟩, rfl, q _ H2 eN T2 (I3.hok.fresh (Nat.le_refl _))⟩
    rw [List.length_map, (sortBy_perm bs).length_eq]
    rw [List.length_map] at hz
    exact hz
/-- sorted(xs, key=lambda x: x.f), f a property that returns a text of the instance -/
theorem pe_sortPropTP {te : TE} {c P C p g : Addr} {k : Nat} {e : Expr} {params : Arguments} {scope : Scope} {x f fld y qual : Str} {st : Stmt} {fd : FuncData} {pp q1 q2 lpos kpos pos p1 p2 p3 : Pos}
    (hg : Gl X "sorted") (hm : X.mg "sorted" = none) (ha : PE X e te) (TB : TabB X.base X.mg c P) (hcode : X.env.code = .ref c) (hr : Room k X.A)
    (cl : Cls X.K C) (hp : PropOf X.K C f p g) (F : Fun X.K y qual st g fd) (hb : Binds X.K fd ["self"] []) (n : NoAttr X.K C fld) (hbody : defBody st = [.Return (some (.Attribute (.Name "self" p1) fld p2)) p3] := by rfl)
    (hk2 : (defScope st).kind = .function := by rfl) (hco2 : (defScope st).isCoroutine = false := by rfl) (hge2 : (defScope st).isGenerator = false := by rfl) (hself : (defScope st).names.lookup ("self" : Str) = some NameKind.local := by rfl) (nocell : ∀ y ∈ (defScope st).names, y.2 ≠ .cell := by decide +kernel)
    (hdef : defaultsOf params X.env = ([], []) := by rfl) (hkind : scope.kind = .function := by rfl) (hco : scope.isCoroutine = false := by rfl) (hgen : scope.isGenerator = false := by rfl) (hnames : ∀ y ∈ scope.names, y.2 ≠ .free ∧ y.2 ≠ .cell := by decide +kernel) (hx : scope.names.lookup x = some .local := by rfl)
    (hbind : ∀ (q : Str) (cl : List (Str × Addr)) (pm cv ctv v : Value), bindArgs (PySem.W.kla_fn "<lambda>" q params (.Attribute (.Name x q1) f q2) scope cl pm cv ctv) ⟨[v], []⟩ = pure [(x, v)] := by intros; rfl)
    (hd : (x == ("__debug__" : Str)) = false := by decide) (hst : starEach [e] X.env = (false, eval e X.env) :: starEach [] X.env := by rfl) (he : backTo pos (starEach [e] X.env) = (false, eval e X.env) :: backTo pos (starEach [] X.env) := by rfl) (hpl : (backTo pos (starEach [e] X.env)).any (·.1) = false := by rfl) :
    PE X (.Call (.Name "sorted" pp) [e] [⟨some "key", .Lambda params (.Attribute (.Name x q1) f q2) scope lpos, kpos⟩] pos) (tSortLamT X.K [(P, X.env.qual ++ "<lambda>")] (RKi C fld) te) := by
  refine pe_sortLamTP (x := x) (R := InsK C fld) (RK := RKi C fld) (key_prop hkind hx hd cl hp F hk2 hco2 hge2 hb n hbody hself nocell) (fun pins s σ H b u v I r rv => ?_) (fun h h' v u e r => insK_keep e r) (fun H H' b u e r => ?_) hg hm ha TB hcode (.head _) (fun q hq _ => by rw [List.mem_singleton.mp hq]) hr hdef hkind hco hgen hnames hx hbind hst he hpl
  · obtain ⟨a, dx, fs, rfl, ea, l⟩ := r
    obtain rfl : v = .ref a := rv
    obtain ⟨mA, O, r, _, _, _⟩ := ins_get I.hok ea
    obtain ⟨t, ht, rt⟩ := RelO.some_of (v := .str u) (o := mA fld) (by rw [← l]; exact r fld)
    obtain ⟨tk, rfl⟩ := rt
    exact ⟨a, dx, mA, tk, rfl, O, ht⟩
  · obtain ⟨a, dx, fs, rfl, ea, l⟩ := r
    exact ⟨a, dx, fs, rfl, e _ _ ea (fun _ z => nomatch z), l⟩
end
end My
namespace My
open PySem PySem.Spec PyProof.Rows L2
section
variable {X : Cx}
/-- t.count(x), t a tuple of texts -/
theorem mt_tup_countS : MtR X "tuple.count" (fun x xs H Q => ∃ (p : Addr) (ys : List Str) (z : Str), x = .ref p ∧ xs = [.str z] ∧ SqT X.K H p (ys.map V.str) ∧ Q (.int (ys.count z : Nat)) H) := by
  intro pins s σ H x xs v us Q I rx rs h
  obtain ⟨p, ys, z, rfl, rfl, hq, q⟩ := h
  cases rx
  obtain ⟨u, rfl, t, rfl⟩ := vals1 rs
  obtain ⟨its, r, pl, hz⟩ := I.tuple hq
  obtain ⟨⟨cls, dd, dt, sl⟩, ho, hc, n, hd⟩ := pl
  simp only at hc hd
  subst hc
  subst hd
  have e : ∀ (ws : List Str) (us : List Value), Vals (ws.map V.str) us → us.countP (eqU (.str z)) = ws.count z := by
    intro ws
    induction ws with
    | nil =>
      intro us r
      cases r
      rfl
    | cons w ws ih =>
      intro us r
      cases r with
      | cons r1 r2 =>
        rw [List.countP_cons, ih _ r2, List.count_cons, eqU_of r1 rfl]
        rfl
  refine call_meets PySem.F.slot_tuple_count ⟨_, ho, rfl⟩ PySem.F.entry_tuple_count (PySem.F.args_tuple_count_2 _ _) (SeqAt.tuple_countAt p its.toArray n dd sl (.str z t) (eqU (.str z)))
    ⟨ho, fun w hw => mem_eqAt (x := .str z) ⟨t, rfl⟩ rfl r (flat_strs ys) w (by simpa using hw), ⟨.int (ys.count z : Nat), H, I.tok _, ⟨s.toks, by rw [show its.toArray.toList = its from rfl, e ys its r]⟩, q⟩⟩
end
end My
namespace My
open PySem PySem.Spec PyProof.Rows L2
section
variable {X : Cx}
/-! sorted of a list of data that can be compared place by place: the items told by their data -/
def sortD (bs : List (V × PyData)) : List (V × PyData) := bs.mergeSort (PySem.W.dataLe false fun b => b.2)
theorem sortD_perm (bs : List (V × PyData)) : (sortD bs).Perm bs := List.mergeSort_perm _ _
def rSortedD (K : PySem.W.Frag) : List V → Hp → VK → Prop := fun xs H Q => ∃ (a : Addr) (bs : List (V × PyData)), xs = [.ref a] ∧ SqL K H a (bs.map (·.1)) ∧ (∀ b ∈ bs, Dp K H b.1 b.2 ∧ b.2.depth ≤ 32) ∧ PySem.W.AllAlike (bs.map (·.2)) ∧ PySem.W.Sortable (bs.map (·.2)) ∧
  ∀ p, H p = none → Q (.ref p) (upd H p (.lst ((sortD bs).map (·.1))))
theorem cr_sortedD (hu : X.A.units + 64 < cLine) : CallR X (.builtin "sorted") (rSortedD X.K) := by
  intro pins s σ H xs us Q I r h
  obtain ⟨a, bs, rfl, hq, hb, hal, hk, q⟩ := h
  obtain rfl := Vals.ref1 r
  obtain ⟨its, rv, hl, hz⟩ := I.list hq
  have hbs : ∀ (l : List (V × PyData)) (us : List Value), Vals (l.map (·.1)) us → (∀ b ∈ l, b ∈ bs) → PySem.W.EachIs (fun (v : Value) (b : V × PyData) => RelV b.1 v) us l ∧ PySem.W.EachIs (fun (v : Value) (b : V × PyData) => ∃ as, Reads s.heap v b.2 as) us l := by
    intro l
    induction l with
    | nil =>
      intro us r _
      cases r
      exact ⟨.nil, .nil⟩
    | cons b l ih =>
      intro us r m
      cases r with
      | cons r1 r2 =>
        obtain ⟨i1, i2⟩ := ih _ r2 fun b' h' => m b' (.tail _ h')
        exact ⟨.cons r1 i1, .cons (L2.Dp.reads I b.2 b.1 _ (hb b (m b (.head _))).1 r1) i2⟩
  obtain ⟨e1, e2⟩ := hbs bs its rv fun _ h => h
  refine PySem.W.sorted_data (R := fun (v : Value) (b : V × PyData) => RelV b.1 v) (enc := fun b => b.2) hl.isList e1 e2 hal hk (by rw [List.length_map] at hz; exact hz) (fun b hb' => by have := (hb b hb').2; omega) fun out hlen hE => ?_
  have hv : ∀ (l : List (V × PyData)) (us : List Value), PySem.W.EachIs (fun (v : Value) (b : V × PyData) => RelV b.1 v) us l → Vals (l.map (·.1)) us := by
    intro l us e
    induction e with
    | nil => exact .nil
    | cons r _ ih => exact .cons r ih
  obtain ⟨c, hat⟩ := sortedAll_at s.heap its out.toArray
  have big : ((sortD bs).map (·.1)).length ≤ sizeLine := by
    rw [List.length_map, (sortD_perm bs).length_eq]
    rw [List.length_map] at hz
    exact hz
  exact ⟨.ref _, upd H (s.heap.objs.size + 1) (.lst ((sortD bs).map (·.1))), I.laid (t' := s.toks) (fun _ _ e => sortedAll_old e) (Nat.le_succ _) ⟨big, out, c, hv _ _ hE, hat⟩, rfl, q _ (I.hok.fresh (Nat.le_succ _))⟩
end
end My
namespace My
open PySem PySem.Spec PyProof.Rows L2 LamX
/-! sorted by a lambda among several tables: of a tuple by a property, of a list of tuples by the first -/
section
variable {X : Cx}
/-- sorted(xs, key=lambda x: x.f), f a property that returns a text of the instance -/
theorem pe_sortPropTT {T : List (Addr × Str)} {te : TE} {c P C p g : Addr} {k : Nat} {e : Expr} {params : Arguments} {scope : Scope} {x f fld y qual : Str} {st : Stmt} {fd : FuncData} {pp q1 q2 lpos kpos pos p1 p2 p3 : Pos}
    (hmT : (P, X.env.qual ++ "<lambda>") ∈ T) (hu : ∀ p ∈ T, p.1 = P → p.2 = X.env.qual ++ "<lambda>") (hg : Gl X "sorted") (hm : X.mg "sorted" = none) (ha : PE X e te) (TB : TabB X.base X.mg c P) (hcode : X.env.code = .ref c) (hr : Room k X.A)
    (cl : Cls X.K C) (hp : PropOf X.K C f p g) (F : Fun X.K y qual st g fd) (hb : Binds X.K fd ["self"] []) (n : NoAttr X.K C fld) (hbody : defBody st = [.Return (some (.Attribute (.Name "self" p1) fld p2)) p3] := by rfl)
    (hk2 : (defScope st).kind = .function := by rfl) (hco2 : (defScope st).isCoroutine = false := by rfl) (hge2 : (defScope st).isGenerator = false := by rfl) (hself : (defScope st).names.lookup ("self" : Str) = some NameKind.local := by rfl) (nocell : ∀ y ∈ (defScope st).names, y.2 ≠ .cell := by decide +kernel)
    (hdef : defaultsOf params X.env = ([], []) := by rfl) (hkind : scope.kind = .function := by rfl) (hco : scope.isCoroutine = false := by rfl) (hgen : scope.isGenerator = false := by rfl) (hnames : ∀ y ∈ scope.names, y.2 ≠ .free ∧ y.2 ≠ .cell := by decide +kernel) (hx : scope.names.lookup x = some .local := by rfl)
    (hbind : ∀ (q : Str) (cl : List (Str × Addr)) (pm cv ctv v : Value), bindArgs (PySem.W.kla_fn "<lambda>" q params (.Attribute (.Name x q1) f q2) scope cl pm cv ctv) ⟨[v], []⟩ = pure [(x, v)] := by intros; rfl)
    (hd : (x == ("__debug__" : Str)) = false := by decide) (hst : starEach [e] X.env = (false, eval e X.env) :: starEach [] X.env := by rfl) (he : backTo pos (starEach [e] X.env) = (false, eval e X.env) :: backTo pos (starEach [] X.env) := by rfl) (hpl : (backTo pos (starEach [e] X.env)).any (·.1) = false := by rfl) :
    PE X (.Call (.Name "sorted" pp) [e] [⟨some "key", .Lambda params (.Attribute (.Name x q1) f q2) scope lpos, kpos⟩] pos) (tSortLamT X.K T (RKi C fld) te) := by
  refine pe_sortLamTP (x := x) (R := InsK C fld) (RK := RKi C fld) (key_prop hkind hx hd cl hp F hk2 hco2 hge2 hb n hbody hself nocell) (fun pins s σ H b u v I r rv => ?_) (fun h h' v u e r => insK_keep e r) (fun H H' b u e r => ?_) hg hm ha TB hcode hmT hu hr hdef hkind hco hgen hnames hx hbind hst he hpl
  · obtain ⟨a, dx, fs, rfl, ea, l⟩ := r
    obtain rfl : v = .ref a := rv
    obtain ⟨mA, O, r, _, _, _⟩ := ins_get I.hok ea
    obtain ⟨t, ht, rt⟩ := RelO.some_of (v := .str u) (o := mA fld) (by rw [← l]; exact r fld)
    obtain ⟨tk, rfl⟩ := rt
    exact ⟨a, dx, mA, tk, rfl, O, ht⟩
  · obtain ⟨a, dx, fs, rfl, ea, l⟩ := r
    exact ⟨a, dx, fs, rfl, e _ _ ea (fun _ z => nomatch z), l⟩
/-- sorted(xs, key=lambda x: x[0]), the items tuples whose first is a text -/
theorem pe_sortFirstT {T : List (Addr × Str)} {te : TE} {c P : Addr} {k : Nat} {e : Expr} {params : Arguments} {scope : Scope} {x : Str} {j : Nat} {p p1 p2 p3 lpos kpos pos : Pos}
    (hmT : (P, X.env.qual ++ "<lambda>") ∈ T) (hu : ∀ p ∈ T, p.1 = P → p.2 = X.env.qual ++ "<lambda>") (hg : Gl X "sorted") (hm : X.mg "sorted" = none) (ha : PE X e te) (TB : TabB X.base X.mg c P) (hcode : X.env.code = .ref c) (hr : Room k X.A)
    (hdef : defaultsOf params X.env = ([], []) := by rfl) (hkind : scope.kind = .function := by rfl) (hco : scope.isCoroutine = false := by rfl) (hgen : scope.isGenerator = false := by rfl) (hnames : ∀ y ∈ scope.names, y.2 ≠ .free ∧ y.2 ≠ .cell := by decide +kernel) (hx : scope.names.lookup x = some .local := by rfl)
    (hbind : ∀ (q : Str) (cl : List (Str × Addr)) (pm cv ctv v : Value), bindArgs (PySem.W.kla_fn "<lambda>" q params (.Subscript (.Name x p1) (.Constant (.int 0) j p2) p3) scope cl pm cv ctv) ⟨[v], []⟩ = pure [(x, v)] := by intros; rfl)
    (hd : (x == ("__debug__" : Str)) = false := by decide) (hst : starEach [e] X.env = (false, eval e X.env) :: starEach [] X.env := by rfl) (he : backTo pos (starEach [e] X.env) = (false, eval e X.env) :: backTo pos (starEach [] X.env) := by rfl) (hpl : (backTo pos (starEach [e] X.env)).any (·.1) = false := by rfl) :
    PE X (.Call (.Name "sorted" p) [e] [⟨some "key", .Lambda params (.Subscript (.Name x p1) (.Constant (.int 0) j p2) p3) scope lpos, kpos⟩] pos) (tSortLam X.K T (RKt X.K) te) := by
  refine pe_sortLam (x := x) (R := TupK) (RK := RKt X.K) (key_first hkind hx hd) (fun pins s σ H b u v I r rv => ?_) (fun h h' v u e r => tupK_keep e r) (fun H H' b u e r => ?_) hg hm ha TB hcode hmT hu hr hdef hkind hco hgen hnames hx hbind hst he hpl
  · obtain ⟨t, xs, rfl, hT⟩ := r
    obtain rfl : v = .ref t := rv
    obtain ⟨its, vs, pl, _⟩ := I.tuple hT
    cases vs with
    | cons r1 r2 =>
      obtain ⟨tk, rfl⟩ := r1
      exact ⟨t, tk, _, rfl, pl⟩
  · obtain ⟨t, xs, rfl, hT⟩ := r
    exact ⟨t, xs, rfl, (extN_imm e).seqT hT⟩
end
end My
namespace My
open PySem PySem.Spec PyProof.Rows L2
section
variable {X : Cx} {K : PySem.W.Frag}
/-! t.count(x), t.index(x) of texts within a comprehension: K told -/
theorem mt_tup_countSK (h : X.K = K) : MtR X "tuple.count" (fun x xs H Q => ∃ (p : Addr) (ys : List Str) (z : Str), x = .ref p ∧ xs = [.str z] ∧ SqT K H p (ys.map V.str) ∧ Q (.int (ys.count z : Nat)) H) := by
  subst h
  exact mt_tup_countS
theorem mt_tup_indexK (h : X.K = K) : MtR X "tuple.index" (fun x xs H Q => ∃ p, ∃ ys : List Str, ∃ z j, x = .ref p ∧ xs = [.str z] ∧ SqT K H p (ys.map V.str) ∧ ys[j]? = some z ∧ (∀ m, m < j → ys[m]? ≠ some z) ∧ Q (.int (j : Nat)) H) := by
  subst h
  exact mt_tup_index
variable {o e : Expr} {es : List Expr} {to : TE} {t : TA} {name : Str} {apos cpos : Pos} {T id : String} {r : V → List V → Hp → VK → Prop}
theorem pe_bmK (h : X.K = K) (pa : PlainAttrs T) (slot : Slot T name id) (hty : typeOf (.builtin id) = pure (.type "method_descriptor")) (hm : MtR X id r) (ho : PE X o to) (ha : PA X (e :: es) t)
    (hbase : attributeBase o name X.env (eval o X.env) = eval o X.env := by rfl)
    (hfew : ((backTo cpos (starEach (e :: es) X.env)).all (fun x => !x.1) && (backToKw cpos (keywordEach [] X.env)).all (fun x => x.1.isSome)
      && decide ((e :: es).length + ([] : List Keyword).length + (if ([] : List Keyword).isEmpty then 0 else 1) < 30)) = true := by rfl)
    (hline : (apos.endLine == cpos.line) = true := by rfl) (hs : starEach (e :: es) X.env = (false, eval e X.env) :: starEach es X.env := by rfl) (hplain : (backTo cpos (starEach es X.env)).any (·.1) = false := by rfl) :
    PE X (.Call (.Attribute o name apos) (e :: es) [] cpos) (tBM K T r to t) := by
  subst h
  exact pe_bm pa slot hty hm ho ha hbase hfew hline hs hplain
theorem pe_bm0K (h : X.K = K) (pa : PlainAttrs T) (slot : Slot T name id) (hty : typeOf (.builtin id) = pure (.type "method_descriptor")) (hm : MtR X id r) (ho : PE X o to)
    (hbase : attributeBase o name X.env (eval o X.env) = eval o X.env := by rfl) (hline : (apos.endLine == cpos.line) = true := by rfl) : PE X (.Call (.Attribute o name apos) [] [] cpos) (tBM0 K T r to) := by
  subst h
  exact pe_bm0 pa slot hty hm ho hbase hline
end
end My
namespace My
open PySem PySem.Spec PyProof.Rows L2
/-! a tuple whose object is told (its dict is none): its methods can be called -/
def TupF (H : Hp) (a : Addr) (xs : List V) : Prop := ∃ o : Obj, H a = some (.frz o (.tup xs)) ∧ o.dict = none
theorem TupF.seq {K : PySem.W.Frag} {H : Hp} {a : Addr} {xs : List V} (h : TupF H a xs) : SqT K H a xs := by
  obtain ⟨o, h, _⟩ := h
  exact .inl (.inr ⟨o, h⟩)
theorem TupF.imm {H H' : Hp} {a : Addr} {xs : List V} (h : TupF H a xs) (i : Imm H H') : TupF H' a xs := by
  obtain ⟨o, h, e⟩ := h
  exact ⟨o, i _ _ h rfl, e⟩
theorem TupF.same {H H' : Hp} {a : Addr} {xs : List V} (h : TupF H a xs) (s : Same H H') : TupF H' a xs := h.imm s.imm
section
variable {X : Cx} {K : PySem.W.Frag}
theorem call_tuple_ofF : CallR X (.type "tuple") (fun xs H Q => ∃ p ys, xs = [.ref p] ∧ SqL X.K H p ys ∧ ∀ l o, H l = none → o.dict = none → Q (.ref l) (upd H l (.frz o (.tup ys)))) := by
  intro pins s σ H xs us Q I r h
  obtain ⟨p, ys, rfl, hq, q⟩ := h
  obtain ⟨u, rfl, rx⟩ := vals1 r
  cases rx
  obtain ⟨its, r', pl, hz⟩ := I.list hq
  have hlen := r'.length
  refine call_tuple_list pl.isList (fun h' kp => ?_) (by simp only [List.size_toArray] <;> omega)
  have I1 : Inv X pins σ H { s with heap := h' } := I.kept (t' := s.toks) kp
  have I2 : Inv X pins σ (upd H h'.objs.size (.frz { cls := .type "tuple", data := .seq its.toArray } (.tup ys))) { s with heap := h'.push { cls := .type "tuple", data := .seq its.toArray } } :=
    I1.laid (t' := s.toks) (fun b o e => Heap.get?_push_of_some _ e) (Nat.le_refl _) (show ObjOk X.prog X.w _ _ _ (.frz _ (.tup ys)) from ⟨Heap.get?_push_size _ rfl, hz, its, r', IsTup.new _ _⟩)
  exact ⟨.ref h'.objs.size, _, I2, rfl, q _ _ (I1.hok.fresh (Nat.le_refl _)) rfl⟩
theorem call_tuple_ofFK (h : X.K = K) : CallR X (.type "tuple") (fun xs H Q => ∃ p ys, xs = [.ref p] ∧ SqL K H p ys ∧ ∀ l o, H l = none → o.dict = none → Q (.ref l) (upd H l (.frz o (.tup ys)))) := by
  subst h
  exact call_tuple_ofF
variable {o e : Expr} {es : List Expr} {to : TE} {t : TA} {name : Str} {apos cpos : Pos} {id : String} {r : V → List V → Hp → VK → Prop}
def tBMT (r : V → List V → Hp → VK → Prop) (to : TE) (t : TA) : TE := fun σ H Q => to σ H fun x H1 => (∃ p ys, x = .ref p ∧ TupF H1 p ys) ∧ t σ H1 fun xs H2 => r x xs H2 Q
theorem pe_bmT (slot : Slot "tuple" name id) (hty : typeOf (.builtin id) = pure (.type "method_descriptor")) (hm : MtR X id r) (ho : PE X o to) (ha : PA X (e :: es) t)
    (hbase : attributeBase o name X.env (eval o X.env) = eval o X.env := by rfl)
    (hfew : ((backTo cpos (starEach (e :: es) X.env)).all (fun x => !x.1) && (backToKw cpos (keywordEach [] X.env)).all (fun x => x.1.isSome)
      && decide ((e :: es).length + ([] : List Keyword).length + (if ([] : List Keyword).isEmpty then 0 else 1) < 30)) = true := by rfl)
    (hline : (apos.endLine == cpos.line) = true := by rfl) (hs : starEach (e :: es) X.env = (false, eval e X.env) :: starEach es X.env := by rfl) (hplain : (backTo cpos (starEach es X.env)).any (·.1) = false := by rfl) :
    PE X (.Call (.Attribute o name apos) (e :: es) [] cpos) (tBMT r to t) := by
  refine ⟨fun pins s σ H Q I h => ?_⟩
  refine wpAny_Call_method_late hbase hfew hline rfl (thn (ho.run pins s σ H _ I h) fun v s1 ⟨x, H1, I1, r1, ty, q1⟩ => ?_)
  obtain ⟨p, ys, rfl, oo, hp, hd⟩ := ty
  obtain rfl : v = .ref p := r1
  obtain ⟨hg, hz⟩ := I1.hok _ _ hp
  obtain ⟨_, its, _, hT⟩ := hz
  have h1 : s1.TypeIs (.ref p) "tuple" := hT.typeIs
  have h2 : ∀ a, Value.ref p = .ref a → ∃ ob, s1.heap.get? a = some ob ∧ ob.dict = none := fun a e => by
    cases e
    exact ⟨oo, hg, hd⟩
  refine ⟨"tuple", id, PySem.F.plainAttrs_tuple, slot, hty, h1, h2, ?_⟩
  have hA := ha.run cpos pins s1 σ H1 _ I1 q1
  rw [hs] at hA ⊢
  refine Calls.callWith_builtin (by show (false || (backTo cpos (starEach es X.env)).any (·.1)) = false; rw [hplain] <;> rfl) (Calls.evalArgs_plain ?_)
  exact thn hA fun us s2 ⟨vs, H2, I2, r2, q2⟩ => hm pins s2 σ H2 (.ref p) vs _ us Q I2 rfl r2 q2
end
end My
namespace My
open PySem PySem.Spec PyProof.Rows L2
/-! None and None -/
def DNN : EqvB := fun x y b _ => x = .non ∧ y = .non ∧ b = true
theorem monB_nn : MonB DNN := fun _ _ _ _ _ _ d => d
section
variable {X : Cx} {n : Nat}
theorem rcB_nnNe : RcB X n true DNN := by
  intro A pins s σ H x y u v b sb I rx ry d
  obtain ⟨rfl, rfl, rfl⟩ := d
  cases rx
  cases ry
  exact PySem.EqNone.ne_none_none ⟨rfl, H, I, Ext.rfl'⟩
theorem rcB_nnEq : RcB X n false DNN := by
  intro A pins s σ H x y u v b sb I rx ry d
  obtain ⟨rfl, rfl, rfl⟩ := d
  cases rx
  cases ry
  exact PySem.EqNone.eq_none_none ⟨rfl, H, I, Ext.rfl'⟩
end
end My
/-! min(x, y) of two data -/
namespace My
open PySem PySem.W PySem.Spec PyProof.Rows
section
variable {prog : Program} {w : World} {A : Around} {E : Value → Shared → Prop} {s : Shared}
theorem call_min_twoH {a b : Value} {Q : Value → Shared → Prop}
    (h : wpAny (model prog w) A.in1 (pyIter (.ref s.heap.objs.size)) (fun it s₂ => ∃ I fp wr G n P St H bt, it = .ref I ∧ WalksS prog w A.in1 I fp wr G n P St ∧ St 0 s₂ ∧ (∀ b ∈ fp, b < s₂.heap.objs.size) ∧ 0 < n ∧
      (∀ b o, H.get? b = some o → b ∉ wr) ∧ (∀ b o, H.get? b = some o → s₂.heap.get? b = some o) ∧ CmpIn prog w A.in1 .Lt H P bt ∧ ∀ v s', P (argBest bt (n - 1)) v → Moved wr G s₂ s' → Q v s') E
      { s with heap := s.heap.push { cls := .type "tuple", data := .seq #[a, b] } }) :
    wpAny (model prog w) A (call (.builtin "min") [a, b]) Q E s := by
  have hname : (toString "min" ++ toString ".loop" : String) = "min.loop" := by decide
  refine call_function_tree PySem.F.kind_min PySem.F.plain_min PySem.F.entry_min (PySem.F.args_min2 _ _) ?_
  show wpAny _ A.in1 (Builtin.Builtins.bindParams "min" ["key", "default"] 0 ⟨[], []⟩ >>= _) _ _ s
  refine wpAny_bind (wpAny_of_eq (show Builtin.Builtins.bindParams "min" ["key", "default"] 0 ⟨[], []⟩ = pure [none, none] from rfl) ?_)
  show wpAny _ A.in1 (newTuple [a, b] >>= _) _ _ s
  refine wpAny_bind (wpAny_newObj_type ?_)
  refine wpAny_bind (wpAny_mono h (fun it s₂ h₂ => ?_) fun _ _ e => e)
  obtain ⟨I, fp, wr, G, n, P, St, H, bt, rfl, W, hst, hfp, hn, hw, hkeep, hcmp, hQ⟩ := h₂
  refine wpAny_bind (wpAny_newObj_type ?_)
  have hSf : s₂.heap.objs.size ∉ fp := fun hm => Nat.lt_irrefl _ (hfp _ hm)
  rw [hname]
  refine wpAny_pure ⟨plainId_quiet PySem.F.plain_min_loop _, codeAny_min_loop_firstH W H hw bt hcmp s₂.heap.objs.size hSf (fresh_in hkeep) _ hn (fun b o e => Heap.get?_push_of_some _ (hkeep b o e)) (W.frame 0 s₂ _ s₂.toks hst (Nat.le_refl _) fun b _ o e => Heap.get?_push_of_some _ e) (Heap.get?_push_size _ rfl) fun v s' hP hm => ?_⟩
  exact hQ v s' hP (Moved.drop_new (tk := s₂.toks) hm (Nat.le_refl _))
theorem min_two_data {a b : Value} {x y : PyData} {as bs : List Addr} {Q : Value → Shared → Prop} (hh : A.handled = none) (ra : Reads s.heap a x as) (rb : Reads s.heap b y bs) (al : AlikeAll [x, y]) (hu : A.units + 1 + PyData.depthAll [x, y] < cLine)
    (h : ∀ h' tk, (∀ b o, s.heap.get? b = some o → h'.get? b = some o) → Q (if dataLt y x = true then b else a) { s with heap := h', toks := tk }) :
    wpAny (model prog w) A (call (.builtin "min") [a, b]) Q E s := by
  have up : ∀ c o, s.heap.get? c = some o → (s.heap.push { cls := .type "tuple", data := .seq #[a, b] }).get? c = some o := fun c o e => Heap.get?_push_of_some _ e
  have hT : (s.heap.push { cls := .type "tuple", data := .seq #[a, b] }).IsTuple s.heap.objs.size #[a, b] := ⟨_, Heap.get?_push_size _ rfl, rfl, 0, rfl⟩
  have hr : ReadsAll (s.heap.push { cls := .type "tuple", data := .seq #[a, b] }) [a, b] [x, y] (as ++ (bs ++ [])) := .cons (Reads.keeps up ra) (.cons (Reads.keeps up rb) .nil)
  refine call_min_twoH (iter_tupleW (A := A.in1) hh hT fun s₂ e W st hfp hw hk => ?_)
  refine ⟨_, _, _, _, _, _, _, _, _, rfl, W, st, hfp, (show 0 < 2 by decide), hw, hk, cmpIn_lt (A := A.in1) (s := { s with heap := s.heap.push { cls := .type "tuple", data := .seq #[a, b] } }) hr al (by show A.units + 1 + _ < _; exact hu), fun v s' hP m => ?_⟩
  obtain ⟨h', tk, rfl, hk'⟩ := moved_old e rfl m
  have := h h' tk fun c o e => hk' c o (up c o e)
  have hv : v = if dataLt y x = true then b else a := by
    have hP' : (#[a, b] : Array Value)[argBest (fun i j => dataLt ([x, y].getD i .none) ([x, y].getD j .none)) 1]? = some v := hP
    have e1 : argBest (fun i j => dataLt ([x, y].getD i .none) ([x, y].getD j .none)) 1 = if dataLt y x = true then 1 else 0 := rfl
    rw [e1] at hP'
    by_cases hb : dataLt y x = true
    · rw [if_pos hb] at hP' ⊢
      exact (Option.some.inj hP').symm
    · rw [if_neg hb] at hP' ⊢
      exact (Option.some.inj hP').symm
  rw [hv]
  exact this
end
end My
namespace My
open PySem PySem.Spec PyProof.Rows L2
section
variable {X : Cx} {K : PySem.W.Frag}
def rMin2D (K : PySem.W.Frag) : List V → Hp → VK → Prop := fun vs H Q => ∃ (u v : V) (x y : PyData), vs = [u, v] ∧ Dp K H u x ∧ Dp K H v y ∧ PySem.W.AlikeAll [x, y] ∧ PyData.depthAll [x, y] ≤ 32 ∧ Q (if PySem.W.dataLt y x = true then v else u) H
theorem cr_min2D (hc : X.calm = true) (hu : X.A.units + 64 < cLine) : CallR X (.builtin "min") (rMin2D X.K) := by
  intro pins s σ H vs us Q I r h
  obtain ⟨u, v, x, y, rfl, hx, hy, al, hd, q⟩ := h
  obtain ⟨a, b, rfl, ra, rb⟩ := vals2 r
  obtain ⟨as, r1⟩ := Dp.reads I x u a hx ra
  obtain ⟨bs, r2⟩ := Dp.reads I y v b hy rb
  refine min_two_data (I.ok.hd hc) r1 r2 al (by omega) fun h' tk hk => ?_
  by_cases hb : PySem.W.dataLt y x = true
  · rw [if_pos hb] at q ⊢
    exact ⟨v, H, I.kept hk, rb, q⟩
  · rw [if_neg hb] at q ⊢
    exact ⟨u, H, I.kept hk, ra, q⟩
theorem cr_min2DK (h : X.K = K) (hc : X.calm = true) (hu : X.A.units + 64 < cLine) : CallR X (.builtin "min") (rMin2D K) := by
  subst h
  exact cr_min2D hc hu
end
end My
namespace My
open PySem PySem.Spec PyProof.Rows L2
section
variable {X : Cx}
/-! ### sorted(tuple of ints) -/
def rSortedTI (K : PySem.W.Frag) : List V → Hp → VK → Prop := fun xs H Q => ∃ (a : Addr) (ns : List Int), xs = [.ref a] ∧ SqT K H a (ns.map V.int) ∧ ns.length < 64 ∧
  ∀ (ms : List Int) (p : Addr), ms.Perm ns → ms.Pairwise (· ≤ ·) → H p = none → Q (.ref p) (upd H p (.lst (ms.map V.int)))
theorem cr_sortedTI : CallR X (.builtin "sorted") (rSortedTI X.K) := by
  intro pins s σ H xs us Q I r h
  obtain ⟨a, ns, rfl, hq, hl, q⟩ := h
  obtain rfl := Vals.ref1 r
  obtain ⟨its, rv, pt, hz⟩ := I.tuple hq
  have hlen : its.length = ns.length := by rw [← rv.length, List.length_map]
  obtain ⟨o, ho, hcl, n, hd⟩ := id pt
  refine Calls.call_function_entry kind_sorted plain_sorted entry_sorted (args_sorted1 _) ?_
  refine wpAny_bind (wpAny_pure ?_)
  have big : its.length ≤ sizeLine := by rw [hlen]; exact Nat.le_of_lt (sizeLine_of (by omega))
  refine wpAny_bind (wpAny_collect_seq a (.inr rfl) ho hcl hd (fun h' keep => ?_) (by rw [List.size_toArray]; exact big))
  have I1 : L2.Inv X pins σ H { s with heap := h' } := I.kept (t' := s.toks) keep
  refine wpAny_bind (wpAny_newList ?_ big)
  have I2 := I1.lnew (t' := s.toks) rv (by rw [List.length_map, ← hlen]; exact big)
  have hn1 : H h'.objs.size = none := I1.hok.fresh (Nat.le_refl _)
  refine wpAny_bind (wpAny_holding ?_)
  refine thn (mt_sort (X := inCx X) pins _ σ _ (.ref h'.objs.size) [] (.ref h'.objs.size) [] (fun v H' => ∃ ms : List Int, ms.Perm ns ∧ ms.Pairwise (· ≤ ·) ∧ H' = upd H h'.objs.size (.lst (ms.map V.int))) (inv_in I2) rfl .nil ⟨_, ns, rfl, rfl, upd_same, by omega, fun ms h1 h2 => ⟨ms, h1, h2, upd_upd⟩⟩) fun v s3 ⟨x, H3, I3, _, ms, py, sy, e3⟩ => ?_
  subst e3
  exact wpAny_pure ⟨_, rfl, .ref h'.objs.size, _, inv_out I3, rfl, q ms _ py sy hn1⟩
end
end My
/-! sorted(d) of a dict whose keys are tuples of ints -/
namespace My
open PySem PySem.Spec PyProof.Rows L2
theorem dataLe_tups {β : Type} (x : β → List Int) : PySem.W.dataLe false (fun b => .tuple ((x b).map .int)) = fun p q => decide (x p ≤ x q) := by
  funext p q
  show (!PySem.W.dataLt (.tuple ((x q).map .int)) (.tuple ((x p).map .int))) = _
  rw [PySem.W.dataLt_tuple]
  have := PySem.W.dataLt_ints (x q) (x p)
  unfold PySem.W.rowLt at this
  rw [this]
  by_cases h : x q < x p
  · have : ¬ x p ≤ x q := fun z => absurd h (List.not_lt.mpr z)
    simp [h, this]
  · have : x p ≤ x q := List.not_lt.mp h
    simp [h, this]
section
open PySem.W
variable {prog : Program} {w : World} {A : Around} {E : Value → Shared → Prop} {s : Shared}
theorem sorts_one {vs : List Value} {ds : List PyData} (e : EachIs (fun v d => ∃ as, Reads s.heap v d as) vs ds) (hal : AllAlike ds) (hn : ∀ d ∈ ds, d ≠ .none) (hl : vs.length ≤ 1) (hu : ∀ d, d ∈ ds → A.units + d.depth < cLine) : SortsAt prog w A s (dataKind s.heap ds) vs := by
  have room : ∀ {d d' : PyData}, d ∈ ds → A.units + min d.depth d'.depth < cLine := fun {d d'} hd => Nat.lt_of_le_of_lt (Nat.add_le_add_left (Nat.min_le_left _ _) _) (hu d hd)
  refine ⟨fun v hv => ?_, general', ?_, fun h2 => absurd h2 (by omega)⟩
  · obtain ⟨d, hd, as, r⟩ := e.left v hv
    exact ⟨_, dataKind_some hal hd r⟩
  · intro E x y a b Q ha hb hq
    obtain ⟨d, as, hd, ra, rfl⟩ := dataKind_inv ha
    obtain ⟨d', as', hd', rb, rfl⟩ := dataKind_inv hb
    show wpAny _ _ (oneLt' false x y) _ _ _
    exact oneLt_alike (fun z => nomatch z) ra rb (hal d hd d' hd') (hn d hd) (room hd) hq
theorem list_sort_dataG {β : Type} {R : Value → β → Prop} {enc : β → PyData} {vs : List Value} {bs : List β} {a : Addr} {n : Nat} {Q : Value → Shared → Prop} (ho : s.heap.get? a = some (seqObj "list" vs.toArray n)) (e : EachIs R vs bs) (er : EachIs (fun v b => ∃ as, Reads s.heap v (enc b) as ∧ a ∉ as) vs bs) (hal : AllAlike (bs.map enc)) (hk : Sortable (bs.map enc) ∨ (vs.length ≤ 1 ∧ ∀ d ∈ bs.map enc, d ≠ .none)) (hL : bs.length ≤ sizeLine)
    (hu : ∀ b, b ∈ bs → A.units + 1 + (enc b).depth < cLine) (h : ∀ out, out.length = bs.length → EachIs R out (bs.mergeSort (dataLe false enc)) → Q .none { s with heap := sortedHeap s.heap a vs (List.toArray out) }) :
    wpAny (model prog w) A (call (.builtin "list.sort") [.ref a]) Q E s := by
  have er' : EachIs (fun v b => ∃ as, Reads (sortingHeap s.heap a vs) v (enc b) as) vs bs := each_keepBut (h' := sortingHeap s.heap a vs) (fun _ _ hb q => sortingHeap_old hb q) (fun o q => by rw [ho] at q; rw [← Option.some.inj q]) hal er
  have em := each_map (R := fun v d => ∃ as, Reads (sortingHeap s.heap a vs) v d as) enc er'
  have S : SortsAt prog w A.in1 { s with heap := sortingHeap s.heap a vs } (dataKind (sortingHeap s.heap a vs) (bs.map enc)) vs := by
    rcases hk with hk | ⟨hl, hn⟩
    · exact SortsAt.data (s := { s with heap := sortingHeap s.heap a vs }) em hal hk (bound_map hu)
    · exact sorts_one (s := { s with heap := sortingHeap s.heap a vs }) em hal hn hl (bound_map hu)
  refine wpAny_call_entry slot_list_sort ⟨_, ho, rfl⟩ entry_list_sort (list_sort_vals (κ := dataKind (sortingHeap s.heap a vs) (bs.map enc)) ho S (by rw [e.length]; exact hL) ⟨.none, rfl, ?_⟩) (args_list_sort _)
  exact h _ (by rw [sortVals_length false rfl]; exact e.length) (sortVals_data false e er' hal)
end
theorem alike_intsH : ∀ xs ys : List Int, PySem.W.alikeAll (xs.map PyData.int) (ys.map PyData.int) = true
  | [], _ => by simp [PySem.W.alikeAll]
  | _ :: _, [] => by simp [PySem.W.alikeAll]
  | x :: xs, y :: ys => by
    show PySem.W.alikeAll (PyData.int x :: _) (PyData.int y :: _) = true
    simp only [PySem.W.alikeAll, PySem.W.alike, Bool.true_and]
    exact alike_intsH xs ys
theorem alike_tupsH (xs ys : List Int) : PySem.W.alike (.tuple (xs.map PyData.int)) (.tuple (ys.map PyData.int)) = true := by
  simp only [PySem.W.alike]
  exact alike_intsH xs ys
theorem reads_ints {h : Heap} : ∀ {ns : List Int} {us : List Value}, Vals (ns.map V.int) us → ReadsAll h us (ns.map PyData.int) []
  | [], _, r => by
    cases r
    exact .nil
  | n :: ns, _, r => by
    cases r with
    | cons r1 r2 =>
      obtain ⟨t, rfl⟩ := r1
      exact ReadsAll.cons (as := []) (bs := []) (.int n t) (reads_ints r2)
theorem each_zip {h : Heap} {D : Addr} : ∀ {ks : List (List Key × Addr × Value)} {ns : List (List Int)}, ks.length = ns.length → (∀ (j : Nat) x m, ks[j]? = some x → ns[j]? = some m → Reads h (.ref x.2.1) (.tuple (m.map PyData.int)) []) →
    PySem.W.EachIs (fun (v : Value) (b : Addr × List Int) => v = .ref b.1) (ks.map fun x => Value.ref x.2.1) ((ks.map fun x => x.2.1).zip ns) ∧ PySem.W.EachIs (fun (v : Value) (b : Addr × List Int) => ∃ as, Reads h v (.tuple (b.2.map PyData.int)) as ∧ D ∉ as) (ks.map fun x => Value.ref x.2.1) ((ks.map fun x => x.2.1).zip ns)
  | [], [], _, _ => ⟨.nil, .nil⟩
  | [], _ :: _, h, _ => by cases h
  | _ :: _, [], h, _ => by cases h
  | x :: ks, m :: ns, hl, g => by
    obtain ⟨h1, h2⟩ := each_zip (D := D) (ks := ks) (ns := ns) (Nat.succ.inj hl) fun j y z a b => g (j + 1) y z a b
    exact ⟨.cons rfl h1, .cons ⟨[], g 0 x m rfl rfl, fun z => nomatch z⟩ h2⟩
theorem each_refs {bs : List (Addr × List Int)} : ∀ {us : List Value}, PySem.W.EachIs (fun (v : Value) (b : Addr × List Int) => v = .ref b.1) us bs → Vals (bs.map fun b => V.ref b.1) us := fun {us} e => by
  induction e with
  | nil => exact .nil
  | cons r _ ih => exact .cons r ih
def rSortedDT : List V → Hp → VK → Prop := fun vs H Q => ∃ (d : Addr) (kvs : List (List Key × V)) (ns : List (List Int)), vs = [.ref d] ∧ Rd H d (.dT kvs) ∧ kvs.map (·.1) = ns.map (fun o => o.map Sum.inl) ∧ ((∀ n ∈ ns, n ≠ []) ∨ ns.length ≤ 1) ∧
  ∀ (p : Addr) (as : List Addr) (ms : List (List Int)), ms.Perm ns → ms.Pairwise (· ≤ ·) → as.length = ms.length → (∀ (i : Nat) a m, as[i]? = some a → ms[i]? = some m → H a = some (.tup (m.map V.int))) → H p = none → Q (.ref p) (upd H p (.lst (as.map V.ref)))
section
variable {X : Cx}
theorem cr_sortedDT (hc : X.calm = true) (hu : X.A.units + 64 < cLine) : CallR X (.builtin "sorted") rSortedDT := by
  intro pins s σ H xs us Q I r h
  obtain ⟨d, kvs, ns, rfl, hd, hkn, hne, q⟩ := h
  obtain ⟨u, rfl, rx⟩ := r.one
  cases rx
  obtain ⟨z, hs, ks, pr, o, es, ep, ho, hx, hdt, he, hn⟩ := (show ObjOk X.prog X.w H s.heap d (.dT kvs) from hd.ok I.hok)
  have l1 : es.size = ks.length := size_of_entries he
  have l2 : kvs.length = ks.length := Paired.length pr
  have l3 : ns.length = ks.length := by
    have := congrArg List.length hkn
    rw [List.length_map, List.length_map] at this
    omega
  refine Calls.call_function_entry PyProof.Rows.kind_sorted PyProof.Rows.plain_sorted PyProof.Rows.entry_sorted (PyProof.Rows.args_sorted1 _) ?_
  unfold Builtin.«sorted»
  refine wpAny_bind (m := checkCount "sorted" 1 1 _) (wpAny_pure ?_)
  refine wpAny_bind (PySem.W.kdu_collect (A := X.A.in1) (kdl_raw hs hx hdt) (I.ok.hd hc) ho (by omega) fun h' tk acc' kp it => ?_)
  have ea : acc'.toList = ks.map fun x => Value.ref x.2.1 := by
    have hl : acc'.toList.length = ks.length := by rw [Array.length_toList, it.1]; exact l1
    apply List.ext_getElem?
    intro j
    rw [List.getElem?_map]
    cases hj : acc'.toList[j]? with
    | none =>
      have h1 := List.getElem?_eq_none_iff.mp hj
      rw [List.getElem?_eq_none (by omega)]
      all_goals rfl
    | some v =>
      obtain ⟨en, hen, hv⟩ := it.2 j v (by rw [← Array.getElem?_toList]; exact hj)
      have qe := entry_at he j
      rw [hen] at qe
      cases hb : ks[j]? with
      | none =>
        rw [hb] at qe
        exact nomatch (show some en = none from qe)
      | some b =>
        rw [hb] at qe
        have e2 : en = entryOfKey (tupleKind (mixKind X.prog X.w)) b := Option.some.inj qe
        rw [hv, e2]
        all_goals rfl
  have I1 : Inv X pins σ H { s with heap := h', toks := tk } := I.kept kp
  have hal : acc'.toList.length = ks.length := by rw [ea, List.length_map]
  refine wpAny_bind (wpAny_newList ?_ (by omega))
  have hoL : (h'.push (seqObj "list" acc'.toList.toArray 0)).get? h'.objs.size = some (seqObj "list" acc'.toList.toArray 0) := Heap.get?_push_size _ rfl
  show wpAny _ _ _ _ _ { s with heap := h'.push (seqObj "list" acc'.toList.toArray 0), toks := tk }
  -- the items and their data
  have hit : ∀ (j : Nat) (x : List Key × Addr × Value) (m : List Int), ks[j]? = some x → ns[j]? = some m → H x.2.1 = some (.tup (m.map V.int)) := fun j x m h1 h2 => by
    have hj := (List.getElem?_eq_some_iff.mp h1).1
    have hkv : kvs[j]? = some (kvs[j]'(by omega)) := List.getElem?_eq_getElem _
    obtain ⟨x', hx', e1, e2, _⟩ := paired_get pr hkv
    obtain rfl := Option.some.inj (hx'.symm.trans h1)
    have e3 : (kvs.map (·.1))[j]? = some (kvs[j]'(by omega)).1 := by rw [List.getElem?_map, hkv]; rfl
    rw [hkn, List.getElem?_map, h2] at e3
    have e4 : (kvs[j]'(by omega)).1 = m.map Sum.inl := (Option.some.inj e3).symm
    rw [e2, e4, List.map_map]
    rfl
  have hrd : ∀ (j : Nat) (x : List Key × Addr × Value) (m : List Int), ks[j]? = some x → ns[j]? = some m → Reads (h'.push (seqObj "list" acc'.toList.toArray 0)) (.ref x.2.1) (.tuple (m.map PyData.int)) [] := fun j x m h1 h2 => by
    obtain ⟨_, us', r1, t1, ht1, hc1, n1, d1⟩ := I1.hok _ _ (hit j x m h1 h2)
    exact .tuple (Heap.get?_push_of_some _ ht1) hc1 d1 (by simpa using reads_ints r1)
  obtain ⟨g1, g2⟩ := each_zip (D := h'.objs.size) (by omega) hrd
  rw [← ea] at g1 g2
  have hbl : ((ks.map fun x => x.2.1).zip ns).length = ks.length := by rw [List.length_zip, List.length_map]; omega
  have hbm : ∀ b ∈ (ks.map fun x => x.2.1).zip ns, H b.1 = some (.tup (b.2.map V.int)) := fun b hb => by
    obtain ⟨j, hj⟩ := List.mem_iff_getElem?.mp hb
    obtain ⟨h1, h2⟩ := List.getElem?_zip_eq_some.mp hj
    rw [List.getElem?_map] at h1
    obtain ⟨x, hx1, e1⟩ := Option.map_eq_some_iff.mp h1
    rw [← e1]
    exact hit j x b.2 hx1 h2
  have hb2 : ((ks.map fun x => x.2.1).zip ns).map (·.2) = ns := List.map_snd_zip (by rw [List.length_map]; omega)
  generalize (ks.map fun x => x.2.1).zip ns = bs at *
  refine wpAny_bind (wpAny_holding (list_sort_dataG (A := X.A.in1) (s := { s with heap := h'.push (seqObj "list" acc'.toList.toArray 0), toks := tk }) (R := fun (v : Value) (b : Addr × List Int) => v = .ref b.1) (enc := fun b => .tuple (b.2.map PyData.int)) hoL g1 g2 (PySem.W.AllAlike.of fun b b' => ?_) ?_ (by omega) (fun b hb => ?_) fun out hlen hE => ?_))
  · exact alike_tupsH b.2 b'.2
  · rcases hne with hne | hne
    · refine .inl (.inl fun d hd => ?_)
      obtain ⟨b, hb, rfl⟩ := List.mem_map.mp hd
      have : b.2 ∈ ns := by rw [← hb2]; exact List.mem_map.mpr ⟨b, hb, rfl⟩
      cases e : b.2 with
      | nil => exact absurd e (hne _ this)
      | cons x r => exact ⟨.int x, r.map PyData.int, by rw [List.map_cons]⟩
    · refine .inr ⟨by omega, fun d hd => ?_⟩
      obtain ⟨b, hb, rfl⟩ := List.mem_map.mp hd
      exact nofun
  · have : (PyData.tuple (b.2.map PyData.int)).depth = 1 := by
      show PyData.depthAll (b.2.map PyData.int) + 1 = 1
      rw [dep_ints]
    have hu2 : X.A.in1.units + 1 + 1 < cLine := by show X.A.units + 1 + 1 + 1 < _; omega
    rw [this]
    exact hu2
  · rw [dataLe_tups] at hE
    have hpm := List.mergeSort_perm bs fun p q => decide (p.2 ≤ q.2)
    have hpw : (bs.mergeSort fun p q => decide (p.2 ≤ q.2)).Pairwise fun p q => decide (p.2 ≤ q.2) = true := List.pairwise_mergeSort (fun a b c h1 h2 => by
      simp only [decide_eq_true_eq] at *
      exact List.le_trans h1 h2) (fun a b => by
      simp only [Bool.or_eq_true, decide_eq_true_eq]
      exact List.le_total a.2 b.2) bs
    generalize bs.mergeSort (fun p q => decide (p.2 ≤ q.2)) = cs at *
    have hcl : cs.length = ks.length := by rw [hpm.length_eq, hbl]
    obtain ⟨e', he'⟩ := PyProof.Rows.sortedHeap_at (vs := acc'.toList) (out := out.toArray) hoL
    have hfin : (cs.map fun b => V.ref b.1).length ≤ sizeLine := by rw [List.length_map]; omega
    refine wpAny_pure ⟨_, rfl, .ref h'.objs.size, upd H h'.objs.size (.lst (cs.map fun b => V.ref b.1)), I1.laid (t' := tk) (fun b u e => ?_) (Nat.le_refl _)
      (show ObjOk X.prog X.w _ _ _ (.lst (cs.map fun b => V.ref b.1)) from ⟨hfin, out, e', each_refs hE, he'⟩), rfl, ?_⟩
    · have hb : b < h'.objs.size := Heap.lt_size e
      rw [PyProof.Rows.sortedHeap_old (Nat.ne_of_lt hb) (by rw [size_push']; exact Nat.lt_succ_of_lt hb)]
      exact Heap.get?_push_of_some _ e
    · have := q h'.objs.size (cs.map (·.1)) (cs.map (·.2)) ((hpm.map (·.2)).trans (by rw [hb2])) (List.pairwise_map.mpr (hpw.imp fun h => of_decide_eq_true h)) (by rw [List.length_map, List.length_map]) (fun i a m h1 h2 => ?_) (I1.hok.fresh (Nat.le_refl _))
      · rw [List.map_map] at this
        exact this
      · rw [List.getElem?_map] at h1 h2
        obtain ⟨b, hb, rfl⟩ := Option.map_eq_some_iff.mp h1
        rw [hb] at h2
        obtain rfl := Option.some.inj h2
        exact hbm b (hpm.mem_iff.mp (List.mem_of_getElem? hb))
end
end My
/-! try: return e / except X: return None -/
namespace My
open PySem L2 LamX PyProof.Rows
section
variable {X : Cx} {C : Addr} {e : Expr}
def xOne (K : PySem.W.Frag) (C : Addr) (Q : VK) : XK := fun cls _ H => PySem.W.exmOne K cls (.ref C) = some true ∧ Q .non H
theorem ps_tryR {x : Str} {sg : Scope} {np p3 p5 p6 p7 p8 : Pos} {j : Nat} {te : XK → TE} (hs : X.stack = X.env :: X.outer) (hf : X.env.frame = some X.env.locals) (hsc : X.env.scope = sg) (hg : sg.names.lookup x = some .globalImplicit) (hm : X.mg x = some (.ref C)) (hd : (x == ("__debug__" : Str)) = false)
    (call : ∀ (W : WX) (pn : List (Addr × Obj)) (xe : Value → Shared → Prop) (Ech : XK), Takes (X.tr pn xe) W → (∀ cls d σ H, Ech cls d H → W cls d σ H) → PE (X.tr pn xe) e (te Ech)) :
    PS X (.Try [.Return (some e) p3] [.ExceptHandler (some (.Name x np)) none [.Return (some (.Constant .none j p5)) p6] p7] [] [] p8) (fun D σ H => te (xOne X.K C D.rt) σ H D.rt) := by
  refine ⟨fun pins s σ H D I h => ?_⟩
  refine (ps_try_many (Wout := fun _ _ _ _ => False)
      (tb := fun W D σ H => ∃ Ech : XK, (∀ cls d σ' H', Ech cls d H' → W cls d σ' H') ∧ te Ech σ H D.rt)
      hs hf takes_none5 (fun W pn xe tk _ => ?_) (.cons ⟨by show X.env.scope.names.lookup _ = _; rw [hsc]; exact hg, hd, .inl hm⟩ (fun a oe cls d pn _ _ => pss_one (ps_ret pe_non)) .nil)).run pins s σ H D I ⟨xOne X.K C D.rt, fun cls d σ' H' z => ?_, h⟩
  · refine ⟨fun pins s' σ H' D I h' => ?_⟩
    obtain ⟨Ech, hW, h3⟩ := h'
    exact (pss_one (ps_ret (pos := p3) (call W pn xe Ech tk hW))).run pins s' σ H' D I h3
  · exact ⟨true, z.1, fun _ a _ => z.2, fun y => nomatch y⟩
end
end My
/-! min of a list of texts -/
namespace My
open PySem PySem.Spec PyProof.Rows L2
theorem strs_alike (ps : List Str) : PySem.W.AlikeAll (ps.map PyData.str) := by
  refine ⟨fun x hx y hy => ?_, fun x hx => ?_⟩
  · obtain ⟨p, _, rfl⟩ := List.mem_map.mp hx
    obtain ⟨q, _, rfl⟩ := List.mem_map.mp hy
    rfl
  · obtain ⟨p, _, rfl⟩ := List.mem_map.mp hx
    exact nofun
theorem strs_depth : ∀ ps : List Str, PyData.depthAll (ps.map PyData.str) = 0
  | [] => rfl
  | p :: ps => by
    show max 0 (PyData.depthAll (ps.map PyData.str)) = 0
    rw [strs_depth ps]
    rfl
def ltD (p q : Str) : Bool := PySem.W.dataLt (.str p) (.str q)
def minS (p : Str) (ps : List Str) : Str := ps.foldl (fun a y => if ltD y a = true then y else a) p
theorem minD_S : ∀ (ps : List Str) (p : Str), PySem.W.minD (.str p) (ps.map PyData.str) = .str (minS p ps)
  | [], _ => rfl
  | q :: ps, p => by
    show PySem.W.minD (if PySem.W.dataLt (.str q) (.str p) then .str q else .str p) (ps.map PyData.str) = .str (minS (if ltD q p = true then q else p) ps)
    have e : (if PySem.W.dataLt (.str q) (.str p) then PyData.str q else .str p) = .str (if ltD q p = true then q else p) := by
      unfold ltD
      split <;> rfl
    rw [e]
    exact minD_S ps _
theorem dp_strsH {K : PySem.W.Frag} {H : Hp} : ∀ ps : List Str, DpAll K H (ps.map V.str) (ps.map PyData.str)
  | [] => .nil
  | _ :: ps => .cons (.str _) (dp_strsH ps)
def rMinT (K : PySem.W.Frag) : List V → Hp → VK → Prop := fun vs H Q => ∃ (a : Addr) (p : Str) (ps : List Str), vs = [V.ref a] ∧ SqL K H a ((p :: ps).map V.str) ∧ Q (.str (minS p ps)) H
section
variable {X : Cx}
theorem cr_minT (hc : X.calm = true) (hu : X.A.units + 64 < cLine) : CallR X (.builtin "min") (rMinT X.K) := by
  intro pins s σ H vs us Q I r h
  obtain ⟨a, p, ps, rfl, hs, q⟩ := h
  obtain ⟨its, rv, hL, _⟩ := I.list hs
  rw [Vals.ref1 r]
  obtain ⟨as, ra⟩ := Dp.readsAll I ((p :: ps).map PyData.str) _ its (dp_strsH (p :: ps)) rv
  refine PySem.W.min_list_data (x := .str p) (xs := ps.map PyData.str) (I.ok.hd hc) hL.isList (by simpa using ra) (strs_alike (p :: ps)) (by have := strs_depth (p :: ps); show _ + 1 + PyData.depthAll ((p :: ps).map PyData.str) < _; omega) fun i v h' tk bs hv hR hk => ?_
  have hv' : its[i]? = some v := by simpa using hv
  have hi : i < its.length := (List.getElem?_eq_some_iff.mp hv').1
  have hx : i < ((p :: ps).map V.str).length := by rw [rv.length]; exact hi
  obtain ⟨v2, g1, rx⟩ := rv.get (List.getElem?_eq_getElem hx)
  rw [hv'] at g1
  obtain rfl := Option.some.inj g1
  rw [List.getElem_map] at rx
  obtain ⟨t, rfl⟩ := (show ∃ t, v = Value.str _ t from rx)
  rw [minD_S] at hR
  have e := reads_str hR
  refine ⟨.str (minS p ps), H, I.kept hk, ⟨t, by rw [e]⟩, q⟩
end
end My
namespace My
open PySem L2
section
variable {P : Program} {w : World} {K : PySem.W.Frag} {mg : Str → Option Value} {base : Heap}
section
local macro_rules | `(tactic| walk_at "sl") => `(tactic| first | assumption | exact SqL.of upd_same | exact SqL.of (by assumption) | ((with_reducible apply sql_upd); (walk_at "sl"); (first | assumption | exact Ne.symm (by assumption))))
local macro_rules | `(tactic| walk_at "st") => `(tactic| first | assumption | exact SqT.of upd_same | exact SqT.of (by assumption))
local macro_rules | `(tactic| walk_at "sc") => `(tactic| first | rfl | assumption | (show (0 : Int) < _; first | assumption | decide | omega) | exact Or.inl ⟨by omega, by omega⟩ | exact Or.inr ⟨by omega, by omega⟩ | exact ⟨by decide, by decide⟩ | exact ⟨by decide, by decide, by decide⟩)
local macro_rules | `(tactic| walk_at "g1") => `(tactic| first
  | refine ⟨(_ : V), rfl, ?_⟩
  | refine ⟨(_ : Bool), rfl, ?_⟩
  | refine ⟨(_ : Int), (_ : Int), rfl, rfl, ?_⟩
  | refine ⟨(_ : Int), rfl, ?_⟩
  | refine ⟨(_ : Str), rfl, ?_⟩
  | refine ⟨(_ : Addr), (_ : List V), rfl, Or.inl (by walk_at "sl"), ?_⟩
  | refine ⟨(_ : Addr), (_ : List V), rfl, Or.inr (by walk_at "st"), ?_⟩
  | refine ⟨(_ : Addr), (_ : List V), (_ : Int), (_ : V), rfl, rfl, (by walk_at "sl"), (by first | rfl | assumption), ?_⟩
  | refine ⟨(_ : Addr), (_ : List V), (_ : Int), (_ : V), rfl, rfl, (by walk_at "st"), (by first | rfl | assumption), ?_⟩
  | refine ⟨(_ : Addr), (_ : List V), (_ : Int), (_ : Nat), rfl, rfl, upd_same, rfl, ?_⟩
  | refine ⟨(_ : Addr), (_ : List V), (_ : Int), (_ : Nat), rfl, rfl, (by assumption), rfl, ?_⟩
  | refine ⟨(_ : Addr), (_ : Addr), (_ : Addr), (_ : List (Str × V)), (_ : V), rfl, (by assumption), (by assumption), (by assumption), (by first | assumption | rfl), ?_⟩
  | refine Or.inl ⟨(_ : Int), rfl, ?_⟩
  | refine And.intro (by walk_at "sc") ?_
  | refine iteT ?_
  | refine iteF ?_)
def letters : Str := "abcdefghijklmnopqrstuvwxyz"
def isWord (t : Str) : Bool := (decide ((1 : Int) ≤ t.length) && decide ((t.length : Int) ≤ 8)) && t.cps.toList.all fun c => decide (c ∈ letters.cps.toList)
def spIsWord : Sp := fun vs H Q _ => ∃ t : Str, vs = [.str t] ∧ t.length ≤ 1000 ∧ ∀ H', Same H H' → Q (.bl (isWord t)) H'
theorem ok_is_word (T : Top K mg) : FnOk P w K mg base CX0 1 T.a_is_word T.fd_is_word ["text"] spIsWord := by
  refine T.F_is_word.ok sc_is_word (fun vs H Q E h => ?_) (fun cdv A outer s H vs Q E hr h => ?_)
  · obtain ⟨t, rfl, _⟩ := h
    rfl
  · obtain ⟨t, rfl, hl, k⟩ := h
    have hu := hu_of hr
    refine ⟨_, (pss_cons (ps_if (PW.pt (pw_or (pt_not (pt_val (pe_callB call_isi (by rfl) T.m_isinstance (by decide +kernel) (pa_cons (pv 0) (pa_cons (pe_bltn (v := .ty "str") (by rfl) T.m_str (by decide +kernel) rfl) pa_nil))))) (pw_or1 (pt_not (pt_chain op_le op_le pe_int (pe_callB call_len (by rfl) T.m_len (by decide +kernel) (pa_cons (pv 0) pa_nil)) (pe_glob rfl T.g_LONGEST_WORD T.r_LONGEST_WORD)))))) (pss_one (ps_ret pe_bl)) pss_nil)
      (pss_one (ps_ret (pe_callB (cr_all rfl) (by rfl) T.m_all (by decide +kernel) (pa_cons (pe_lc (own := [("letter", 1)]) (g := gName 1) (tt := tYes) rfl sc_is_word.nd (pi_str (pv 0)) (blkOk_by (N := N_is_word) (sc := defScope s_is_word) (by decide +kernel)) (fun _ _ _ _ _ => (pg_name (i := 1) sc_is_word.nd rfl (.inl rfl))) (fun _ _ _ _ _ => pts_nil) (fun _ _ _ _ _ => (pe_cmpR op_in_sign (pv 1) (pe_glob rfl T.g_LETTERS T.r_LETTERS) rfl))) pa_nil))))), ?_⟩
    repeat walk_at "g1"
    refine ⟨.str t, .ty "str", .type "str", .type "str", true, rfl, .ty _, .base (.str t), kit_ty (by decide +kernel), ?_⟩
    repeat walk_at "g1"
    refine ⟨_, _, rfl, ⟨by have := sizeLine_of (show t.length ≤ 1000000 by omega); omega, rfl⟩, ?_⟩
    have e1 : ∀ h : ¬ decide ((1 : Int) ≤ t.length) = true, isWord t = false := fun h => by
      unfold isWord
      rw [Bool.eq_false_iff.mpr h]
      rfl
    have e2 : ∀ h : ¬ decide ((t.length : Int) ≤ 8) = true, isWord t = false := fun h => by
      unfold isWord
      rw [Bool.eq_false_iff.mpr h, Bool.and_false]
      rfl
    repeat walk_at "g1"
    refine ite2 (fun h1 => ?_) (fun h1 => ?_)
    · repeat walk_at "g1"
      refine ite2 (fun h2 => ?_) (fun h2 => ?_)
      · have h2' : ¬ decide ((t.length : Int) ≤ 8) = true := by
          intro z
          rw [z] at h2
          exact absurd h2 (by decide)
        show Q (.bl false) H
        rw [← e2 h2']
        exact k H (Same.refl H)
      · have h2' : decide ((t.length : Int) ≤ 8) = true := by
          cases z : decide ((t.length : Int) ≤ 8) with
          | true => rfl
          | false => rw [z] at h2; exact absurd rfl h2
        refine ⟨.str t, rfl, t, rfl, fun D hD => lc_map walk_str (by show t.length ≤ _; omega) hD (fun i => V.bl (decide (t.cps.toList[i]?.getD 0 ∈ letters.cps.toList))) (fun _ _ => trivial) (fun i x H1 H2 hi s1 hy R r => ?_) (fun H1 s1 hd => ?_) gName_mono⟩
        · obtain ⟨rfl, c, hc, rfl⟩ := hy
          refine ⟨rfl, ?_⟩
          refine ⟨_, rfl, c, letters, rfl, rfl, ?_⟩
          have q := r _ (Same.refl _)
          rw [Array.getElem?_toList, hc] at q
          exact q
        · have el : (List.range t.cps.size).map (fun i => V.bl (decide (t.cps.toList[i]?.getD 0 ∈ letters.cps.toList))) = (t.cps.toList.map fun c => decide (c ∈ letters.cps.toList)).map V.bl := by
            rw [List.map_map]
            refine range_map t.cps.toList _ _ fun i x h => ?_
            rw [h]
            rfl
          refine ⟨D, _, rfl, SqL.of (by rw [hd, el]), ?_⟩
          have ew : isWord t = (t.cps.toList.map fun c => decide (c ∈ letters.cps.toList)).all id := by
            unfold isWord
            rw [h1, h2', List.all_map]
            rfl
          rw [← ew]
          exact k H1 s1
    · repeat walk_at "g1"
      show Q (.bl false) H
      rw [← e1 h1]
      exact k H (Same.refl H)
end
section
local macro_rules | `(tactic| walk_at "sl") => `(tactic| first | assumption | exact SqL.of upd_same | exact SqL.of (by assumption) | ((with_reducible apply sql_upd); (walk_at "sl"); (first | assumption | exact Ne.symm (by assumption))))
local macro_rules | `(tactic| walk_at "st") => `(tactic| first | assumption | exact SqT.of upd_same | exact SqT.of (by assumption))
local macro_rules | `(tactic| walk_at "sc") => `(tactic| first | rfl | assumption | (show (0 : Int) < _; first | assumption | decide | omega) | exact Or.inl ⟨by omega, by omega⟩ | exact Or.inr ⟨by omega, by omega⟩ | exact ⟨by decide, by decide⟩ | exact ⟨by decide, by decide, by decide⟩)
local macro_rules | `(tactic| walk_at "g1") => `(tactic| first
  | refine ⟨(_ : V), rfl, ?_⟩
  | refine ⟨(_ : Bool), rfl, ?_⟩
  | refine ⟨(_ : Int), (_ : Int), rfl, rfl, ?_⟩
  | refine ⟨(_ : Int), rfl, ?_⟩
  | refine ⟨(_ : Str), rfl, ?_⟩
  | refine ⟨(_ : Addr), (_ : List V), rfl, Or.inl (by walk_at "sl"), ?_⟩
  | refine ⟨(_ : Addr), (_ : List V), rfl, Or.inr (by walk_at "st"), ?_⟩
  | refine ⟨(_ : Addr), (_ : List V), (_ : Int), (_ : V), rfl, rfl, (by walk_at "sl"), (by first | rfl | assumption), ?_⟩
  | refine ⟨(_ : Addr), (_ : List V), (_ : Int), (_ : V), rfl, rfl, (by walk_at "st"), (by first | rfl | assumption), ?_⟩
  | refine ⟨(_ : Addr), (_ : List V), (_ : Int), (_ : Nat), rfl, rfl, upd_same, rfl, ?_⟩
  | refine ⟨(_ : Addr), (_ : List V), (_ : Int), (_ : Nat), rfl, rfl, (by assumption), rfl, ?_⟩
  | refine ⟨(_ : Addr), (_ : Addr), (_ : Addr), (_ : List (Str × V)), (_ : V), rfl, (by assumption), (by assumption), (by assumption), (by first | assumption | rfl), ?_⟩
  | refine Or.inl ⟨(_ : Int), rfl, ?_⟩
  | refine And.intro (by walk_at "sc") ?_
  | refine iteT ?_
  | refine iteF ?_)
/-! ### numbers -/
def isNum (n a b : Int) : Bool := decide (a ≤ n) && decide (n ≤ b)
def spIsNumber : Sp := fun vs H Q _ => ∃ n a b : Int, vs = [.int n, .int a, .int b] ∧ Q (.bl (isNum n a b)) H
theorem ok_is_number (T : Top K mg) : FnOk P w K mg base CX0 1 T.a_is_number T.fd_is_number ["number", "least", "greatest"] spIsNumber := by
  refine T.F_is_number.ok sc_is_number (fun vs H Q E h => ?_) (fun cdv A outer s H vs Q E hr h => ?_)
  · obtain ⟨n, a, b, rfl, _⟩ := h
    rfl
  · obtain ⟨n, a, b, rfl, k⟩ := h
    have hu := hu_of hr
    refine ⟨_, (pss_cons (ps_if (PW.pt (pw_or (pt_val (pe_callB call_isi (by rfl) T.m_isinstance (by decide +kernel) (pa_cons (pv 0) (pa_cons (pe_bltn (v := .ty "bool") (by rfl) T.m_bool (by decide +kernel) rfl) pa_nil)))) (pw_or1 (pt_not (pt_val (pe_callB call_isi (by rfl) T.m_isinstance (by decide +kernel) (pa_cons (pv 0) (pa_cons (pe_bltn (v := .ty "int") (by rfl) T.m_int (by decide +kernel) rfl) pa_nil)))))))) (pss_one (ps_ret pe_bl)) pss_nil)
      (pss_one (ps_ret (pe_chain op_le op_le (pv 1) (pv 0) (pv 2))))), ?_⟩
    repeat walk_at "g1"
    refine ⟨.int n, .ty "bool", .type "int", .type "bool", false, rfl, .ty _, .base (.int n), kit_ty (by decide +kernel), ?_⟩
    repeat walk_at "g1"
    refine ⟨.int n, .ty "int", .type "int", .type "int", true, rfl, .ty _, .base (.int n), kit_ty (by decide +kernel), ?_⟩
    repeat walk_at "g1"
    refine ite2 (fun h1 => ?_) (fun h1 => ?_)
    · repeat walk_at "g1"
      have e : isNum n a b = decide (n ≤ b) := by unfold isNum; rw [h1, Bool.true_and]
      rw [e] at k
      exact k
    · have e : isNum n a b = false := by unfold isNum; rw [Bool.eq_false_iff.mpr h1, Bool.false_and]
      rw [e] at k
      exact k
/-! ### the books of a card -/
def asc (bs : List Int) : Bool := (bs.zip (bs.drop 1)).all fun p => decide (p.1 < p.2)
def isBooks (bs : List Int) : Bool := decide (bs.length ≤ 6) && bs.all (fun b => isNum b 1 999) && asc bs
def spAreBooks (K : PySem.W.Frag) : Sp := fun vs H Q _ => ∃ (a : Addr) (bs : List Int), vs = [.ref a] ∧ SqT K H a (bs.map V.int) ∧ bs.length ≤ 1000 ∧ ∀ H', Same H H' → Q (.bl (isBooks bs)) H'
theorem cut1 (xs : List V) : cutV xs (some 1) none = xs.drop 1 := by
  unfold cutV
  rw [show HT.sIx xs.length 0 (some 1) = min 1 xs.length from HT.sIx_nat xs.length 0 1, HT.sIx_none]
  cases xs with
  | nil => rfl
  | cons x r =>
    rw [show min 1 (x :: r).length = 1 by rw [List.length_cons]; omega]
    exact List.take_of_length_le (by rw [List.length_drop]; exact Nat.le_refl _)
theorem gTup2_mono {K : PySem.W.Frag} {i j : Nat} : ∀ (x : V) (σ : St) (H : Hp) (A B : St → Hp → Prop), (∀ σ2 H2, A σ2 H2 → B σ2 H2) → gTup K 2 (gCons (gName i) (gCons (gName j) gNil)) x σ H A → gTup K 2 (gCons (gName i) (gCons (gName j) gNil)) x σ H B :=
  fun _ _ _ _ _ h ⟨a, xs, e, s, l, v, r, e2, v2, r2, e3, e4, q⟩ => ⟨a, xs, e, s, l, v, r, e2, v2, r2, e3, e4, h _ _ q⟩
theorem ok_are_books (T : Top K mg) : FnOk P w K mg base CX0 2 T.a_are_books T.fd_are_books ["books"] (spAreBooks K) := by
  refine T.F_are_books.ok sc_are_books (fun vs H Q E h => ?_) (fun cdv A outer s H vs Q E hr h => ?_)
  · obtain ⟨a, bs, rfl, _⟩ := h
    rfl
  · obtain ⟨a, bs, rfl, hS, hl, k⟩ := h
    have hu := hu_of hr
    refine ⟨_, (pss_cons (ps_if (PW.pt (pw_or (pt_not (pt_val (pe_callB call_isi (by rfl) T.m_isinstance (by decide +kernel) (pa_cons (pv 0) (pa_cons (pe_bltn (v := .ty "tuple") (by rfl) T.m_tuple (by decide +kernel) rfl) pa_nil))))) (pw_or1 (pt_cmpR op_gt (pe_callB call_len_seq (by rfl) T.m_len (by decide +kernel) (pa_cons (pv 0) pa_nil)) (pe_glob rfl T.g_MOST_BOOKS T.r_MOST_BOOKS) (nomark _))))) (pss_one (ps_ret pe_bl)) pss_nil)
      (pss_cons (ps_if (pt_not (pt_val (pe_callB (cr_all rfl) (by rfl) T.m_all (by decide +kernel) (pa_cons (pe_lc (own := [("book", 1)]) (g := gName 1) (tt := tYes) rfl sc_are_books.nd (pi_tup (pv 0)) (blkOk_by (N := N_are_books) (sc := defScope s_are_books) (by decide +kernel)) (fun _ _ _ _ _ => (pg_name (i := 1) sc_are_books.nd rfl (.inl rfl))) (fun _ _ _ _ _ => pts_nil) (fun _ _ _ _ _ => (pe_call (ok_is_number T) (hr.mono (by decide)) (by rfl) T.g_is_number T.F_is_number.kp (b_is_number T) .nil pass0 (pa_cons (pv 1) (pa_cons pe_int (pa_cons (pe_glob rfl T.g_LAST_BOOK T.r_LAST_BOOK) pa_nil)))))) pa_nil)))) (pss_one (ps_ret pe_bl)) pss_nil)
      (pss_one (ps_ret (pe_callB (cr_all rfl) (by rfl) T.m_all (by decide +kernel) (pa_cons (pe_lc (own := [("book", 1), ("later", 2)]) (g := gTup K 2 (gCons (gName 1) (gCons (gName 2) gNil))) (tt := tYes) rfl sc_are_books.nd (RZ.pi_zipA (by rfl) T.m_zip (pa_cons (pv 0) (pa_cons (pe_slice sl_tupA (pv 0) (po_some pe_int) po_none) pa_nil))) (blkOk_by (N := N_are_books) (sc := defScope s_are_books) (by decide +kernel)) (fun _ _ _ _ _ => (pg_tup rfl (pgs_cons (pg_name (i := 1) sc_are_books.nd rfl (.inl rfl)) (pgs_cons (pg_name (i := 2) sc_are_books.nd rfl (.inl rfl)) pgs_nil)))) (fun _ _ _ _ _ => pts_nil) (fun _ _ _ _ _ => (pe_cmpR op_lt (pv 1) (pv 2) (nomark _)))) pa_nil)))))), ?_⟩
    repeat walk_at "g1"
    refine ⟨.ref a, .ty "tuple", .type "tuple", .type "tuple", true, rfl, .ty _, ty_tup hS, kit_ty (by decide +kernel), ?_⟩
    repeat walk_at "g1"
    have hlen : (bs.map V.int).length = bs.length := List.length_map ..
    refine ite2 (fun h1 => ?_) (fun h1 => ?_)
    · repeat walk_at "g1"
      have e : isBooks bs = false := by
        have q := of_decide_eq_true h1
        rw [hlen] at q
        unfold isBooks
        rw [decide_eq_false (by omega), Bool.false_and, Bool.false_and]
      have q := k H (Same.refl H)
      rw [e] at q
      exact q
    · have h6 : decide (bs.length ≤ 6) = true := by
        refine decide_eq_true ?_
        have q := of_decide_eq_false (Bool.eq_false_iff.mpr h1)
        rw [hlen] at q
        omega
      -- all([is_number(book, 1, LAST_BOOK) for book in books])
      refine ⟨.ref a, rfl, a, rfl, ⟨_, hS⟩, fun D hD => lc_map walk_tup (by rw [hlen]; omega) hD (fun i => V.bl (isNum (bs[i]?.getD 0) 1 999)) (fun H1 s1 => s1.seqT hS) (fun i x H1 H2 hi s1 hy R r => ?_) (fun H1 s1 hd => ?_) gName_mono⟩
      · obtain ⟨rfl, hx⟩ := hy
        rw [List.getElem?_map] at hx
        obtain ⟨b, hb, rfl⟩ := Option.map_eq_some_iff.mp hx
        refine ⟨rfl, ?_⟩
        refine ⟨_, rfl, ?_⟩
        have q := r _ (Same.refl _)
        rw [hb] at q
        exact ⟨b, 1, 999, rfl, q⟩
      · have el : (List.range (bs.map V.int).length).map (fun i => V.bl (isNum (bs[i]?.getD 0) 1 999)) = (bs.map fun b => isNum b 1 999).map V.bl := by
          rw [hlen, List.map_map]
          refine range_map bs _ _ fun i x h => ?_
          rw [h]
          rfl
        rw [el] at hd
        refine ⟨D, _, rfl, SqL.of hd, ?_⟩
        repeat walk_at "g1"
        have eall : (bs.map fun b => isNum b 1 999).all id = bs.all fun b => isNum b 1 999 := by rw [List.all_map]; rfl
        rw [eall]
        cases h2 : bs.all fun b => isNum b 1 999 with
        | false =>
          repeat walk_at "g1"
          have e : isBooks bs = false := by
            unfold isBooks
            rw [h2, Bool.and_false, Bool.false_and]
          have q := k H1 s1
          rw [e] at q
          exact q
        | true =>
          repeat walk_at "g1"
          have hS1 := s1.seqT hS
          have asc0 : asc bs = (((List.range (min bs.length (bs.drop 1).length)).map fun i => decide (bs[i]?.getD 0 < (bs.drop 1)[i]?.getD 0)).all id) := by
            unfold asc
            rw [← List.length_zip, range_map (bs.zip (bs.drop 1)) (fun p => decide (p.1 < p.2)) _ fun i p h => ?_, List.all_map]
            · rfl
            · obtain ⟨q1, q2⟩ := List.getElem?_zip_eq_some.mp h
              rw [q1, q2]
              rfl
          have whole : ∀ (c : Addr) (H2 : Hp), Same H1 H2 → SqT K H2 c ((bs.map V.int).drop 1) → ∀ D2, H2 D2 = none → ∀ (Qd : Hp → Prop), (∀ H3, Same H1 H3 → SqL K H3 D2 (((List.range (min bs.length (bs.drop 1).length)).map fun i => decide (bs[i]?.getD 0 < (bs.drop 1)[i]?.getD 0)).map V.bl) → Qd H3) → _ :=
            fun c H2 s2 hC D2 hD2 Qd fin => lc_map (Qd := Qd) (σ := start N_are_books [.ref a]) (g := gTup K 2 (gCons (gName 1) (gCons (gName 2) gNil))) (te := tOp (rI0 fun i j => .bl (decide (i < j))) (tVar 1) (tVar 2)) (vs := [1, 2]) (walk_zipT (K := K) (a := a) (b := c) (xs := bs.map V.int) (ys := (bs.map V.int).drop 1) rfl) (by rw [hlen]; omega) hD2
              (fun i => V.bl (decide (bs[i]?.getD 0 < (bs.drop 1)[i]?.getD 0))) (fun H3 s3 => ⟨s3.seqT (s2.seqT hS1), s3.seqT hC⟩) (fun i x H3 H4 hi s3 hy R r => by
                obtain ⟨Tp, x1, x2, rfl, nT, rfl, e1, e2⟩ := hy
                replace e1 : (bs.map V.int)[i]? = some x1 := e1
                replace e2 : ((bs.map V.int).drop 1)[i]? = some x2 := e2
                rw [List.getElem?_map] at e1
                obtain ⟨b1, hb1, rfl⟩ := Option.map_eq_some_iff.mp e1
                rw [← List.map_drop, List.getElem?_map] at e2
                obtain ⟨b2, hb2, rfl⟩ := Option.map_eq_some_iff.mp e2
                refine ⟨Tp, _, rfl, SqT.of upd_same, rfl, _, _, rfl, _, _, rfl, rfl, rfl, ?_⟩
                refine ⟨_, rfl, _, rfl, b1, b2, rfl, rfl, ?_⟩
                have q := r (upd H3 Tp (.tup [.int b1, .int b2])) (same_new nT)
                rw [hb1, hb2] at q
                exact q) (fun H3 s3 hd3 => fin H3 (s2.trans s3) (SqL.of (by
                  rw [hd3, List.map_map]
                  rw [hlen, List.length_drop, hlen, List.length_drop]
                  rfl))) (gTup2_mono (K := K))
          have last : ∀ (H3 : Hp) (D2 : Addr), Same H1 H3 → SqL K H3 D2 (((List.range (min bs.length (bs.drop 1).length)).map fun i => decide (bs[i]?.getD 0 < (bs.drop 1)[i]?.getD 0)).map V.bl) → rAll K [.ref D2] H3 Q := fun H3 D2 s3 hd3 => by
            refine ⟨D2, _, rfl, hd3, ?_⟩
            rw [← asc0]
            have e : isBooks bs = asc bs := by
              unfold isBooks
              rw [h6, h2, Bool.true_and, Bool.true_and]
            rw [← e]
            exact k H3 (s1.trans s3)
          refine ⟨a, _, rfl, hS1, fun hw => ?_, fun hw c hc => ?_⟩
          · have hC : SqT K H1 a ((bs.map V.int).drop 1) := by
              rw [← cut1]
              have e : cutV (bs.map V.int) (some 1) none = bs.map V.int := by
                unfold cutV
                rw [hw.1, hw.2, Nat.sub_zero, List.drop_zero]
                exact List.take_length
              rw [e]
              exact hS1
            exact ⟨a, a, _, _, rfl, Or.inr ⟨hS1, hC, fun D2 hD2 => whole a H1 (Same.refl _) hC D2 hD2 _ fun H3 s3 q => last H3 D2 s3 q⟩⟩
          · have hC : SqT K (upd H1 c (.tup (cutV (bs.map V.int) (some 1) none))) c ((bs.map V.int).drop 1) := by
              rw [← cut1]
              exact SqT.of upd_same
            exact ⟨a, c, _, _, rfl, Or.inr ⟨(same_new hc).seqT hS1, hC, fun D2 hD2 => whole c _ (same_new hc) hC D2 hD2 _ fun H3 s3 q => last H3 D2 s3 q⟩⟩

/-! ### see, also -/
theorem dec_str {a b : Str} : (decide (V.str a = V.str b)) = decide (a = b) := by
  by_cases h : a = b
  · rw [decide_eq_true h, h]
    exact decide_eq_true rfl
  · rw [decide_eq_false h]
    exact decide_eq_false fun z => h (V.str.inj z)
def isTarget (see heading : Str) : Bool := decide (see = "") || (isWord see && !decide (see = heading))
def spIsTarget : Sp := fun vs H Q _ => ∃ a b : Str, vs = [.str a, .str b] ∧ a.length ≤ 1000 ∧ ∀ H', Same H H' → Q (.bl (isTarget a b)) H'
theorem ok_is_target (T : Top K mg) : FnOk P w K mg base CX0 2 T.a_is_target T.fd_is_target ["see", "heading"] spIsTarget := by
  refine T.F_is_target.ok sc_is_target (fun vs H Q E h => ?_) (fun cdv A outer s H vs Q E hr h => ?_)
  · obtain ⟨a, b, rfl, _⟩ := h
    rfl
  · obtain ⟨a, b, rfl, hl, k⟩ := h
    have hu := hu_of hr
    refine ⟨_, (pss_one (ps_ret (pe_or (pe_cmpR op_eq (pv 0) pe_str (nomark _)) (pe_one (pe_and (pe_call (ok_is_word T) (hr.mono (by decide)) (by rfl) T.g_is_word T.F_is_word.kp (b_is_word T) .nil pass0 (pa_cons (pv 0) pa_nil)) (pe_one (pe_cmpR op_ne (pv 0) (pv 1) (nomark _)))))))), ?_⟩
    repeat walk_at "g1"
    have e0 : (decide (V.str a = V.str "")) = decide (a = "") := by
      by_cases h : a = ""
      · rw [decide_eq_true h, h]
        exact decide_eq_true rfl
      · rw [decide_eq_false h]
        exact decide_eq_false fun z => h (V.str.inj z)
    have e1 : (decide (V.str a = V.str b)) = decide (a = b) := by
      by_cases h : a = b
      · rw [decide_eq_true h, h]
        exact decide_eq_true rfl
      · rw [decide_eq_false h]
        exact decide_eq_false fun z => h (V.str.inj z)
    refine ite2 (fun h1 => ?_) (fun h1 => ?_)
    · rw [show (Str.ofString "") = ("" : Str) from rfl, e0] at h1
      have e : isTarget a b = true := by
        unfold isTarget
        rw [h1, Bool.true_or]
      have q := k H (Same.refl H)
      rw [e] at q
      exact q
    · rw [show (Str.ofString "") = ("" : Str) from rfl, e0] at h1
      have eT : isTarget a b = (isWord a && !decide (a = b)) := by
        unfold isTarget
        rw [Bool.eq_false_iff.mpr h1, Bool.false_or]
      rw [eT] at k
      repeat walk_at "g1"
      intro H1 s1
      cases hw : isWord a with
      | false =>
        repeat walk_at "g1"
        have q := k H1 s1
        rw [hw, Bool.false_and] at q
        exact q
      | true =>
        repeat walk_at "g1"
        have q := k H1 s1
        rw [hw, Bool.true_and, ← e1] at q
        exact q
theorem nodup_le1 {ws : List Str} (h : ws.length ≤ 1) : ws.Nodup := by
  match ws, h with
  | [], _ => exact List.nodup_nil
  | [x], _ => exact List.nodup_cons.mpr ⟨by simp, List.nodup_nil⟩
theorem nodup_eq : ∀ {ws ks : List Str}, ks.Nodup → (∀ k, k ∈ ks ↔ k ∈ ws) → ks.length ≤ ws.length ∧ (ks.length = ws.length ↔ ws.Nodup)
  | [], ks, h, e => by
    have : ks = [] := List.eq_nil_iff_forall_not_mem.mpr fun k z => absurd ((e k).mp z) (List.not_mem_nil)
    subst this
    exact ⟨Nat.le_refl _, fun _ => List.nodup_nil, fun _ => rfl⟩
  | x :: r, ks, h, e => by
    by_cases hx : x ∈ r
    · obtain ⟨a, _⟩ := nodup_eq (ws := r) h fun k => (e k).trans ⟨fun z => (List.mem_cons.mp z).elim (fun y => y ▸ hx) id, List.mem_cons_of_mem _⟩
      refine ⟨Nat.le_succ_of_le a, fun q => ?_, fun q => absurd hx (List.nodup_cons.mp q).1⟩
      rw [List.length_cons] at q
      omega
    · have hm : x ∈ ks := (e x).mpr (List.mem_cons_self ..)
      have hl := List.length_erase_of_mem hm
      have hp := List.length_pos_of_mem hm
      obtain ⟨a, b⟩ := nodup_eq (ws := r) (h.erase x) fun k => by
        rw [h.mem_erase_iff, e k, List.mem_cons]
        exact ⟨fun ⟨n, z⟩ => z.elim (fun y => absurd y n) id, fun z => ⟨fun y => hx (y ▸ z), .inr z⟩⟩
      rw [List.length_cons, List.nodup_cons]
      refine ⟨by omega, fun q => ⟨hx, b.mp (by omega)⟩, fun q => ?_⟩
      have := b.mpr q.2
      omega
def isFurther (ws : List Str) (heading : Str) : Bool := decide (ws.length ≤ 4) && ws.all (fun x => isWord x && !decide (x = heading)) && decide ws.Nodup
def spAreFurther (K : PySem.W.Frag) : Sp := fun vs H Q _ => ∃ (a : Addr) (ws : List Str) (b : Str), vs = [.ref a, .str b] ∧ SqT K H a (ws.map V.str) ∧ ws.length ≤ 4 ∧ (∀ x ∈ ws, x.length ≤ 1000) ∧ ∀ H', Same H H' → Q (.bl (isFurther ws b)) H'
theorem ok_are_further (T : Top K mg) : FnOk P w K mg base CX0 2 T.a_are_further T.fd_are_further ["also", "heading"] (spAreFurther K) := by
  refine T.F_are_further.ok sc_are_further (fun vs H Q E h => ?_) (fun cdv A outer s H vs Q E hr h => ?_)
  · obtain ⟨a, ws, b, rfl, _⟩ := h
    rfl
  · obtain ⟨a, ws, b, rfl, hS, hl, hx, k⟩ := h
    have hu := hu_of hr
    refine ⟨_, (pss_cons (ps_if (PW.pt (pw_or (pt_not (pt_val (pe_callB call_isi (by rfl) T.m_isinstance (by decide +kernel) (pa_cons (pv 0) (pa_cons (pe_bltn (v := .ty "tuple") (by rfl) T.m_tuple (by decide +kernel) rfl) pa_nil))))) (pw_or1 (pt_cmpR op_gt (pe_callB call_len_seq (by rfl) T.m_len (by decide +kernel) (pa_cons (pv 0) pa_nil)) (pe_glob rfl T.g_MOST_ALSO T.r_MOST_ALSO) (nomark _))))) (pss_one (ps_ret pe_bl)) pss_nil)
      (pss_cons (ps_if (pt_not (pt_val (pe_callB (cr_all rfl) (by rfl) T.m_all (by decide +kernel) (pa_cons (pe_lc (own := [("word", 2)]) (g := gName 2) (tt := tYes) rfl sc_are_further.nd (pi_tup (pv 0)) (blkOk_by (N := N_are_further) (sc := defScope s_are_further) (by decide +kernel)) (fun _ _ _ _ _ => (pg_name (i := 2) sc_are_further.nd rfl (.inl rfl))) (fun _ _ _ _ _ => pts_nil) (fun _ _ _ _ _ => (pe_and (pe_call (ok_is_word T) (hr.mono (by decide)) (by rfl) T.g_is_word T.F_is_word.kp (b_is_word T) .nil pass0 (pa_cons (pv 2) pa_nil)) (pe_one (pe_cmpR op_ne (pv 2) (pv 1) (nomark _)))))) pa_nil)))) (pss_one (ps_ret pe_bl)) pss_nil)
      (pss_one (ps_ret (pe_cmpR op_eq (pe_callB call_lenSS (by rfl) T.m_len (by decide +kernel) (pa_cons (pe_callTy (call_setTSK (K := K) (P := P) (w := w) rfl rfl rfl rfl) (by rfl) T.m_set (by decide +kernel) (pa_cons (pv 0) pa_nil)) pa_nil)) (pe_callB call_len_seq (by rfl) T.m_len (by decide +kernel) (pa_cons (pv 0) pa_nil)) (nomark _)))))), ?_⟩
    repeat walk_at "g1"
    refine ⟨.ref a, .ty "tuple", .type "tuple", .type "tuple", true, rfl, .ty _, ty_tup hS, kit_ty (by decide +kernel), ?_⟩
    repeat walk_at "g1"
    have hlen : (ws.map V.str).length = ws.length := List.length_map ..
    refine ite2 (fun h1 => ?_) (fun h1 => ?_)
    · have q := of_decide_eq_true h1
      rw [hlen] at q
      omega
    · refine ⟨_, rfl, a, rfl, ⟨_, hS⟩, fun D hD => lc_map walk_tup (by rw [hlen]; omega) hD (fun i => V.bl (isWord (ws[i]?.getD ("" : Str)) && !decide ((ws[i]?.getD ("" : Str)) = b))) (fun H1 s1 => s1.seqT hS) (fun i x H1 H2 hi s1 hy R r => ?_) (fun H1 s1 hd => ?_) gName_mono⟩
      · obtain ⟨rfl, hv⟩ := hy
        rw [List.getElem?_map] at hv
        obtain ⟨z, hz, rfl⟩ := Option.map_eq_some_iff.mp hv
        rw [hz] at r
        refine ⟨rfl, ?_⟩
        refine ⟨_, rfl, z, rfl, hx z (List.mem_of_getElem? hz), fun H3 s3 => ?_⟩
        refine ⟨_, rfl, ?_⟩
        have q := r H3 s3
        cases hw : isWord z with
        | false =>
          repeat walk_at "g1"
          rw [show (some z).getD ("" : Str) = z from rfl, hw, Bool.false_and] at q
          exact q
        | true =>
          repeat walk_at "g1"
          rw [show (some z).getD ("" : Str) = z from rfl, hw, Bool.true_and, ← dec_str] at q
          exact q
      · have el : (List.range (ws.map V.str).length).map (fun i => V.bl (isWord (ws[i]?.getD ("" : Str)) && !decide ((ws[i]?.getD ("" : Str)) = b))) = (ws.map fun x => isWord x && !decide (x = b)).map V.bl := by
          rw [hlen, List.map_map]
          refine range_map ws _ _ fun i x h => ?_
          rw [h]
          rfl
        rw [el] at hd
        refine ⟨D, _, rfl, SqL.of hd, ?_⟩
        have eall : (ws.map fun x => isWord x && !decide (x = b)).all id = ws.all fun x => isWord x && !decide (x = b) := by rw [List.all_map]; rfl
        rw [eall]
        have h4 : decide (ws.length ≤ 4) = true := decide_eq_true (by omega)
        have eT : isFurther ws b = ((ws.all fun x => isWord x && !decide (x = b)) && decide ws.Nodup) := by
          unfold isFurther
          rw [h4, Bool.true_and]
        cases h2 : ws.all fun x => isWord x && !decide (x = b) with
        | false =>
          repeat walk_at "g1"
          have q := k H1 s1
          rw [eT, h2, Bool.false_and] at q
          exact q
        | true =>
          repeat walk_at "g1"
          refine ⟨a, ws, rfl, s1.seqT hS, by omega, fun p ks hp hnd hks => ?_⟩
          obtain ⟨n1, n2⟩ := nodup_eq hnd hks
          refine ⟨p, _, ks.length, rfl, upd_same, by omega, ?_⟩
          have s2 := s1.trans (same_new (o := SetSO P w p (fun j => decide (j ∈ ws)) ks.length) hp)
          refine ⟨_, rfl, a, _, rfl, .inr (s2.seqT hS), ?_⟩
          have q := k _ s2
          rw [eT, h2, Bool.true_and] at q
          refine ⟨rfl, ?_⟩
          have e : decide (V.int (ks.length : Int) = V.int ((ws.map V.str).length : Int)) = decide ws.Nodup := by
            rw [hlen]
            by_cases z : ws.Nodup
            · rw [decide_eq_true z, decide_eq_true (by rw [n2.mpr z])]
            · rw [decide_eq_false z, decide_eq_false fun y => z (n2.mp (by have := V.int.inj y; omega))]
          rw [e]
          exact q
end
section
local macro_rules | `(tactic| walk_at "sl") => `(tactic| first | assumption | exact SqL.of upd_same | exact SqL.of (by assumption) | ((with_reducible apply sql_upd); (walk_at "sl"); (first | assumption | exact Ne.symm (by assumption))))
local macro_rules | `(tactic| walk_at "st") => `(tactic| first | assumption | exact SqT.of upd_same | exact SqT.of (by assumption))
local macro_rules | `(tactic| walk_at "sc") => `(tactic| first | rfl | assumption | (show (0 : Int) < _; first | assumption | decide | omega) | exact Or.inl ⟨by omega, by omega⟩ | exact Or.inr ⟨by omega, by omega⟩ | exact ⟨by decide, by decide⟩ | exact ⟨by decide, by decide, by decide⟩)
local macro_rules | `(tactic| walk_at "g1") => `(tactic| first
  | refine ⟨(_ : V), rfl, ?_⟩
  | refine ⟨(_ : Bool), rfl, ?_⟩
  | refine ⟨(_ : Int), (_ : Int), rfl, rfl, ?_⟩
  | refine ⟨(_ : Int), rfl, ?_⟩
  | refine ⟨(_ : Str), rfl, ?_⟩
  | refine ⟨(_ : Addr), (_ : List V), rfl, Or.inl (by walk_at "sl"), ?_⟩
  | refine ⟨(_ : Addr), (_ : List V), rfl, Or.inr (by walk_at "st"), ?_⟩
  | refine ⟨(_ : Addr), (_ : List V), (_ : Int), (_ : V), rfl, rfl, (by walk_at "sl"), (by first | rfl | assumption), ?_⟩
  | refine ⟨(_ : Addr), (_ : List V), (_ : Int), (_ : V), rfl, rfl, (by walk_at "st"), (by first | rfl | assumption), ?_⟩
  | refine ⟨(_ : Addr), (_ : List V), (_ : Int), (_ : Nat), rfl, rfl, upd_same, rfl, ?_⟩
  | refine ⟨(_ : Addr), (_ : List V), (_ : Int), (_ : Nat), rfl, rfl, (by assumption), rfl, ?_⟩
  | refine ⟨(_ : Addr), (_ : Addr), (_ : Addr), (_ : List (Str × V)), (_ : V), rfl, (by assumption), (by assumption), (by assumption), (by first | assumption | rfl), ?_⟩
  | refine Or.inl ⟨(_ : Int), rfl, ?_⟩
  | refine And.intro (by walk_at "sc") ?_
  | refine iteT ?_
  | refine iteF ?_)
/-! ### cards -/
structure CD where
  heading : Str
  books : List Int
  see : Str
  also : List Str
/-- a card that is as it must be -/
structure CD.Good (c : CD) : Prop where
  h : isWord c.heading = true
  b : isBooks c.books = true
  t : isTarget c.see c.heading = true
  e : c.see = "" ∨ (c.books = [] ∧ c.also = [])
  a : isFurther c.also c.heading = true
theorem CD.Good.lh {c : CD} (g : c.Good) : c.heading.length ≤ 8 := by
  have q := g.h
  unfold isWord at q
  rw [Bool.and_eq_true, Bool.and_eq_true] at q
  have := of_decide_eq_true q.1.2
  omega
theorem word_len {x : Str} (g : isWord x = true) : x.length ≤ 8 := by
  unfold isWord at g
  rw [Bool.and_eq_true, Bool.and_eq_true] at g
  have := of_decide_eq_true g.1.2
  omega
theorem CD.Good.ls {c : CD} (g : c.Good) : c.see.length ≤ 8 := by
  have q := g.t
  unfold isTarget at q
  rw [Bool.or_eq_true, Bool.and_eq_true] at q
  rcases q with q | q
  · rw [of_decide_eq_true q]
    decide
  · exact word_len q.1
theorem CD.Good.lb {c : CD} (g : c.Good) : c.books.length ≤ 6 := by
  have q := g.b
  unfold isBooks at q
  rw [Bool.and_eq_true, Bool.and_eq_true] at q
  exact of_decide_eq_true q.1.1
theorem CD.Good.la {c : CD} (g : c.Good) : c.also.length ≤ 4 := by
  have q := g.a
  unfold isFurther at q
  rw [Bool.and_eq_true, Bool.and_eq_true] at q
  exact of_decide_eq_true q.1.1
theorem CD.Good.wa {c : CD} (g : c.Good) : ∀ x ∈ c.also, isWord x = true := fun x hx => by
  have q := g.a
  unfold isFurther at q
  rw [Bool.and_eq_true, Bool.and_eq_true] at q
  have q2 := List.all_eq_true.mp q.1.2 x hx
  rw [Bool.and_eq_true] at q2
  exact q2.1
def spWrongPart (K : PySem.W.Frag) : Sp := fun vs H Q _ => ∃ (c : CD) (b a : Addr), vs = [.str c.heading, .ref b, .str c.see, .ref a] ∧ c.Good ∧ SqT K H b (c.books.map V.int) ∧ SqT K H a (c.also.map V.str) ∧ c.also.length ≤ 4 ∧ ∀ H', Same H H' → Q .non H'
theorem ok_wrong_part (T : Top K mg) : FnOk P w K mg base CX0 3 T.a_wrong_part T.fd_wrong_part ["heading", "books", "see", "also"] (spWrongPart K) := by
  refine T.F_wrong_part.ok sc_wrong_part (fun vs H Q E h => ?_) (fun cdv A outer s H vs Q E hr h => ?_)
  · obtain ⟨c, b, a, rfl, _⟩ := h
    rfl
  · obtain ⟨c, b, a, rfl, g, hB, hA, hl, k⟩ := h
    have hu := hu_of hr
    refine ⟨_, (pss_cons (ps_if (pt_not (pt_val (pe_call (ok_is_word T) (hr.mono (by decide)) (by rfl) T.g_is_word T.F_is_word.kp (b_is_word T) .nil pass0 (pa_cons (pv 0) pa_nil)))) (pss_one (ps_ret pe_str)) pss_nil)
      (pss_cons (ps_if (pt_not (pt_val (pe_call (ok_are_books T) (hr.mono (by decide)) (by rfl) T.g_are_books T.F_are_books.kp (b_are_books T) .nil pass0 (pa_cons (pv 1) pa_nil)))) (pss_one (ps_ret pe_str)) pss_nil)
      (pss_cons (ps_if (pt_not (pt_val (pe_call (ok_is_target T) (hr.mono (by decide)) (by rfl) T.g_is_target T.F_is_target.kp (b_is_target T) .nil pass0 (pa_cons (pv 2) (pa_cons (pv 0) pa_nil))))) (pss_one (ps_ret pe_str)) pss_nil)
      (pss_cons (ps_if (PW.pt (pw_and (pt_cmpR op_ne (pv 2) pe_str (nomark _)) (pw_and1 (PW.pt (pw_or (pt_cmpR (op_neD hr.units) (pv 1) (pe_tup pa_nil) (nomark _)) (pw_or1 (pt_cmpR (op_neD hr.units) (pv 3) (pe_tup pa_nil) (nomark _)))))))) (pss_one (ps_ret pe_str)) pss_nil)
      (pss_cons (ps_if (pt_not (pt_val (pe_call (ok_are_further T) (hr.mono (by decide)) (by rfl) T.g_are_further T.F_are_further.kp (b_are_further T) .nil pass0 (pa_cons (pv 3) (pa_cons (pv 0) pa_nil))))) (pss_one (ps_ret pe_str)) pss_nil)
      (pss_one (ps_ret pe_non))))))), ?_⟩
    have l1 := g.lh
    have l2 := g.ls
    have l3 := g.lb
    refine ⟨_, rfl, c.heading, rfl, by omega, fun H1 s1 => ?_⟩
    rw [g.h]
    repeat walk_at "g1"
    refine ⟨b, c.books, rfl, s1.seqT hB, by omega, fun H2 s2 => ?_⟩
    rw [g.b]
    have s12 := s1.trans s2
    repeat walk_at "g1"
    refine ⟨c.see, c.heading, rfl, by omega, fun H3 s3 => ?_⟩
    rw [g.t]
    have s13 := s12.trans s3
    repeat walk_at "g1"
    by_cases hs : c.see = ""
    · have e : (!decide (V.str c.see = V.str (Str.ofString ""))) = false := by
        rw [hs]
        exact congrArg _ (decide_eq_true rfl)
      rw [e]
      refine iteF ?_
      repeat walk_at "g1"
      refine ⟨a, c.also, c.heading, rfl, s13.seqT hA, hl, fun x hx => by have := word_len (g.wa x hx); omega, fun H5 s5 => ?_⟩
      rw [g.a]
      repeat walk_at "g1"
      exact k H5 (s13.trans s5)
    · have e : (!decide (V.str c.see = V.str (Str.ofString ""))) = true := by
        have q : decide (V.str c.see = V.str (Str.ofString "")) = false := decide_eq_false fun z => hs (V.str.inj z)
        rw [q]
        rfl
      rw [e]
      refine iteT ?_
      obtain ⟨eb, ea⟩ := g.e.resolve_left hs
      refine ⟨_, rfl, Nat.zero_le _, fun p hp => ⟨.tuple (c.books.map .int), .tuple [], dp_tInts ((same_new hp).seqT (s13.seqT hB)), dp_nil (SqT.of upd_same), sh_tInts _, rfl, ?_⟩⟩
      rw [eb]
      repeat walk_at "g1"
      refine ⟨Nat.zero_le _, fun p2 hp2 => ⟨.tuple (c.also.map .str), .tuple [], dp_tStrs ((same_new hp2).seqT ((same_new hp).seqT (s13.seqT hA))), dp_nil (SqT.of upd_same), ?_, rfl, ?_⟩⟩
      · rw [ea]
        rfl
      rw [ea]
      repeat walk_at "g1"
      have s15 := (s13.trans (same_new (o := .tup []) hp)).trans (same_new (o := .tup []) hp2)
      repeat walk_at "g1"
      refine ⟨a, c.also, c.heading, rfl, s15.seqT hA, hl, fun x hx => by have := word_len (g.wa x hx); omega, fun H5 s5 => ?_⟩
      rw [g.a]
      repeat walk_at "g1"
      exact k H5 (s15.trans s5)

/-! ### a card as it stands -/
def cardFlds (h b s a : V) : List (Str × V) := putF "_also" a (putF "_see" s (putF "_books" b (putF "_heading" h [])))
theorem cf_eq (h b s a : V) : cardFlds h b s a = ([(("_heading" : Str), h), (("_books" : Str), b), (("_see" : Str), s), (("_also" : Str), a)] : List (Str × V)) := by
  rfl
theorem cf_heading (h b s a : V) : (cardFlds h b s a).lookup ("_heading" : Str) = some h := by rw [cf_eq]; rfl
theorem cf_books (h b s a : V) : (cardFlds h b s a).lookup ("_books" : Str) = some b := by rw [cf_eq]; rfl
theorem cf_see (h b s a : V) : (cardFlds h b s a).lookup ("_see" : Str) = some s := by rw [cf_eq]; rfl
theorem cf_also (h b s a : V) : (cardFlds h b s a).lookup ("_also" : Str) = some a := by rw [cf_eq]; rfl
/-- the card c of the class C stands at p -/
def CardAt (K : PySem.W.Frag) (C : Addr) (H : Hp) (p : Addr) (c : CD) : Prop := ∃ (dx b a : Addr), H p = some (.ins C dx (cardFlds (.str c.heading) (.ref b) (.str c.see) (.ref a))) ∧ SqT K H b (c.books.map V.int) ∧ SqT K H a (c.also.map V.str)
theorem CardAt.imm {C : Addr} {H H' : Hp} {p : Addr} {c : CD} (h : CardAt K C H p c) (s : Imm H H') : CardAt K C H' p c := by
  obtain ⟨dx, b, a, h1, h2, h3⟩ := h
  exact ⟨dx, b, a, s _ _ h1 rfl, s.seqT h2, s.seqT h3⟩
theorem CardAt.same {C : Addr} {H H' : Hp} {p : Addr} {c : CD} (h : CardAt K C H p c) (s : Same H H') : CardAt K C H' p c := h.imm s.imm
def spCardInit (K : PySem.W.Frag) (C : Addr) : Sp := fun vs H Q _ => ∃ (p dx : Addr) (c : CD) (b a : Addr), vs = [.ref p, .str c.heading, .ref b, .str c.see, .ref a] ∧ H p = some (.ins C dx []) ∧ c.Good ∧ SqT K H b (c.books.map V.int) ∧ SqT K H a (c.also.map V.str) ∧ c.also.length ≤ 4 ∧
  ∀ H', But p H H' → CardAt K C H' p c → Q .non H'
theorem But.upd2 {r : Addr} {H H1 : Hp} {o : HO} (a : But r H H1) : But r H (L2.upd H1 r o) := a.upd
theorem ok_Card_init (T : Top K mg) : FnOk P w K mg base CX0 4 T.a_Card_init T.fd_Card_init ["self", "heading", "books", "see", "also"] (spCardInit K T.c_Card) := by
  refine T.F_Card_init.ok sc_Card_init (fun vs H Q E h => ?_) (fun cdv A outer s H vs Q E hr h => ?_)
  · obtain ⟨p, dx, c, b, a, rfl, _⟩ := h
    rfl
  · obtain ⟨p, dx, c, b, a, rfl, hp, g, hB, hA, hl, k⟩ := h
    have hu := hu_of hr
    refine ⟨_, PSs.nox (pss_cons (ps_set (i := 5) sc_Card_init.nd rfl (.inl rfl) (pe_call (ok_wrong_part T) (hr.mono (by decide)) (by rfl) T.g_wrong_part T.F_wrong_part.kp (b_wrong_part T) .nil pass0 (pa_cons (pv 1) (pa_cons (pv 2) (pa_cons (pv 3) (pa_cons (pv 4) pa_nil))))))
      (pss_cons (ps_if (pt_cmpR op_notN (pv 5) pe_non (nomark _)) (pss_one (ps_never)) pss_nil)
      (pss_cons (ps_fld (pv 0) (pv 1) rfl)
      (pss_cons (ps_fld (pv 0) (pv 2) rfl)
      (pss_cons (ps_fld (pv 0) (pv 3) rfl)
      (pss_one (ps_fld (pv 0) (pv 4) rfl))))))), ?_⟩
    repeat walk_at "g1"
    refine ⟨c, b, a, rfl, g, hB, hA, hl, fun H1 s1 => ?_⟩
    repeat walk_at "g1"
    have hp1 := s1 _ _ hp
    refine ⟨p, T.c_Card, dx, [], rfl, hp1, T.cl_Card, T.n_Card__heading, (by show 0 < 1000; decide), ?_⟩
    repeat walk_at "g1"
    refine ⟨p, T.c_Card, dx, _, rfl, upd_same, T.cl_Card, T.n_Card__books, (by show 1 < 1000; decide), ?_⟩
    repeat walk_at "g1"
    refine ⟨p, T.c_Card, dx, _, rfl, upd_same, T.cl_Card, T.n_Card__see, (by show 2 < 1000; decide), ?_⟩
    repeat walk_at "g1"
    refine ⟨p, T.c_Card, dx, _, rfl, upd_same, T.cl_Card, T.n_Card__also, (by show 3 < 1000; decide), ?_⟩
    have nb : ∀ {q : Addr} {xs : List V}, SqT K H1 q xs → q ≠ p ∨ True := fun _ => .inr True.intro
    have st : ∀ {q : Addr} {xs : List V} {o : HO}, SqT K H1 q xs → SqT K (upd H1 p o) q xs := fun {q xs o} h => by
      rcases h with (h | ⟨u, h⟩) | h
      · exact .inl (.inl (by rw [upd_ne (ne_of h hp1 (by intro z; cases z))]; exact h))
      · exact .inl (.inr ⟨u, by rw [upd_ne (ne_of h hp1 (by intro z; cases z))]; exact h⟩)
      · exact .inr h
    have e4 : ∀ o1 o2 o3 o4 : HO, upd (upd (upd (upd H1 p o1) p o2) p o3) p o4 = upd H1 p o4 := fun o1 o2 o3 o4 => by rw [upd_upd, upd_upd, upd_upd]
    show Q .non (upd (upd (upd (upd H1 p _) p _) p _) p _)
    rw [e4]
    refine k _ (fun q o h n => ?_) ⟨dx, b, a, upd_same, st (s1.seqT hB), st (s1.seqT hA)⟩
    rw [upd_ne n]
    exact s1 _ _ h
/-! ### what a card tells -/
def spGet (K : PySem.W.Frag) (C : Addr) (f : Str) : Sp := fun vs H Q _ => ∃ (p dx : Addr) (fs : List (Str × V)) (v : V), vs = [.ref p] ∧ H p = some (.ins C dx fs) ∧ fs.lookup f = some v ∧ Q v H
theorem ok_Card_heading (T : Top K mg) : FnOk P w K mg base CX0 1 T.a_Card_heading T.fd_Card_heading ["self"] (spGet K T.c_Card "_heading") := by
  refine T.F_Card_heading.ok sc_Card_heading (fun vs H Q E h => ?_) (fun cdv A outer s H vs Q E hr h => ?_)
  · obtain ⟨p, dx, fs, v, rfl, _⟩ := h
    rfl
  · obtain ⟨p, dx, fs, v, rfl, hp, hv, k⟩ := h
    exact ⟨_, (pss_one (ps_ret (pe_fld (pv 0) rfl))), _, rfl, p, _, dx, fs, v, rfl, hp, T.cl_Card, T.n_Card__heading, hv, k⟩
end
section
local macro_rules | `(tactic| walk_at "sl") => `(tactic| first | assumption | exact SqL.of upd_same | exact SqL.of (by assumption) | ((with_reducible apply sql_upd); (walk_at "sl"); (first | assumption | exact Ne.symm (by assumption))))
local macro_rules | `(tactic| walk_at "st") => `(tactic| first | assumption | exact SqT.of upd_same | exact SqT.of (by assumption))
local macro_rules | `(tactic| walk_at "sc") => `(tactic| first | rfl | assumption | (show (0 : Int) < _; first | assumption | decide | omega) | exact Or.inl ⟨by omega, by omega⟩ | exact Or.inr ⟨by omega, by omega⟩ | exact ⟨by decide, by decide⟩ | exact ⟨by decide, by decide, by decide⟩)
local macro_rules | `(tactic| walk_at "g1") => `(tactic| first
  | refine ⟨(_ : V), rfl, ?_⟩
  | refine ⟨(_ : Bool), rfl, ?_⟩
  | refine ⟨(_ : Int), (_ : Int), rfl, rfl, ?_⟩
  | refine ⟨(_ : Int), rfl, ?_⟩
  | refine ⟨(_ : Str), rfl, ?_⟩
  | refine ⟨(_ : Addr), (_ : List V), rfl, Or.inl (by walk_at "sl"), ?_⟩
  | refine ⟨(_ : Addr), (_ : List V), rfl, Or.inr (by walk_at "st"), ?_⟩
  | refine ⟨(_ : Addr), (_ : List V), (_ : Int), (_ : V), rfl, rfl, (by walk_at "sl"), (by first | rfl | assumption), ?_⟩
  | refine ⟨(_ : Addr), (_ : List V), (_ : Int), (_ : V), rfl, rfl, (by walk_at "st"), (by first | rfl | assumption), ?_⟩
  | refine ⟨(_ : Addr), (_ : List V), (_ : Int), (_ : Nat), rfl, rfl, upd_same, rfl, ?_⟩
  | refine ⟨(_ : Addr), (_ : List V), (_ : Int), (_ : Nat), rfl, rfl, (by assumption), rfl, ?_⟩
  | refine ⟨(_ : Addr), (_ : Addr), (_ : Addr), (_ : List (Str × V)), (_ : V), rfl, (by assumption), (by assumption), (by assumption), (by first | assumption | rfl), ?_⟩
  | refine Or.inl ⟨(_ : Int), rfl, ?_⟩
  | refine And.intro (by walk_at "sc") ?_
  | refine iteT ?_
  | refine iteF ?_)
/-! ### drawers -/
def drawFlds (t : V) : List (Str × V) := putF "_cards" t []
theorem df_cards (t : V) : (drawFlds t).lookup ("_cards" : Str) = some t := rfl
def Cards (K : PySem.W.Frag) (C : Addr) (H : Hp) (ps : List Addr) (cs : List CD) : Prop := ps.length = cs.length ∧ ∀ (i : Nat) (q : Addr) (c : CD), ps[i]? = some q → cs[i]? = some c → CardAt K C H q c
theorem Cards.imm {C : Addr} {H H' : Hp} {ps : List Addr} {cs : List CD} (h : Cards K C H ps cs) (s : Imm H H') : Cards K C H' ps cs := ⟨h.1, fun i q c h1 h2 => (h.2 i q c h1 h2).imm s⟩
theorem Cards.get {C : Addr} {H : Hp} {ps : List Addr} {cs : List CD} (h : Cards K C H ps cs) {i : Nat} {q : Addr} (hi : ps[i]? = some q) : ∃ c, cs[i]? = some c ∧ CardAt K C H q c := by
  have l := (List.getElem?_eq_some_iff.mp hi).1
  rw [h.1] at l
  exact ⟨cs[i], List.getElem?_eq_getElem l, h.2 i q _ hi (List.getElem?_eq_getElem l)⟩
/-- the drawer of the cards cs stands at p -/
def DrawerAt (K : PySem.W.Frag) (CD' CC : Addr) (H : Hp) (p : Addr) (cs : List CD) : Prop := ∃ (dx t : Addr) (ps : List Addr), H p = some (.ins CD' dx (drawFlds (.ref t))) ∧ SqT K H t (ps.map V.ref) ∧ Cards K CC H ps cs
theorem DrawerAt.imm {D C : Addr} {H H' : Hp} {p : Addr} {cs : List CD} (h : DrawerAt K D C H p cs) (s : Imm H H') : DrawerAt K D C H' p cs := by
  obtain ⟨dx, t, ps, h1, h2, h3⟩ := h
  exact ⟨dx, t, ps, s _ _ h1 rfl, s.seqT h2, h3.imm s⟩
def spDrawerInit (K : PySem.W.Frag) (C : Addr) : Sp := fun vs H Q _ => ∃ (p dx t : Addr) (xs : List V), vs = [.ref p, .ref t] ∧ H p = some (.ins C dx []) ∧ SqT K H t xs ∧ xs.length ≤ 16 ∧
  ∀ H', But p H H' → H' p = some (.ins C dx (drawFlds (.ref t))) → Q .non H'
theorem ok_Drawer_init (T : Top K mg) : FnOk P w K mg base CX0 2 T.a_Drawer_init T.fd_Drawer_init ["self", "cards"] (spDrawerInit K T.c_Drawer) := by
  refine T.F_Drawer_init.ok sc_Drawer_init (fun vs H Q E h => ?_) (fun cdv A outer s H vs Q E hr h => ?_)
  · obtain ⟨p, dx, t, xs, rfl, _⟩ := h
    rfl
  · obtain ⟨p, dx, t, xs, rfl, hp, hT, hl, k⟩ := h
    have hu := hu_of hr
    refine ⟨_, (pss_cons (ps_if (pt_cmpR op_gt (pe_callB call_len_seq (by rfl) T.m_len (by decide +kernel) (pa_cons (pv 1) pa_nil)) (pe_glob rfl T.g_MOST_CARDS T.r_MOST_CARDS) (nomark _)) (pss_one (ps_never)) pss_nil)
      (pss_one (ps_fld (pv 0) (pe_callTy call_tupleT (by rfl) T.m_tuple (by decide +kernel) (pa_cons (pv 1) pa_nil)) rfl))), ?_⟩
    repeat walk_at "g1"
    refine ite2 (fun h1 => ?_) (fun h1 => ?_)
    · have q := of_decide_eq_true h1
      omega
    · repeat walk_at "g1"
      refine ⟨t, xs, rfl, hT, ?_⟩
      repeat walk_at "g1"
      refine ⟨p, T.c_Drawer, dx, [], rfl, hp, T.cl_Drawer, T.n_Drawer__cards, (by show 0 < 1000; decide), ?_⟩
      exact k _ (fun q o h n => by rw [upd_ne n]; exact h) upd_same
theorem ok_Drawer_cards (T : Top K mg) : FnOk P w K mg base CX0 1 T.a_Drawer_cards T.fd_Drawer_cards ["self"] (spGet K T.c_Drawer "_cards") := by
  refine T.F_Drawer_cards.ok sc_Drawer_cards (fun vs H Q E h => ?_) (fun cdv A outer s H vs Q E hr h => ?_)
  · obtain ⟨p, dx, fs, v, rfl, _⟩ := h
    rfl
  · obtain ⟨p, dx, fs, v, rfl, hp, hv, k⟩ := h
    exact ⟨_, (pss_one (ps_ret (pe_fld (pv 0) rfl))), _, rfl, p, _, dx, fs, v, rfl, hp, T.cl_Drawer, T.n_Drawer__cards, hv, k⟩
def heads (cs : List CD) : List Str := cs.map CD.heading
def spHeadings (K : PySem.W.Frag) (D C : Addr) : Sp := fun vs H Q _ => ∃ (p : Addr) (cs : List CD), vs = [.ref p] ∧ DrawerAt K D C H p cs ∧ cs.length ≤ 1000 ∧ ∀ (t : Addr) (H' : Hp), Same H H' → H t = none → H' t = some (.tup ((heads cs).map V.str)) → Q (.ref t) H'
theorem ok_headings_along (T : Top K mg) : FnOk P w K mg base CX0 3 T.a_headings_along T.fd_headings_along ["drawer"] (spHeadings K T.c_Drawer T.c_Card) := by
  refine T.F_headings_along.ok sc_headings_along (fun vs H Q E h => ?_) (fun cdv A outer s H vs Q E hr h => ?_)
  · obtain ⟨p, cs, rfl, _⟩ := h
    rfl
  · obtain ⟨p, cs, rfl, ⟨dx, t, ps, hp, hT, hC⟩, hl, k⟩ := h
    have hu := hu_of hr
    refine ⟨_, (pss_one (ps_ret (pe_callTy call_tuple_of (by rfl) T.m_tuple (by decide +kernel) (pa_cons (pe_lc (own := [("card", 1)]) (g := gName 1) (tt := tYes) rfl sc_headings_along.nd (pi_tup (pe_prop (pv 0) T.cl_Drawer T.P_Drawer_cards (ok_Drawer_cards T) (hr.mono (by decide)) (b_Drawer_cards T) .nil pass0 rfl)) (blkOk_by (N := N_headings_along) (sc := defScope s_headings_along) (by decide +kernel)) (fun _ _ _ _ _ => (pg_name (i := 1) sc_headings_along.nd rfl (.inl rfl))) (fun _ _ _ _ _ => pts_nil) (fun _ _ _ _ _ => (pe_prop (pv 1) T.cl_Card T.P_Card_heading (ok_Card_heading T) (hr.mono (by decide)) (b_Card_heading T) .nil pass0 rfl))) pa_nil)))), ?_⟩
    refine ⟨_, rfl, p, dx, _, rfl, hp, p, dx, _, _, rfl, hp, df_cards _, t, rfl, ⟨_, hT⟩, fun D hD => lc_map walk_tup (by rw [List.length_map, hC.1]; omega) hD (fun i => V.str ((heads cs)[i]?.getD "")) (fun H1 s1 => s1.seqT hT) (fun i x H1 H2 hi s1 hy R r => ?_) (fun H1 s1 hd => ?_) gName_mono⟩
    · obtain ⟨rfl, hx⟩ := hy
      rw [List.getElem?_map] at hx
      obtain ⟨q, hq, rfl⟩ := Option.map_eq_some_iff.mp hx
      obtain ⟨c, hc, ca⟩ := hC.get hq
      obtain ⟨dq, b, a, hq2, _, _⟩ := ca.same s1
      refine ⟨rfl, ?_⟩
      refine ⟨_, rfl, q, dq, _, rfl, hq2, q, dq, _, _, rfl, hq2, cf_heading _ _ _ _, ?_⟩
      have z := r _ (Same.refl _)
      have e : (heads cs)[i]? = some c.heading := by
        unfold heads
        rw [List.getElem?_map, hc]
        rfl
      rw [e] at z
      exact z
    · have el : (List.range (ps.map V.ref).length).map (fun i => V.str ((heads cs)[i]?.getD "")) = (heads cs).map V.str := by
        have e : (ps.map V.ref).length = (heads cs).length := by
          unfold heads
          rw [List.length_map, List.length_map, hC.1]
        rw [e]
        exact range_map (heads cs) _ _ fun i x h => by rw [h]; rfl
      rw [el] at hd
      refine ⟨D, _, rfl, .inl ⟨SqL.of hd, fun u hu' => ?_⟩⟩
      exact k u _ (s1.trans (same_new hu')) (s1.free hu') upd_same

/-- the order of texts -/
def leS (a b : Str) : Bool := !decide (b.cps.toList < a.cps.toList)
def risesBy (ws : List Str) : Bool := (ws.zip (ws.drop 1)).all fun p => leS p.1 p.2
end
section
local macro_rules | `(tactic| walk_at "sl") => `(tactic| first | assumption | exact SqL.of upd_same | exact SqL.of (by assumption) | ((with_reducible apply sql_upd); (walk_at "sl"); (first | assumption | exact Ne.symm (by assumption))))
local macro_rules | `(tactic| walk_at "st") => `(tactic| first | assumption | exact SqT.of upd_same | exact SqT.of (by assumption))
local macro_rules | `(tactic| walk_at "sc") => `(tactic| first | rfl | assumption | (show (0 : Int) < _; first | assumption | decide | omega) | exact Or.inl ⟨by omega, by omega⟩ | exact Or.inr ⟨by omega, by omega⟩ | exact ⟨by decide, by decide⟩ | exact ⟨by decide, by decide, by decide⟩)
local macro_rules | `(tactic| walk_at "g1") => `(tactic| first
  | refine ⟨(_ : V), rfl, ?_⟩
  | refine ⟨(_ : Bool), rfl, ?_⟩
  | refine ⟨(_ : Int), (_ : Int), rfl, rfl, ?_⟩
  | refine ⟨(_ : Int), rfl, ?_⟩
  | refine ⟨(_ : Str), rfl, ?_⟩
  | refine ⟨(_ : Addr), (_ : List V), rfl, Or.inl (by walk_at "sl"), ?_⟩
  | refine ⟨(_ : Addr), (_ : List V), rfl, Or.inr (by walk_at "st"), ?_⟩
  | refine ⟨(_ : Addr), (_ : List V), (_ : Int), (_ : V), rfl, rfl, (by walk_at "sl"), (by first | rfl | assumption), ?_⟩
  | refine ⟨(_ : Addr), (_ : List V), (_ : Int), (_ : V), rfl, rfl, (by walk_at "st"), (by first | rfl | assumption), ?_⟩
  | refine ⟨(_ : Addr), (_ : List V), (_ : Int), (_ : Nat), rfl, rfl, upd_same, rfl, ?_⟩
  | refine ⟨(_ : Addr), (_ : List V), (_ : Int), (_ : Nat), rfl, rfl, (by assumption), rfl, ?_⟩
  | refine ⟨(_ : Addr), (_ : Addr), (_ : Addr), (_ : List (Str × V)), (_ : V), rfl, (by assumption), (by assumption), (by assumption), (by first | assumption | rfl), ?_⟩
  | refine Or.inl ⟨(_ : Int), rfl, ?_⟩
  | refine And.intro (by walk_at "sc") ?_
  | refine iteT ?_
  | refine iteF ?_)
/-- the script: never the row -/
def Scr (K : PySem.W.Frag) (H : Hp) (r sc : Addr) (xs : List V) : Prop := (SqL K H sc xs ∧ sc ≠ r) ∨ ∀ H' : Hp, SqL K H' sc xs
theorem Scr.upd {H : Hp} {r sc : Addr} {xs : List V} {o : HO} (h : Scr K H r sc xs) : Scr K (L2.upd H r o) r sc xs := h.imp (fun z => ⟨sql_upd z.1 z.2, z.2⟩) id
theorem Scr.sql {H : Hp} {r sc : Addr} {xs : List V} (h : Scr K H r sc xs) : SqL K H sc xs := h.elim (fun z => z.1) fun z => z H
theorem Scr.new {H : Hp} {r sc : Addr} {xs : List V} {o : HO} (h : SqL K H sc xs) (hr : H r = none) : Scr K (L2.upd H r o) r sc xs := by
  rcases h with (h | ⟨u, h⟩) | h
  · exact .inl ⟨sql_upd (.inl (.inl h)) (ne_of_none h hr), ne_of_none h hr⟩
  · exact .inl ⟨sql_upd (.inl (.inr ⟨u, h⟩)) (ne_of_none h hr), ne_of_none h hr⟩
  · exact .inr fun H' => .inr h
local macro_rules | `(tactic| walk_at "sl") => `(tactic| first | exact Scr.sql (by assumption) | exact Scr.sql (Scr.upd (by assumption)) | exact Scr.sql (Scr.upd (Scr.upd (by assumption))) | exact Scr.sql (Scr.upd (Scr.upd (Scr.upd (by assumption)))))
/-- the law's row: the script, how many were taken, the seed, what is left of a great cell -/
def RowAt (K : PySem.W.Frag) (H : Hp) (r sc : Addr) (ns : List Int) : Prop := ∃ (n1 : Nat) (n2 n3 : Int), H r = some (.lst [.ref sc, .int n1, .int n2, .int n3]) ∧ Scr K H r sc (ns.map V.int) ∧ 0 ≤ n2 ∧ n2 < 2147483647
theorem RowAt.same {H H' : Hp} {r sc : Addr} {ns : List Int} (h : RowAt K H r sc ns) (s : Same H H') : RowAt K H' r sc ns := by
  obtain ⟨n1, n2, n3, h1, h2, h3⟩ := h
  exact ⟨n1, n2, n3, s _ _ h1, h2.imp (fun z => ⟨s.seq z.1, z.2⟩) id, h3⟩
theorem RowAt.at {H : Hp} {r sc : Addr} {ns : List Int} (h : RowAt K H r sc ns) : ∃ o, H r = some o ∧ immO o = false := by
  obtain ⟨n1, n2, n3, h1, _⟩ := h
  exact ⟨_, h1, rfl⟩
theorem RowAt.new {H : Hp} {r sc D : Addr} {ns : List Int} (h : RowAt K H r sc ns) (hD : H D = none) : D ≠ r ∧ (sc ≠ D ∨ ∀ H' : Hp, SqL K H' sc (ns.map V.int)) := by
  obtain ⟨n1, n2, n3, h1, h2, _⟩ := h
  refine ⟨fun e => (by rw [e, h1] at hD; cases hD), ?_⟩
  rcases h2 with ⟨(h | ⟨u, h⟩) | h, _⟩ | h
  · exact .inl (ne_of_none h hD)
  · exact .inl (ne_of_none h hD)
  · exact .inr fun H' => .inr h
  · exact .inr h
theorem RowAt.mut {H : Hp} {r sc D : Addr} {ns : List Int} {o : HO} (h : RowAt K H r sc ns) (hD : D ≠ r ∧ (sc ≠ D ∨ ∀ H' : Hp, SqL K H' sc (ns.map V.int))) : RowAt K (upd H D o) r sc ns := by
  obtain ⟨n1, n2, n3, h1, h2, h3⟩ := h
  refine ⟨n1, n2, n3, kn h1 hD.1.symm, ?_, h3⟩
  rcases hD.2 with h | h
  · exact h2.imp (fun z => ⟨sql_upd z.1 h, z.2⟩) id
  · exact .inr h
def spTaken (K : PySem.W.Frag) : Sp := fun vs H Q _ => ∃ (r sc : Addr) (ns : List Int) (m : Int), vs = [.ref r, .int m] ∧ 0 < m ∧ m < 1000 ∧ RowAt K H r sc ns ∧ ∀ (i : Nat) (H' : Hp), (i : Int) < m → But r H H' → RowAt K H' r sc ns → Q (.int i) H'
theorem ok_llaw_taken (T : Top K mg) : FnOk P w K mg base CX0 1 T.a_llaw_taken T.fd_llaw_taken ["_law_row", "_law_many"] (spTaken K) := by
  refine T.F_llaw_taken.ok sc_llaw_taken (fun vs H Q E h => ?_) (fun cdv A outer s H vs Q E hr h => ?_)
  · obtain ⟨r, sc, ns, m, rfl, _⟩ := h
    rfl
  · obtain ⟨r, sc, ns, m, rfl, hm0, hm1, ⟨n1, n2, n3, hR, hX, h2, h3⟩, k⟩ := h
    have hu := hu_of hr
    have hdv : ∀ i : Int, CDivW i m := fun i => wide_div (b := 10) hm0 (by omega) (by decide) (by decide)
    have hin : ∀ x : Int, ∃ i : Nat, (i : Int) < m ∧ V.int (x % m) = V.int i := fun x => ⟨(x % m).toNat, by
      have h1 := Int.emod_nonneg x (Int.ne_of_gt hm0)
      have h2 := Int.emod_lt_of_pos x hm0
      omega, by
      have h1 := Int.emod_nonneg x (Int.ne_of_gt hm0)
      rw [Int.toNat_of_nonneg h1]⟩
    have hmd : ∀ x : Int, 0 ≤ x % 2147483647 ∧ x % 2147483647 < 2147483647 := fun x => ⟨Int.emod_nonneg x (by decide), Int.emod_lt_of_pos x (by decide)⟩
    refine ⟨_, (pss_cons (ps_if (pt_cmpR op_gt (pe_ix ix_list (pv 0) pe_int (fun _ _ => rfl)) pe_int (nomark _)) (pss_cons (ps_set (i := 2) sc_llaw_taken.nd rfl (.inl rfl) (pe_op op_mod (pe_callTy call_int1 (by rfl) T.m_int (by decide +kernel) (pa_cons (pe_ix ix_list (pv 0) pe_int (fun _ _ => rfl)) pa_nil)) (pv 1)))
        (pss_cons (ps_asg (pe_op op_fdivW (pe_ix ix_list (pv 0) pe_int (fun _ _ => rfl)) (pv 1)) (pg_sub (pv 0) pe_int set_list))
        (pss_one (ps_ret (pv 2))))) pss_nil)
      (pss_cons (ps_asg (pe_op op_add (pe_ix ix_list (pv 0) pe_int (fun _ _ => rfl)) pe_int) (pg_sub (pv 0) pe_int set_list))
      (pss_cons (ps_if (pt_cmpR op_gt (pe_ix ix_list (pv 0) pe_int (fun _ _ => rfl)) (pe_callB call_len_seq (by rfl) T.m_len (by decide +kernel) (pa_cons (pe_ix ix_list (pv 0) pe_int (fun _ _ => rfl)) pa_nil)) (nomark _)) (pss_cons (ps_asg (pe_op op_mod (pe_callTy call_int1 (by rfl) T.m_int (by decide +kernel) (pa_cons (pe_op op_add (pe_op op_mul (pe_ix ix_list (pv 0) pe_int (fun _ _ => rfl)) pe_int) pe_int) pa_nil)) pe_int) (pg_sub (pv 0) pe_int set_list))
        (pss_one (ps_ret (pe_op op_mod (pe_callTy call_int1 (by rfl) T.m_int (by decide +kernel) (pa_cons (pe_op op_fdiv (pe_ix ix_list (pv 0) pe_int (fun _ _ => rfl)) pe_int) pa_nil)) (pv 1))))) pss_nil)
      (pss_cons (ps_set (i := 3) sc_llaw_taken.nd rfl (.inl rfl) (pe_ix ix_list (pe_ix ix_list (pv 0) pe_int (fun _ _ => rfl)) (pe_op op_sub (pe_ix ix_list (pv 0) pe_int (fun _ _ => rfl)) pe_int) (fun _ _ => rfl)))
      (pss_cons (ps_asg (pe_op op_mod (pe_callTy call_int1 (by rfl) T.m_int (by decide +kernel) (pa_cons (pe_op op_add (pe_op op_add (pe_op op_mul (pe_ix ix_list (pv 0) pe_int (fun _ _ => rfl)) pe_int) (pv 3)) pe_int) pa_nil)) pe_int) (pg_sub (pv 0) pe_int set_list))
      (pss_cons (ps_asg (pe_ifExp (pt_cmpR op_ge (pv 3) (pe_op op_pow pe_int pe_int) (nomark _)) (pe_op op_fdivW (pv 3) (pv 1)) pe_int) (pg_sub (pv 0) pe_int set_list))
      (pss_one (ps_ret (pe_op op_mod (pe_callTy call_int1 (by rfl) T.m_int (by decide +kernel) (pa_cons (pv 3) pa_nil)) (pv 1)))))))))), ?_⟩
    have hd3 := hdv n3
    repeat walk_at "g1"
    refine ite2 (fun _ => ?_) (fun _ => ?_)
    · repeat walk_at "g1"
      obtain ⟨i, hi, e⟩ := hin n3
      show Q (V.int (n3 % m)) _
      rw [e]
      exact k i _ hi But.refl.upd ⟨n1, n2, _, upd_same, hX.upd, h2, h3⟩
    · repeat walk_at "g1"
      have hx := hmd (n2 * 48271 + 11)
      refine ite2 (fun _ => ?_) (fun hlt => ?_)
      · repeat walk_at "g1"
        obtain ⟨i, hi, e⟩ := hin ((n2 * 48271 + 11) % 2147483647 / 7)
        show Q (V.int ((n2 * 48271 + 11) % 2147483647 / 7 % m)) _
        rw [e]
        exact k i _ hi But.refl.upd.upd ⟨n1 + 1, _, n3, upd_same, hX.upd.upd, hx.1, hx.2⟩
      · have hlt' : ¬ ((((ns.map V.int).length : Nat) : Int) < (n1 : Int) + 1) := fun z => hlt (decide_eq_true z)
        rw [List.length_map] at hlt'
        have hn1 : n1 < ns.length := by omega
        have hat : atI (ns.map V.int) ((n1 : Int) + 1 - 1) = some (.int ns[n1]) := by
          rw [Int.add_sub_cancel]
          exact atI_nat (by rw [List.getElem?_map, List.getElem?_eq_getElem hn1]; rfl)
        have hx := hmd (n2 * 48271 + ns[n1] + 11)
        have hdc := hdv ns[n1]
        obtain ⟨i, hi, e⟩ := hin ns[n1]
        repeat walk_at "g1"
        refine ite2 (fun _ => ?_) (fun _ => ?_)
        all_goals
          repeat walk_at "g1"
          show Q (V.int (ns[n1] % m)) _
          rw [e]
          exact k i _ hi But.refl.upd.upd.upd ⟨n1 + 1, _, _, upd_same, hX.upd.upd.upd, hx.1, hx.2⟩

def spPick (K : PySem.W.Frag) : Sp := fun vs H Q _ => ∃ (r sc l : Addr) (ns : List Int) (xs : List V), vs = [.ref r, .ref l] ∧ RowAt K H r sc ns ∧ SqL K H l xs ∧ l ≠ r ∧ 0 < xs.length ∧ xs.length < 1000 ∧ ∀ (i : Nat) (x : V) (H' : Hp), xs[i]? = some x → But r H H' → RowAt K H' r sc ns → Q x H'
theorem ok_llaw_pick (T : Top K mg) : FnOk P w K mg base CX0 2 T.a_llaw_pick T.fd_llaw_pick ["_law_row", "_law_some"] (spPick K) := by
  refine T.F_llaw_pick.ok sc_llaw_pick (fun vs H Q E h => ?_) (fun cdv A outer s H vs Q E hr h => ?_)
  · obtain ⟨r, sc, l, ns, xs, rfl, _⟩ := h
    rfl
  · obtain ⟨r, sc, l, ns, xs, rfl, hR, hL, hne, h0, h1, k⟩ := h
    have hu := hu_of hr
    refine ⟨_, (pss_one (ps_ret (pe_ix ix_list (pv 1) (pe_call (ok_llaw_taken T) (hr.mono (by decide)) (by rfl) T.g_llaw_taken T.F_llaw_taken.kp (b_llaw_taken T) .nil pass0 (pa_cons (pv 0) (pa_cons (pe_callB call_len_seq (by rfl) T.m_len (by decide +kernel) (pa_cons (pv 1) pa_nil)) pa_nil))) (fun _ _ => rfl)))), ?_⟩
    repeat walk_at "g1"
    refine ⟨r, sc, ns, xs.length, rfl, by omega, by omega, hR, fun i H' hi hb hR' => ?_⟩
    have hi' : i < xs.length := by omega
    refine ⟨l, xs, i, xs[i], rfl, rfl, hb.seq hne hL, atI_nat (List.getElem?_eq_getElem hi'), ?_⟩
    exact k i _ H' (List.getElem?_eq_getElem hi') hb hR'
/-! ### the law's cards, its drawer -/
theorem kb_Card (T : Top K mg) : KBn K T.fd_Card_init ["self", "heading", "books", "see", "also"] 2 ["books", "see", "also"] (fun us ws => us ++ ws) (fun vs zs => vs ++ zs) := by
  obtain ⟨its, h⟩ := T.F_Card_init.kbindsD (ps := ["self", "heading", "books", "see", "also"]) 2 ["books", "see", "also"] (fun us _ ws => us ++ ws) (by simp) (fun r1 r2 r3 => r1.append r3)
    (fun T kV doc pm an cdv ct us its ws l1 l2 l3 => match us, its, ws, l1, l2, l3 with | [_, _], [_, _, _], [_, _, _], _, _, _ => ⟨_, rfl, rfl⟩)
  exact h
/-- the tuple of a card's parts -/
def ItemAt (K : PySem.W.Frag) (H : Hp) (v : V) (c : CD) : Prop := ∃ (t b a : Addr), v = .ref t ∧ SqT K H t [.str c.heading, .ref b, .str c.see, .ref a] ∧ SqT K H b (c.books.map V.int) ∧ SqT K H a (c.also.map V.str)
theorem ItemAt.imm {H H' : Hp} {v : V} {c : CD} (h : ItemAt K H v c) (s : Imm H H') : ItemAt K H' v c := by
  obtain ⟨t, b, a, e, h1, h2, h3⟩ := h
  exact ⟨t, b, a, e, s.seqT h1, s.seqT h2, s.seqT h3⟩
def Items (K : PySem.W.Frag) (H : Hp) (xs : List V) (cs : List CD) : Prop := xs.length = cs.length ∧ ∀ (i : Nat) (v : V) (c : CD), xs[i]? = some v → cs[i]? = some c → ItemAt K H v c
theorem Items.imm {H H' : Hp} {xs : List V} {cs : List CD} (h : Items K H xs cs) (s : Imm H H') : Items K H' xs cs := ⟨h.1, fun i v c h1 h2 => (h.2 i v c h1 h2).imm s⟩
theorem cards_of {C : Addr} {H : Hp} : ∀ (zs : List (Option V)) (cs : List CD), zs.length = cs.length → (∀ (i : Nat) (z : Option V), zs[i]? = some z → ∃ c q, cs[i]? = some c ∧ z = some (V.ref q) ∧ CardAt K C H q c) → ∃ ps : List Addr, zs.filterMap id = ps.map V.ref ∧ Cards K C H ps cs
  | [], [], _, _ => ⟨[], rfl, rfl, fun i q c h _ => by simp at h⟩
  | [], _ :: _, h, _ => by simp at h
  | _ :: _, [], h, _ => by simp at h
  | z :: zs, c :: cs, h, f => by
    obtain ⟨c0, q, h1, rfl, h2⟩ := f 0 z rfl
    obtain rfl : c = c0 := Option.some.inj h1
    obtain ⟨ps, e, l, g⟩ := cards_of zs cs (by simpa using h) fun i z hz => f (i + 1) z hz
    refine ⟨q :: ps, by rw [List.filterMap_cons]; show V.ref q :: zs.filterMap id = _; rw [e]; rfl, by rw [List.length_cons, List.length_cons, l], fun i q' c' h3 h4 => ?_⟩
    cases i with
    | zero =>
      cases h3
      cases h4
      exact h2
    | succ i => exact g i q' c' h3 h4
def spLawDrawer (K : PySem.W.Frag) (D C : Addr) : Sp := fun vs H Q _ => ∃ (l : Addr) (xs : List V) (cs : List CD), vs = [.ref l] ∧ SqL K H l xs ∧ Items K H xs cs ∧ (∀ c ∈ cs, c.Good ∧ c.also.length ≤ 4) ∧ cs.length ≤ 16 ∧ ∀ (q : Addr) (H' : Hp), Same H H' → DrawerAt K D C H' q cs → Q (.ref q) H'
theorem ok_llaw_drawer (T : Top K mg) : FnOk P w K mg base CX0 6 T.a_llaw_drawer T.fd_llaw_drawer ["_law_some"] (spLawDrawer K T.c_Drawer T.c_Card) := by
  refine T.F_llaw_drawer.ok sc_llaw_drawer (fun vs H Q E h => ?_) (fun cdv A outer s H vs Q E hr h => ?_)
  · obtain ⟨l, xs, cs, rfl, _⟩ := h
    rfl
  · obtain ⟨l, xs, cs, rfl, hL, hI, hg, hn, k⟩ := h
    have hu := hu_of hr
    refine ⟨_, (pss_one (ps_ret (pe_make T.Mk_Drawer (ok_Drawer_init T) (hr.mono (by decide)) (by rfl) T.g_Drawer (b_Drawer_init T) .nil pass0 (pa_cons (pe_callTy call_tuple_of (by rfl) T.m_tuple (by decide +kernel) (pa_cons (pe_lc (own := [("_law_one", 1)]) (g := gName 1) (tt := tYes) rfl sc_llaw_drawer.nd (pi_list (pv 0)) (blkOk_by (N := N_llaw_drawer) (sc := defScope s_llaw_drawer) (by decide +kernel)) (fun _ _ _ _ _ => (pg_name (i := 1) sc_llaw_drawer.nd rfl (.inl rfl))) (fun _ _ _ _ _ => pts_nil) (fun _ _ _ _ _ => (pe_makeN T.Mk_Card (ok_Card_init T) (hr.mono (by decide)) (by rfl) T.g_Card (kb_Card T) pass0 (pa_cons (pe_ix (ix_tupK (K := K) rfl) (pv 1) pe_int (fun _ _ => rfl)) pa_nil) (pk_cons (pe_ix (ix_tupK (K := K) rfl) (pv 1) pe_int (fun _ _ => rfl)) (pk_cons (pe_ix (ix_tupK (K := K) rfl) (pv 1) pe_int (fun _ _ => rfl)) (pk_cons (pe_ix (ix_tupK (K := K) rfl) (pv 1) pe_int (fun _ _ => rfl)) pk_nil)))))) pa_nil)) pa_nil)))), ?_⟩
    refine ⟨_, rfl, l, rfl, ⟨_, hL⟩, fun D hD => lc_rel (walk_list (xs := xs)) (by rw [hI.1]; omega) hD (fun i z H1 => ∃ c q, cs[i]? = some c ∧ z = some (V.ref q) ∧ CardAt K T.c_Card H1 q c) (fun i z H1 H2 s ⟨c, q, h1, h2, h3⟩ => ⟨c, q, h1, h2, h3.imm s⟩) (fun H1 s1 => s1.seq hL) (fun i x H1 H2 hi s1 hy R R0 r1 r0 => ?_) (fun H1 zs s1 hzl hz hd => ?_)⟩
    · obtain ⟨rfl, hx⟩ := hy
      have hic : i < cs.length := by rw [← hI.1]; exact hi
      have hcg := hg cs[i] (List.getElem_mem hic)
      obtain ⟨t, b, a, rfl, hT, hB, hA⟩ := (hI.2 i x cs[i] hx (List.getElem?_eq_getElem hic)).imm s1.imm
      refine ⟨rfl, tYes_of ?_⟩
      refine ⟨_, rfl, t, _, _, _, rfl, rfl, hT, rfl, ?_⟩
      refine ⟨_, rfl, t, _, _, _, rfl, rfl, hT, rfl, ?_⟩
      refine ⟨_, rfl, t, _, _, _, rfl, rfl, hT, rfl, ?_⟩
      refine ⟨_, rfl, t, _, _, _, rfl, rfl, hT, rfl, rfl, rfl, fun q dx hq hdx hne => ?_⟩
      have s2 : ∀ {H' : Hp}, Same H' (upd (upd H' dx (.own q)) q (.ins T.c_Card dx [])) ∨ True := .inr True.intro
      have sN : Same H2 (upd (upd H2 dx (.own q)) q (.ins T.c_Card dx [])) := fun b o e => by
        rw [upd_ne (ne_of_none e hq), upd_ne (ne_of_none e hdx)]
        exact e
      refine ⟨q, dx, cs[i], b, a, rfl, upd_same, hcg.1, sN.seqT hB, sN.seqT hA, hcg.2, fun H3 b3 c3 => ⟨rfl, ?_⟩⟩
      exact r1 _ H3 ⟨cs[i], q, List.getElem?_eq_getElem hic, rfl, c3⟩ fun b o e => b3 b o (sN b o e) (ne_of_none e hq)
    · obtain ⟨ps, e, hC⟩ := cards_of zs cs (by rw [hzl, hI.1]) hz
      rw [e] at hd
      refine ⟨D, _, rfl, .inl ⟨SqL.of hd, fun u hu' => ?_⟩⟩
      intro x dx hx hdx hne
      have s6 : Same H (upd H1 u (.tup (ps.map V.ref))) := s1.trans (same_new hu')
      have s7 : Same (upd H1 u (.tup (ps.map V.ref))) (upd (upd (upd H1 u (.tup (ps.map V.ref))) dx (.own x)) x (.ins T.c_Drawer dx [])) := fun b o e => by
        rw [upd_ne (ne_of_none e hx), upd_ne (ne_of_none e hdx)]
        exact e
      refine ⟨x, dx, u, _, rfl, upd_same, s7.seqT (SqT.of upd_same), by rw [List.length_map, hC.1]; exact hn, fun H7 b7 h7 => ⟨rfl, ?_⟩⟩
      have s8 : Same (upd H1 u (.tup (ps.map V.ref))) H7 := fun b o e => b7 b o (s7 b o e) (ne_of_none e hx)
      exact k x H7 (s6.trans s8) ⟨dx, u, ps, h7, s8.seqT (SqT.of upd_same), hC.imm ((same_new hu').trans s8).imm⟩
end
section
local macro_rules | `(tactic| walk_at "sl") => `(tactic| first | assumption | exact SqL.of upd_same | exact SqL.of (by assumption) | ((with_reducible apply sql_upd); (walk_at "sl"); (first | assumption | exact Ne.symm (by assumption))))
local macro_rules | `(tactic| walk_at "st") => `(tactic| first | assumption | exact SqT.of upd_same | exact SqT.of (by assumption))
local macro_rules | `(tactic| walk_at "sc") => `(tactic| first | rfl | assumption | (show (0 : Int) < _; first | assumption | decide | omega) | exact Or.inl ⟨by omega, by omega⟩ | exact Or.inr ⟨by omega, by omega⟩ | exact ⟨by decide, by decide⟩ | exact ⟨by decide, by decide, by decide⟩)
local macro_rules | `(tactic| walk_at "g1") => `(tactic| first
  | refine ⟨(_ : V), rfl, ?_⟩
  | refine ⟨(_ : Bool), rfl, ?_⟩
  | refine ⟨(_ : Int), (_ : Int), rfl, rfl, ?_⟩
  | refine ⟨(_ : Int), rfl, ?_⟩
  | refine ⟨(_ : Str), rfl, ?_⟩
  | refine ⟨(_ : Addr), (_ : List V), rfl, Or.inl (by walk_at "sl"), ?_⟩
  | refine ⟨(_ : Addr), (_ : List V), rfl, Or.inr (by walk_at "st"), ?_⟩
  | refine ⟨(_ : Addr), (_ : List V), (_ : Int), (_ : V), rfl, rfl, (by walk_at "sl"), (by first | rfl | assumption), ?_⟩
  | refine ⟨(_ : Addr), (_ : List V), (_ : Int), (_ : V), rfl, rfl, (by walk_at "st"), (by first | rfl | assumption), ?_⟩
  | refine ⟨(_ : Addr), (_ : List V), (_ : Int), (_ : Nat), rfl, rfl, upd_same, rfl, ?_⟩
  | refine ⟨(_ : Addr), (_ : List V), (_ : Int), (_ : Nat), rfl, rfl, (by assumption), rfl, ?_⟩
  | refine ⟨(_ : Addr), (_ : Addr), (_ : Addr), (_ : List (Str × V)), (_ : V), rfl, (by assumption), (by assumption), (by assumption), (by first | assumption | rfl), ?_⟩
  | refine Or.inl ⟨(_ : Int), rfl, ?_⟩
  | refine And.intro (by walk_at "sc") ?_
  | refine iteT ?_
  | refine iteF ?_)
/-! ### how headings are looked up -/
def ltS (a b : Str) : Bool := decide (a.cps.toList < b.cps.toList)
/-- one after another: the place, how many are looked at -/
def along (g : Bool) (h : Str) : Nat → List Str → Option Nat × Nat
  | i, [] => (none, i)
  | i, x :: r => if x = h then (some i, i + 1) else if (g && ltS h x) = true then (none, i + 1) else along g h (i + 1) r
/-- by halves: the place, the places that are looked at -/
def halves (ws : List Str) (h : Str) : Nat → Int → Int → List Int → Option Nat × List Int
  | 0, _, _, ps => (none, ps)
  | n + 1, lo, hi, ps => if lo ≤ hi then
      (if ws[((lo + hi) / 2).toNat]?.getD "" = h then (some ((lo + hi) / 2).toNat, ps ++ [(lo + hi) / 2])
       else if ltS h (ws[((lo + hi) / 2).toNat]?.getD "") = true then halves ws h n lo ((lo + hi) / 2 - 1) (ps ++ [(lo + hi) / 2])
       else halves ws h n ((lo + hi) / 2 + 1) hi (ps ++ [(lo + hi) / 2]))
     else (none, ps)
def upTo (n : Nat) : List Int := (List.range n).map fun (i : Nat) => (i : Int)
def alongOf (ws : List Str) (g : Bool) (h : Str) : Option Nat × List Int := ((along g h 0 ws).1, upTo (along g h 0 ws).2)
def halvesOf (ws : List Str) (h : Str) : Option Nat × List Int := halves ws h (ws.length + 1) 0 ((ws.length : Int) - 1) []
def seekOf (ws : List Str) (rule h : Str) : Option Nat × List Int := if rule = "half" then halvesOf ws h else alongOf ws (decide (rule = "leaf")) h
def onV : Option Nat → V
  | none => .non
  | some i => .int i
/-- what a look-up tells, at t -/
def Seen (K : PySem.W.Frag) (H : Hp) (t : Addr) (r : Option Nat × List Int) : Prop := ∃ p : Addr, SqT K H t [onV r.1, .ref p] ∧ SqT K H p (r.2.map V.int)
theorem Seen.imm {H H' : Hp} {t : Addr} {r : Option Nat × List Int} (h : Seen K H t r) (s : Imm H H') : Seen K H' t r := by
  obtain ⟨p, h1, h2⟩ := h
  exact ⟨p, s.seqT h1, s.seqT h2⟩
theorem rNe_to {x y : V} {b : Bool} {H : Hp} {Q : VK} (s : scal x y = true) (e : (!decide (x = y)) = b) (q : Q (.bl b) H) : rNe x y H Q := ⟨s, by rw [e]; exact q⟩
theorem rEq_to {x y : V} {b : Bool} {H : Hp} {Q : VK} (s : scal x y = true) (e : decide (x = y) = b) (q : Q (.bl b) H) : rEq x y H Q := ⟨s, by rw [e]; exact q⟩
theorem rEqD_to {x y : V} {d1 d2 : PyData} {b : Bool} {H : Hp} {Q : VK} (h1 : Dp K H x d1) (h2 : Dp K H y d2) (s1 : SeqAt.shaped d1 = true) (s2 : SeqAt.shaped d2 = true) (e : d1.eqv d2 = b) (q : Q (.bl b) H) : rEqD K x y H Q := ⟨d1, d2, h1, h2, s1, s2, by rw [e]; exact q⟩
theorem rNeD_to {x y : V} {d1 d2 : PyData} {b : Bool} {H : Hp} {Q : VK} (h1 : Dp K H x d1) (h2 : Dp K H y d2) (s1 : SeqAt.shaped d1 = true) (s2 : SeqAt.shaped d2 = true) (e : (!d1.eqv d2) = b) (q : Q (.bl b) H) : rNeD K x y H Q := ⟨d1, d2, h1, h2, s1, s2, by rw [e]; exact q⟩
theorem rI0_to {f : Int → Int → V} {i j : Int} {v : V} {H : Hp} {Q : VK} (e : f i j = v) (q : Q v H) : rI0 f (.int i) (.int j) H Q := ⟨i, j, rfl, rfl, by rw [e]; exact q⟩
theorem rgV_up (n : Nat) : rgV 0 (n : Int) = (upTo n).map V.int := by
  unfold rgV upTo
  rw [List.map_map]
  show (List.range ((n : Int) - 0).toNat).map _ = _
  rw [Int.sub_zero, Int.toNat_natCast]
  apply List.map_congr_left
  intro i _
  show V.int (0 + (i : Int)) = V.int i
  rw [Int.zero_add]
theorem along_bound (g : Bool) (h : Str) : ∀ (ws : List Str) (i : Nat), (along g h i ws).2 ≤ i + ws.length
  | [], i => Nat.le_refl _
  | x :: r, i => by
    unfold along
    rw [List.length_cons]
    split
    · show i + 1 ≤ _
      omega
    · split
      · show i + 1 ≤ _
        omega
      · have := along_bound g h r (i + 1)
        omega
def spSeekAlong (K : PySem.W.Frag) : Sp := fun vs H Q _ => ∃ (a : Addr) (ws : List Str) (h : Str) (g : Bool), vs = [.ref a, .str h, .bl g] ∧ SqT K H a (ws.map V.str) ∧ ws.length ≤ 1000 ∧ ∀ (t : Addr) (H' : Hp), Same H H' → Seen K H' t (alongOf ws g h) → Q (.ref t) H'
theorem ok_seek_along (T : Top K mg) : FnOk P w K mg base CX0 1 T.a_seek_along T.fd_seek_along ["row", "heading", "gives_up"] (spSeekAlong K) := by
  refine T.F_seek_along.ok sc_seek_along (fun vs H Q E h => ?_) (fun cdv A outer s H vs Q E hr h => ?_)
  · obtain ⟨a, ws, h, g, rfl, _⟩ := h
    rfl
  · obtain ⟨a, ws, h, g, rfl, hS, hl, k⟩ := h
    have hu := hu_of hr
    refine ⟨_, (pss_cons (ps_for PassesOwn.never rfl (pi_enumT (by rfl) T.m_enumerate (pa_cons (pv 0) pa_nil)) (pg_tup rfl (pgs_cons (pg_name (i := 3) sc_seek_along.nd rfl (.inl rfl)) (pgs_cons (pg_name (i := 4) sc_seek_along.nd rfl (.inl rfl)) pgs_nil)))
        (pss_cons (ps_if (pt_cmpR op_eq (pv 4) (pv 1) (nomark _)) (pss_one (ps_ret (pe_tup (pa_cons (pv 3) (pa_cons (pe_tupRg rfl (by rfl) T.m_tuple (prg_1 (by rfl) T.m_range (pe_op op_add (pv 3) pe_int))) pa_nil))))) pss_nil)
        (pss_one (ps_if (PW.pt (pw_and (pt_val (pv 2)) (pw_and1 (pt_cmpR op_gt_str (pv 4) (pv 1) (nomark _))))) (pss_one (ps_ret (pe_tup (pa_cons pe_non (pa_cons (pe_tupRg rfl (by rfl) T.m_tuple (prg_1 (by rfl) T.m_range (pe_op op_add (pv 3) pe_int))) pa_nil))))) pss_nil))))
      (pss_one (ps_ret (pe_tup (pa_cons pe_non (pa_cons (pe_tupRg rfl (by rfl) T.m_tuple (prg_1 (by rfl) T.m_range (pe_callB call_len_seq (by rfl) T.m_len (by decide +kernel) (pa_cons (pv 0) pa_nil)))) pa_nil)))))), ?_⟩
    have hlen : (ws.map V.str).length = ws.length := List.length_map ..
    -- the tuple that is told
    have tell : ∀ (H1 : Hp) (n : Nat) (o : Option Nat) (p t : Addr), Same H H1 → (o, n) = along g h 0 ws → H1 p = none → upd H1 p (.tup (rgV 0 (n : Int))) t = none → Q (.ref t) (upd (upd H1 p (.tup (rgV 0 (n : Int)))) t (.tup [onV o, .ref p])) := fun H1 n o p t s1 e hp ht => by
      refine k t _ ((s1.trans (same_new hp)).trans (same_new ht)) ⟨p, ?_, ?_⟩
      · show SqT K _ t [onV (along g h 0 ws).1, .ref p]
        rw [← e]
        exact SqT.of upd_same
      · show SqT K _ p ((upTo (along g h 0 ws).2).map V.int)
        rw [← e, ← rgV_up]
        exact SqT.of (kp upd_same ht)
    refine ⟨_, rfl, a, _, rfl, hS, for_it walk_enumT (fun i σ H1 => ∃ y3 y4, σ = [some (.ref a), some (.str h), some (.bl g), y3, y4] ∧ Same H H1 ∧ along g h 0 ws = along g h i (ws.drop i)) ⟨none, none, rfl, Same.refl _, rfl⟩ (fun i σ H1 _ ⟨_, _, _, s1, _⟩ => s1.seqT hS) (fun i x σ H1 H2 hi hP hy => ?_) (fun σ H1 hP => ?_)⟩
    · obtain ⟨y3, y4, rfl, s1, ea⟩ := hP
      obtain ⟨Tp, x1, x2, rfl, nT, rfl, ex1, ex2⟩ := hy
      rw [hlen] at hi
      obtain rfl : x1 = .int (i : Nat) := (Option.some.inj ex1).symm
      replace ex2 : (ws.map V.str)[i]? = some x2 := ex2
      rw [List.getElem?_map] at ex2
      obtain ⟨z, hz, rfl⟩ := Option.map_eq_some_iff.mp ex2
      have hd : ws.drop i = z :: ws.drop (i + 1) := by
        rw [List.drop_eq_getElem_cons hi]
        rw [List.getElem?_eq_getElem hi] at hz
        rw [Option.some.inj hz]
      rw [hd] at ea
      have s2 := s1.trans (same_new (o := .tup [.int (i : Nat), .str z]) nT)
      refine ⟨Tp, _, rfl, SqT.of upd_same, rfl, _, _, rfl, _, _, rfl, rfl, ?_⟩
      generalize upd H1 Tp (.tup [.int (i : Nat), .str z]) = H2 at *
      have ei : ((i : Int) + 1) = ((i + 1 : Nat) : Int) := by omega
      refine ⟨_, rfl, _, rfl, rfl, _, rfl, ite2 (fun he => ?_) (fun he => ?_)⟩
      · have he' : z = h := V.str.inj (of_decide_eq_true he)
        have e2 : (some i, i + 1) = along g h 0 ws := by
          rw [ea]
          unfold along
          rw [if_pos he']
        refine ⟨_, rfl, _, rfl, _, _, rfl, rfl, _, rfl, ⟨by omega, by omega, by omega, by omega, by omega⟩, fun p hp => ⟨by show 2 ≤ sizeLine; decide, fun t ht => ?_⟩⟩
        rw [ei] at ht ⊢
        exact tell _ (i + 1) (some i) p t s2 e2 hp ht
      · have he' : z ≠ h := fun e => he (decide_eq_true (congrArg V.str e))
        have e3 : along g h i (z :: ws.drop (i + 1)) = if (g && ltS h z) = true then (none, i + 1) else along g h (i + 1) (ws.drop (i + 1)) := by
          show (if z = h then _ else _) = _
          rw [if_neg he']
        rw [e3] at ea
        have next : (g && ltS h z) = false → ∃ y3 y4, [some (V.ref a), some (.str h), some (.bl g), some (.int (i : Nat)), some (.str z)] = [some (.ref a), some (.str h), some (.bl g), y3, y4] ∧ Same H H2 ∧ along g h 0 ws = along g h (i + 1) (ws.drop (i + 1)) := fun hb => by
          rw [hb] at ea
          exact ⟨_, _, rfl, s2, ea⟩
        refine ⟨_, rfl, _, rfl, ?_⟩
        cases hg : g with
        | false =>
          subst hg
          refine iteF ?_
          refine iteF ?_
          exact next rfl
        | true =>
          subst hg
          refine iteT ?_
          refine ⟨_, rfl, _, rfl, _, _, rfl, rfl, _, rfl, ite2 (fun hlt => ?_) (fun hlt => ?_)⟩
          · have hb : (true && ltS h z) = true := hlt
            have e2 : (none, i + 1) = along true h 0 ws := by rw [ea, if_pos hb]
            refine ⟨_, rfl, _, _, rfl, rfl, _, rfl, ⟨by omega, by omega, by omega, by omega, by omega⟩, fun p hp => ⟨by show 2 ≤ sizeLine; decide, fun t ht => ?_⟩⟩
            rw [ei] at ht ⊢
            exact tell _ (i + 1) none p t s2 e2 hp ht
          · exact next (Bool.eq_false_iff.mpr hlt)
    · obtain ⟨y3, y4, rfl, s1, ea⟩ := hP
      have e2 : (none, ws.length) = along g h 0 ws := by
        rw [ea, hlen, List.drop_length]
        rfl
      refine ⟨_, rfl, a, _, rfl, .inr (s1.seqT hS), _, rfl, ⟨by omega, by omega, by omega, by omega, by omega⟩, fun p hp => ⟨by show 2 ≤ sizeLine; decide, fun t ht => ?_⟩⟩
      rw [hlen] at ht ⊢
      exact tell _ ws.length none p t s1 e2 hp ht
def spSeekHalves (K : PySem.W.Frag) : Sp := fun vs H Q _ => ∃ (a : Addr) (ws : List Str) (h : Str), vs = [.ref a, .str h] ∧ SqT K H a (ws.map V.str) ∧ ws.length ≤ 1000 ∧ ∀ (t : Addr) (H' : Hp), Same H H' → Seen K H' t (halvesOf ws h) → Q (.ref t) H'
def midMu : St → Hp → Nat := fun σ _ => match σ with
  | [_, _, _, some (.int lo), some (.int hi), _] => (hi + 1 - lo).toNat
  | _ => 0
theorem ok_seek_by_halves (T : Top K mg) : FnOk P w K mg base CX0 1 T.a_seek_by_halves T.fd_seek_by_halves ["row", "heading"] (spSeekHalves K) := by
  refine T.F_seek_by_halves.ok sc_seek_by_halves (fun vs H Q E h => ?_) (fun cdv A outer s H vs Q E hr h => ?_)
  · obtain ⟨a, ws, h, rfl, _⟩ := h
    rfl
  · obtain ⟨a, ws, h, rfl, hS, hl, k⟩ := h
    have hu := hu_of hr
    refine ⟨_, (pss_cons (ps_set (i := 2) sc_seek_by_halves.nd rfl (.inl rfl) (pe_lst pa_nil))
      (pss_cons (ps_set (i := 3) sc_seek_by_halves.nd rfl (.inl rfl) pe_int)
      (pss_cons (ps_set (i := 4) sc_seek_by_halves.nd rfl (.inl rfl) (pe_op op_sub (pe_callB call_len_seq (by rfl) T.m_len (by decide +kernel) (pa_cons (pv 0) pa_nil)) pe_int))
      (pss_cons (ps_while PassesOwn.never (pt_cmpR op_le (pv 3) (pv 4) (nomark _))
        (pss_cons (ps_set (i := 5) sc_seek_by_halves.nd rfl (.inl rfl) (pe_op op_fdiv (pe_op op_add (pv 3) (pv 4)) pe_int))
        (pss_cons (ps_expr (pe_bm PySem.F.plainAttrs_list PySem.F.slot_list_append PySem.F.type_list_append mt_append (pv 2) (pa_cons (pv 5) pa_nil)))
        (pss_cons (ps_if (pt_cmpR op_eq (pe_ix ix_tup (pv 0) (pv 5) (fun _ _ => rfl)) (pv 1) (nomark _)) (pss_one (ps_ret (pe_tup (pa_cons (pv 5) (pa_cons (pe_callTy call_tuple_of (by rfl) T.m_tuple (by decide +kernel) (pa_cons (pv 2) pa_nil)) pa_nil))))) pss_nil)
        (pss_one (ps_if (pt_cmpR op_gt_str (pe_ix ix_tup (pv 0) (pv 5) (fun _ _ => rfl)) (pv 1) (nomark _)) (pss_one (ps_set (i := 4) sc_seek_by_halves.nd rfl (.inl rfl) (pe_op op_sub (pv 5) pe_int))) (pss_one (ps_set (i := 3) sc_seek_by_halves.nd rfl (.inl rfl) (pe_op op_add (pv 5) pe_int)))))))))
      (pss_one (ps_ret (pe_tup (pa_cons pe_non (pa_cons (pe_callTy call_tuple_of (by rfl) T.m_tuple (by decide +kernel) (pa_cons (pv 2) pa_nil)) pa_nil))))))))), ?_⟩
    have hlen : (ws.map V.str).length = ws.length := List.length_map ..
    refine ⟨Nat.zero_le _, fun l hl0 => ?_⟩
    refine ⟨_, rfl, a, _, rfl, .inr ((same_new hl0).seqT hS), ?_⟩
    refine ⟨_, _, rfl, rfl, ?_⟩
    refine while_by (fun σ H1 => ∃ (lo hi : Int) (ps : List Int) (y5 : Option V), σ = [some (.ref a), some (.str h), some (.ref l), some (.int lo), some (.int hi), y5] ∧ Same H H1 ∧ H1 l = some (.lst (ps.map V.int)) ∧ 0 ≤ lo ∧ hi < ws.length ∧ (∃ f, (hi + 1 - lo).toNat < f ∧ halvesOf ws h = halves ws h f lo hi ps) ∧ ps.length + (hi + 1 - lo).toNat ≤ ws.length) midMu
      ⟨0, ((ws.map V.str).length : Int) - 1, [], none, rfl, same_new hl0, upd_same, Int.le_refl _, by omega, ⟨ws.length + 1, by omega, by rw [hlen]; rfl⟩, by show 0 + _ ≤ _; omega⟩ (fun σ H1 hP => ?_) (fun σ H1 Q Q' hq hc => ?_)
    · obtain ⟨lo, hi, ps, y5, rfl, s1, el, h0, h1, ⟨f, hf, eq⟩, hb⟩ := hP
      obtain ⟨f, rfl⟩ : ∃ f', f = f' + 1 := ⟨f - 1, by omega⟩
      refine ⟨_, rfl, _, rfl, _, _, rfl, rfl, _, rfl, ite2 (fun hle => ?_) (fun hle => ?_)⟩
      · have hle' : lo ≤ hi := of_decide_eq_true hle
        have hm0 : 0 ≤ (lo + hi) / 2 := by omega
        have hm1 : lo ≤ (lo + hi) / 2 ∧ (lo + hi) / 2 ≤ hi := by omega
        have hmn : ((lo + hi) / 2).toNat < ws.length := by omega
        have heq : halvesOf ws h = if ws[((lo + hi) / 2).toNat]?.getD "" = h then (some ((lo + hi) / 2).toNat, ps ++ [(lo + hi) / 2])
            else if ltS h (ws[((lo + hi) / 2).toNat]?.getD "") = true then halves ws h f lo ((lo + hi) / 2 - 1) (ps ++ [(lo + hi) / 2])
            else halves ws h f ((lo + hi) / 2 + 1) hi (ps ++ [(lo + hi) / 2]) := by
          rw [eq]
          show (if lo ≤ hi then _ else _) = _
          rw [if_pos hle']
        rw [List.getElem?_eq_getElem hmn] at heq
        have hat : atI (ws.map V.str) ((lo + hi) / 2) = some (.str ws[((lo + hi) / 2).toNat]) := by
          have q := atI_nat (xs := ws.map V.str) (j := ((lo + hi) / 2).toNat) (v := .str ws[((lo + hi) / 2).toNat]) (by rw [List.getElem?_map, List.getElem?_eq_getElem hmn]; rfl)
          rw [Int.toNat_of_nonneg hm0] at q
          exact q
        refine ⟨_, rfl, _, rfl, _, _, rfl, rfl, _, _, rfl, rfl, ⟨by decide, by decide⟩, ?_⟩
        have hS1 := s1.seqT hS
        have hS2 : SqT K (upd H1 l (.lst (ps.map V.int ++ [.int ((lo + hi) / 2)]))) a (ws.map V.str) := (same_mut s1 hl0).seqT hS
        have el2 : (upd H1 l (.lst (ps.map V.int ++ [.int ((lo + hi) / 2)]))) l = some (.lst ((ps ++ [(lo + hi) / 2]).map V.int)) := by
          rw [upd_same, List.map_append]
          rfl
        refine ⟨_, rfl, .inl ⟨rfl, _, SqL.of el⟩, _, rfl, l, _, _, rfl, rfl, el, sizeLine_of (by rw [List.length_map]; omega), ?_⟩
        have s2 : Same H (upd H1 l (.lst (ps.map V.int ++ [.int ((lo + hi) / 2)]))) := same_mut s1 hl0
        generalize upd H1 l (.lst (ps.map V.int ++ [.int ((lo + hi) / 2)])) = H2 at *
        refine ⟨_, rfl, _, rfl, a, _, _, _, rfl, rfl, hS2, hat, _, rfl, rfl, _, rfl, ite2 (fun he => ?_) (fun he => ?_)⟩
        · have he' : ws[((lo + hi) / 2).toNat] = h := V.str.inj (of_decide_eq_true he)
          have e2 : halvesOf ws h = (some ((lo + hi) / 2).toNat, ps ++ [(lo + hi) / 2]) := by
            rw [heq]
            exact if_pos he'
          refine ⟨_, rfl, _, rfl, l, _, rfl, .inl ⟨SqL.of el2, fun p hp => ⟨by show 2 ≤ sizeLine; decide, fun t ht => ?_⟩⟩⟩
          refine k t _ ((s2.trans (same_new hp)).trans (same_new ht)) ⟨p, ?_, ?_⟩
          · rw [e2]
            show SqT K _ t [.int ((((lo + hi) / 2).toNat : Nat) : Int), .ref p]
            rw [Int.toNat_of_nonneg hm0]
            exact SqT.of upd_same
          · rw [e2]
            exact SqT.of (kp upd_same ht)
        · have he' : ¬ ws[((lo + hi) / 2).toNat] = h := fun e => he (decide_eq_true (congrArg V.str e))
          replace heq := heq.trans (if_neg he')
          refine ⟨_, rfl, _, rfl, a, _, _, _, rfl, rfl, hS2, hat, _, rfl, _, _, rfl, rfl, _, rfl, ite2 (fun hlt => ?_) (fun hlt => ?_)⟩
          · have heq := heq.trans (if_pos (show ltS h _ = true from hlt))
            refine ⟨_, rfl, _, _, rfl, rfl, ?_⟩
            refine ⟨⟨lo, (lo + hi) / 2 - 1, ps ++ [(lo + hi) / 2], _, rfl, s2, el2, h0, by omega, ⟨f, by omega, heq⟩, by rw [List.length_append, List.length_singleton]; omega⟩, ?_⟩
            show ((lo + hi) / 2 - 1 + 1 - lo).toNat < (hi + 1 - lo).toNat
            omega
          · have heq := heq.trans (if_neg (show ¬ ltS h _ = true from hlt))
            refine ⟨_, rfl, _, _, rfl, rfl, ?_⟩
            refine ⟨⟨(lo + hi) / 2 + 1, hi, ps ++ [(lo + hi) / 2], _, rfl, s2, el2, by omega, h1, ⟨f, by omega, heq⟩, by rw [List.length_append, List.length_singleton]; omega⟩, ?_⟩
            show (hi + 1 - ((lo + hi) / 2 + 1)).toNat < (hi + 1 - lo).toNat
            omega
      · have hle' : ¬ lo ≤ hi := fun z => hle (decide_eq_true z)
        have e2 : halvesOf ws h = (none, ps) := by
          rw [eq]
          show (if lo ≤ hi then _ else _) = _
          rw [if_neg hle']
        refine ⟨_, rfl, l, _, rfl, .inl ⟨SqL.of el, fun p hp => ⟨by show 2 ≤ sizeLine; decide, fun t ht => ?_⟩⟩⟩
        refine k t _ ((s1.trans (same_new hp)).trans (same_new ht)) ⟨p, ?_, ?_⟩
        · rw [e2]
          exact SqT.of upd_same
        · rw [e2]
          exact SqT.of (kp upd_same ht)
    · obtain ⟨x, hx, y, hy, i, j, rfl, rfl, b, hb, q⟩ := hc
      exact ⟨_, hx, _, hy, i, j, rfl, rfl, b, hb, hq _ _ q⟩
end
section
local macro_rules | `(tactic| walk_at "sl") => `(tactic| first | assumption | exact SqL.of upd_same | exact SqL.of (by assumption) | ((with_reducible apply sql_upd); (walk_at "sl"); (first | assumption | exact Ne.symm (by assumption))))
local macro_rules | `(tactic| walk_at "st") => `(tactic| first | assumption | exact SqT.of upd_same | exact SqT.of (by assumption))
local macro_rules | `(tactic| walk_at "sc") => `(tactic| first | rfl | assumption | (show (0 : Int) < _; first | assumption | decide | omega) | exact Or.inl ⟨by omega, by omega⟩ | exact Or.inr ⟨by omega, by omega⟩ | exact ⟨by decide, by decide⟩ | exact ⟨by decide, by decide, by decide⟩)
local macro_rules | `(tactic| walk_at "g1") => `(tactic| first
  | refine ⟨(_ : V), rfl, ?_⟩
  | refine ⟨(_ : Bool), rfl, ?_⟩
  | refine ⟨(_ : Int), (_ : Int), rfl, rfl, ?_⟩
  | refine ⟨(_ : Int), rfl, ?_⟩
  | refine ⟨(_ : Str), rfl, ?_⟩
  | refine ⟨(_ : Addr), (_ : List V), rfl, Or.inl (by walk_at "sl"), ?_⟩
  | refine ⟨(_ : Addr), (_ : List V), rfl, Or.inr (by walk_at "st"), ?_⟩
  | refine ⟨(_ : Addr), (_ : List V), (_ : Int), (_ : V), rfl, rfl, (by walk_at "sl"), (by first | rfl | assumption), ?_⟩
  | refine ⟨(_ : Addr), (_ : List V), (_ : Int), (_ : V), rfl, rfl, (by walk_at "st"), (by first | rfl | assumption), ?_⟩
  | refine ⟨(_ : Addr), (_ : List V), (_ : Int), (_ : Nat), rfl, rfl, upd_same, rfl, ?_⟩
  | refine ⟨(_ : Addr), (_ : List V), (_ : Int), (_ : Nat), rfl, rfl, (by assumption), rfl, ?_⟩
  | refine ⟨(_ : Addr), (_ : Addr), (_ : Addr), (_ : List (Str × V)), (_ : V), rfl, (by assumption), (by assumption), (by assumption), (by first | assumption | rfl), ?_⟩
  | refine Or.inl ⟨(_ : Int), rfl, ?_⟩
  | refine And.intro (by walk_at "sc") ?_
  | refine iteT ?_
  | refine iteF ?_)
def rules3 : List Str := ["all", "leaf", "half"]
def spSeek (K : PySem.W.Frag) : Sp := fun vs H Q _ => ∃ (a : Addr) (ws : List Str) (rule h : Str), vs = [.ref a, .str rule, .str h] ∧ SqT K H a (ws.map V.str) ∧ ws.length ≤ 1000 ∧ ∀ (t : Addr) (H' : Hp), Same H H' → Seen K H' t (seekOf ws rule h) → Q (.ref t) H'
theorem ok_seek (T : Top K mg) : FnOk P w K mg base CX0 2 T.a_seek T.fd_seek ["row", "rule", "heading"] (spSeek K) := by
  refine T.F_seek.ok sc_seek (fun vs H Q E h => ?_) (fun cdv A outer s H vs Q E hr h => ?_)
  · obtain ⟨a, ws, r, h, rfl, _⟩ := h
    rfl
  · obtain ⟨a, ws, r, h, rfl, hS, hl, k⟩ := h
    have hu := hu_of hr
    refine ⟨_, (pss_cons (ps_if (pt_cmpR op_eq (pv 1) pe_str (nomark _)) (pss_one (ps_ret (pe_call (ok_seek_by_halves T) (hr.mono (by decide)) (by rfl) T.g_seek_by_halves T.F_seek_by_halves.kp (b_seek_by_halves T) .nil pass0 (pa_cons (pv 0) (pa_cons (pv 2) pa_nil))))) pss_nil)
      (pss_one (ps_ret (pe_call (ok_seek_along T) (hr.mono (by decide)) (by rfl) T.g_seek_along T.F_seek_along.kp (b_seek_along T) .nil pass0 (pa_cons (pv 0) (pa_cons (pv 2) (pa_cons (pe_cmpR op_eq (pv 1) pe_str (nomark _)) pa_nil))))))), ?_⟩
    refine ⟨_, rfl, rfl, _, rfl, ite2 (fun he => ?_) (fun he => ?_)⟩
    · have e : seekOf ws r h = halvesOf ws h := if_pos (V.str.inj (of_decide_eq_true he))
      refine ⟨_, rfl, _, rfl, a, ws, h, rfl, hS, hl, fun t H' s' q => ?_⟩
      rw [← e] at q
      exact k t H' s' q
    · have e : seekOf ws r h = alongOf ws (decide (r = "leaf")) h := if_neg fun z => he (decide_eq_true (congrArg V.str z))
      refine ⟨_, rfl, _, rfl, _, rfl, rfl, a, ws, h, decide (r = "leaf"), ?_, hS, hl, fun t H' s' q => ?_⟩
      · have q : decide (V.str r = V.str "leaf") = decide (r = "leaf") := by
          by_cases e2 : r = "leaf"
          · rw [decide_eq_true e2, decide_eq_true (congrArg V.str e2)]
          · rw [decide_eq_false e2, decide_eq_false fun z => e2 (V.str.inj z)]
        show [V.ref a, V.str h, V.bl (decide (V.str r = V.str "leaf"))] = _
        rw [q]
      · rw [← e] at q
        exact k t H' s' q
def spRule : Sp := fun vs H Q _ => ∃ r : Str, vs = [.str r] ∧ r ∈ rules3 ∧ Q .non H
theorem ok_check_rule (T : Top K mg) : FnOk P w K mg base CX0 1 T.a_check_rule T.fd_check_rule ["rule"] spRule := by
  refine T.F_check_rule.ok sc_check_rule (fun vs H Q E h => ?_) (fun cdv A outer s H vs Q E hr h => ?_)
  · obtain ⟨r, rfl, _⟩ := h
    rfl
  · obtain ⟨r, rfl, hm, k⟩ := h
    have hu := hu_of hr
    refine ⟨_, (pss_one (ps_if (pt_cmpR op_notIn_seq (pv 0) (pe_glob rfl T.g_RULES T.r_RULES) rfl) (pss_one (ps_never)) pss_nil)), ?_⟩
    refine ⟨_, rfl, T.a_RULES, _, rfl, .inr (T.t_RULES H), rfl, rfl, ?_⟩
    have hv : inV (V.str r) [V.str "all", V.str "leaf", V.str "half"] = true := by
      unfold rules3 at hm
      rcases List.mem_cons.mp hm with rfl | hm
      · rfl
      · rcases List.mem_cons.mp hm with rfl | hm
        · rfl
        · rw [List.mem_singleton.mp hm]
          rfl
    rw [hv]
    refine ⟨_, rfl, iteF ?_⟩
    exact k
end
section
local macro_rules | `(tactic| walk_at "sl") => `(tactic| first | assumption | exact SqL.of upd_same | exact SqL.of (by assumption) | ((with_reducible apply sql_upd); (walk_at "sl"); (first | assumption | exact Ne.symm (by assumption))))
local macro_rules | `(tactic| walk_at "st") => `(tactic| first | assumption | exact SqT.of upd_same | exact SqT.of (by assumption))
local macro_rules | `(tactic| walk_at "sc") => `(tactic| first | rfl | assumption | (show (0 : Int) < _; first | assumption | decide | omega) | exact Or.inl ⟨by omega, by omega⟩ | exact Or.inr ⟨by omega, by omega⟩ | exact ⟨by decide, by decide⟩ | exact ⟨by decide, by decide, by decide⟩)
local macro_rules | `(tactic| walk_at "g1") => `(tactic| first
  | refine ⟨(_ : V), rfl, ?_⟩
  | refine ⟨(_ : Bool), rfl, ?_⟩
  | refine ⟨(_ : Int), (_ : Int), rfl, rfl, ?_⟩
  | refine ⟨(_ : Int), rfl, ?_⟩
  | refine ⟨(_ : Str), rfl, ?_⟩
  | refine ⟨(_ : Addr), (_ : List V), rfl, Or.inl (by walk_at "sl"), ?_⟩
  | refine ⟨(_ : Addr), (_ : List V), rfl, Or.inr (by walk_at "st"), ?_⟩
  | refine ⟨(_ : Addr), (_ : List V), (_ : Int), (_ : V), rfl, rfl, (by walk_at "sl"), (by first | rfl | assumption), ?_⟩
  | refine ⟨(_ : Addr), (_ : List V), (_ : Int), (_ : V), rfl, rfl, (by walk_at "st"), (by first | rfl | assumption), ?_⟩
  | refine ⟨(_ : Addr), (_ : List V), (_ : Int), (_ : Nat), rfl, rfl, upd_same, rfl, ?_⟩
  | refine ⟨(_ : Addr), (_ : List V), (_ : Int), (_ : Nat), rfl, rfl, (by assumption), rfl, ?_⟩
  | refine ⟨(_ : Addr), (_ : Addr), (_ : Addr), (_ : List (Str × V)), (_ : V), rfl, (by assumption), (by assumption), (by assumption), (by first | assumption | rfl), ?_⟩
  | refine Or.inl ⟨(_ : Int), rfl, ?_⟩
  | refine And.intro (by walk_at "sc") ?_
  | refine iteT ?_
  | refine iteF ?_)
def spHeading : Sp := fun vs H Q _ => ∃ h : Str, vs = [.str h] ∧ isWord h = true ∧ h.length ≤ 1000 ∧ ∀ H', Same H H' → Q .non H'
theorem ok_check_heading (T : Top K mg) : FnOk P w K mg base CX0 2 T.a_check_heading T.fd_check_heading ["heading"] spHeading := by
  refine T.F_check_heading.ok sc_check_heading (fun vs H Q E h => ?_) (fun cdv A outer s H vs Q E hr h => ?_)
  · obtain ⟨r, rfl, _⟩ := h
    rfl
  · obtain ⟨h, rfl, hw, hn, k⟩ := h
    have hu := hu_of hr
    refine ⟨_, (pss_one (ps_if (pt_not (pt_val (pe_call (ok_is_word T) (hr.mono (by decide)) (by rfl) T.g_is_word T.F_is_word.kp (b_is_word T) .nil pass0 (pa_cons (pv 0) pa_nil)))) (pss_one (ps_never)) pss_nil)), ?_⟩
    refine ⟨_, rfl, h, rfl, hn, fun H' s' => ⟨_, rfl, ?_⟩⟩
    rw [hw]
    refine iteF ?_
    exact k H' s'
end
section
local macro_rules | `(tactic| walk_at "sl") => `(tactic| first | assumption | exact SqL.of upd_same | exact SqL.of (by assumption) | ((with_reducible apply sql_upd); (walk_at "sl"); (first | assumption | exact Ne.symm (by assumption))))
local macro_rules | `(tactic| walk_at "st") => `(tactic| first | assumption | exact SqT.of upd_same | exact SqT.of (by assumption))
local macro_rules | `(tactic| walk_at "sc") => `(tactic| first | rfl | assumption | (show (0 : Int) < _; first | assumption | decide | omega) | exact Or.inl ⟨by omega, by omega⟩ | exact Or.inr ⟨by omega, by omega⟩ | exact ⟨by decide, by decide⟩ | exact ⟨by decide, by decide, by decide⟩)
local macro_rules | `(tactic| walk_at "g1") => `(tactic| first
  | refine ⟨(_ : V), rfl, ?_⟩
  | refine ⟨(_ : Bool), rfl, ?_⟩
  | refine ⟨(_ : Int), (_ : Int), rfl, rfl, ?_⟩
  | refine ⟨(_ : Int), rfl, ?_⟩
  | refine ⟨(_ : Str), rfl, ?_⟩
  | refine ⟨(_ : Addr), (_ : List V), rfl, Or.inl (by walk_at "sl"), ?_⟩
  | refine ⟨(_ : Addr), (_ : List V), rfl, Or.inr (by walk_at "st"), ?_⟩
  | refine ⟨(_ : Addr), (_ : List V), (_ : Int), (_ : V), rfl, rfl, (by walk_at "sl"), (by first | rfl | assumption), ?_⟩
  | refine ⟨(_ : Addr), (_ : List V), (_ : Int), (_ : V), rfl, rfl, (by walk_at "st"), (by first | rfl | assumption), ?_⟩
  | refine ⟨(_ : Addr), (_ : List V), (_ : Int), (_ : Nat), rfl, rfl, upd_same, rfl, ?_⟩
  | refine ⟨(_ : Addr), (_ : List V), (_ : Int), (_ : Nat), rfl, rfl, (by assumption), rfl, ?_⟩
  | refine ⟨(_ : Addr), (_ : Addr), (_ : Addr), (_ : List (Str × V)), (_ : V), rfl, (by assumption), (by assumption), (by assumption), (by first | assumption | rfl), ?_⟩
  | refine Or.inl ⟨(_ : Int), rfl, ?_⟩
  | refine And.intro (by walk_at "sc") ?_
  | refine iteT ?_
  | refine iteF ?_)
/-! ### places; a drawer without some cards -/
def spCheckPlace : Sp := fun vs H Q _ => ∃ n i : Int, vs = [.int n, .int i] ∧ 0 ≤ i ∧ i < n ∧ Q .non H
theorem ok_check_place (T : Top K mg) : FnOk P w K mg base CX0 2 T.a_check_place T.fd_check_place ["many", "place"] spCheckPlace := by
  refine T.F_check_place.ok sc_check_place (fun vs H Q E h => ?_) (fun cdv A outer s H vs Q E hr h => ?_)
  · obtain ⟨n, i, rfl, _⟩ := h
    rfl
  · obtain ⟨n, i, rfl, h0, h1, k⟩ := h
    have hu := hu_of hr
    refine ⟨_, (pss_one (ps_if (pt_not (pt_val (pe_call (ok_is_number T) (hr.mono (by decide)) (by rfl) T.g_is_number T.F_is_number.kp (b_is_number T) .nil pass0 (pa_cons (pv 1) (pa_cons pe_int (pa_cons (pe_op op_sub (pv 0) pe_int) pa_nil)))))) (pss_one (ps_never)) pss_nil)), ?_⟩
    repeat walk_at "g1"
    refine ⟨_, _, _, rfl, ?_⟩
    have e : isNum i 0 (n - 1) = true := by
      unfold isNum
      rw [decide_eq_true h0, decide_eq_true (by omega)]
      rfl
    rw [e]
    repeat walk_at "g1"
    exact k
/-- the cards but those of some places -/
def lessAt {α : Type} (cs : List α) (ns : List Int) : List α := (List.range cs.length).filterMap fun (i : Nat) => if ((i : Int) ∈ ns) then none else cs[i]?
theorem lessAt_map {α β : Type} (f : α → β) (cs : List α) (ns : List Int) : lessAt (cs.map f) ns = (lessAt cs ns).map f := by
  unfold lessAt
  rw [List.length_map, List.map_filterMap]
  congr 1
  funext i
  rw [List.getElem?_map]
  split <;> rfl
theorem lessAt_sub {α : Type} {cs : List α} {ns : List Int} {x : α} (h : x ∈ lessAt cs ns) : x ∈ cs := by
  unfold lessAt at h
  obtain ⟨i, _, e⟩ := List.mem_filterMap.mp h
  split at e
  · cases e
  · exact List.mem_of_getElem? e
theorem lessAt_len {α : Type} (cs : List α) (ns : List Int) : (lessAt cs ns).length ≤ cs.length := by
  unfold lessAt
  have q := List.length_filterMap_le (fun (i : Nat) => if ((i : Int) ∈ ns) then none else cs[i]?) (List.range cs.length)
  rw [List.length_range] at q
  exact q
theorem Cards.zip {C : Addr} {H : Hp} {ps : List Addr} {cs : List CD} (h : Cards K C H ps cs) : ps = (ps.zip cs).map Prod.fst ∧ cs = (ps.zip cs).map Prod.snd ∧ ∀ z ∈ ps.zip cs, CardAt K C H z.1 z.2 := by
  refine ⟨(List.map_fst_zip (Nat.le_of_eq h.1)).symm, (List.map_snd_zip (Nat.le_of_eq h.1.symm)).symm, fun z hz => ?_⟩
  obtain ⟨i, hi⟩ := List.getElem?_of_mem hz
  obtain ⟨h1, h2⟩ := List.getElem?_zip_eq_some.mp hi
  exact h.2 i _ _ h1 h2
theorem Cards.of_zip {C : Addr} {H : Hp} {zs : List (Addr × CD)} (h : ∀ z ∈ zs, CardAt K C H z.1 z.2) : Cards K C H (zs.map Prod.fst) (zs.map Prod.snd) := by
  refine ⟨by rw [List.length_map, List.length_map], fun i q c h1 h2 => ?_⟩
  rw [List.getElem?_map] at h1 h2
  obtain ⟨z, hz, rfl⟩ := Option.map_eq_some_iff.mp h1
  rw [hz] at h2
  cases h2
  exact h z (List.mem_of_getElem? hz)
theorem Cards.less {C : Addr} {H : Hp} {ps : List Addr} {cs : List CD} (h : Cards K C H ps cs) (ns : List Int) : Cards K C H (lessAt ps ns) (lessAt cs ns) := by
  obtain ⟨e1, e2, h3⟩ := h.zip
  rw [e1]
  generalize hz : ps.zip cs = zs at *
  rw [e2, lessAt_map, lessAt_map]
  exact Cards.of_zip fun z hz' => h3 z (lessAt_sub hz')
theorem inV_int {i : Int} : ∀ ns : List Int, inV (.int i) (ns.map V.int) = decide (i ∈ ns)
  | [] => rfl
  | n :: r => by
    show (eqV (.int n) (.int i) || inV (.int i) (r.map V.int)) = _
    rw [inV_int r]
    show ((n == i) || _) = _
    by_cases e : n = i
    · subst e
      simp
    · have e2 : (n == i) = false := beq_eq_false_iff_ne.mpr e
      rw [e2, Bool.false_or]
      by_cases e3 : i ∈ r
      · rw [decide_eq_true e3, decide_eq_true (List.mem_cons_of_mem _ e3)]
      · rw [decide_eq_false e3, decide_eq_false fun z => (List.mem_cons.mp z).elim (fun z => e z.symm) e3]
theorem flat_ints : ∀ ns : List Int, (ns.map V.int).all flatV = true
  | [] => rfl
  | _ :: r => flat_ints r
end
section
local macro_rules | `(tactic| walk_at "sl") => `(tactic| first | assumption | exact SqL.of upd_same | exact SqL.of (by assumption) | ((with_reducible apply sql_upd); (walk_at "sl"); (first | assumption | exact Ne.symm (by assumption))))
local macro_rules | `(tactic| walk_at "st") => `(tactic| first | assumption | exact SqT.of upd_same | exact SqT.of (by assumption))
local macro_rules | `(tactic| walk_at "sc") => `(tactic| first | rfl | assumption | (show (0 : Int) < _; first | assumption | decide | omega) | exact Or.inl ⟨by omega, by omega⟩ | exact Or.inr ⟨by omega, by omega⟩ | exact ⟨by decide, by decide⟩ | exact ⟨by decide, by decide, by decide⟩)
local macro_rules | `(tactic| walk_at "g1") => `(tactic| first
  | refine ⟨(_ : V), rfl, ?_⟩
  | refine ⟨(_ : Bool), rfl, ?_⟩
  | refine ⟨(_ : Int), (_ : Int), rfl, rfl, ?_⟩
  | refine ⟨(_ : Int), rfl, ?_⟩
  | refine ⟨(_ : Str), rfl, ?_⟩
  | refine ⟨(_ : Addr), (_ : List V), rfl, Or.inl (by walk_at "sl"), ?_⟩
  | refine ⟨(_ : Addr), (_ : List V), rfl, Or.inr (by walk_at "st"), ?_⟩
  | refine ⟨(_ : Addr), (_ : List V), (_ : Int), (_ : V), rfl, rfl, (by walk_at "sl"), (by first | rfl | assumption), ?_⟩
  | refine ⟨(_ : Addr), (_ : List V), (_ : Int), (_ : V), rfl, rfl, (by walk_at "st"), (by first | rfl | assumption), ?_⟩
  | refine ⟨(_ : Addr), (_ : List V), (_ : Int), (_ : Nat), rfl, rfl, upd_same, rfl, ?_⟩
  | refine ⟨(_ : Addr), (_ : List V), (_ : Int), (_ : Nat), rfl, rfl, (by assumption), rfl, ?_⟩
  | refine ⟨(_ : Addr), (_ : Addr), (_ : Addr), (_ : List (Str × V)), (_ : V), rfl, (by assumption), (by assumption), (by assumption), (by first | assumption | rfl), ?_⟩
  | refine Or.inl ⟨(_ : Int), rfl, ?_⟩
  | refine And.intro (by walk_at "sc") ?_
  | refine iteT ?_
  | refine iteF ?_)
theorem ok_Drawer_getitem (T : Top K mg) : FnOk P w K mg base CX0 3 T.a_Drawer_getitem T.fd_Drawer_getitem ["self", "place"] (fun vs H Q _ => ∃ (p : Addr) (cs : List CD) (i : Nat) (c : CD), vs = [.ref p, .int i] ∧ DrawerAt K T.c_Drawer T.c_Card H p cs ∧ cs.length ≤ 1000 ∧ cs[i]? = some c ∧ ∀ q, CardAt K T.c_Card H q c → Q (.ref q) H) := by
  refine T.F_Drawer_getitem.ok sc_Drawer_getitem (fun vs H Q E h => ?_) (fun cdv A outer s H vs Q E hr h => ?_)
  · obtain ⟨p, cs, i, c, rfl, _⟩ := h
    rfl
  · obtain ⟨p, cs, i, c, rfl, ⟨dx, t, ps, hp, hT, hC⟩, hl, hi, k⟩ := h
    have hu := hu_of hr
    have hic := (List.getElem?_eq_some_iff.mp hi).1
    have hip : i < ps.length := by rw [hC.1]; exact hic
    refine ⟨_, (pss_cons (ps_expr (pe_call (ok_check_place T) (hr.mono (by decide)) (by rfl) T.g_check_place T.F_check_place.kp (b_check_place T) .nil pass0 (pa_cons (pe_callB call_len_seq (by rfl) T.m_len (by decide +kernel) (pa_cons (pe_fld (pv 0) rfl) pa_nil)) (pa_cons (pv 1) pa_nil))))
      (pss_one (ps_ret (pe_ix ix_tup (pe_fld (pv 0) rfl) (pv 1) (fun _ _ => rfl))))), ?_⟩
    refine ⟨_, rfl, p, _, dx, _, _, rfl, hp, T.cl_Drawer, T.n_Drawer__cards, df_cards _, t, _, rfl, .inr hT, ?_⟩
    refine ⟨_, rfl, _, _, rfl, by omega, by rw [List.length_map]; omega, ?_⟩
    refine ⟨_, rfl, p, _, dx, _, _, rfl, hp, T.cl_Drawer, T.n_Drawer__cards, df_cards _, _, rfl, t, _, _, .ref ps[i], rfl, rfl, hT, atI_nat (by rw [List.getElem?_map, List.getElem?_eq_getElem hip]; rfl), ?_⟩
    exact k ps[i] (hC.2 i _ _ (List.getElem?_eq_getElem hip) hi)
end
section
local macro_rules | `(tactic| walk_at "sl") => `(tactic| first | assumption | exact SqL.of upd_same | exact SqL.of (by assumption) | ((with_reducible apply sql_upd); (walk_at "sl"); (first | assumption | exact Ne.symm (by assumption))))
local macro_rules | `(tactic| walk_at "st") => `(tactic| first | assumption | exact SqT.of upd_same | exact SqT.of (by assumption))
local macro_rules | `(tactic| walk_at "sc") => `(tactic| first | rfl | assumption | (show (0 : Int) < _; first | assumption | decide | omega) | exact Or.inl ⟨by omega, by omega⟩ | exact Or.inr ⟨by omega, by omega⟩ | exact ⟨by decide, by decide⟩ | exact ⟨by decide, by decide, by decide⟩)
local macro_rules | `(tactic| walk_at "g1") => `(tactic| first
  | refine ⟨(_ : V), rfl, ?_⟩
  | refine ⟨(_ : Bool), rfl, ?_⟩
  | refine ⟨(_ : Int), (_ : Int), rfl, rfl, ?_⟩
  | refine ⟨(_ : Int), rfl, ?_⟩
  | refine ⟨(_ : Str), rfl, ?_⟩
  | refine ⟨(_ : Addr), (_ : List V), rfl, Or.inl (by walk_at "sl"), ?_⟩
  | refine ⟨(_ : Addr), (_ : List V), rfl, Or.inr (by walk_at "st"), ?_⟩
  | refine ⟨(_ : Addr), (_ : List V), (_ : Int), (_ : V), rfl, rfl, (by walk_at "sl"), (by first | rfl | assumption), ?_⟩
  | refine ⟨(_ : Addr), (_ : List V), (_ : Int), (_ : V), rfl, rfl, (by walk_at "st"), (by first | rfl | assumption), ?_⟩
  | refine ⟨(_ : Addr), (_ : List V), (_ : Int), (_ : Nat), rfl, rfl, upd_same, rfl, ?_⟩
  | refine ⟨(_ : Addr), (_ : List V), (_ : Int), (_ : Nat), rfl, rfl, (by assumption), rfl, ?_⟩
  | refine ⟨(_ : Addr), (_ : Addr), (_ : Addr), (_ : List (Str × V)), (_ : V), rfl, (by assumption), (by assumption), (by assumption), (by first | assumption | rfl), ?_⟩
  | refine Or.inl ⟨(_ : Int), rfl, ?_⟩
  | refine And.intro (by walk_at "sc") ?_
  | refine iteT ?_
  | refine iteF ?_)
/-! ### the law's own searcher -/
def hereOf (r : Str) (lo hi : Int) : Int := if r = "half" then (lo + hi - 1) / 2 else lo
def J (ws : List Str) (r h : Str) (lo hi : Int) (ps : List Int) : Prop :=
  (r = "half" ∧ ∃ f, (hi - lo).toNat < f ∧ halvesOf ws h = halves ws h f lo (hi - 1) ps) ∨
  (r ≠ "half" ∧ ((hi = ws.length ∧ ps = upTo lo.toNat ∧ along (decide (r = "leaf")) h 0 ws = along (decide (r = "leaf")) h lo.toNat (ws.drop lo.toNat)) ∨ (hi ≤ lo ∧ alongOf ws (decide (r = "leaf")) h = (none, ps))))
theorem upTo_succ (n : Nat) : upTo (n + 1) = upTo n ++ [(n : Int)] := by
  unfold upTo
  rw [List.range_succ, List.map_append]
  rfl
theorem J_start (ws : List Str) (r h : Str) : J ws r h 0 ws.length [] := by
  by_cases e : r = "half"
  · exact .inl ⟨e, ws.length + 1, by omega, rfl⟩
  · exact .inr ⟨e, .inl ⟨rfl, rfl, rfl⟩⟩
theorem J_stop {ws : List Str} {r h : Str} {lo hi : Int} {ps : List Int} (j : J ws r h lo hi ps) (h0 : 0 ≤ lo) (hs : hi ≤ lo) : seekOf ws r h = (none, ps) := by
  rcases j with ⟨e, f, hf, q⟩ | ⟨e, ⟨h1, h2, h3⟩ | ⟨_, h2⟩⟩
  · unfold seekOf
    rw [if_pos e, q]
    cases f with
    | zero => rfl
    | succ f =>
      show (if lo ≤ hi - 1 then _ else _) = _
      rw [if_neg (by omega)]
  · unfold seekOf
    rw [if_neg e]
    unfold alongOf
    have hl : ws.length ≤ lo.toNat := by omega
    rw [h3, List.drop_eq_nil_of_le hl, h2]
    rfl
  · unfold seekOf
    rw [if_neg e, h2]
theorem J_in {ws : List Str} {r h : Str} {lo hi : Int} {ps : List Int} (j : J ws r h lo hi ps) (h0 : 0 ≤ lo) (hs : lo < hi) (hn : hi ≤ ws.length) : 0 ≤ hereOf r lo hi ∧ lo ≤ hereOf r lo hi ∧ hereOf r lo hi < hi := by
  unfold hereOf
  split
  · omega
  · omega
theorem J_half {ws : List Str} {h : Str} {lo hi : Int} {ps : List Int} {f : Nat} {x : Str} (h0 : 0 ≤ lo) (hs : lo < hi) (hx : ws[((lo + hi - 1) / 2).toNat]? = some x) :
    halves ws h (f + 1) lo (hi - 1) ps = if x = h then (some ((lo + hi - 1) / 2).toNat, ps ++ [(lo + hi - 1) / 2]) else if ltS h x = true then halves ws h f lo ((lo + hi - 1) / 2 - 1) (ps ++ [(lo + hi - 1) / 2]) else halves ws h f ((lo + hi - 1) / 2 + 1) (hi - 1) (ps ++ [(lo + hi - 1) / 2]) := by
  have e : lo + (hi - 1) = lo + hi - 1 := by omega
  show (if lo ≤ hi - 1 then (if ws[((lo + (hi - 1)) / 2).toNat]?.getD "" = h then _ else _) else _) = _
  rw [if_pos (by omega), e, hx]
  rfl
theorem J_along {ws : List Str} {g : Bool} {h : Str} {n : Nat} {x : Str} (hx : ws[n]? = some x) : along g h n (ws.drop n) = if x = h then (some n, n + 1) else if (g && ltS h x) = true then (none, n + 1) else along g h (n + 1) (ws.drop (n + 1)) := by
  have hn := (List.getElem?_eq_some_iff.mp hx).1
  have hd : ws.drop n = x :: ws.drop (n + 1) := by
    rw [List.drop_eq_getElem_cons hn]
    rw [List.getElem?_eq_getElem hn] at hx
    rw [Option.some.inj hx]
  rw [hd]
  rfl
theorem J_hit {ws : List Str} {r h : Str} {lo hi : Int} {ps : List Int} (j : J ws r h lo hi ps) (h0 : 0 ≤ lo) (hs : lo < hi) (hx : ws[(hereOf r lo hi).toNat]? = some h) : seekOf ws r h = (some (hereOf r lo hi).toNat, ps ++ [hereOf r lo hi]) := by
  rcases j with ⟨e, f, hf, q⟩ | ⟨e, ⟨h1, h2, h3⟩ | ⟨h4, _⟩⟩
  · have eh : hereOf r lo hi = (lo + hi - 1) / 2 := if_pos e
    rw [eh] at hx ⊢
    obtain ⟨f, rfl⟩ : ∃ f', f = f' + 1 := ⟨f - 1, by omega⟩
    unfold seekOf
    rw [if_pos e, q, J_half h0 hs hx, if_pos rfl]
  · have eh : hereOf r lo hi = lo := if_neg e
    rw [eh] at hx ⊢
    unfold seekOf
    rw [if_neg e]
    unfold alongOf
    rw [h3, J_along hx, if_pos rfl, upTo_succ, Int.toNat_of_nonneg h0, h2]
  · omega
theorem J_up {ws : List Str} {r h x : Str} {lo hi : Int} {ps : List Int} (hr : r ∈ rules3) (j : J ws r h lo hi ps) (h0 : 0 ≤ lo) (hs : lo < hi) (hx : ws[(hereOf r lo hi).toNat]? = some x) (hne : x ≠ h) (hlt : ltS h x = true) (ha : r ≠ "all") :
    J ws r h lo (if r = "half" then hereOf r lo hi else lo) (ps ++ [hereOf r lo hi]) := by
  rcases j with ⟨e, f, hf, q⟩ | ⟨e, ⟨h1, h2, h3⟩ | ⟨h4, _⟩⟩
  · have eh : hereOf r lo hi = (lo + hi - 1) / 2 := if_pos e
    rw [if_pos e]
    rw [eh] at hx ⊢
    obtain ⟨f, rfl⟩ : ∃ f', f = f' + 1 := ⟨f - 1, by omega⟩
    rw [J_half h0 hs hx, if_neg hne, if_pos hlt] at q
    exact .inl ⟨e, f, by omega, q⟩
  · have eh : hereOf r lo hi = lo := if_neg e
    rw [if_neg e]
    rw [eh] at hx ⊢
    have hl : r = "leaf" := by
      unfold rules3 at hr
      rcases List.mem_cons.mp hr with h | hr
      · exact absurd h ha
      · rcases List.mem_cons.mp hr with h | hr
        · exact h
        · exact absurd (List.mem_singleton.mp hr) e
    refine .inr ⟨e, .inr ⟨Int.le_refl _, ?_⟩⟩
    unfold alongOf
    rw [h3, J_along hx, if_neg hne, if_pos (by rw [decide_eq_true hl, hlt]; rfl), upTo_succ, Int.toNat_of_nonneg h0, h2]
  · omega
theorem J_down {ws : List Str} {r h x : Str} {lo hi : Int} {ps : List Int} (hr : r ∈ rules3) (j : J ws r h lo hi ps) (h0 : 0 ≤ lo) (hs : lo < hi) (hx : ws[(hereOf r lo hi).toNat]? = some x) (hne : x ≠ h) (hno : ¬ (ltS h x = true ∧ r ≠ "all")) :
    J ws r h (hereOf r lo hi + 1) hi (ps ++ [hereOf r lo hi]) := by
  rcases j with ⟨e, f, hf, q⟩ | ⟨e, ⟨h1, h2, h3⟩ | ⟨h4, _⟩⟩
  · have eh : hereOf r lo hi = (lo + hi - 1) / 2 := if_pos e
    have ha : r ≠ "all" := by
      rw [e]
      decide
    rw [eh] at hx ⊢
    obtain ⟨f, rfl⟩ : ∃ f', f = f' + 1 := ⟨f - 1, by omega⟩
    rw [J_half h0 hs hx, if_neg hne, if_neg (fun z => hno ⟨z, ha⟩)] at q
    exact .inl ⟨e, f, by omega, q⟩
  · have eh : hereOf r lo hi = lo := if_neg e
    rw [eh] at hx ⊢
    have hb : ¬ (decide (r = "leaf") && ltS h x) = true := fun z => by
      rw [Bool.and_eq_true] at z
      refine hno ⟨z.2, fun ha => ?_⟩
      have := of_decide_eq_true z.1
      rw [ha] at this
      exact absurd this (by decide)
    rw [J_along hx, if_neg hne, if_neg hb] at h3
    have e1 : (lo + 1).toNat = lo.toNat + 1 := by omega
    refine .inr ⟨e, .inl ⟨h1, ?_, ?_⟩⟩
    · rw [e1, upTo_succ, Int.toNat_of_nonneg h0, h2]
    · rw [e1]
      exact h3
  · omega
theorem tC_to {v : V} {σ : St} {H : Hp} {Q : VK} (q : Q v H) : tC v σ H Q := q
theorem ifE {c : Bool} {ta tb : TE} {σ : St} {H : Hp} {Q : VK} (v : V) (H' : Hp) (q : Q v H') (a : c = true → Q v H' → ta σ H Q) (b : ¬ c = true → Q v H' → tb σ H Q) : if c = true then ta σ H Q else tb σ H Q := by
  split
  · exact a (by assumption) q
  · exact b (by assumption) q
def spLooked (K : PySem.W.Frag) : Sp := fun vs H Q _ => ∃ (D : Addr) (xs : List V) (cs : List CD) (r h : Str), vs = [.ref D, .str r, .str h] ∧ SqL K H D xs ∧ Items K H xs cs ∧ cs.length ≤ 1000 ∧ r ∈ rules3 ∧ ∀ (t : Addr) (H' : Hp), Same H H' → Seen K H' t (seekOf (heads cs) r h) → Q (.ref t) H'
theorem str_dec (a b : Str) : decide (V.str a = V.str b) = decide (a = b) := by
  by_cases e : a = b
  · rw [decide_eq_true e, decide_eq_true (congrArg V.str e)]
  · rw [decide_eq_false e, decide_eq_false fun z => e (V.str.inj z)]
theorem ok_llaw_looked (T : Top K mg) : FnOk P w K mg base CX0 1 T.a_llaw_looked T.fd_llaw_looked ["_law_some", "_law_rule", "_law_heading"] (spLooked K) := by
  refine T.F_llaw_looked.ok sc_llaw_looked (fun vs H Q E h => ?_) (fun cdv A outer s H vs Q E hr h => ?_)
  · obtain ⟨D, xs, cs, r, h, rfl, _⟩ := h
    rfl
  · obtain ⟨D, xs, cs, r, h, rfl, hL, hI, hl, hr3, k⟩ := h
    have hu := hu_of hr
    refine ⟨_, (pss_cons (ps_par3 (i := 3) (j := 4) (l := 5) (by rfl) sc_llaw_looked.nd rfl rfl rfl (by decide) (by decide) (by decide) rfl rfl rfl (pa_cons (pe_lst pa_nil) (pa_cons pe_int (pa_cons (pe_callB call_len_seq (by rfl) T.m_len (by decide +kernel) (pa_cons (pv 0) pa_nil)) pa_nil))) (by rfl))
      (pss_cons (ps_for PassesOwn.never rfl (pi_range1 (by rfl) T.m_range (pa_cons (pe_op op_add (pe_callB call_len_seq (by rfl) T.m_len (by decide +kernel) (pa_cons (pv 0) pa_nil)) pe_int) pa_nil)) (pg_name (i := 6) sc_llaw_looked.nd rfl (.inl rfl))
        (pss_cons (ps_if (pt_cmpR op_ge (pv 4) (pv 5) (nomark _)) (pss_one (ps_ret (pe_tup (pa_cons pe_non (pa_cons (pe_callTy call_tuple_of (by rfl) T.m_tuple (by decide +kernel) (pa_cons (pv 3) pa_nil)) pa_nil))))) pss_nil)
        (pss_cons (ps_set (i := 7) sc_llaw_looked.nd rfl (.inl rfl) (pe_ifExp (pt_cmpR op_eq (pv 1) pe_str (nomark _)) (pe_op op_fdiv (pe_op op_sub (pe_op op_add (pv 4) (pv 5)) pe_int) pe_int) (pv 4)))
        (pss_cons (ps_expr (pe_bm PySem.F.plainAttrs_list PySem.F.slot_list_append PySem.F.type_list_append mt_append (pv 3) (pa_cons (pv 7) pa_nil)))
        (pss_cons (ps_if (pt_cmpR op_eq (pe_ix ix_tup (pe_ix ix_list (pv 0) (pv 7) (fun _ _ => rfl)) pe_int (fun _ _ => rfl)) (pv 2) (nomark _)) (pss_one (ps_ret (pe_tup (pa_cons (pv 7) (pa_cons (pe_callTy call_tuple_of (by rfl) T.m_tuple (by decide +kernel) (pa_cons (pv 3) pa_nil)) pa_nil))))) pss_nil)
        (pss_one (ps_if (PW.pt (pw_and (pt_cmpR op_gt_str (pe_ix ix_tup (pe_ix ix_list (pv 0) (pv 7) (fun _ _ => rfl)) pe_int (fun _ _ => rfl)) (pv 2) (nomark _)) (pw_and1 (pt_cmpR op_ne (pv 1) pe_str (nomark _))))) (pss_one (ps_set (i := 5) sc_llaw_looked.nd rfl (.inl rfl) (pe_ifExp (pt_cmpR op_eq (pv 1) pe_str (nomark _)) (pv 7) (pv 4)))) (pss_one (ps_set (i := 4) sc_llaw_looked.nd rfl (.inl rfl) (pe_op op_add (pv 7) pe_int))))))))))
      (pss_one (ps_ret (pe_tup (pa_cons pe_non (pa_cons (pe_callTy call_tuple_of (by rfl) T.m_tuple (by decide +kernel) (pa_cons (pv 3) pa_nil)) pa_nil))))))), ?_⟩
    have hxl : xs.length = (heads cs).length := by
      unfold heads
      rw [hI.1, List.length_map]
    have hItem : ∀ (j : Nat) (x : Str), (heads cs)[j]? = some x → ∃ (t b a : Addr) (e : Str), xs[j]? = some (.ref t) ∧ SqT K H t [.str x, .ref b, .str e, .ref a] := fun j x hx => by
      unfold heads at hx
      rw [List.getElem?_map] at hx
      obtain ⟨c, hc, rfl⟩ := Option.map_eq_some_iff.mp hx
      have hj : j < xs.length := by
        rw [hI.1]
        exact (List.getElem?_eq_some_iff.mp hc).1
      obtain ⟨t, b, a, e, hT, _, _⟩ := hI.2 j _ _ (List.getElem?_eq_getElem hj) hc
      exact ⟨t, b, a, c.see, by rw [List.getElem?_eq_getElem hj, e], hT⟩
    have hln : (heads cs).length ≤ 1000 := by
      rw [← hxl, hI.1]
      exact hl
    generalize heads cs = ws at *
    refine ⟨Nat.zero_le _, fun l hl0 => ?_⟩
    have s1 : Same H (upd H l (.lst [])) := same_new hl0
    refine ⟨_, rfl, D, xs, rfl, .inl (s1.seq hL), ?_⟩
    refine ⟨_, _, _, rfl, ?_⟩
    refine ⟨_, rfl, D, xs, rfl, .inl (s1.seq hL), _, _, rfl, rfl, _, rfl, by omega, by omega, for_range (n := xs.length + 1) (fun i σ H1 => ∃ (lo hi : Int) (ps : List Int) (y6 y7 : Option V), σ = [some (.ref D), some (.str r), some (.str h), some (.ref l), some (.int lo), some (.int hi), y6, y7] ∧ Same H H1 ∧ H1 l = some (.lst (ps.map V.int)) ∧ 0 ≤ lo ∧ hi ≤ (ws.length : Int) ∧ J ws r h lo hi ps ∧ (hi - lo).toNat + i ≤ ws.length ∧ ps.length ≤ i)
      ⟨0, xs.length, [], none, none, rfl, s1, upd_same, Int.le_refl _, by omega, by rw [hxl]; exact J_start ws r h, by omega, Nat.le_refl _⟩ (fun i σ H1 hi hP => ?_) (fun σ H1 hP => ?_)⟩
    · obtain ⟨lo, hi', ps, y6, y7, rfl, s1, el, h0, h1, j, hb, hp⟩ := hP
      refine ⟨_, rfl, _, rfl, _, _, rfl, rfl, _, rfl, ite2 (fun hle => ?_) (fun hle => ?_)⟩
      · have e2 := J_stop j h0 (of_decide_eq_true hle)
        refine ⟨_, rfl, l, _, rfl, .inl ⟨SqL.of el, fun p hp => ⟨by show 2 ≤ sizeLine; decide, fun t ht => ?_⟩⟩⟩
        refine k t _ ((s1.trans (same_new hp)).trans (same_new ht)) ⟨p, ?_, ?_⟩
        · rw [e2]
          exact SqT.of upd_same
        · rw [e2]
          exact SqT.of (kp upd_same ht)
      · have hlt : lo < hi' := by
          have : ¬ hi' ≤ lo := fun z => hle (decide_eq_true z)
          omega
        obtain ⟨m0, m1, m2⟩ := J_in j h0 hlt h1
        refine ⟨_, rfl, rfl, _, rfl, ifE (.int (hereOf r lo hi')) H1 ?_ (fun e q => ?_) (fun e q => ?_)⟩
        · have hn : (hereOf r lo hi').toNat < ws.length := by omega
          obtain ⟨x, hx⟩ : ∃ x, ws[(hereOf r lo hi').toNat]? = some x := ⟨_, List.getElem?_eq_getElem hn⟩
          obtain ⟨ti, bi, ai, ei, hxi, hTi⟩ := hItem _ x hx
          have hat : atI xs (hereOf r lo hi') = some (.ref ti) := by
            have q := atI_nat hxi
            rw [Int.toNat_of_nonneg m0] at q
            exact q
          have jh := fun e : x = h => J_hit j h0 hlt (by rw [← e]; exact hx)
          have ju := fun (e : x ≠ h) (z : ltS h x = true) (a : r ≠ "all") => J_up hr3 j h0 hlt hx e z a
          have jd := fun (e : x ≠ h) (z : ¬ (ltS h x = true ∧ r ≠ "all")) => J_down hr3 j h0 hlt hx e z
          have hup : (if r = "half" then hereOf r lo hi' else lo) < hi' ∧ (if r = "half" then hereOf r lo hi' else lo) ≤ hi' := by
            split <;> omega
          generalize hereOf r lo hi' = m at *
          refine ⟨_, rfl, .inl ⟨rfl, _, SqL.of el⟩, _, rfl, l, _, _, rfl, rfl, el, sizeLine_of (by rw [List.length_map]; omega), ?_⟩
          have s2 : Same H (upd H1 l (.lst (ps.map V.int ++ [.int m]))) := same_mut s1 hl0
          have el2 : (upd H1 l (.lst (ps.map V.int ++ [.int m]))) l = some (.lst ((ps ++ [m]).map V.int)) := by
            rw [upd_same, List.map_append]
            rfl
          generalize upd H1 l (.lst (ps.map V.int ++ [.int m])) = H2 at *
          have lp : (ps ++ [m]).length ≤ i + 1 := by
            rw [List.length_append, List.length_singleton]
            omega
          refine ⟨_, rfl, _, rfl, D, xs, _, .ref ti, rfl, rfl, s2.seq hL, hat, ti, _, 0, .str x, rfl, rfl, s2.seqT hTi, rfl, ?_⟩
          refine ⟨_, rfl, rEq_to (b := decide (x = h)) rfl (str_dec x h) ?_⟩
          refine ⟨_, rfl, ite2 (fun e => ?_) (fun e => ?_)⟩
          · have e2 := jh (of_decide_eq_true e)
            refine ⟨_, rfl, _, rfl, l, _, rfl, .inl ⟨SqL.of el2, fun p hp => ⟨by show 2 ≤ sizeLine; decide, fun t ht => ?_⟩⟩⟩
            refine k t _ ((s2.trans (same_new hp)).trans (same_new ht)) ⟨p, ?_, ?_⟩
            · rw [e2]
              show SqT K _ t [.int ((m.toNat : Nat) : Int), .ref p]
              rw [Int.toNat_of_nonneg m0]
              exact SqT.of upd_same
            · rw [e2]
              exact SqT.of (kp upd_same ht)
          · have ne : x ≠ h := fun z => e (decide_eq_true z)
            have down : ¬ (ltS h x = true ∧ r ≠ "all") → ∃ (lo2 hi2 : Int) (ps2 : List Int) (y6 y7 : Option V), [some (V.ref D), some (.str r), some (.str h), some (.ref l), some (.int (m + 1)), some (.int hi'), some (.int (0 + (i : Int))), some (.int m)] = [some (.ref D), some (.str r), some (.str h), some (.ref l), some (.int lo2), some (.int hi2), y6, y7] ∧ Same H H2 ∧ H2 l = some (.lst (ps2.map V.int)) ∧ 0 ≤ lo2 ∧ hi2 ≤ (ws.length : Int) ∧ J ws r h lo2 hi2 ps2 ∧ (hi2 - lo2).toNat + (i + 1) ≤ ws.length ∧ ps2.length ≤ i + 1 := fun z =>
              ⟨m + 1, hi', ps ++ [m], _, _, rfl, s2, el2, by omega, h1, jd ne z, by omega, lp⟩
            refine ⟨_, rfl, _, rfl, D, xs, _, .ref ti, rfl, rfl, s2.seq hL, hat, ti, _, 0, .str x, rfl, rfl, s2.seqT hTi, rfl, ?_⟩
            refine ⟨_, rfl, _, _, rfl, rfl, _, rfl, ?_⟩
            by_cases hlt2 : ltS h x = true
            · rw [show (decide (h.cps.toList < x.cps.toList)) = true from hlt2]
              refine iteT ?_
              refine ⟨_, rfl, tC_to (rNe_to (b := !decide (r = "all")) rfl (by rw [str_dec]) ?_)⟩
              refine ⟨_, rfl, ?_⟩
              by_cases ha : r = "all"
              · rw [decide_eq_true ha]
                refine iteF ?_
                refine ⟨_, rfl, _, _, rfl, rfl, ?_⟩
                exact down fun z => z.2 ha
              · rw [decide_eq_false ha]
                refine iteT ?_
                refine ⟨_, rfl, rfl, _, rfl, ifE (.int (if r = "half" then m else lo)) H2 ?_ (fun e q => ?_) (fun e q => ?_)⟩
                · exact ⟨lo, _, ps ++ [m], _, _, rfl, s2, el2, h0, by omega, ju ne hlt2 ha, by omega, lp⟩
                · rw [if_pos (V.str.inj (of_decide_eq_true e))] at q
                  exact ⟨_, rfl, q⟩
                · rw [if_neg (fun z => e (decide_eq_true (congrArg V.str z)))] at q
                  exact ⟨_, rfl, q⟩
            · rw [show (decide (h.cps.toList < x.cps.toList)) = false from Bool.eq_false_iff.mpr hlt2]
              refine iteF ?_
              refine iteF ?_
              refine ⟨_, rfl, _, _, rfl, rfl, ?_⟩
              exact down fun z => hlt2 z.1
        · have eh : hereOf r lo hi' = (lo + hi' - 1) / 2 := if_pos (V.str.inj (of_decide_eq_true e))
          rw [eh] at q
          exact ⟨_, rfl, _, rfl, _, _, rfl, rfl, _, _, rfl, rfl, _, _, rfl, rfl, ⟨by decide, by decide⟩, q⟩
        · have eh : hereOf r lo hi' = lo := if_neg fun z => e (decide_eq_true (congrArg V.str z))
          rw [eh] at q
          exact ⟨_, rfl, q⟩
    · obtain ⟨lo, hi', ps, y6, y7, rfl, s1, el, h0, h1, j, hb, hp⟩ := hP
      omega
end
section
local macro_rules | `(tactic| walk_at "sl") => `(tactic| first | assumption | exact SqL.of upd_same | exact SqL.of (by assumption) | ((with_reducible apply sql_upd); (walk_at "sl"); (first | assumption | exact Ne.symm (by assumption))))
local macro_rules | `(tactic| walk_at "st") => `(tactic| first | assumption | exact SqT.of upd_same | exact SqT.of (by assumption))
local macro_rules | `(tactic| walk_at "sc") => `(tactic| first | rfl | assumption | (show (0 : Int) < _; first | assumption | decide | omega) | exact Or.inl ⟨by omega, by omega⟩ | exact Or.inr ⟨by omega, by omega⟩ | exact ⟨by decide, by decide⟩ | exact ⟨by decide, by decide, by decide⟩)
local macro_rules | `(tactic| walk_at "g1") => `(tactic| first
  | refine ⟨(_ : V), rfl, ?_⟩
  | refine ⟨(_ : Bool), rfl, ?_⟩
  | refine ⟨(_ : Int), (_ : Int), rfl, rfl, ?_⟩
  | refine ⟨(_ : Int), rfl, ?_⟩
  | refine ⟨(_ : Str), rfl, ?_⟩
  | refine ⟨(_ : Addr), (_ : List V), rfl, Or.inl (by walk_at "sl"), ?_⟩
  | refine ⟨(_ : Addr), (_ : List V), rfl, Or.inr (by walk_at "st"), ?_⟩
  | refine ⟨(_ : Addr), (_ : List V), (_ : Int), (_ : V), rfl, rfl, (by walk_at "sl"), (by first | rfl | assumption), ?_⟩
  | refine ⟨(_ : Addr), (_ : List V), (_ : Int), (_ : V), rfl, rfl, (by walk_at "st"), (by first | rfl | assumption), ?_⟩
  | refine ⟨(_ : Addr), (_ : List V), (_ : Int), (_ : Nat), rfl, rfl, upd_same, rfl, ?_⟩
  | refine ⟨(_ : Addr), (_ : List V), (_ : Int), (_ : Nat), rfl, rfl, (by assumption), rfl, ?_⟩
  | refine ⟨(_ : Addr), (_ : Addr), (_ : Addr), (_ : List (Str × V)), (_ : V), rfl, (by assumption), (by assumption), (by assumption), (by first | assumption | rfl), ?_⟩
  | refine Or.inl ⟨(_ : Int), rfl, ?_⟩
  | refine And.intro (by walk_at "sc") ?_
  | refine iteT ?_
  | refine iteF ?_)
/-! ### all headings that stand somewhere -/
theorem take_flat_len {α β : Type} (f : α → List β) (l : List α) (i : Nat) : ((l.take i).flatMap f).length ≤ (l.flatMap f).length := by
  have e : l.flatMap f = (l.take i).flatMap f ++ (l.drop i).flatMap f := by
    rw [← List.flatMap_append, List.take_append_drop]
  rw [e, List.length_append]
  exact Nat.le_add_right _ _
def knownOf (c : CD) : List Str := (c.heading :: (if c.see = "" then [] else [c.see])) ++ c.also
def known (cs : List CD) : List Str := cs.flatMap knownOf
end
section
local macro_rules | `(tactic| walk_at "sl") => `(tactic| first | assumption | exact SqL.of upd_same | exact SqL.of (by assumption) | ((with_reducible apply sql_upd); (walk_at "sl"); (first | assumption | exact Ne.symm (by assumption))))
local macro_rules | `(tactic| walk_at "st") => `(tactic| first | assumption | exact SqT.of upd_same | exact SqT.of (by assumption))
local macro_rules | `(tactic| walk_at "sc") => `(tactic| first | rfl | assumption | (show (0 : Int) < _; first | assumption | decide | omega) | exact Or.inl ⟨by omega, by omega⟩ | exact Or.inr ⟨by omega, by omega⟩ | exact ⟨by decide, by decide⟩ | exact ⟨by decide, by decide, by decide⟩)
local macro_rules | `(tactic| walk_at "g1") => `(tactic| first
  | refine ⟨(_ : V), rfl, ?_⟩
  | refine ⟨(_ : Bool), rfl, ?_⟩
  | refine ⟨(_ : Int), (_ : Int), rfl, rfl, ?_⟩
  | refine ⟨(_ : Int), rfl, ?_⟩
  | refine ⟨(_ : Str), rfl, ?_⟩
  | refine ⟨(_ : Addr), (_ : List V), rfl, Or.inl (by walk_at "sl"), ?_⟩
  | refine ⟨(_ : Addr), (_ : List V), rfl, Or.inr (by walk_at "st"), ?_⟩
  | refine ⟨(_ : Addr), (_ : List V), (_ : Int), (_ : V), rfl, rfl, (by walk_at "sl"), (by first | rfl | assumption), ?_⟩
  | refine ⟨(_ : Addr), (_ : List V), (_ : Int), (_ : V), rfl, rfl, (by walk_at "st"), (by first | rfl | assumption), ?_⟩
  | refine ⟨(_ : Addr), (_ : List V), (_ : Int), (_ : Nat), rfl, rfl, upd_same, rfl, ?_⟩
  | refine ⟨(_ : Addr), (_ : List V), (_ : Int), (_ : Nat), rfl, rfl, (by assumption), rfl, ?_⟩
  | refine ⟨(_ : Addr), (_ : Addr), (_ : Addr), (_ : List (Str × V)), (_ : V), rfl, (by assumption), (by assumption), (by assumption), (by first | assumption | rfl), ?_⟩
  | refine Or.inl ⟨(_ : Int), rfl, ?_⟩
  | refine And.intro (by walk_at "sc") ?_
  | refine iteT ?_
  | refine iteF ?_)
def spKnown (K : PySem.W.Frag) : Sp := fun vs H Q _ => ∃ (D : Addr) (xs : List V) (cs : List CD), vs = [.ref D] ∧ SqL K H D xs ∧ Items K H xs cs ∧ (known cs).length ≤ 1000 ∧ (∀ ks : List Str, ks.Nodup → (∀ k, k ∈ ks ↔ k ∈ known cs) → ks.length < 64) ∧
  ∀ (l : Addr) (H' : Hp) (ys : List Str), ys.Nodup → PyProof.Rows.sortedS ys = true → (∀ k, k ∈ ys ↔ k ∈ known cs) → Same H H' → H l = none → H' l = some (.lst (ys.map V.str)) → Q (.ref l) H'
theorem ok_llaw_known (T : Top K mg) : FnOk P w K mg base CX0 1 T.a_llaw_known T.fd_llaw_known ["_law_some"] (spKnown K) := by
  refine T.F_llaw_known.ok sc_llaw_known (fun vs H Q E h => ?_) (fun cdv A outer s H vs Q E hr h => ?_)
  · obtain ⟨D, xs, cs, rfl, _⟩ := h
    rfl
  · obtain ⟨D, xs, cs, rfl, hL, hI, hn, h64, k⟩ := h
    have hu := hu_of hr
    refine ⟨_, (pss_cons (ps_set (i := 1) sc_llaw_known.nd rfl (.inl rfl) (pe_lst pa_nil))
      (pss_cons (ps_for PassesOwn.never rfl (pi_list (pv 0)) (pg_tup rfl (pgs_cons (pg_name (i := 2) sc_llaw_known.nd rfl (.inl rfl)) (pgs_cons (pg_name (i := 3) sc_llaw_known.nd rfl (.inl rfl)) (pgs_cons (pg_name (i := 4) sc_llaw_known.nd rfl (.inl rfl)) (pgs_cons (pg_name (i := 5) sc_llaw_known.nd rfl (.inl rfl)) pgs_nil)))))
        (pss_one (ps_set (i := 1) sc_llaw_known.nd rfl (.inl rfl) (pe_op op_cat (pe_op op_cat (pe_op op_cat (pv 1) (pe_lst (pa_cons (pv 2) pa_nil))) (pe_ifExp (pt_cmpR op_ne (pv 4) pe_str (nomark _)) (pe_lst (pa_cons (pv 4) pa_nil)) (pe_lst pa_nil))) (pe_callTy call_list_of (by rfl) T.m_list (by decide +kernel) (pa_cons (pv 5) pa_nil))))))
      (pss_one (ps_ret (pe_callB (cr_sortedSS rfl) (by rfl) T.m_sorted (by decide +kernel) (pa_cons (pe_callTy (call_setLS rfl) (by rfl) T.m_set (by decide +kernel) (pa_cons (pv 1) pa_nil)) pa_nil)))))), ?_⟩
    refine ⟨Nat.zero_le _, fun l0 hl0 => ?_⟩
    have s0 : Same H (upd H l0 (.lst [])) := same_new hl0
    refine ⟨_, rfl, D, rfl, ⟨_, s0.seq hL⟩, for_list (K := K) (a := D) (xs := xs) (fun i σ H1 => ∃ (lf : Addr) (y2 y3 y4 y5 : Option V), σ = [some (.ref D), some (.ref lf), y2, y3, y4, y5] ∧ Same H H1 ∧ H1 lf = some (.lst ((known (cs.take i)).map V.str)))
      ⟨l0, none, none, none, none, rfl, s0, upd_same⟩ (fun i σ H1 _ ⟨_, _, _, _, _, _, s1, _⟩ => s1.seq hL) (fun i x σ H1 hi hP => ?_) (fun σ H1 hP => ?_)⟩
    · obtain ⟨lf, y2, y3, y4, y5, rfl, s1, el⟩ := hP
      have hic : i < cs.length := by
        rw [← hI.1]
        exact (List.getElem?_eq_some_iff.mp hi).1
      have hkt : known (cs.take (i + 1)) = known (cs.take i) ++ knownOf cs[i] := by
        unfold known
        rw [List.take_add_one, List.getElem?_eq_getElem hic, List.flatMap_append]
        congr 1
        exact List.append_nil _
      have hkl : (known (cs.take (i + 1))).length ≤ 1000 := Nat.le_trans (take_flat_len knownOf cs (i + 1)) hn
      obtain ⟨t, b, a, rfl, hT, hB, hA⟩ := hI.2 i x cs[i] hi (List.getElem?_eq_getElem hic)
      generalize cs[i] = c at *
      rw [hkt, List.length_append] at hkl
      have hkc : (knownOf c).length = 1 + (if c.see = "" then [] else [c.see] : List Str).length + c.also.length := by
        unfold knownOf
        rw [List.length_append, List.length_cons]
        omega
      have hT1 := s1.seqT hT
      refine ⟨t, _, rfl, hT1, rfl, _, _, rfl, _, _, rfl, _, _, rfl, _, _, rfl, rfl, ?_⟩
      refine ⟨_, rfl, _, rfl, by show 1 ≤ sizeLine; decide, fun l1 hl1 => ?_⟩
      have big : ∀ n : Nat, n ≤ 1000 → n ≤ sizeLine := fun n h => Nat.le_of_lt (sizeLine_of (by omega))
      have hkn : (known (cs.take i)).length ≤ 1000 := by omega
      refine ⟨lf, l1, _, _, rfl, rfl, kp el hl1, upd_same, big _ (by rw [List.length_map, List.length_singleton]; omega), fun p1 hp1 => ?_⟩
      have s2 := (s1.trans (same_new (o := .lst [.str c.heading]) hl1)).trans (same_new (o := .lst ((known (cs.take i)).map V.str ++ [.str c.heading])) hp1)
      have e1 : (upd (upd H1 l1 (.lst [.str c.heading])) p1 (.lst ((known (cs.take i)).map V.str ++ [.str c.heading]))) p1 = some (.lst ((known (cs.take i) ++ [c.heading]).map V.str)) := by
        rw [upd_same, List.map_append]
        rfl
      generalize upd (upd H1 l1 (.lst [.str c.heading])) p1 (.lst ((known (cs.take i)).map V.str ++ [.str c.heading])) = H2 at *
      refine ⟨_, rfl, tC_to (rNe_to (b := !decide (c.see = "")) rfl (by rw [str_dec]) ?_)⟩
      refine ⟨_, rfl, ?_⟩
      by_cases hs0 : c.see = ""
      · rw [if_pos hs0] at hkc
        rw [decide_eq_true hs0]
        refine iteF ?_
        refine ⟨Nat.zero_le _, fun l2 hl2 => ?_⟩
        refine ⟨p1, l2, _, _, rfl, rfl, kp e1 hl2, upd_same, big _ (by rw [List.length_map, List.length_append, List.length_singleton, List.length_nil]; omega), fun p2 hp2 => ?_⟩
        have s3 := (s2.trans (same_new (o := .lst []) hl2)).trans (same_new (o := .lst ((known (cs.take i) ++ [c.heading]).map V.str ++ [])) hp2)
        refine ⟨_, rfl, a, _, rfl, .inr (s3.seqT hA), fun l3 hl3 => ?_⟩
        refine ⟨p2, l3, _, _, rfl, rfl, kp upd_same hl3, upd_same, big _ (by rw [List.length_append, List.length_map, List.length_map, List.length_append, List.length_singleton, List.length_nil]; omega), fun p3 hp3 => ?_⟩
        refine ⟨p3, _, _, _, _, rfl, (s3.trans (same_new hl3)).trans (same_new hp3), ?_⟩
        rw [upd_same, hkt]
        unfold knownOf
        rw [if_pos hs0]
        simp only [List.map_append, List.append_nil, List.append_assoc]
      · rw [if_neg hs0] at hkc
        rw [decide_eq_false hs0]
        refine iteT ?_
        refine ⟨_, rfl, by show 1 ≤ sizeLine; decide, fun l2 hl2 => ?_⟩
        refine ⟨p1, l2, _, _, rfl, rfl, kp e1 hl2, upd_same, big _ (by rw [List.length_map, List.length_append, List.length_singleton, List.length_singleton]; have : ([c.see] : List Str).length = 1 := rfl; omega), fun p2 hp2 => ?_⟩
        have s3 := (s2.trans (same_new (o := .lst [.str c.see]) hl2)).trans (same_new (o := .lst ((known (cs.take i) ++ [c.heading]).map V.str ++ [.str c.see])) hp2)
        refine ⟨_, rfl, a, _, rfl, .inr (s3.seqT hA), fun l3 hl3 => ?_⟩
        refine ⟨p2, l3, _, _, rfl, rfl, kp upd_same hl3, upd_same, big _ (by rw [List.length_append, List.length_map, List.length_map, List.length_append, List.length_singleton, List.length_singleton]; have : ([c.see] : List Str).length = 1 := rfl; omega), fun p3 hp3 => ?_⟩
        refine ⟨p3, _, _, _, _, rfl, (s3.trans (same_new hl3)).trans (same_new hp3), ?_⟩
        rw [upd_same, hkt]
        unfold knownOf
        rw [if_neg hs0]
        simp only [List.map_append, List.append_assoc]
        rfl
    · obtain ⟨lf, y2, y3, y4, y5, rfl, s1, el⟩ := hP
      rw [hI.1, List.take_length] at el
      refine ⟨_, rfl, lf, known cs, rfl, SqL.of el, hn, fun p ks hp hnd hks => ?_⟩
      have s2 := s1.trans (same_new (o := SetSO P w p (fun j => decide (j ∈ known cs)) ks.length) hp)
      refine ⟨p, _, ks.length, rfl, upd_same, h64 ks hnd hks, fun ys q n1 n2 n3 _ hq => ?_⟩
      exact k q _ ys n1 n2 (fun k => by rw [n3 k, decide_eq_true_eq]) (s2.trans (same_new hq)) (s2.free hq) upd_same
end
section
local macro_rules | `(tactic| walk_at "sl") => `(tactic| first | assumption | exact SqL.of upd_same | exact SqL.of (by assumption) | ((with_reducible apply sql_upd); (walk_at "sl"); (first | assumption | exact Ne.symm (by assumption))))
local macro_rules | `(tactic| walk_at "st") => `(tactic| first | assumption | exact SqT.of upd_same | exact SqT.of (by assumption))
local macro_rules | `(tactic| walk_at "sc") => `(tactic| first | rfl | assumption | (show (0 : Int) < _; first | assumption | decide | omega) | exact Or.inl ⟨by omega, by omega⟩ | exact Or.inr ⟨by omega, by omega⟩ | exact ⟨by decide, by decide⟩ | exact ⟨by decide, by decide, by decide⟩)
local macro_rules | `(tactic| walk_at "g1") => `(tactic| first
  | refine ⟨(_ : V), rfl, ?_⟩
  | refine ⟨(_ : Bool), rfl, ?_⟩
  | refine ⟨(_ : Int), (_ : Int), rfl, rfl, ?_⟩
  | refine ⟨(_ : Int), rfl, ?_⟩
  | refine ⟨(_ : Str), rfl, ?_⟩
  | refine ⟨(_ : Addr), (_ : List V), rfl, Or.inl (by walk_at "sl"), ?_⟩
  | refine ⟨(_ : Addr), (_ : List V), rfl, Or.inr (by walk_at "st"), ?_⟩
  | refine ⟨(_ : Addr), (_ : List V), (_ : Int), (_ : V), rfl, rfl, (by walk_at "sl"), (by first | rfl | assumption), ?_⟩
  | refine ⟨(_ : Addr), (_ : List V), (_ : Int), (_ : V), rfl, rfl, (by walk_at "st"), (by first | rfl | assumption), ?_⟩
  | refine ⟨(_ : Addr), (_ : List V), (_ : Int), (_ : Nat), rfl, rfl, upd_same, rfl, ?_⟩
  | refine ⟨(_ : Addr), (_ : List V), (_ : Int), (_ : Nat), rfl, rfl, (by assumption), rfl, ?_⟩
  | refine ⟨(_ : Addr), (_ : Addr), (_ : Addr), (_ : List (Str × V)), (_ : V), rfl, (by assumption), (by assumption), (by assumption), (by first | assumption | rfl), ?_⟩
  | refine Or.inl ⟨(_ : Int), rfl, ?_⟩
  | refine And.intro (by walk_at "sc") ?_
  | refine iteT ?_
  | refine iteF ?_)
/-! ### what is found has the heading that was sought -/
theorem along_sound (g : Bool) (h : Str) : ∀ (ws : List Str) (i j : Nat), (along g h i ws).1 = some j → i ≤ j ∧ ws[j - i]? = some h
  | [], i, j, e => by
    unfold along at e
    cases e
  | x :: r, i, j, e => by
    unfold along at e
    by_cases hx : x = h
    · rw [if_pos hx] at e
      obtain rfl : i = j := Option.some.inj e
      rw [Nat.sub_self, hx]
      exact ⟨Nat.le_refl _, rfl⟩
    · rw [if_neg hx] at e
      split at e
      · cases e
      · obtain ⟨h1, h2⟩ := along_sound g h r (i + 1) j e
        refine ⟨by omega, ?_⟩
        rw [show j - i = (j - (i + 1)) + 1 by omega]
        exact h2
theorem halves_sound (ws : List Str) (h : Str) : ∀ (n : Nat) (lo hi : Int) (ps : List Int) (j : Nat), 0 ≤ lo → hi < ws.length → (halves ws h n lo hi ps).1 = some j → ws[j]? = some h
  | 0, _, _, _, _, _, _, e => by
    unfold halves at e
    cases e
  | n + 1, lo, hi, ps, j, h0, h1, e => by
    unfold halves at e
    by_cases hl : lo ≤ hi
    · rw [if_pos hl] at e
      have hm : ((lo + hi) / 2).toNat < ws.length := by omega
      rw [List.getElem?_eq_getElem hm] at e
      split at e
      · rename_i q
        obtain rfl := Option.some.inj e
        rw [List.getElem?_eq_getElem hm]
        exact congrArg some q
      · split at e
        · exact halves_sound ws h n lo _ _ j h0 (by omega) e
        · exact halves_sound ws h n _ hi _ j (by omega) h1 e
    · rw [if_neg hl] at e
      cases e
theorem seek_sound {ws : List Str} {r h : Str} {j : Nat} (e : (seekOf ws r h).1 = some j) : ws[j]? = some h := by
  unfold seekOf at e
  split at e
  · exact halves_sound ws h _ _ _ _ j (Int.le_refl 0) (by omega) e
  · exact (along_sound _ h ws 0 j e).2
/-! ### data that look-ups tell -/
def onD : Option Nat → PyData
  | none => .none
  | some i => .int i
def seenD (r : Option Nat × List Int) : PyData := .tuple [onD r.1, .tuple (r.2.map PyData.int)]
theorem dp_on {H : Hp} (o : Option Nat) : Dp K H (onV o) (onD o) := by
  cases o with
  | none => exact .non
  | some i => exact .int i
theorem dp_seen {H : Hp} {t : Addr} {r : Option Nat × List Int} (h : Seen K H t r) : Dp K H (.ref t) (seenD r) := by
  obtain ⟨p, h1, h2⟩ := h
  exact .tup h1 (.cons (dp_on r.1) (.cons (dp_tInts h2) .nil))
theorem sh_seen (r : Option Nat × List Int) : SeqAt.shaped (seenD r) = true := by
  have h1 : (onD r.1).canLay0 = true := by cases r.1 <;> rfl
  have h2 : (onD r.1).depth = 0 := by cases r.1 <;> rfl
  show ((onD r.1).canLay0 && (PyData.canLayAll0 (r.2.map PyData.int) && true) && decide (max (onD r.1).depth (max (PyData.depthAll (r.2.map PyData.int) + 1) 0) + 1 ≤ 64)) = true
  rw [h1, h2, can_ints, dep_ints]
  rfl
theorem inV_on {i : Nat} : ∀ os : List (Option Nat), inV (.int i) (os.map onV) = decide (some i ∈ os)
  | [] => rfl
  | o :: r => by
    show (eqV (onV o) (.int i) || inV (.int i) (r.map onV)) = _
    rw [inV_on r]
    have q : eqV (onV o) (.int i) = decide (some i = o) := by
      cases o with
      | none => rfl
      | some j =>
        show (((j : Nat) : Int) == (i : Int)) = _
        by_cases e : i = j
        · subst e
          simp
        · rw [decide_eq_false (fun z => e (Option.some.inj z))]
          exact beq_eq_false_iff_ne.mpr fun z => e (by omega)
    rw [q]
    by_cases e : some i = o
    · subst e
      rw [decide_eq_true rfl, Bool.true_or, decide_eq_true (List.mem_cons_self ..)]
    · rw [decide_eq_false e, Bool.false_or]
      by_cases e3 : some i ∈ r
      · rw [decide_eq_true e3, decide_eq_true (List.mem_cons_of_mem _ e3)]
      · rw [decide_eq_false e3, decide_eq_false fun z => (List.mem_cons.mp z).elim e e3]
theorem flat_on : ∀ os : List (Option Nat), (os.map onV).all flatV = true
  | [] => rfl
  | o :: r => by
    show (flatV (onV o) && (r.map onV).all flatV) = true
    rw [flat_on r, Bool.and_true]
    cases o <;> rfl
end
section
local macro_rules | `(tactic| walk_at "sl") => `(tactic| first | assumption | exact SqL.of upd_same | exact SqL.of (by assumption) | ((with_reducible apply sql_upd); (walk_at "sl"); (first | assumption | exact Ne.symm (by assumption))))
local macro_rules | `(tactic| walk_at "st") => `(tactic| first | assumption | exact SqT.of upd_same | exact SqT.of (by assumption))
local macro_rules | `(tactic| walk_at "sc") => `(tactic| first | rfl | assumption | (show (0 : Int) < _; first | assumption | decide | omega) | exact Or.inl ⟨by omega, by omega⟩ | exact Or.inr ⟨by omega, by omega⟩ | exact ⟨by decide, by decide⟩ | exact ⟨by decide, by decide, by decide⟩)
local macro_rules | `(tactic| walk_at "g1") => `(tactic| first
  | refine ⟨(_ : V), rfl, ?_⟩
  | refine ⟨(_ : Bool), rfl, ?_⟩
  | refine ⟨(_ : Int), (_ : Int), rfl, rfl, ?_⟩
  | refine ⟨(_ : Int), rfl, ?_⟩
  | refine ⟨(_ : Str), rfl, ?_⟩
  | refine ⟨(_ : Addr), (_ : List V), rfl, Or.inl (by walk_at "sl"), ?_⟩
  | refine ⟨(_ : Addr), (_ : List V), rfl, Or.inr (by walk_at "st"), ?_⟩
  | refine ⟨(_ : Addr), (_ : List V), (_ : Int), (_ : V), rfl, rfl, (by walk_at "sl"), (by first | rfl | assumption), ?_⟩
  | refine ⟨(_ : Addr), (_ : List V), (_ : Int), (_ : V), rfl, rfl, (by walk_at "st"), (by first | rfl | assumption), ?_⟩
  | refine ⟨(_ : Addr), (_ : List V), (_ : Int), (_ : Nat), rfl, rfl, upd_same, rfl, ?_⟩
  | refine ⟨(_ : Addr), (_ : List V), (_ : Int), (_ : Nat), rfl, rfl, (by assumption), rfl, ?_⟩
  | refine ⟨(_ : Addr), (_ : Addr), (_ : Addr), (_ : List (Str × V)), (_ : V), rfl, (by assumption), (by assumption), (by assumption), (by first | assumption | rfl), ?_⟩
  | refine Or.inl ⟨(_ : Int), rfl, ?_⟩
  | refine And.intro (by walk_at "sc") ?_
  | refine iteT ?_
  | refine iteF ?_)
/-! ### what else a card tells; the drawer's headings -/
theorem ok_Card_see (T : Top K mg) : FnOk P w K mg base CX0 1 T.a_Card_see T.fd_Card_see ["self"] (spGet K T.c_Card "_see") := by
  refine T.F_Card_see.ok sc_Card_see (fun vs H Q E h => ?_) (fun cdv A outer s H vs Q E hr h => ?_)
  · obtain ⟨p, dx, fs, v, rfl, _⟩ := h
    rfl
  · obtain ⟨p, dx, fs, v, rfl, hp, hv, k⟩ := h
    exact ⟨_, (pss_one (ps_ret (pe_fld (pv 0) rfl))), _, rfl, p, _, dx, fs, v, rfl, hp, T.cl_Card, T.n_Card__see, hv, k⟩
/-- whether a card leads -/
def spLeads (K : PySem.W.Frag) (C : Addr) : Sp := fun vs H Q _ => ∃ (p dx : Addr) (fs : List (Str × V)) (x : Str), vs = [.ref p] ∧ H p = some (.ins C dx fs) ∧ fs.lookup ("_see" : Str) = some (.str x) ∧ Q (.bl (!decide (x = ""))) H
theorem ok_Card_leads (T : Top K mg) : FnOk P w K mg base CX0 1 T.a_Card_leads T.fd_Card_leads ["self"] (spLeads K T.c_Card) := by
  refine T.F_Card_leads.ok sc_Card_leads (fun vs H Q E h => ?_) (fun cdv A outer s H vs Q E hr h => ?_)
  · obtain ⟨p, dx, fs, x, rfl, _⟩ := h
    rfl
  · obtain ⟨p, dx, fs, x, rfl, hp, hv, k⟩ := h
    refine ⟨_, (pss_one (ps_ret (pe_cmpR op_ne (pe_fld (pv 0) rfl) pe_str (nomark _)))), _, rfl, p, _, dx, fs, _, rfl, hp, T.cl_Card, T.n_Card__see, hv, ?_⟩
    exact tC_to (rNe_to (b := !decide (x = "")) rfl (by rw [str_dec]) k)
end
section
local macro_rules | `(tactic| walk_at "sl") => `(tactic| first | assumption | exact SqL.of upd_same | exact SqL.of (by assumption) | ((with_reducible apply sql_upd); (walk_at "sl"); (first | assumption | exact Ne.symm (by assumption))))
local macro_rules | `(tactic| walk_at "st") => `(tactic| first | assumption | exact SqT.of upd_same | exact SqT.of (by assumption))
local macro_rules | `(tactic| walk_at "sc") => `(tactic| first | rfl | assumption | (show (0 : Int) < _; first | assumption | decide | omega) | exact Or.inl ⟨by omega, by omega⟩ | exact Or.inr ⟨by omega, by omega⟩ | exact ⟨by decide, by decide⟩ | exact ⟨by decide, by decide, by decide⟩)
local macro_rules | `(tactic| walk_at "g1") => `(tactic| first
  | refine ⟨(_ : V), rfl, ?_⟩
  | refine ⟨(_ : Bool), rfl, ?_⟩
  | refine ⟨(_ : Int), (_ : Int), rfl, rfl, ?_⟩
  | refine ⟨(_ : Int), rfl, ?_⟩
  | refine ⟨(_ : Str), rfl, ?_⟩
  | refine ⟨(_ : Addr), (_ : List V), rfl, Or.inl (by walk_at "sl"), ?_⟩
  | refine ⟨(_ : Addr), (_ : List V), rfl, Or.inr (by walk_at "st"), ?_⟩
  | refine ⟨(_ : Addr), (_ : List V), (_ : Int), (_ : V), rfl, rfl, (by walk_at "sl"), (by first | rfl | assumption), ?_⟩
  | refine ⟨(_ : Addr), (_ : List V), (_ : Int), (_ : V), rfl, rfl, (by walk_at "st"), (by first | rfl | assumption), ?_⟩
  | refine ⟨(_ : Addr), (_ : List V), (_ : Int), (_ : Nat), rfl, rfl, upd_same, rfl, ?_⟩
  | refine ⟨(_ : Addr), (_ : List V), (_ : Int), (_ : Nat), rfl, rfl, (by assumption), rfl, ?_⟩
  | refine ⟨(_ : Addr), (_ : Addr), (_ : Addr), (_ : List (Str × V)), (_ : V), rfl, (by assumption), (by assumption), (by assumption), (by first | assumption | rfl), ?_⟩
  | refine Or.inl ⟨(_ : Int), rfl, ?_⟩
  | refine And.intro (by walk_at "sc") ?_
  | refine iteT ?_
  | refine iteF ?_)
/-- the headings, ascending, each once -/
def spHeadOf (K : PySem.W.Frag) (D C : Addr) : Sp := fun vs H Q _ => ∃ (p : Addr) (cs : List CD), vs = [.ref p] ∧ DrawerAt K D C H p cs ∧ cs.length ≤ 16 ∧
  ∀ (t : Addr) (H' : Hp) (ys : List Str), Same H H' → H' t = some (.tup (ys.map V.str)) → ys.Nodup → PyProof.Rows.sortedS ys = true → (∀ k, k ∈ ys ↔ k ∈ heads cs) → Q (.ref t) H'
theorem ok_Drawer_headings (T : Top K mg) : FnOk P w K mg base CX0 3 T.a_Drawer_headings T.fd_Drawer_headings ["self"] (spHeadOf K T.c_Drawer T.c_Card) := by
  refine T.F_Drawer_headings.ok sc_Drawer_headings (fun vs H Q E h => ?_) (fun cdv A outer s H vs Q E hr h => ?_)
  · obtain ⟨p, cs, rfl, _⟩ := h
    rfl
  · obtain ⟨p, cs, rfl, hD, hl, k⟩ := h
    have hu := hu_of hr
    refine ⟨_, (pss_one (ps_ret (pe_callTy call_tuple_of (by rfl) T.m_tuple (by decide +kernel) (pa_cons (pe_callB (cr_sortedSS rfl) (by rfl) T.m_sorted (by decide +kernel) (pa_cons (pe_setZ zStr (own := [("card", 1)]) (g := gName 1) (tt := tYes) rfl sc_Drawer_headings.nd (pi_tup (pe_fld (pv 0) rfl)) (blkOk_by (N := N_Drawer_headings) (sc := defScope s_Drawer_headings) (by decide +kernel)) (fun _ _ _ _ _ => (pg_name (i := 1) sc_Drawer_headings.nd rfl (.inl rfl))) (fun _ _ _ _ _ => pts_nil) (fun _ _ _ _ _ => (pe_prop (pv 1) T.cl_Card T.P_Card_heading (ok_Card_heading T) (hr.mono (by decide)) (b_Card_heading T) .nil pass0 rfl))) pa_nil)) pa_nil)))), ?_⟩
    obtain ⟨dx, t, ps, hp, hT, hC⟩ := hD
    refine ⟨_, rfl, p, _, dx, _, _, rfl, hp, T.cl_Drawer, T.n_Drawer__cards, df_cards _, t, rfl, ⟨_, hT⟩, fun D hD => sz_fn zStr (walk_tup (K := K) (a := t) (xs := ps.map V.ref)) (by rw [List.length_map, hC.1]; omega) hD (fun i => cs[i]?.map CD.heading) (fun H' s' => s'.seqT hT) (fun i x H2 H3 hi s2 hy R R0 r1 r0 => ?_) (fun H2 S c s2 hS hc e2 => ?_)⟩
    · obtain ⟨rfl, hx⟩ := hy
      rw [List.getElem?_map] at hx
      obtain ⟨q, hq, rfl⟩ := Option.map_eq_some_iff.mp hx
      obtain ⟨c, hc, ca⟩ := hC.get hq
      obtain ⟨dq, b, a, hq2, _, _⟩ := ca.same s2
      refine ⟨rfl, tYes_of ?_⟩
      refine ⟨_, rfl, q, dq, _, rfl, hq2, q, dq, _, _, rfl, hq2, cf_heading _ _ _ _, ?_⟩
      exact r1 c.heading _ (by rw [hc]; rfl) (Same.refl _)
    · have el : (List.range (ps.map V.ref).length).filterMap (fun i => cs[i]?.map CD.heading) = heads cs := by
        rw [List.length_map, hC.1, range_fm cs (fun c => some c.heading) _ (fun i x h => by rw [h]; rfl), List.filterMap_eq_map']
        rfl
      rw [el] at hS
      refine ⟨D, S, c, rfl, e2, by rw [List.length_map, hC.1] at hc; omega, fun ys l n1 n2 n3 n4 hl0 => ?_⟩
      refine ⟨l, _, rfl, .inl ⟨SqL.of upd_same, fun u hu0 => ?_⟩⟩
      exact k u _ ys ((s2.trans (same_new hl0)).trans (same_new hu0)) upd_same n1 n2 fun z => (n3 z).trans (hS z)
end
section
local macro_rules | `(tactic| walk_at "sl") => `(tactic| first | assumption | exact SqL.of upd_same | exact SqL.of (by assumption) | ((with_reducible apply sql_upd); (walk_at "sl"); (first | assumption | exact Ne.symm (by assumption))))
local macro_rules | `(tactic| walk_at "st") => `(tactic| first | assumption | exact SqT.of upd_same | exact SqT.of (by assumption))
local macro_rules | `(tactic| walk_at "sc") => `(tactic| first | rfl | assumption | (show (0 : Int) < _; first | assumption | decide | omega) | exact Or.inl ⟨by omega, by omega⟩ | exact Or.inr ⟨by omega, by omega⟩ | exact ⟨by decide, by decide⟩ | exact ⟨by decide, by decide, by decide⟩)
local macro_rules | `(tactic| walk_at "g1") => `(tactic| first
  | refine ⟨(_ : V), rfl, ?_⟩
  | refine ⟨(_ : Bool), rfl, ?_⟩
  | refine ⟨(_ : Int), (_ : Int), rfl, rfl, ?_⟩
  | refine ⟨(_ : Int), rfl, ?_⟩
  | refine ⟨(_ : Str), rfl, ?_⟩
  | refine ⟨(_ : Addr), (_ : List V), rfl, Or.inl (by walk_at "sl"), ?_⟩
  | refine ⟨(_ : Addr), (_ : List V), rfl, Or.inr (by walk_at "st"), ?_⟩
  | refine ⟨(_ : Addr), (_ : List V), (_ : Int), (_ : V), rfl, rfl, (by walk_at "sl"), (by first | rfl | assumption), ?_⟩
  | refine ⟨(_ : Addr), (_ : List V), (_ : Int), (_ : V), rfl, rfl, (by walk_at "st"), (by first | rfl | assumption), ?_⟩
  | refine ⟨(_ : Addr), (_ : List V), (_ : Int), (_ : Nat), rfl, rfl, upd_same, rfl, ?_⟩
  | refine ⟨(_ : Addr), (_ : List V), (_ : Int), (_ : Nat), rfl, rfl, (by assumption), rfl, ?_⟩
  | refine ⟨(_ : Addr), (_ : Addr), (_ : Addr), (_ : List (Str × V)), (_ : V), rfl, (by assumption), (by assumption), (by assumption), (by first | assumption | rfl), ?_⟩
  | refine Or.inl ⟨(_ : Int), rfl, ?_⟩
  | refine And.intro (by walk_at "sc") ?_
  | refine iteT ?_
  | refine iteF ?_)
theorem getLast_at {ns : List Int} (h : ns ≠ []) : atI (ns.map V.int) (-1) = some (.int (ns.getLastD 0)) := by
  have e : ns.map V.int = (ns.dropLast.map V.int) ++ [.int (ns.getLast h)] := by
    rw [← List.map_singleton, ← List.map_append, List.dropLast_concat_getLast]
  rw [e, atI_last]
  congr 2
  cases ns with
  | nil => exact absurd rfl h
  | cons x r => exact (List.getLastD_cons ..).symm ▸ List.getLast_eq_getLastD h
theorem onV_ne {o : Option Nat} {i : Nat} : decide (onV o = V.int (i : Int)) = decide (o = some i) := by
  cases o with
  | none => rw [decide_eq_false (fun z => by cases z), decide_eq_false (fun z => by cases z)]
  | some j =>
    by_cases e : j = i
    · rw [decide_eq_true (by rw [e]; rfl), decide_eq_true (by rw [e])]
    · rw [decide_eq_false (fun z => e (by have := V.int.inj z; omega)), decide_eq_false (fun z => e (Option.some.inj z))]
theorem scal_on (o : Option Nat) (i : Int) : scal (onV o) (.int i) = true := by
  cases o <;> rfl
end
section
local macro_rules | `(tactic| walk_at "sl") => `(tactic| first | assumption | exact SqL.of upd_same | exact SqL.of (by assumption) | ((with_reducible apply sql_upd); (walk_at "sl"); (first | assumption | exact Ne.symm (by assumption))))
local macro_rules | `(tactic| walk_at "st") => `(tactic| first | assumption | exact SqT.of upd_same | exact SqT.of (by assumption))
local macro_rules | `(tactic| walk_at "sc") => `(tactic| first | rfl | assumption | (show (0 : Int) < _; first | assumption | decide | omega) | exact Or.inl ⟨by omega, by omega⟩ | exact Or.inr ⟨by omega, by omega⟩ | exact ⟨by decide, by decide⟩ | exact ⟨by decide, by decide, by decide⟩)
local macro_rules | `(tactic| walk_at "g1") => `(tactic| first
  | refine ⟨(_ : V), rfl, ?_⟩
  | refine ⟨(_ : Bool), rfl, ?_⟩
  | refine ⟨(_ : Int), (_ : Int), rfl, rfl, ?_⟩
  | refine ⟨(_ : Int), rfl, ?_⟩
  | refine ⟨(_ : Str), rfl, ?_⟩
  | refine ⟨(_ : Addr), (_ : List V), rfl, Or.inl (by walk_at "sl"), ?_⟩
  | refine ⟨(_ : Addr), (_ : List V), rfl, Or.inr (by walk_at "st"), ?_⟩
  | refine ⟨(_ : Addr), (_ : List V), (_ : Int), (_ : V), rfl, rfl, (by walk_at "sl"), (by first | rfl | assumption), ?_⟩
  | refine ⟨(_ : Addr), (_ : List V), (_ : Int), (_ : V), rfl, rfl, (by walk_at "st"), (by first | rfl | assumption), ?_⟩
  | refine ⟨(_ : Addr), (_ : List V), (_ : Int), (_ : Nat), rfl, rfl, upd_same, rfl, ?_⟩
  | refine ⟨(_ : Addr), (_ : List V), (_ : Int), (_ : Nat), rfl, rfl, (by assumption), rfl, ?_⟩
  | refine ⟨(_ : Addr), (_ : Addr), (_ : Addr), (_ : List (Str × V)), (_ : V), rfl, (by assumption), (by assumption), (by assumption), (by first | assumption | rfl), ?_⟩
  | refine Or.inl ⟨(_ : Int), rfl, ?_⟩
  | refine And.intro (by walk_at "sc") ?_
  | refine iteT ?_
  | refine iteF ?_)
/-! ### walks: what they tell -/
theorem nodup_le {α : Type} [DecidableEq α] : ∀ {ks ws : List α}, ks.Nodup → (∀ k ∈ ks, k ∈ ws) → ks.length ≤ ws.length
  | [], _, _, _ => Nat.zero_le _
  | k :: ks, ws, hn, hs => by
    have hk := hs k (.head _)
    obtain ⟨h1, h2⟩ := List.nodup_cons.mp hn
    have := nodup_le (ws := ws.erase k) h2 fun x hx => (List.mem_erase_of_ne fun e => h1 (by rw [← e]; exact hx)).mpr (hs x (.tail _ hx))
    rw [List.length_erase_of_mem hk] at this
    have := List.length_pos_of_mem hk
    rw [List.length_cons]
    omega
/-- a walk that was made: its end's word, the headings looked up, the places found, how many looks -/
structure TR where
  word : Str
  asked : List Str
  found : List Nat
  total : Nat
def seeAt (cs : List CD) (p : Nat) : Str := (cs[p]?.map CD.see).getD ""
/-- on from a heading, so many steps at most -/
def goT (cs : List CD) (r : Str) : Nat → Str → TR → TR
  | 0, _, t => t
  | n + 1, h, t => if h ∈ t.asked then { t with word := "ring" } else
      match (seekOf (heads cs) r h).1 with
      | none => ⟨"lost", t.asked ++ [h], t.found, t.total + (seekOf (heads cs) r h).2.length⟩
      | some p => if seeAt cs p = "" then ⟨"entry", t.asked ++ [h], t.found ++ [p], t.total + (seekOf (heads cs) r h).2.length⟩
        else goT cs r n (seeAt cs p) ⟨"", t.asked ++ [h], t.found ++ [p], t.total + (seekOf (heads cs) r h).2.length⟩
def tripOf (cs : List CD) (r h : Str) : TR := goT cs r 99 h ⟨"", [], [], 0⟩
def endOf (t : TR) : Option Nat := if t.word = "entry" then t.found.getLast? else none
/-- so far: each place found has the heading that was asked, none was asked twice -/
structure Sound (cs : List CD) (t : TR) : Prop where
  len : t.asked.length = t.found.length
  nd : t.asked.Nodup
  at_ : ∀ (i p : Nat), t.found[i]? = some p → (heads cs)[p]? = t.asked[i]? ∧ p < cs.length
theorem Sound.nil {cs : List CD} {x : Str} {n : Nat} : Sound cs ⟨x, [], [], n⟩ := ⟨rfl, List.nodup_nil, fun i p h => by simp at h⟩
theorem Sound.le {cs : List CD} {t : TR} (s : Sound cs t) : t.found.length ≤ cs.length := by
  have q : t.found.length ≤ (List.range cs.length).length := by
    refine nodup_le ?_ fun p hp => ?_
    · refine List.pairwise_iff_getElem.mpr fun i j hi hj hij e => ?_
      obtain ⟨h1, _⟩ := s.at_ i t.found[i] (List.getElem?_eq_getElem hi)
      obtain ⟨h2, _⟩ := s.at_ j t.found[j] (List.getElem?_eq_getElem hj)
      rw [e, h2] at h1
      have hi' : i < t.asked.length := by rw [s.len]; exact hi
      have hj' : j < t.asked.length := by rw [s.len]; exact hj
      rw [List.getElem?_eq_getElem hi', List.getElem?_eq_getElem hj'] at h1
      exact List.pairwise_iff_getElem.mp s.nd i j hi' hj' hij (Option.some.inj h1).symm
    · obtain ⟨i, hi⟩ := List.mem_iff_getElem?.mp hp
      exact List.mem_range.mpr (s.at_ i p hi).2
  rw [List.length_range] at q
  exact q
theorem Sound.step {cs : List CD} {t : TR} {r h x : Str} {p n : Nat} (s : Sound cs t) (hn : h ∉ t.asked) (hp : (seekOf (heads cs) r h).1 = some p) : Sound cs ⟨x, t.asked ++ [h], t.found ++ [p], n⟩ := by
  have hs := seek_sound hp
  have hl : p < cs.length := by
    have := (List.getElem?_eq_some_iff.mp hs).1
    unfold heads at this
    rw [List.length_map] at this
    exact this
  refine ⟨by rw [List.length_append, List.length_append, s.len]; rfl, List.nodup_append.mpr ⟨s.nd, by simp, fun a ha b hb e => ?_⟩, fun i q hq => ?_⟩
  · rw [List.mem_singleton.mp hb] at e
    exact hn (e ▸ ha)
  · by_cases hi : i < t.found.length
    · rw [List.getElem?_append_left hi] at hq
      obtain ⟨h1, h2⟩ := s.at_ i q hq
      exact ⟨by rw [h1]; exact (List.getElem?_append_left (by rw [s.len]; exact hi)).symm, h2⟩
    · rw [List.getElem?_append_right (by omega)] at hq
      have : i - t.found.length = 0 := by
        cases z : i - t.found.length with
        | zero => rfl
        | succ k => rw [z] at hq; simp at hq
      rw [this] at hq
      obtain rfl : p = q := Option.some.inj hq
      refine ⟨?_, hl⟩
      rw [List.getElem?_append_right (by rw [s.len]; omega), s.len, this, hs]
      rfl
/-! ### the object of a walk -/
def tripFlds (x a f n e : V) : List (Str × V) := putF "end" e (putF "total" n (putF "found" f (putF "asked" a (putF "word" x []))))
theorem tf_eq (x a f n e : V) : tripFlds x a f n e = ([(("word" : Str), x), (("asked" : Str), a), (("found" : Str), f), (("total" : Str), n), (("end" : Str), e)] : List (Str × V)) := by rfl
theorem tf_word (x a f n e : V) : (tripFlds x a f n e).lookup ("word" : Str) = some x := by rw [tf_eq]; rfl
theorem tf_asked (x a f n e : V) : (tripFlds x a f n e).lookup ("asked" : Str) = some a := by rw [tf_eq]; rfl
theorem tf_found (x a f n e : V) : (tripFlds x a f n e).lookup ("found" : Str) = some f := by rw [tf_eq]; rfl
theorem tf_total (x a f n e : V) : (tripFlds x a f n e).lookup ("total" : Str) = some n := by rw [tf_eq]; rfl
theorem tf_end (x a f n e : V) : (tripFlds x a f n e).lookup ("end" : Str) = some e := by rw [tf_eq]; rfl
def nsV (ps : List Nat) : List V := ps.map fun p => V.int (p : Nat)
def TripAt (C : Addr) (H : Hp) (p : Addr) (t : TR) : Prop := ∃ (dx a f : Addr), H p = some (.ins C dx (tripFlds (.str t.word) (.ref a) (.ref f) (.int (t.total : Nat)) (onV (endOf t)))) ∧ H a = some (.lst (t.asked.map V.str)) ∧ H f = some (.lst (nsV t.found))
theorem TripAt.same {C : Addr} {H H' : Hp} {p : Addr} {t : TR} (h : TripAt C H p t) (s : Same H H') : TripAt C H' p t := by
  obtain ⟨dx, a, f, h1, h2, h3⟩ := h
  exact ⟨dx, a, f, s _ _ h1, s _ _ h2, s _ _ h3⟩
theorem last_at {ps : List Nat} {q : Nat} (h : ps.getLast? = some q) : atI (nsV ps) (-1) = some (.int (q : Nat)) := by
  have e : ps ≠ [] := fun z => by rw [z] at h; cases h
  have h2 : (ps.map fun (p : Nat) => (p : Int)).getLastD 0 = (q : Int) := by
    rw [List.getLastD_eq_getLast?, List.getLast?_map, h]
    rfl
  have := getLast_at (ns := ps.map fun (p : Nat) => (p : Int)) (by simpa using e)
  rw [List.map_map, h2] at this
  exact this
def spTripInit (C : Addr) : Sp := fun vs H Q _ => ∃ (p dx a f : Addr) (t : TR), vs = [.ref p, .str t.word, .ref a, .ref f, .int (t.total : Nat)] ∧ H p = some (.ins C dx []) ∧ H a = some (.lst (t.asked.map V.str)) ∧ H f = some (.lst (nsV t.found)) ∧ (t.word = "entry" → t.found ≠ []) ∧
  ∀ H', But p H H' → TripAt C H' p t → Q .non H'
theorem ok_Trip_init (T : Top K mg) : FnOk P w K mg base CX0 1 T.a_Trip_init T.fd_Trip_init ["self", "word", "asked", "found", "total"] (spTripInit T.c_Trip) := by
  refine T.F_Trip_init.ok sc_Trip_init (fun vs H Q E h => ?_) (fun cdv A outer s H vs Q E hr h => ?_)
  · obtain ⟨p, dx, a, f, t, rfl, _⟩ := h
    rfl
  · obtain ⟨p, dx, a, f, t, rfl, hp, ha, hf, hne, k⟩ := h
    have hu := hu_of hr
    refine ⟨_, PSs.nox (pss_cons (ps_fld (pv 0) (pv 1) rfl)
      (pss_cons (ps_fld (pv 0) (pv 2) rfl)
      (pss_cons (ps_fld (pv 0) (pv 3) rfl)
      (pss_cons (ps_fld (pv 0) (pv 4) rfl)
      (pss_one (ps_fld (pv 0) (pe_ifExp (pt_cmpR op_eq (pv 1) pe_str (nomark _)) (pe_ix ix_list (pv 3) (pe_un un_neg pe_int) (fun _ _ => rfl)) pe_non) rfl)))))), ?_⟩
    have ea : a ≠ p := ne_of ha hp (by intro z; cases z)
    have ef : f ≠ p := ne_of hf hp (by intro z; cases z)
    refine ⟨_, rfl, _, rfl, p, T.c_Trip, dx, [], rfl, hp, T.cl_Trip, T.n_Trip_word, (by show 0 < 1000; decide), ?_⟩
    refine ⟨_, rfl, _, rfl, p, T.c_Trip, dx, _, rfl, upd_same, T.cl_Trip, T.n_Trip_asked, (by show 1 < 1000; decide), ?_⟩
    refine ⟨_, rfl, _, rfl, p, T.c_Trip, dx, _, rfl, upd_same, T.cl_Trip, T.n_Trip_found, (by show 2 < 1000; decide), ?_⟩
    refine ⟨_, rfl, _, rfl, p, T.c_Trip, dx, _, rfl, upd_same, T.cl_Trip, T.n_Trip_total, (by show 3 < 1000; decide), ?_⟩
    have e3 : ∀ o1 o2 o3 o4 : HO, upd (upd (upd (upd H p o1) p o2) p o3) p o4 = upd H p o4 := fun o1 o2 o3 o4 => by rw [upd_upd, upd_upd, upd_upd]
    rw [e3]
    refine ⟨_, rfl, tC_to (rEq_to (b := decide (t.word = "entry")) rfl (by rw [str_dec]) ?_)⟩
    refine ⟨_, rfl, ?_⟩
    have keep : ∀ {q : Addr} {u o : HO}, H q = some u → q ≠ p → upd H p o q = some u := fun h n => by rw [upd_ne n]; exact h
    have fin : ∀ v : V, v = onV (endOf t) → Q .non (upd H p (.ins T.c_Trip dx (tripFlds (.str t.word) (.ref a) (.ref f) (.int (t.total : Nat)) v))) := fun v hv => by
      subst hv
      refine k _ (fun q o h n => keep h n) ⟨dx, a, f, upd_same, keep ha ea, keep hf ef⟩
    by_cases he : t.word = "entry"
    · rw [decide_eq_true he]
      refine iteT ?_
      obtain ⟨q, hq⟩ : ∃ q, t.found.getLast? = some q := by
        cases z : t.found.getLast? with
        | none => exact absurd (List.getLast?_eq_none_iff.mp z) (hne he)
        | some q => exact ⟨q, rfl⟩
      refine ⟨_, rfl, 1, rfl, f, _, -1, _, rfl, rfl, SqL.of (keep hf ef), last_at hq, ?_⟩
      refine ⟨_, rfl, p, T.c_Trip, dx, _, rfl, upd_same, T.cl_Trip, T.n_Trip_end, (by show 4 < 1000; decide), ?_⟩
      rw [upd_upd]
      exact fin _ (by unfold endOf; rw [if_pos he, hq]; rfl)
    · rw [decide_eq_false he]
      refine iteF ?_
      refine ⟨_, rfl, p, T.c_Trip, dx, _, rfl, upd_same, T.cl_Trip, T.n_Trip_end, (by show 4 < 1000; decide), ?_⟩
      rw [upd_upd]
      exact fin _ (by unfold endOf; rw [if_neg he]; rfl)
end
section
local macro_rules | `(tactic| walk_at "sl") => `(tactic| first | assumption | exact SqL.of upd_same | exact SqL.of (by assumption) | ((with_reducible apply sql_upd); (walk_at "sl"); (first | assumption | exact Ne.symm (by assumption))))
local macro_rules | `(tactic| walk_at "st") => `(tactic| first | assumption | exact SqT.of upd_same | exact SqT.of (by assumption))
local macro_rules | `(tactic| walk_at "sc") => `(tactic| first | rfl | assumption | (show (0 : Int) < _; first | assumption | decide | omega) | exact Or.inl ⟨by omega, by omega⟩ | exact Or.inr ⟨by omega, by omega⟩ | exact ⟨by decide, by decide⟩ | exact ⟨by decide, by decide, by decide⟩)
local macro_rules | `(tactic| walk_at "g1") => `(tactic| first
  | refine ⟨(_ : V), rfl, ?_⟩
  | refine ⟨(_ : Bool), rfl, ?_⟩
  | refine ⟨(_ : Int), (_ : Int), rfl, rfl, ?_⟩
  | refine ⟨(_ : Int), rfl, ?_⟩
  | refine ⟨(_ : Str), rfl, ?_⟩
  | refine ⟨(_ : Addr), (_ : List V), rfl, Or.inl (by walk_at "sl"), ?_⟩
  | refine ⟨(_ : Addr), (_ : List V), rfl, Or.inr (by walk_at "st"), ?_⟩
  | refine ⟨(_ : Addr), (_ : List V), (_ : Int), (_ : V), rfl, rfl, (by walk_at "sl"), (by first | rfl | assumption), ?_⟩
  | refine ⟨(_ : Addr), (_ : List V), (_ : Int), (_ : V), rfl, rfl, (by walk_at "st"), (by first | rfl | assumption), ?_⟩
  | refine ⟨(_ : Addr), (_ : List V), (_ : Int), (_ : Nat), rfl, rfl, upd_same, rfl, ?_⟩
  | refine ⟨(_ : Addr), (_ : List V), (_ : Int), (_ : Nat), rfl, rfl, (by assumption), rfl, ?_⟩
  | refine ⟨(_ : Addr), (_ : Addr), (_ : Addr), (_ : List (Str × V)), (_ : V), rfl, (by assumption), (by assumption), (by assumption), (by first | assumption | rfl), ?_⟩
  | refine Or.inl ⟨(_ : Int), rfl, ?_⟩
  | refine And.intro (by walk_at "sc") ?_
  | refine iteT ?_
  | refine iteF ?_)
/-! ### the length of a list at an address -/
def lenAtH (a : Addr) : St → Hp → Nat := fun _ H => match H a with
  | some (.lst xs) => xs.length
  | _ => 0
end
section
local macro_rules | `(tactic| walk_at "sl") => `(tactic| first | assumption | exact SqL.of upd_same | exact SqL.of (by assumption) | ((with_reducible apply sql_upd); (walk_at "sl"); (first | assumption | exact Ne.symm (by assumption))))
local macro_rules | `(tactic| walk_at "st") => `(tactic| first | assumption | exact SqT.of upd_same | exact SqT.of (by assumption))
local macro_rules | `(tactic| walk_at "sc") => `(tactic| first | rfl | assumption | (show (0 : Int) < _; first | assumption | decide | omega) | exact Or.inl ⟨by omega, by omega⟩ | exact Or.inr ⟨by omega, by omega⟩ | exact ⟨by decide, by decide⟩ | exact ⟨by decide, by decide, by decide⟩)
local macro_rules | `(tactic| walk_at "g1") => `(tactic| first
  | refine ⟨(_ : V), rfl, ?_⟩
  | refine ⟨(_ : Bool), rfl, ?_⟩
  | refine ⟨(_ : Int), (_ : Int), rfl, rfl, ?_⟩
  | refine ⟨(_ : Int), rfl, ?_⟩
  | refine ⟨(_ : Str), rfl, ?_⟩
  | refine ⟨(_ : Addr), (_ : List V), rfl, Or.inl (by walk_at "sl"), ?_⟩
  | refine ⟨(_ : Addr), (_ : List V), rfl, Or.inr (by walk_at "st"), ?_⟩
  | refine ⟨(_ : Addr), (_ : List V), (_ : Int), (_ : V), rfl, rfl, (by walk_at "sl"), (by first | rfl | assumption), ?_⟩
  | refine ⟨(_ : Addr), (_ : List V), (_ : Int), (_ : V), rfl, rfl, (by walk_at "st"), (by first | rfl | assumption), ?_⟩
  | refine ⟨(_ : Addr), (_ : List V), (_ : Int), (_ : Nat), rfl, rfl, upd_same, rfl, ?_⟩
  | refine ⟨(_ : Addr), (_ : List V), (_ : Int), (_ : Nat), rfl, rfl, (by assumption), rfl, ?_⟩
  | refine ⟨(_ : Addr), (_ : Addr), (_ : Addr), (_ : List (Str × V)), (_ : V), rfl, (by assumption), (by assumption), (by assumption), (by first | assumption | rfl), ?_⟩
  | refine Or.inl ⟨(_ : Int), rfl, ?_⟩
  | refine And.intro (by walk_at "sc") ?_
  | refine iteT ?_
  | refine iteF ?_)
/-! ### travel -/
theorem mem_dec (h : Str) : ∀ ws : List Str, inV (.str h) (ws.map V.str) = decide (h ∈ ws)
  | [] => rfl
  | x :: r => by
    show (eqV (.str x) (.str h) || inV (.str h) (r.map V.str)) = _
    rw [mem_dec h r]
    show ((x == h) || _) = _
    by_cases e : x = h
    · subst e
      simp
    · have e2 : (x == h) = false := beq_eq_false_iff_ne.mpr e
      rw [e2, Bool.false_or]
      by_cases e3 : h ∈ r
      · rw [decide_eq_true e3, decide_eq_true (List.mem_cons_of_mem _ e3)]
      · rw [decide_eq_false e3, decide_eq_false fun z => (List.mem_cons.mp z).elim (fun z => e z.symm) e3]
theorem flat_strs : ∀ ws : List Str, (ws.map V.str).all flatV = true
  | [] => rfl
  | _ :: r => flat_strs r
theorem ns_len (ps : List Nat) : (nsV ps).length = ps.length := List.length_map ..
theorem ns_app (ps : List Nat) (q : Nat) : nsV ps ++ [V.int (q : Nat)] = nsV (ps ++ [q]) := by
  unfold nsV
  rw [List.map_append]
  rfl
theorem see_at {cs : List CD} {p : Nat} {c : CD} (h : cs[p]? = some c) : seeAt cs p = c.see := by
  unfold seeAt
  rw [h]
  rfl
theorem ring_ne : ¬ ("ring" : Str) = "entry" := by decide +kernel
theorem lost_ne : ¬ ("lost" : Str) = "entry" := by decide +kernel
def spTravel (K : PySem.W.Frag) (D C TC : Addr) : Sp := fun vs H Q _ => ∃ (p : Addr) (cs : List CD) (r h : Str), vs = [.ref p, .str r, .str h] ∧ DrawerAt K D C H p cs ∧ cs.length ≤ 16 ∧ ∀ (t : Addr) (H' : Hp), Same H H' → TripAt TC H' t (tripOf cs r h) → Q (.ref t) H'
theorem ok_travel (T : Top K mg) : FnOk P w K mg base CX0 5 T.a_travel T.fd_travel ["drawer", "rule", "heading"] (spTravel K T.c_Drawer T.c_Card T.c_Trip) := by
  refine T.F_travel.ok sc_travel (fun vs H Q E h => ?_) (fun cdv A outer s H vs Q E hr h => ?_)
  · obtain ⟨p, cs, r, h, rfl, _⟩ := h
    rfl
  · obtain ⟨p, cs, r, h, rfl, hD, hl, k⟩ := h
    have hu := hu_of hr
    refine ⟨_, (pss_cons (ps_set (i := 3) sc_travel.nd rfl (.inl rfl) (pe_call (ok_headings_along T) (hr.mono (by decide)) (by rfl) T.g_headings_along T.F_headings_along.kp (b_headings_along T) .nil pass0 (pa_cons (pv 0) pa_nil)))
      (pss_cons (ps_set (i := 4) sc_travel.nd rfl (.inl rfl) (pe_lst pa_nil))
      (pss_cons (ps_set (i := 5) sc_travel.nd rfl (.inl rfl) (pe_lst pa_nil))
      (pss_cons (ps_set (i := 6) sc_travel.nd rfl (.inl rfl) pe_int)
      (pss_cons (ps_set (i := 7) sc_travel.nd rfl (.inl rfl) (pv 2))
      (pss_cons (ps_while PassesOwn.never (pt_cmpR op_notIn_seq (pv 7) (pv 4) rfl)
        (pss_cons (ps_expr (pe_bm PySem.F.plainAttrs_list PySem.F.slot_list_append PySem.F.type_list_append mt_append (pv 4) (pa_cons (pv 7) pa_nil)))
        (pss_cons (ps_asg (pe_call (ok_seek T) (hr.mono (by decide)) (by rfl) T.g_seek T.F_seek.kp (b_seek T) .nil pass0 (pa_cons (pv 3) (pa_cons (pv 1) (pa_cons (pv 7) pa_nil)))) (pg_tup rfl (pgs_cons (pg_name (i := 8) sc_travel.nd rfl (.inl rfl)) (pgs_cons (pg_name (i := 9) sc_travel.nd rfl (.inl rfl)) pgs_nil))))
        (pss_cons (ps_aug (i := 6) sc_travel.nd rfl (.inl rfl) (pe_callB call_len_seq (by rfl) T.m_len (by decide +kernel) (pa_cons (pv 9) pa_nil)) ip_add)
        (pss_cons (ps_if (pt_cmpR op_isN (pv 8) pe_non (nomark _)) (pss_one (ps_ret (pe_make T.Mk_Trip (ok_Trip_init T) (hr.mono (by decide)) (by rfl) T.g_Trip (b_Trip_init T) .nil pass0 (pa_cons pe_str (pa_cons (pv 4) (pa_cons (pv 5) (pa_cons (pv 6) pa_nil))))))) pss_nil)
        (pss_cons (ps_expr (pe_bm PySem.F.plainAttrs_list PySem.F.slot_list_append PySem.F.type_list_append mt_append (pv 5) (pa_cons (pv 8) pa_nil)))
        (pss_cons (ps_if (pt_not (pt_val (pe_prop (pe_item (pv 0) (pv 8) T.M_Drawer_getitem T.I_Drawer_getitem (ok_Drawer_getitem T) (hr.mono (by decide)) (b_Drawer_getitem T) pass0) T.cl_Card T.P_Card_leads (ok_Card_leads T) (hr.mono (by decide)) (b_Card_leads T) .nil pass0 rfl))) (pss_one (ps_ret (pe_make T.Mk_Trip (ok_Trip_init T) (hr.mono (by decide)) (by rfl) T.g_Trip (b_Trip_init T) .nil pass0 (pa_cons pe_str (pa_cons (pv 4) (pa_cons (pv 5) (pa_cons (pv 6) pa_nil))))))) pss_nil)
        (pss_one (ps_set (i := 7) sc_travel.nd rfl (.inl rfl) (pe_prop (pe_item (pv 0) (pv 8) T.M_Drawer_getitem T.I_Drawer_getitem (ok_Drawer_getitem T) (hr.mono (by decide)) (b_Drawer_getitem T) pass0) T.cl_Card T.P_Card_see (ok_Card_see T) (hr.mono (by decide)) (b_Card_see T) .nil pass0 rfl))))))))))
      (pss_one (ps_ret (pe_make T.Mk_Trip (ok_Trip_init T) (hr.mono (by decide)) (by rfl) T.g_Trip (b_Trip_init T) .nil pass0 (pa_cons pe_str (pa_cons (pv 4) (pa_cons (pv 5) (pa_cons (pv 6) pa_nil))))))))))))), ?_⟩
    refine ⟨_, rfl, p, cs, rfl, hD, by omega, fun t H1 s1 ht0 ht => ?_⟩
    refine ⟨Nat.zero_le _, fun la hla => ?_⟩
    refine ⟨Nat.zero_le _, fun lf hlf => ?_⟩
    refine ⟨_, rfl, ?_⟩
    have s3 : Same H1 (upd (upd H1 la (.lst [])) lf (.lst [])) := (same_new hla).trans (same_new hlf)
    have a3 : (upd (upd H1 la (.lst [])) lf (.lst [])) la = some (.lst []) := kp upd_same hlf
    have f3 : (upd (upd H1 la (.lst [])) lf (.lst [])) lf = some (.lst []) := upd_same
    have nla : H la = none := s1.free hla
    have nlf : H lf = none := (s1.trans (same_new (o := .lst []) hla)).free hlf
    have naf : la ≠ lf := ne_of_none (upd_same (H := H1) (a := la) (o := .lst [])) hlf
    have s03 : Same H (upd (upd H1 la (.lst [])) lf (.lst [])) := s1.trans s3
    have t3 := s3 _ _ ht
    have ntl : t ≠ la := ne_of_none ht hla
    have ntf : t ≠ lf := ne_of_none (kp ht hla (o' := .lst [])) hlf
    generalize upd (upd H1 la (.lst [])) lf (.lst []) = H3 at *
    have hln : (heads cs).length = cs.length := by unfold heads; rw [List.length_map]
    have fin : ∀ (x : TR) (H4 : Hp), Same H H4 → H4 la = some (.lst (x.asked.map V.str)) → H4 lf = some (.lst (nsV x.found)) → (x.word = "entry" → x.found ≠ []) → tripOf cs r h = x → ∀ q dx : Addr, H4 q = none → H4 dx = none →
        spTripInit T.c_Trip [.ref q, .str x.word, .ref la, .ref lf, .int (x.total : Nat)] (upd (upd H4 dx (.own q)) q (.ins T.c_Trip dx [])) (fun v H' => v = .non ∧ Q (.ref q) H') E0 := by
      intro x H4 s4 a4 f4 he e q dx hq hdx
      have sN : Same H4 (upd (upd H4 dx (.own q)) q (.ins T.c_Trip dx [])) := fun b o z => by
        rw [upd_ne (ne_of_none z hq), upd_ne (ne_of_none z hdx)]
        exact z
      refine ⟨q, dx, la, lf, x, rfl, upd_same, sN _ _ a4, sN _ _ f4, he, fun H' b' t' => ⟨rfl, ?_⟩⟩
      refine k q H' (fun b o z => b' b o (sN _ _ (s4 _ _ z)) (ne_of_none (s4 _ _ z) hq)) ?_
      rw [e]
      exact t'
    refine while_by (fun σ H4 => ∃ (x : TR) (hh : Str) (n : Nat) (y8 y9 : Option V), σ = [some (.ref p), some (.str r), some (.str h), some (.ref t), some (.ref la), some (.ref lf), some (.int (x.total : Nat)), some (.str hh), y8, y9] ∧ Same H H4 ∧ H4 t = some (.tup ((heads cs).map V.str)) ∧ H4 la = some (.lst (x.asked.map V.str)) ∧ H4 lf = some (.lst (nsV x.found)) ∧ Sound cs x ∧ n + x.found.length = 99 ∧ goT cs r n hh x = tripOf cs r h)
      (fun _ H4 => 100 - lenAtH la [] H4) ⟨⟨"", [], [], 0⟩, h, 99, none, none, rfl, s03, t3, a3, f3, Sound.nil, rfl, rfl⟩ (fun σ H4 hP => ?_) (fun σ H4 Q Q' hq hc => ?_)
    · obtain ⟨x, hh, n, y8, y9, rfl, s4, t4, a4, f4, snd, hn, eq⟩ := hP
      have hfl := snd.le
      have hal := snd.len
      obtain ⟨n, rfl⟩ : ∃ n', n = n' + 1 := ⟨n - 1, by omega⟩
      have mu4 : lenAtH la [] H4 = x.asked.length := by unfold lenAtH; rw [a4]; exact List.length_map ..
      refine ⟨_, rfl, _, rfl, la, _, rfl, .inl (SqL.of a4), rfl, flat_strs _, ?_⟩
      refine ⟨_, rfl, ?_⟩
      show if (!inV (V.str hh) (x.asked.map V.str)) = true then _ else _
      rw [mem_dec]
      by_cases hm : hh ∈ x.asked
      · rw [decide_eq_true hm]
        refine iteF ?_
        have e : tripOf cs r h = { x with word := "ring" } := by
          rw [← eq]
          simp only [goT, if_pos hm]
        refine ⟨_, rfl, _, rfl, _, rfl, fun q dx hq hdx hne => ?_⟩
        exact fin { x with word := "ring" } H4 s4 a4 f4 (fun z => absurd z ring_ne) e q dx hq hdx
      · rw [decide_eq_false hm]
        refine iteT ?_
        refine ⟨_, rfl, .inl ⟨rfl, _, SqL.of a4⟩, ?_⟩
        refine ⟨_, rfl, ?_⟩
        refine ⟨la, _, _, rfl, rfl, a4, sizeLine_of (by rw [List.length_map]; omega), ?_⟩
        have a5 : (upd H4 la (.lst (x.asked.map V.str ++ [.str hh]))) la = some (.lst ((x.asked ++ [hh]).map V.str)) := by rw [upd_same, List.map_append]; rfl
        have f5 : (upd H4 la (.lst (x.asked.map V.str ++ [.str hh]))) lf = some (.lst (nsV x.found)) := kn f4 naf.symm
        have t5 : (upd H4 la (.lst (x.asked.map V.str ++ [.str hh]))) t = some (.tup ((heads cs).map V.str)) := kn t4 ntl
        have s5 : Same H (upd H4 la (.lst (x.asked.map V.str ++ [.str hh]))) := same_mut s4 nla
        generalize upd H4 la (.lst (x.asked.map V.str ++ [.str hh])) = H5 at *
        refine ⟨_, rfl, _, rfl, _, rfl, t, heads cs, r, hh, rfl, SqT.of t5, by omega, fun u H6 s6 hse => ?_⟩
        have a6 := s6 _ _ a5
        have f6 := s6 _ _ f5
        have t6 := s6 _ _ t5
        have s06 := s5.trans s6
        obtain ⟨pp, q1, q2⟩ := hse
        refine ⟨u, _, rfl, q1, rfl, _, _, rfl, _, _, rfl, rfl, ?_⟩
        refine ⟨_, rfl, _, rfl, pp, _, rfl, .inr q2, ?_⟩
        refine ⟨_, _, rfl, rfl, ?_⟩
        refine ⟨_, rfl, rfl, _, rfl, ?_⟩
        rw [List.length_map]
        cases hs : (seekOf (heads cs) r hh).1 with
        | none =>
          refine iteT ?_
          refine ⟨_, rfl, _, rfl, _, rfl, fun q dx hq hdx hne => ?_⟩
          refine fin ⟨"lost", x.asked ++ [hh], x.found, x.total + (seekOf (heads cs) r hh).2.length⟩ H6 s06 a6 f6 (fun z => absurd z lost_ne) ?_ q dx hq hdx
          rw [← eq]
          simp only [goT, if_neg hm, hs]
        | some j =>
          refine iteF ?_
          refine ⟨_, rfl, .inl ⟨rfl, _, SqL.of f6⟩, ?_⟩
          refine ⟨_, rfl, ?_⟩
          refine ⟨lf, _, _, rfl, rfl, f6, sizeLine_of (by rw [ns_len]; omega), ?_⟩
          rw [show nsV x.found ++ [onV (some j)] = nsV (x.found ++ [j]) from ns_app _ _]
          have f7 : (upd H6 lf (.lst (nsV (x.found ++ [j])))) lf = some (.lst (nsV (x.found ++ [j]))) := upd_same
          have a7 : (upd H6 lf (.lst (nsV (x.found ++ [j])))) la = some (.lst ((x.asked ++ [hh]).map V.str)) := kn a6 naf
          have t7 : (upd H6 lf (.lst (nsV (x.found ++ [j])))) t = some (.tup ((heads cs).map V.str)) := kn t6 ntf
          have s07 : Same H (upd H6 lf (.lst (nsV (x.found ++ [j])))) := same_mut s06 nlf
          generalize upd H6 lf (.lst (nsV (x.found ++ [j]))) = H7 at *
          have hD7 := hD.imm s07.imm
          have hhd := seek_sound hs
          have hjc : j < cs.length := by have := (List.getElem?_eq_some_iff.mp hhd).1; omega
          have hcj : cs[j]? = some cs[j] := List.getElem?_eq_getElem hjc
          have hsee : seeAt cs j = cs[j].see := see_at hcj
          generalize cs[j] = c at *
          obtain ⟨dx0, tt0, ps0, hp0, _, _⟩ := id hD7
          refine ⟨_, rfl, _, rfl, p, dx0, _, rfl, hp0, p, cs, j, c, rfl, hD7, by omega, hcj, fun q cq => ?_⟩
          obtain ⟨dq, bq, aq, hq, _, _⟩ := cq
          refine ⟨q, dq, _, rfl, hq, q, dq, _, _, rfl, hq, cf_see _ _ _ _, ?_⟩
          refine ⟨_, rfl, ?_⟩
          have snd' : ∀ (z : Str) (n : Nat), Sound cs ⟨z, x.asked ++ [hh], x.found ++ [j], n⟩ := fun z n => snd.step hm hs
          by_cases h0 : c.see = ""
          · rw [decide_eq_true h0]
            refine iteT ?_
            refine ⟨_, rfl, _, rfl, _, rfl, fun q dx hq hdx hne => ?_⟩
            refine fin ⟨"entry", x.asked ++ [hh], x.found ++ [j], x.total + (seekOf (heads cs) r hh).2.length⟩ H7 s07 a7 f7 (fun _ => by simp) ?_ q dx hq hdx
            rw [← eq]
            simp only [goT, if_neg hm, hs, hsee, if_pos h0]
          · rw [decide_eq_false h0]
            refine iteF ?_
            refine ⟨_, rfl, _, rfl, p, dx0, _, rfl, hp0, p, cs, j, c, rfl, hD7, by omega, hcj, fun q cq => ?_⟩
            obtain ⟨dq, bq, aq, hq, _, _⟩ := cq
            refine ⟨q, dq, _, rfl, hq, q, dq, _, _, rfl, hq, cf_see _ _ _ _, ?_⟩
            refine ⟨⟨⟨"", x.asked ++ [hh], x.found ++ [j], x.total + (seekOf (heads cs) r hh).2.length⟩, c.see, n, _, _, rfl, s07, t7, a7, f7, snd' _ _, ?_, ?_⟩, ?_⟩
            · rw [List.length_append]
              show n + (x.found.length + 1) = 99
              omega
            · rw [← eq]
              simp only [goT, if_neg hm, hs, hsee, if_neg h0]
            · rw [mu4]
              have : lenAtH la [] H7 = x.asked.length + 1 := by
                unfold lenAtH
                rw [a7]
                show ((x.asked ++ [hh]).map V.str).length = _
                rw [List.length_map, List.length_append]
                rfl
              rw [this]
              omega
    · obtain ⟨x, hx, y, hy, a, xs, e1, e2, e3, e4, k', e5, q⟩ := hc
      exact ⟨x, hx, y, hy, a, xs, e1, e2, e3, e4, k', e5, hq _ _ q⟩
end
section
local macro_rules | `(tactic| walk_at "sl") => `(tactic| first | assumption | exact SqL.of upd_same | exact SqL.of (by assumption) | ((with_reducible apply sql_upd); (walk_at "sl"); (first | assumption | exact Ne.symm (by assumption))))
local macro_rules | `(tactic| walk_at "st") => `(tactic| first | assumption | exact SqT.of upd_same | exact SqT.of (by assumption))
local macro_rules | `(tactic| walk_at "sc") => `(tactic| first | rfl | assumption | (show (0 : Int) < _; first | assumption | decide | omega) | exact Or.inl ⟨by omega, by omega⟩ | exact Or.inr ⟨by omega, by omega⟩ | exact ⟨by decide, by decide⟩ | exact ⟨by decide, by decide, by decide⟩)
local macro_rules | `(tactic| walk_at "g1") => `(tactic| first
  | refine ⟨(_ : V), rfl, ?_⟩
  | refine ⟨(_ : Bool), rfl, ?_⟩
  | refine ⟨(_ : Int), (_ : Int), rfl, rfl, ?_⟩
  | refine ⟨(_ : Int), rfl, ?_⟩
  | refine ⟨(_ : Str), rfl, ?_⟩
  | refine ⟨(_ : Addr), (_ : List V), rfl, Or.inl (by walk_at "sl"), ?_⟩
  | refine ⟨(_ : Addr), (_ : List V), rfl, Or.inr (by walk_at "st"), ?_⟩
  | refine ⟨(_ : Addr), (_ : List V), (_ : Int), (_ : V), rfl, rfl, (by walk_at "sl"), (by first | rfl | assumption), ?_⟩
  | refine ⟨(_ : Addr), (_ : List V), (_ : Int), (_ : V), rfl, rfl, (by walk_at "st"), (by first | rfl | assumption), ?_⟩
  | refine ⟨(_ : Addr), (_ : List V), (_ : Int), (_ : Nat), rfl, rfl, upd_same, rfl, ?_⟩
  | refine ⟨(_ : Addr), (_ : List V), (_ : Int), (_ : Nat), rfl, rfl, (by assumption), rfl, ?_⟩
  | refine ⟨(_ : Addr), (_ : Addr), (_ : Addr), (_ : List (Str × V)), (_ : V), rfl, (by assumption), (by assumption), (by assumption), (by first | assumption | rfl), ?_⟩
  | refine Or.inl ⟨(_ : Int), rfl, ?_⟩
  | refine And.intro (by walk_at "sc") ?_
  | refine iteT ?_
  | refine iteF ?_)
/-! ### walk, looks -/
/-- what walk tells -/
def WalkAt (K : PySem.W.Frag) (H : Hp) (u : Addr) (t : TR) : Prop := ∃ f : Addr, SqT K H u [.str t.word, .ref f] ∧ SqT K H f (nsV t.found)
def spWalk (K : PySem.W.Frag) (D C : Addr) : Sp := fun vs H Q _ => ∃ (p : Addr) (cs : List CD) (r h : Str), vs = [.ref p, .str r, .str h] ∧ DrawerAt K D C H p cs ∧ cs.length ≤ 16 ∧ r ∈ rules3 ∧ isWord h = true ∧ ∀ (u : Addr) (H' : Hp), Same H H' → WalkAt K H' u (tripOf cs r h) → Q (.ref u) H'
theorem ok_walk (T : Top K mg) : FnOk P w K mg base CX0 6 T.a_walk T.fd_walk ["drawer", "rule", "heading"] (spWalk K T.c_Drawer T.c_Card) := by
  refine T.F_walk.ok sc_walk (fun vs H Q E h => ?_) (fun cdv A outer s H vs Q E hr h => ?_)
  · obtain ⟨p, cs, r, h, rfl, _⟩ := h
    rfl
  · obtain ⟨p, cs, r, h, rfl, hD, hl, hr3, hw, k⟩ := h
    have hu := hu_of hr
    have hwl := word_len hw
    refine ⟨_, (pss_cons (ps_expr (pe_call (ok_check_rule T) (hr.mono (by decide)) (by rfl) T.g_check_rule T.F_check_rule.kp (b_check_rule T) .nil pass0 (pa_cons (pv 1) pa_nil)))
      (pss_cons (ps_expr (pe_call (ok_check_heading T) (hr.mono (by decide)) (by rfl) T.g_check_heading T.F_check_heading.kp (b_check_heading T) .nil pass0 (pa_cons (pv 2) pa_nil)))
      (pss_cons (ps_set (i := 3) sc_walk.nd rfl (.inl rfl) (pe_call (ok_travel T) (hr.mono (by decide)) (by rfl) T.g_travel T.F_travel.kp (b_travel T) .nil pass0 (pa_cons (pv 0) (pa_cons (pv 1) (pa_cons (pv 2) pa_nil)))))
      (pss_one (ps_ret (pe_tup (pa_cons (pe_fld (pv 3) rfl) (pa_cons (pe_callTy call_tuple_of (by rfl) T.m_tuple (by decide +kernel) (pa_cons (pe_fld (pv 3) rfl) pa_nil)) pa_nil)))))))), ?_⟩
    refine ⟨_, rfl, r, rfl, hr3, ?_⟩
    refine ⟨_, rfl, h, rfl, hw, by omega, fun H1 s1 => ?_⟩
    refine ⟨_, rfl, _, rfl, _, rfl, p, cs, r, h, rfl, hD.imm s1.imm, hl, fun q H2 s2 ht => ?_⟩
    obtain ⟨dx, a, f, h1, h2, h3⟩ := ht
    refine ⟨_, rfl, q, T.c_Trip, dx, _, _, rfl, h1, T.cl_Trip, T.n_Trip_word, tf_word _ _ _ _ _, ?_⟩
    refine ⟨_, rfl, q, T.c_Trip, dx, _, _, rfl, h1, T.cl_Trip, T.n_Trip_found, tf_found _ _ _ _ _, f, _, rfl, .inl ⟨SqL.of h3, fun l hl0 => ?_⟩⟩
    refine ⟨by show 2 ≤ sizeLine; decide, fun u hu0 => ?_⟩
    exact k u _ (((s1.trans s2).trans (same_new hl0)).trans (same_new hu0)) ⟨l, SqT.of upd_same, (same_new hu0).seqT (SqT.of upd_same)⟩
end
section
local macro_rules | `(tactic| walk_at "sl") => `(tactic| first | assumption | exact SqL.of upd_same | exact SqL.of (by assumption) | ((with_reducible apply sql_upd); (walk_at "sl"); (first | assumption | exact Ne.symm (by assumption))))
local macro_rules | `(tactic| walk_at "st") => `(tactic| first | assumption | exact SqT.of upd_same | exact SqT.of (by assumption))
local macro_rules | `(tactic| walk_at "sc") => `(tactic| first | rfl | assumption | (show (0 : Int) < _; first | assumption | decide | omega) | exact Or.inl ⟨by omega, by omega⟩ | exact Or.inr ⟨by omega, by omega⟩ | exact ⟨by decide, by decide⟩ | exact ⟨by decide, by decide, by decide⟩)
local macro_rules | `(tactic| walk_at "g1") => `(tactic| first
  | refine ⟨(_ : V), rfl, ?_⟩
  | refine ⟨(_ : Bool), rfl, ?_⟩
  | refine ⟨(_ : Int), (_ : Int), rfl, rfl, ?_⟩
  | refine ⟨(_ : Int), rfl, ?_⟩
  | refine ⟨(_ : Str), rfl, ?_⟩
  | refine ⟨(_ : Addr), (_ : List V), rfl, Or.inl (by walk_at "sl"), ?_⟩
  | refine ⟨(_ : Addr), (_ : List V), rfl, Or.inr (by walk_at "st"), ?_⟩
  | refine ⟨(_ : Addr), (_ : List V), (_ : Int), (_ : V), rfl, rfl, (by walk_at "sl"), (by first | rfl | assumption), ?_⟩
  | refine ⟨(_ : Addr), (_ : List V), (_ : Int), (_ : V), rfl, rfl, (by walk_at "st"), (by first | rfl | assumption), ?_⟩
  | refine ⟨(_ : Addr), (_ : List V), (_ : Int), (_ : Nat), rfl, rfl, upd_same, rfl, ?_⟩
  | refine ⟨(_ : Addr), (_ : List V), (_ : Int), (_ : Nat), rfl, rfl, (by assumption), rfl, ?_⟩
  | refine ⟨(_ : Addr), (_ : Addr), (_ : Addr), (_ : List (Str × V)), (_ : V), rfl, (by assumption), (by assumption), (by assumption), (by first | assumption | rfl), ?_⟩
  | refine Or.inl ⟨(_ : Int), rfl, ?_⟩
  | refine And.intro (by walk_at "sc") ?_
  | refine iteT ?_
  | refine iteF ?_)
/-! ### see_rings -/
section
variable {cs : List CD} {r h : Str} {t : TR} {n p : Nat}
theorem go_hit (hm : h ∈ t.asked) : goT cs r (n + 1) h t = { t with word := "ring" } := if_pos hm
theorem go_lost (hm : h ∉ t.asked) (hs : (seekOf (heads cs) r h).1 = none) : goT cs r (n + 1) h t = ⟨"lost", t.asked ++ [h], t.found, t.total + (seekOf (heads cs) r h).2.length⟩ := by
  unfold goT
  rw [if_neg hm, hs]
theorem go_end (hm : h ∉ t.asked) (hs : (seekOf (heads cs) r h).1 = some p) (hz : seeAt cs p = "") : goT cs r (n + 1) h t = ⟨"entry", t.asked ++ [h], t.found ++ [p], t.total + (seekOf (heads cs) r h).2.length⟩ := by
  unfold goT
  rw [if_neg hm, hs]
  exact if_pos hz
theorem go_on (hm : h ∉ t.asked) (hs : (seekOf (heads cs) r h).1 = some p) (hz : ¬ seeAt cs p = "") : goT cs r (n + 1) h t = goT cs r n (seeAt cs p) ⟨"", t.asked ++ [h], t.found ++ [p], t.total + (seekOf (heads cs) r h).2.length⟩ := by
  rw [goT, if_neg hm, hs]
  exact if_neg hz
end
theorem lost_ring : ¬ ("lost" : Str) = "ring" := by decide +kernel
theorem entry_ring : ¬ ("entry" : Str) = "ring" := by decide +kernel
theorem none_ring : ¬ ("" : Str) = "ring" := by decide +kernel
theorem go_ring {cs : List CD} {r : Str} : ∀ (n : Nat) (h : Str) (t : TR), Sound cs t → t.word ≠ "ring" → (goT cs r n h t).word = "ring" → Sound cs (goT cs r n h t) ∧ (goT cs r n h t).asked ≠ []
  | 0, _, t, _, hn, e => absurd e hn
  | n + 1, h, t, s, hn, e => by
    by_cases hm : h ∈ t.asked
    · rw [go_hit hm]
      exact ⟨⟨s.len, s.nd, s.at_⟩, fun z => by
        have z : t.asked = [] := z
        rw [z] at hm
        cases hm⟩
    · cases hs : (seekOf (heads cs) r h).1 with
      | none =>
        rw [go_lost hm hs] at e
        exact absurd e lost_ring
      | some p =>
        by_cases hz : seeAt cs p = ""
        · rw [go_end hm hs hz] at e
          exact absurd e entry_ring
        · rw [go_on hm hs hz] at e ⊢
          exact go_ring n (seeAt cs p) _ (s.step hm hs) none_ring e
theorem trip_ring {cs : List CD} {r h : Str} (e : (tripOf cs r h).word = "ring") : Sound cs (tripOf cs r h) ∧ (tripOf cs r h).asked ≠ [] := go_ring 99 h _ Sound.nil none_ring e
def minL : List Str → Str
  | [] => ""
  | p :: ps => minS p ps
def ringB (cs : List CD) (r h : Str) : Bool := decide ((tripOf cs r h).word = "ring") && (decide (seeAt cs ((tripOf cs r h).found.getLastD 0) = h) && decide (h = minL (tripOf cs r h).asked))
/-- a list of tuples of texts -/
def WordsAt (K : PySem.W.Frag) (H : Hp) (xs : List V) (wss : List (List Str)) : Prop := xs.length = wss.length ∧ ∀ (i : Nat) x ws, xs[i]? = some x → wss[i]? = some ws → ∃ t, x = .ref t ∧ SqT K H t (ws.map V.str)
theorem WordsAt.imm {H H' : Hp} {xs : List V} {wss : List (List Str)} (h : WordsAt K H xs wss) (c : Imm H H') : WordsAt K H' xs wss := ⟨h.1, fun i x o h1 h2 => by
  obtain ⟨t, e, g⟩ := h.2 i x o h1 h2
  exact ⟨t, e, c.seqT g⟩⟩
theorem WordsAt.snoc {H : Hp} {xs : List V} {wss : List (List Str)} {t : Addr} {ws : List Str} (h : WordsAt K H xs wss) (g : SqT K H t (ws.map V.str)) : WordsAt K H (xs ++ [.ref t]) (wss ++ [ws]) := by
  refine ⟨by rw [List.length_append, List.length_append, h.1]; rfl, fun i x o h1 h2 => ?_⟩
  by_cases hi : i < xs.length
  · rw [List.getElem?_append_left hi] at h1
    rw [List.getElem?_append_left (by rw [← h.1]; exact hi)] at h2
    exact h.2 i x o h1 h2
  · rw [List.getElem?_append_right (by omega)] at h1
    rw [List.getElem?_append_right (by rw [← h.1]; omega), ← h.1] at h2
    cases hz : i - xs.length with
    | zero =>
      rw [hz] at h1 h2
      obtain rfl := Option.some.inj h1
      obtain rfl := Option.some.inj h2
      exact ⟨t, rfl, g⟩
    | succ k =>
      rw [hz] at h1
      cases h1
def spRings (K : PySem.W.Frag) (D C : Addr) : Sp := fun vs H Q _ => ∃ (p : Addr) (cs : List CD) (r : Str), vs = [.ref p, .str r] ∧ DrawerAt K D C H p cs ∧ cs.length ≤ 16 ∧ r ∈ rules3 ∧
  ∀ q xs (ys : List Str) H', Same H H' → H' q = some (.lst xs) → ys.Nodup → PyProof.Rows.sortedS ys = true → (∀ k, k ∈ ys ↔ k ∈ heads cs) → WordsAt K H' xs ((ys.filter (ringB cs r)).map fun h => (tripOf cs r h).asked) → Q (.ref q) H'
theorem ok_see_rings (T : Top K mg) : FnOk P w K mg base CX0 6 T.a_see_rings T.fd_see_rings ["drawer", "rule"] (spRings K T.c_Drawer T.c_Card) := by
  refine T.F_see_rings.ok sc_see_rings (fun vs H Q E h => ?_) (fun cdv A outer s H vs Q E hr h => ?_)
  · obtain ⟨p, cs, r, rfl, _⟩ := h
    rfl
  · obtain ⟨p, cs, r, rfl, hD, hl, hr3, k⟩ := h
    have hu := hu_of hr
    refine ⟨_, (pss_cons (ps_expr (pe_call (ok_check_rule T) (hr.mono (by decide)) (by rfl) T.g_check_rule T.F_check_rule.kp (b_check_rule T) .nil pass0 (pa_cons (pv 1) pa_nil)))
      (pss_cons (ps_set (i := 2) sc_see_rings.nd rfl (.inl rfl) (pe_lst pa_nil))
      (pss_cons (ps_for PassesOwn.never rfl (pi_tup (pe_prop (pv 0) T.cl_Drawer T.P_Drawer_headings (ok_Drawer_headings T) (hr.mono (by decide)) (b_Drawer_headings T) .nil pass0 rfl)) (pg_name (i := 3) sc_see_rings.nd rfl (.inl rfl))
        (pss_cons (ps_set (i := 4) sc_see_rings.nd rfl (.inl rfl) (pe_call (ok_travel T) (hr.mono (by decide)) (by rfl) T.g_travel T.F_travel.kp (b_travel T) .nil pass0 (pa_cons (pv 0) (pa_cons (pv 1) (pa_cons (pv 3) pa_nil)))))
        (pss_one (ps_if (PW.pt (pw_and (pt_cmpR op_eq (pe_fld (pv 4) rfl) pe_str (nomark _)) (pw_and (pt_cmpR op_eq (pe_prop (pe_item (pv 0) (pe_ix ix_list (pe_fld (pv 4) rfl) (pe_un un_neg pe_int) (fun _ _ => rfl)) T.M_Drawer_getitem T.I_Drawer_getitem (ok_Drawer_getitem T) (hr.mono (by decide)) (b_Drawer_getitem T) pass0) T.cl_Card T.P_Card_see (ok_Card_see T) (hr.mono (by decide)) (b_Card_see T) .nil pass0 rfl) (pv 3) (nomark _)) (pw_and1 (pt_cmpR op_eq (pv 3) (pe_callB (cr_minT rfl hr.units) (by rfl) T.m_min (by decide +kernel) (pa_cons (pe_fld (pv 4) rfl) pa_nil)) (nomark _)))))) (pss_one (ps_expr (pe_bm PySem.F.plainAttrs_list PySem.F.slot_list_append PySem.F.type_list_append mt_append (pv 2) (pa_cons (pe_callTy call_tuple_of (by rfl) T.m_tuple (by decide +kernel) (pa_cons (pe_fld (pv 4) rfl) pa_nil)) pa_nil)))) pss_nil))))
      (pss_one (ps_ret (pv 2)))))), ?_⟩
    refine ⟨_, rfl, r, rfl, hr3, ?_⟩
    refine ⟨Nat.zero_le _, fun lf hlf => ?_⟩
    have s1 := same_new (o := .lst []) hlf
    have e1 : (upd H lf (.lst [])) lf = some (.lst []) := upd_same
    have D1 := hD.imm s1.imm
    obtain ⟨dx, tc, ps, hd, _⟩ := id D1
    refine ⟨_, rfl, p, dx, _, rfl, hd, p, cs, rfl, D1, hl, fun tn H2 ys s2 h2 hnd hst hmem => ⟨tn, rfl, ⟨_, SqT.of h2⟩, ?_⟩⟩
    have hyl : ys.length ≤ 16 := by
      have := nodup_le hnd fun k hk => (hmem k).mp hk
      unfold heads at this
      rw [List.length_map] at this
      omega
    have s12 := s1.trans s2
    have e2 := s2 _ _ e1
    refine for_tup (K := K) (a := tn) (xs := ys.map V.str) (fun i σ H3 => ∃ (zs : List V) (y3 y4 : Option V), σ = [some (.ref p), some (.str r), some (.ref lf), y3, y4] ∧ Same H H3 ∧ H3 tn = some (.tup (ys.map V.str)) ∧ H3 lf = some (.lst zs) ∧ WordsAt K H3 zs (((ys.take i).filter (ringB cs r)).map fun h => (tripOf cs r h).asked)) ⟨[], _, _, rfl, s12, h2, e2, rfl, fun i x o h => nomatch h⟩ (fun i σ H3 _ ⟨_, _, _, _, _, h3, _⟩ => SqT.of h3) (fun i x σ H3 hi hP => ?_) (fun σ H3 hP => ?_)
    · obtain ⟨zs, y3, y4, rfl, s3, h3, e3, hz⟩ := hP
      rw [List.getElem?_map] at hi
      obtain ⟨h, hh, rfl⟩ := Option.map_eq_some_iff.mp hi
      have D3 := hD.imm s3.imm
      refine ⟨_, rfl, _, rfl, _, rfl, p, cs, r, h, rfl, D3, hl, fun t H4 s4 ht => ?_⟩
      have etk : ys.take (i + 1) = ys.take i ++ [h] := by rw [List.take_add_one, hh]; rfl
      rw [etk, List.filter_append, List.map_append]
      obtain ⟨tx, ta, tf, t1, t2, t3⟩ := ht
      refine ⟨_, rfl, t, T.c_Trip, tx, _, _, rfl, t1, T.cl_Trip, T.n_Trip_word, tf_word _ _ _ _ _, ?_⟩
      refine tC_to (rEq_to (b := decide ((tripOf cs r h).word = "ring")) rfl (by rw [str_dec]) ?_)
      refine ⟨_, rfl, ?_⟩
      have s34 := s3.trans s4
      have h4 := s4 _ _ h3
      have e4 := s4 _ _ e3
      have z4 := hz.imm s4.imm
      have D4 := D3.imm s4.imm
      have hzl := hz.1
      have hfl := List.length_filter_le (ringB cs r) (ys.take i)
      rw [List.length_map] at hzl
      have htk := List.length_take_le i ys
      have hiy := (List.getElem?_eq_some_iff.mp hh).1
      have hno : ringB cs r h = false → WordsAt K H4 zs (((ys.take i).filter (ringB cs r)).map (fun h => (tripOf cs r h).asked) ++ ([h].filter (ringB cs r)).map fun h => (tripOf cs r h).asked) := fun e => by
        rw [List.filter_cons, if_neg (by rw [e]; exact Bool.false_ne_true), List.filter_nil, List.map_nil, List.append_nil]
        exact z4
      by_cases hw : (tripOf cs r h).word = "ring"
      · rw [decide_eq_true hw]
        refine iteT ?_
        obtain ⟨snd, hne⟩ := trip_ring hw
        have hfn : (tripOf cs r h).found ≠ [] := fun z => hne (List.eq_nil_of_length_eq_zero (by rw [snd.len, z]; rfl))
        obtain ⟨pl, hpl⟩ : ∃ pl, (tripOf cs r h).found.getLast? = some pl := by
          cases e : (tripOf cs r h).found.getLast? with
          | none => exact absurd (List.getLast?_eq_none_iff.mp e) hfn
          | some pl => exact ⟨pl, rfl⟩
        refine ⟨_, rfl, _, rfl, t, T.c_Trip, tx, _, _, rfl, t1, T.cl_Trip, T.n_Trip_found, tf_found _ _ _ _ _, ?_⟩
        have hpc : pl < cs.length := by
          obtain ⟨i2, hi2⟩ := List.mem_iff_getElem?.mp (List.mem_of_getLast? hpl)
          exact (snd.at_ i2 pl hi2).2
        have hc : cs[pl]? = some cs[pl] := List.getElem?_eq_getElem hpc
        obtain ⟨dx4, tc4, ps4, hd4, _⟩ := id D4
        refine ⟨1, rfl, tf, _, -1, _, rfl, rfl, SqL.of t3, last_at hpl, p, dx4, _, rfl, hd4, p, cs, pl, cs[pl], rfl, D4, by omega, hc, fun q hq => ?_⟩
        obtain ⟨dxc, bb, aa, hq1, _, _⟩ := hq
        refine ⟨q, dxc, _, rfl, hq1, q, dxc, _, _, rfl, hq1, cf_see _ _ _ _, ?_⟩
        refine ⟨_, rfl, rEq_to (b := decide (seeAt cs ((tripOf cs r h).found.getLastD 0) = h)) rfl ?_ ?_⟩
        · rw [str_dec, List.getLastD_eq_getLast?, hpl]
          show _ = decide (seeAt cs pl = h)
          rw [see_at hc]
        refine ⟨_, rfl, ?_⟩
        by_cases hse : seeAt cs ((tripOf cs r h).found.getLastD 0) = h
        · rw [decide_eq_true hse]
          refine iteT ?_
          obtain ⟨pa, pas, hpa⟩ : ∃ x xs, (tripOf cs r h).asked = x :: xs := by
            cases e : (tripOf cs r h).asked with
            | nil => exact absurd e hne
            | cons x xs => exact ⟨x, xs, rfl⟩
          refine ⟨_, rfl, _, rfl, t, T.c_Trip, tx, _, _, rfl, t1, T.cl_Trip, T.n_Trip_asked, tf_asked _ _ _ _ _, ta, pa, pas, rfl, by rw [← hpa]; exact SqL.of t2, ?_⟩
          refine ⟨rfl, _, rfl, ?_⟩
          have hmi : minL (tripOf cs r h).asked = minS pa pas := by rw [hpa]; rfl
          rw [str_dec, ← hmi]
          show if decide (h = minL (tripOf cs r h).asked) = true then _ else _
          by_cases hm : h = minL (tripOf cs r h).asked
          · rw [decide_eq_true hm]
            refine iteT ?_
            have hrb : ringB cs r h = true := by
              unfold ringB
              rw [decide_eq_true hw, decide_eq_true hse, decide_eq_true hm]
              rfl
            refine ⟨_, rfl, .inl ⟨rfl, _, SqL.of e4⟩, _, rfl, t, T.c_Trip, tx, _, _, rfl, t1, T.cl_Trip, T.n_Trip_asked, tf_asked _ _ _ _ _, ta, _, rfl, .inl ⟨SqL.of t2, fun u hu' => ?_⟩⟩
            have s5 := same_new (o := .tup ((tripOf cs r h).asked.map V.str)) hu'
            have e5 := s5 _ _ e4
            have im : Imm (upd H4 u (.tup ((tripOf cs r h).asked.map V.str))) (upd (upd H4 u (.tup ((tripOf cs r h).asked.map V.str))) lf (.lst (zs ++ [.ref u]))) := Imm.refl.mut e5 rfl
            refine ⟨lf, _, .ref u, rfl, rfl, e5, sizeLine_of (by omega), zs ++ [.ref u], _, _, rfl, same_mut (s34.trans s5) hlf, im _ _ (s5 _ _ h4) rfl, upd_same, ?_⟩
            rw [List.filter_cons, if_pos hrb, List.filter_nil]
            exact ((z4.imm s5.imm).imm im).snoc (SqT.of (im _ _ upd_same rfl))
          · rw [decide_eq_false hm]
            refine iteF ⟨zs, _, _, rfl, s34, h4, e4, hno ?_⟩
            unfold ringB
            rw [decide_eq_true hw, decide_eq_true hse, decide_eq_false hm]
            rfl
        · rw [decide_eq_false hse]
          refine iteF (iteF ⟨zs, _, _, rfl, s34, h4, e4, hno ?_⟩)
          unfold ringB
          rw [decide_eq_true hw, decide_eq_false hse]
          rfl
      · rw [decide_eq_false hw]
        refine iteF (iteF ⟨zs, _, _, rfl, s34, h4, e4, hno ?_⟩)
        unfold ringB
        rw [decide_eq_false hw]
        rfl
    · obtain ⟨zs, y3, y4, rfl, s3, h3, e3, hz⟩ := hP
      rw [List.length_map, List.take_length] at hz
      exact ⟨_, rfl, k lf zs ys H3 s3 e3 hnd hst hmem hz⟩
end
section
local macro_rules | `(tactic| walk_at "sl") => `(tactic| first | assumption | exact SqL.of upd_same | exact SqL.of (by assumption) | ((with_reducible apply sql_upd); (walk_at "sl"); (first | assumption | exact Ne.symm (by assumption))))
local macro_rules | `(tactic| walk_at "st") => `(tactic| first | assumption | exact SqT.of upd_same | exact SqT.of (by assumption))
local macro_rules | `(tactic| walk_at "sc") => `(tactic| first | rfl | assumption | (show (0 : Int) < _; first | assumption | decide | omega) | exact Or.inl ⟨by omega, by omega⟩ | exact Or.inr ⟨by omega, by omega⟩ | exact ⟨by decide, by decide⟩ | exact ⟨by decide, by decide, by decide⟩)
local macro_rules | `(tactic| walk_at "g1") => `(tactic| first
  | refine ⟨(_ : V), rfl, ?_⟩
  | refine ⟨(_ : Bool), rfl, ?_⟩
  | refine ⟨(_ : Int), (_ : Int), rfl, rfl, ?_⟩
  | refine ⟨(_ : Int), rfl, ?_⟩
  | refine ⟨(_ : Str), rfl, ?_⟩
  | refine ⟨(_ : Addr), (_ : List V), rfl, Or.inl (by walk_at "sl"), ?_⟩
  | refine ⟨(_ : Addr), (_ : List V), rfl, Or.inr (by walk_at "st"), ?_⟩
  | refine ⟨(_ : Addr), (_ : List V), (_ : Int), (_ : V), rfl, rfl, (by walk_at "sl"), (by first | rfl | assumption), ?_⟩
  | refine ⟨(_ : Addr), (_ : List V), (_ : Int), (_ : V), rfl, rfl, (by walk_at "st"), (by first | rfl | assumption), ?_⟩
  | refine ⟨(_ : Addr), (_ : List V), (_ : Int), (_ : Nat), rfl, rfl, upd_same, rfl, ?_⟩
  | refine ⟨(_ : Addr), (_ : List V), (_ : Int), (_ : Nat), rfl, rfl, (by assumption), rfl, ?_⟩
  | refine ⟨(_ : Addr), (_ : Addr), (_ : Addr), (_ : List (Str × V)), (_ : V), rfl, (by assumption), (by assumption), (by assumption), (by first | assumption | rfl), ?_⟩
  | refine Or.inl ⟨(_ : Int), rfl, ?_⟩
  | refine And.intro (by walk_at "sc") ?_
  | refine iteT ?_
  | refine iteF ?_)
/-! ### _law_seeing -/
def n6 : List Str := ["ant", "bee", "cat", "dog", "elk", "fox"]
theorem n6_word : ∀ x ∈ n6, isWord x = true := by decide +kernel
theorem n6_nodup : n6.Nodup := by decide +kernel
theorem n6_ok : ∀ x ∈ n6, PyData.strOk x = true := by decide +kernel
structure SeeC (c : CD) : Prop where
  h : c.heading ∈ n6
  b : c.books = []
  a : c.also = []
  s : c.see = "" ∨ (c.see ∈ n6 ∧ c.see ≠ c.heading)
theorem see_fm (z : Str) : ∀ l : List Str, l.filterMap (fun y => if y = z then none else some (V.str y)) = (l.filter fun y => !decide (y = z)).map V.str
  | [] => rfl
  | y :: l => by
    rw [List.filterMap_cons, List.filter_cons, see_fm z l]
    by_cases h : y = z
    · rw [if_pos h, decide_eq_true h]
      rfl
    · rw [if_neg h, decide_eq_false h]
      rfl
theorem see_rng (ws : List Str) (f : Str → Option V) : (List.range ws.length).filterMap (fun j => ws[j]?.bind f) = ws.filterMap f := by
  induction ws with
  | nil => rfl
  | cons a ws ih =>
    rw [List.length_cons, List.range_succ_eq_map, List.filterMap_cons, List.filterMap_map, List.filterMap_cons, ← ih]
    rfl
theorem ItemsS {H H' : Hp} {xs : List V} {cs : List CD} {v : V} {c : CD} (h : Items K H xs cs) (im : Imm H H') (g : ItemAt K H' v c) : Items K H' (xs ++ [v]) (cs ++ [c]) := by
  have h := h.imm im
  refine ⟨by rw [List.length_append, List.length_append, h.1]; rfl, fun i x o h1 h2 => ?_⟩
  by_cases hi : i < xs.length
  · rw [List.getElem?_append_left hi] at h1
    rw [List.getElem?_append_left (by rw [← h.1]; exact hi)] at h2
    exact h.2 i x o h1 h2
  · rw [List.getElem?_append_right (by omega)] at h1
    rw [List.getElem?_append_right (by rw [← h.1]; omega), ← h.1] at h2
    cases hz : i - xs.length with
    | zero =>
      rw [hz] at h1 h2
      obtain rfl := Option.some.inj h1
      obtain rfl := Option.some.inj h2
      exact g
    | succ k =>
      rw [hz] at h1
      cases h1
theorem int_dec (a b : Int) : decide (V.int a = V.int b) = decide (a = b) := by
  by_cases h : a = b
  · rw [decide_eq_true h, decide_eq_true (congrArg V.int h)]
  · rw [decide_eq_false h, decide_eq_false fun z => h (V.int.inj z)]
def spSeeing (K : PySem.W.Frag) : Sp := fun vs H Q _ => ∃ (rw a : Addr) (ns : List Int), vs = [.ref rw] ∧ RowAt K H rw a ns ∧ ∀ q xs (cs : List CD) H', RowAt K H' rw a ns → q ≠ rw → H' q = some (.lst xs) → Items K H' xs cs → cs.length ≤ 12 → (∀ c ∈ cs, SeeC c) → Q (.ref q) H'
theorem ok_llaw_seeing (T : Top K mg) : FnOk P w K mg base CX0 3 T.a_llaw_seeing T.fd_llaw_seeing ["_law_row"] (spSeeing K) := by
  refine T.F_llaw_seeing.ok sc_llaw_seeing (fun vs H Q E h => ?_) (fun cdv A outer s H vs Q E hr h => ?_)
  · obtain ⟨rw, a, ns, rfl, _⟩ := h
    rfl
  · obtain ⟨rw, a, ns, rfl, R, k⟩ := h
    have hu := hu_of hr
    refine ⟨_, (pss_cons (ps_par (i := 1) (j := 2) (by rfl) sc_llaw_seeing.nd rfl rfl (by decide) rfl rfl (pa_cons (pe_lst (pa_cons pe_str (pa_cons pe_str (pa_cons pe_str (pa_cons pe_str (pa_cons pe_str (pa_cons pe_str pa_nil))))))) (pa_cons (pe_lst pa_nil) pa_nil)) (by rfl))
      (pss_cons (ps_for PassesOwn.never rfl (pi_range1 (by rfl) T.m_range (pa_cons (pe_call (ok_llaw_taken T) (hr.mono (by decide)) (by rfl) T.g_llaw_taken T.F_llaw_taken.kp (b_llaw_taken T) .nil pass0 (pa_cons (pv 0) (pa_cons pe_int pa_nil))) pa_nil)) (pg_name (i := 3) sc_llaw_seeing.nd rfl (.inl rfl))
        (pss_cons (ps_set (i := 4) sc_llaw_seeing.nd rfl (.inr rfl) (pe_call (ok_llaw_pick T) (hr.mono (by decide)) (by rfl) T.g_llaw_pick T.F_llaw_pick.kp (b_llaw_pick T) .nil pass0 (pa_cons (pv 0) (pa_cons (pv 1) pa_nil))))
        (pss_cons (ps_set (i := 5) sc_llaw_seeing.nd rfl (.inl rfl) (pe_call (ok_llaw_pick T) (hr.mono (by decide)) (by rfl) T.g_llaw_pick T.F_llaw_pick.kp (b_llaw_pick T) .nil pass0 (pa_cons (pv 0) (pa_cons (pe_lc (own := [("_law_name", 6)]) (g := gName 6) rfl sc_llaw_seeing.nd (pi_list (pv 1)) (blkOk_by (N := N_llaw_seeing) (sc := defScope s_llaw_seeing) (by decide +kernel)) (fun _ _ _ _ _ => (pg_name (i := 6) sc_llaw_seeing.nd rfl (.inl rfl))) (fun _ _ _ _ _ => (pts_one (pt_cmpR op_ne (pv 6) (pv 4) (nomark _)))) (fun _ _ _ _ _ => (pv 6))) pa_nil))))
        (pss_one (ps_expr (pe_bm PySem.F.plainAttrs_list PySem.F.slot_list_append PySem.F.type_list_append mt_append (pv 2) (pa_cons (pe_tup (pa_cons (pv 4) (pa_cons (pe_tup pa_nil) (pa_cons (pe_ifExp (pt_cmpR op_eq (pe_call (ok_llaw_taken T) (hr.mono (by decide)) (by rfl) T.g_llaw_taken T.F_llaw_taken.kp (b_llaw_taken T) .nil pass0 (pa_cons (pv 0) (pa_cons pe_int pa_nil))) pe_int (nomark _)) pe_str (pv 5)) (pa_cons (pe_tup pa_nil) pa_nil))))) pa_nil)))))))
      (pss_one (ps_ret (pv 2))))), ?_⟩
    have hsz := sizeLine_of (show (1000000 : Nat) ≤ 1000000 by omega)
    refine ⟨by show 6 ≤ sizeLine; decide, fun ln hln => ?_⟩
    have s1 := same_new (o := .lst (n6.map V.str)) hln
    have R1 := R.same s1
    have n1 := (R.new hln).1
    have e1 : (upd H ln (.lst (n6.map V.str))) ln = some (.lst (n6.map V.str)) := upd_same
    refine ⟨Nat.zero_le _, fun lf hlf => ?_⟩
    have s2 := same_new (o := .lst []) hlf
    have off := R1.new hlf
    have R2 := R1.same s2
    have e2 := s2 _ _ e1
    have nlf : ln ≠ lf := ne_of_none e1 hlf
    have f2 : (upd (upd H ln (.lst (n6.map V.str))) lf (.lst [])) lf = some (.lst []) := upd_same
    refine ⟨_, _, rfl, ?_⟩
    refine ⟨_, rfl, rw, a, ns, 13, rfl, by decide, by decide, R2, fun nn H3 hn3 b3 R3 => ?_⟩
    have e3 := b3 _ _ e2 n1
    have f3 := b3 _ _ f2 off.1
    clear R R1 s1 s2 hln hlf e1 R2 e2 f2 b3
    refine ⟨_, rfl, by omega, by omega, for_range (lo := 0) (n := ((nn : Nat) : Int).toNat) (fun i σ H4 => ∃ (xs : List V) (cs : List CD) (y3 y4 y5 y6 : Option V), σ = [some (.ref rw), some (.ref ln), some (.ref lf), y3, y4, y5, y6] ∧ RowAt K H4 rw a ns ∧ H4 ln = some (.lst (n6.map V.str)) ∧ H4 lf = some (.lst xs) ∧ Items K H4 xs cs ∧ cs.length = i ∧ ∀ c ∈ cs, SeeC c) ⟨[], [], _, _, _, _, rfl, R3, e3, f3, ⟨rfl, fun i v c h => nomatch h⟩, rfl, fun c h => nomatch h⟩ (fun i σ H4 hi hP => ?_) (fun σ H4 hP => ?_)⟩
    · obtain ⟨xs, cs, y3, y4, y5, y6, rfl, R4, e4, f4, hx, hcl, hg⟩ := hP
      rw [Int.toNat_natCast] at hi
      refine ⟨_, rfl, _, rfl, rw, a, ln, ns, _, rfl, R4, SqL.of e4, n1, by decide, by decide, fun iz z H5 hz b5 R5 => ?_⟩
      rw [List.getElem?_map] at hz
      obtain ⟨h, hh, rfl⟩ := Option.map_eq_some_iff.mp hz
      have hm := List.mem_of_getElem? hh
      have e5 := b5 _ _ e4 n1
      have f5 := b5 _ _ f4 off.1
      have x5 := hx.imm (b5.imm R4.at.choose_spec.1 R4.at.choose_spec.2)
      refine ⟨_, rfl, _, rfl, ln, rfl, ⟨_, SqL.of e5⟩, fun D hD => lc_fn (walk_list (K := K) (a := ln) (xs := n6.map V.str)) (by show 6 ≤ _; omega) hD (fun j => n6[j]?.bind fun y => if y = h then none else some (V.str y)) (fun H' s' => s'.seq (SqL.of e5)) (fun j x H6 H7 hj s6 hy Rr R0 r1 r0 => ?_) (fun H6 s6 hd => ?_)⟩
      · obtain ⟨rfl, hx⟩ := hy
        rw [List.getElem?_map] at hx
        obtain ⟨y, hy, rfl⟩ := Option.map_eq_some_iff.mp hx
        rw [hy] at r1 r0
        refine ⟨rfl, ?_⟩
        refine ⟨_, rfl, _, rfl, rNe_to (b := !decide (y = h)) rfl (by rw [str_dec]) ?_⟩
        refine ⟨_, rfl, ?_⟩
        by_cases hyz : y = h
        · rw [decide_eq_true hyz]
          exact iteF (r0 _ (if_pos hyz) (Same.refl _))
        · rw [decide_eq_false hyz]
          exact iteT ⟨_, rfl, r1 _ _ (if_neg hyz) (Same.refl _)⟩
      · rw [List.length_map, see_rng, see_fm] at hd
        have hol : (n6.filter fun y => !decide (y = h)).length ≤ 6 := List.length_filter_le _ _
        have ho0 : 0 < (n6.filter fun y => !decide (y = h)).length := by
          have q : ∀ z ∈ n6, 0 < (n6.filter fun y => !decide (y = z)).length := by decide +kernel
          exact q h hm
        have ho : ∀ x ∈ n6.filter (fun y => !decide (y = h)), x ∈ n6 ∧ x ≠ h := fun x hx => by
          obtain ⟨h1, h2⟩ := List.mem_filter.mp hx
          exact ⟨h1, fun e => by rw [decide_eq_true e] at h2; cases h2⟩
        generalize n6.filter (fun y => !decide (y = h)) = oth at *
        have R6 := R5.same s6
        have nD : D ≠ rw := (R5.new hD).1
        have e6 := s6 _ _ e5
        have f6 := s6 _ _ f5
        have x6 := x5.imm s6.imm
        refine ⟨rw, a, D, ns, _, rfl, R6, SqL.of hd, nD, by rw [List.length_map]; exact ho0, by rw [List.length_map]; omega, fun iz2 z2 H7 hz2 b7 R7 => ?_⟩
        rw [List.getElem?_map] at hz2
        obtain ⟨g, hgo, rfl⟩ := Option.map_eq_some_iff.mp hz2
        obtain ⟨hg6, hgne⟩ := ho g (List.mem_of_getElem? hgo)
        have e7 := b7 _ _ e6 n1
        have f7 := b7 _ _ f6 off.1
        have x7 := x6.imm (b7.imm R6.at.choose_spec.1 R6.at.choose_spec.2)
        clear R4 e4 f4 hx b5 R5 e5 f5 x5 s6 hd R6 e6 f6 x6 b7
        refine ⟨_, rfl, .inl ⟨rfl, _, SqL.of f7⟩, _, rfl, by show 0 ≤ sizeLine; omega, fun t1 ht1 => ?_⟩
        have s71 := same_new (o := .tup []) ht1
        have R71 := R7.same s71
        have t17 : SqT K (upd H7 t1 (.tup [])) t1 [] := SqT.of upd_same
        have e71 := s71 _ _ e7
        have f71 := s71 _ _ f7
        have x71 := x7.imm s71.imm
        generalize upd H7 t1 (.tup []) = H71 at *
        refine ⟨_, rfl, rw, a, ns, 6, rfl, by decide, by decide, R71, fun i2 H8 hi2 b8 R8 => ?_⟩
        have im8 := b8.imm R71.at.choose_spec.1 R71.at.choose_spec.2
        have t18 := im8.seqT t17
        have e8 := b8 _ _ e71 n1
        have f8 := b8 _ _ f71 off.1
        have x8 := x71.imm im8
        refine tC_to (rEq_to (b := decide ((i2 : Int) = 0)) rfl (by rw [int_dec]) ?_)
        refine ⟨_, rfl, ?_⟩
        clear R7 e7 f7 x7 s71 R71 t17 e71 f71 x71 b8 im8
        by_cases h0 : (i2 : Int) = 0
        · rw [decide_eq_true h0]
          refine iteT ?_
          refine ⟨by show 0 ≤ sizeLine; omega, fun t2 ht2 => ?_⟩
          have s9 := same_new (o := .tup []) ht2
          have g9 : SqT K (upd H8 t2 (.tup [])) t2 [] := SqT.of upd_same
          have g1 := s9.seqT t18
          have R9 := R8.same s9
          have e9 := s9 _ _ e8
          have f9 := s9 _ _ f8
          have x9 := x8.imm s9.imm
          generalize upd H8 t2 (.tup []) = H9 at *
          refine ⟨by show 4 ≤ sizeLine; decide, fun t ht => ?_⟩
          have s10 := same_new (o := .tup [.str h, .ref t1, .str "", .ref t2]) ht
          have R10 := R9.same s10
          have e10 := s10 _ _ e9
          have f10 := s10 _ _ f9
          have x10 := x9.imm s10.imm
          have i10 : ItemAt K (upd H9 t (.tup [.str h, .ref t1, .str "", .ref t2])) (.ref t) ⟨h, [], "", []⟩ := ⟨t, t1, t2, rfl, SqT.of upd_same, s10.seqT g1, s10.seqT g9⟩
          generalize upd H9 t (.tup [.str h, .ref t1, .str "", .ref t2]) = H10 at *
          have im : Imm H10 (upd H10 lf (.lst (xs ++ [.ref t]))) := Imm.refl.mut f10 rfl
          refine ⟨lf, _, .ref t, rfl, rfl, f10, sizeLine_of (by have := x10.1; omega), xs ++ [.ref t], cs ++ [⟨h, [], "", []⟩], _, _, _, _, rfl, R10.mut off, by rw [upd_ne nlf]; exact e10, upd_same, ItemsS x10 im (i10.imm im), by rw [List.length_append, hcl]; rfl, fun c hc => ?_⟩
          rcases List.mem_append.mp hc with hc | hc
          · exact hg c hc
          · rw [List.mem_singleton.mp hc]
            exact ⟨hm, rfl, rfl, .inl rfl⟩
        · rw [decide_eq_false h0]
          refine iteF ?_
          refine ⟨_, rfl, ?_⟩
          refine ⟨by show 0 ≤ sizeLine; omega, fun t2 ht2 => ?_⟩
          have s9 := same_new (o := .tup []) ht2
          have g9 : SqT K (upd H8 t2 (.tup [])) t2 [] := SqT.of upd_same
          have g1 := s9.seqT t18
          have R9 := R8.same s9
          have e9 := s9 _ _ e8
          have f9 := s9 _ _ f8
          have x9 := x8.imm s9.imm
          generalize upd H8 t2 (.tup []) = H9 at *
          refine ⟨by show 4 ≤ sizeLine; decide, fun t ht => ?_⟩
          have s10 := same_new (o := .tup [.str h, .ref t1, .str g, .ref t2]) ht
          have R10 := R9.same s10
          have e10 := s10 _ _ e9
          have f10 := s10 _ _ f9
          have x10 := x9.imm s10.imm
          have i10 : ItemAt K (upd H9 t (.tup [.str h, .ref t1, .str g, .ref t2])) (.ref t) ⟨h, [], g, []⟩ := ⟨t, t1, t2, rfl, SqT.of upd_same, s10.seqT g1, s10.seqT g9⟩
          generalize upd H9 t (.tup [.str h, .ref t1, .str g, .ref t2]) = H10 at *
          have im : Imm H10 (upd H10 lf (.lst (xs ++ [.ref t]))) := Imm.refl.mut f10 rfl
          refine ⟨lf, _, .ref t, rfl, rfl, f10, sizeLine_of (by have := x10.1; omega), xs ++ [.ref t], cs ++ [⟨h, [], g, []⟩], _, _, _, _, rfl, R10.mut off, by rw [upd_ne nlf]; exact e10, upd_same, ItemsS x10 im (i10.imm im), by rw [List.length_append, hcl]; rfl, fun c hc => ?_⟩
          rcases List.mem_append.mp hc with hc | hc
          · exact hg c hc
          · rw [List.mem_singleton.mp hc]
            exact ⟨hm, rfl, rfl, .inr ⟨hg6, hgne⟩⟩
    · obtain ⟨xs, cs, y3, y4, y5, y6, rfl, R4, e4, f4, hx, hcl, hg⟩ := hP
      rw [Int.toNat_natCast] at hcl
      exact ⟨_, rfl, k lf xs cs H4 R4 off.1 f4 hx (by omega) hg⟩
end
section
local macro_rules | `(tactic| walk_at "sl") => `(tactic| first | assumption | exact SqL.of upd_same | exact SqL.of (by assumption) | ((with_reducible apply sql_upd); (walk_at "sl"); (first | assumption | exact Ne.symm (by assumption))))
local macro_rules | `(tactic| walk_at "st") => `(tactic| first | assumption | exact SqT.of upd_same | exact SqT.of (by assumption))
local macro_rules | `(tactic| walk_at "sc") => `(tactic| first | rfl | assumption | (show (0 : Int) < _; first | assumption | decide | omega) | exact Or.inl ⟨by omega, by omega⟩ | exact Or.inr ⟨by omega, by omega⟩ | exact ⟨by decide, by decide⟩ | exact ⟨by decide, by decide, by decide⟩)
local macro_rules | `(tactic| walk_at "g1") => `(tactic| first
  | refine ⟨(_ : V), rfl, ?_⟩
  | refine ⟨(_ : Bool), rfl, ?_⟩
  | refine ⟨(_ : Int), (_ : Int), rfl, rfl, ?_⟩
  | refine ⟨(_ : Int), rfl, ?_⟩
  | refine ⟨(_ : Str), rfl, ?_⟩
  | refine ⟨(_ : Addr), (_ : List V), rfl, Or.inl (by walk_at "sl"), ?_⟩
  | refine ⟨(_ : Addr), (_ : List V), rfl, Or.inr (by walk_at "st"), ?_⟩
  | refine ⟨(_ : Addr), (_ : List V), (_ : Int), (_ : V), rfl, rfl, (by walk_at "sl"), (by first | rfl | assumption), ?_⟩
  | refine ⟨(_ : Addr), (_ : List V), (_ : Int), (_ : V), rfl, rfl, (by walk_at "st"), (by first | rfl | assumption), ?_⟩
  | refine ⟨(_ : Addr), (_ : List V), (_ : Int), (_ : Nat), rfl, rfl, upd_same, rfl, ?_⟩
  | refine ⟨(_ : Addr), (_ : List V), (_ : Int), (_ : Nat), rfl, rfl, (by assumption), rfl, ?_⟩
  | refine ⟨(_ : Addr), (_ : Addr), (_ : Addr), (_ : List (Str × V)), (_ : V), rfl, (by assumption), (by assumption), (by assumption), (by first | assumption | rfl), ?_⟩
  | refine Or.inl ⟨(_ : Int), rfl, ?_⟩
  | refine And.intro (by walk_at "sc") ?_
  | refine iteT ?_
  | refine iteF ?_)
/-! ### powers of a partial function -/
def orb (f : Str → Option Str) (h : Str) : Nat → Option Str
  | 0 => some h
  | n + 1 => (orb f h n).bind f
section
variable {f : Str → Option Str} {h x y : Str}
theorem orb_add (f : Str → Option Str) (h : Str) (m : Nat) : ∀ n, orb f h (m + n) = (orb f h m).bind fun x => orb f x n
  | 0 => by
    rw [Nat.add_zero]
    cases orb f h m <;> rfl
  | n + 1 => by
    show (orb f h (m + n)).bind f = _
    rw [orb_add f h m n]
    cases orb f h m <;> rfl
theorem orb_from {m : Nat} (e : orb f h m = some x) (n : Nat) : orb f h (m + n) = orb f x n := by
  rw [orb_add, e]
  rfl
theorem orb_none {m n : Nat} (e : orb f h m = none) (hn : m ≤ n) : orb f h n = none := by
  obtain ⟨d, rfl⟩ : ∃ d, n = m + d := ⟨n - m, by omega⟩
  rw [orb_add, e]
  rfl
theorem orb_one (f : Str → Option Str) (x : Str) : orb f x 1 = f x := rfl
def Cyc (f : Str → Option Str) (x : Str) : Prop := ∃ t, 1 ≤ t ∧ orb f x t = some x
theorem Cyc.next (c : Cyc f x) (e : f x = some y) : Cyc f y := by
  obtain ⟨t, h1, h2⟩ := c
  refine ⟨t, h1, ?_⟩
  have h3 : orb f x 1 = some y := e
  rw [← orb_from h3, Nat.add_comm, orb_from h2]
  exact e
theorem Cyc.step (c : Cyc f x) : ∃ y, f x = some y := by
  obtain ⟨t, h1, h2⟩ := c
  cases e : f x with
  | some y => exact ⟨y, rfl⟩
  | none =>
    have h3 : orb f x 1 = none := e
    rw [orb_none h3 h1] at h2
    cases h2
theorem Cyc.far (c : Cyc f x) : ∀ n, ∃ y, orb f x n = some y ∧ Cyc f y
  | 0 => ⟨x, rfl, c⟩
  | n + 1 => by
    obtain ⟨y, h1, h2⟩ := Cyc.far c n
    obtain ⟨z, hz⟩ := h2.step
    refine ⟨z, ?_, h2.next hz⟩
    show (orb f x n).bind f = _
    rw [h1]
    exact hz
/-- the least period -/
structure Per (f : Str → Option Str) (x : Str) (t : Nat) : Prop where
  p : 1 ≤ t
  e : orb f x t = some x
  l : ∀ s, 1 ≤ s → s < t → orb f x s ≠ some x
theorem Cyc.per (c : Cyc f x) : ∃ t, Per f x t := by
  obtain ⟨t, h1, h2⟩ := c
  induction t using Nat.strongRecOn with
  | ind t ih =>
    by_cases q : ∃ s, 1 ≤ s ∧ s < t ∧ orb f x s = some x
    · obtain ⟨s, g1, g2, g3⟩ := q
      exact ih s g2 g1 g3
    · exact ⟨t, h1, h2, fun s g1 g2 g3 => q ⟨s, g1, g2, g3⟩⟩
theorem Per.ne {t i j : Nat} (c : Per f x t) (hij : i < j) (hj : j < t) : orb f x i ≠ orb f x j := fun e => by
  have h1 : orb f x (j + (t - j)) = orb f x (i + (t - j)) := by rw [orb_add, orb_add, e]
  rw [show j + (t - j) = t by omega, c.e] at h1
  exact c.l _ (by omega) (by omega) h1.symm
theorem Per.def {t : Nat} (c : Per f x t) (i : Nat) : ∃ y, orb f x i = some y ∧ Cyc f y := (show Cyc f x from ⟨t, c.p, c.e⟩).far i
/-- the first powers as a list -/
def lstO (f : Str → Option Str) (h : Str) (t : Nat) : List Str := (List.range t).map fun i => (orb f h i).getD ""
theorem lstO_len (f : Str → Option Str) (h : Str) (t : Nat) : (lstO f h t).length = t := by
  unfold lstO
  rw [List.length_map, List.length_range]
theorem lstO_snoc (f : Str → Option Str) (h : Str) (t : Nat) : lstO f h (t + 1) = lstO f h t ++ [(orb f h t).getD ""] := by
  unfold lstO
  rw [List.range_succ, List.map_append]
  rfl
theorem mem_lstO {t : Nat} : x ∈ lstO f h t ↔ ∃ i, i < t ∧ (orb f h i).getD "" = x := by
  unfold lstO
  rw [List.mem_map]
  exact ⟨fun ⟨i, h1, h2⟩ => ⟨i, List.mem_range.mp h1, h2⟩, fun ⟨i, h1, h2⟩ => ⟨i, List.mem_range.mpr h1, h2⟩⟩
theorem lstO_nodup {t : Nat} (g : ∀ i j, i < j → j < t → (orb f h i).getD "" ≠ (orb f h j).getD "") : (lstO f h t).Nodup := by
  refine List.pairwise_map.mpr ((List.pairwise_lt_range (n := t)).imp_of_mem fun {a b} ha hb hab => ?_)
  exact g a b hab (List.mem_range.mp hb)
theorem Per.nodup {t : Nat} (c : Per f x t) : (lstO f x t).Nodup := lstO_nodup fun i j hij hj e => by
  obtain ⟨a, ha, _⟩ := c.def i
  obtain ⟨b, hb, _⟩ := c.def j
  rw [ha, hb] at e
  have e : a = b := e
  exact c.ne hij hj (by rw [ha, hb, e])
/-- all that has a next one lies among few -/
def Few (f : Str → Option Str) (U : List Str) : Prop := ∀ x y, f x = some y → x ∈ U
theorem Per.le {U : List Str} {t : Nat} (c : Per f x t) (hU : Few f U) : t ≤ U.length := by
  have := nodup_le (ws := U) c.nodup fun k hk => by
    obtain ⟨i, _, e⟩ := mem_lstO.mp hk
    obtain ⟨a, ha, hc⟩ := c.def i
    rw [ha] at e
    obtain ⟨b, hb⟩ := hc.step
    rw [← show a = k from e]
    exact hU a b hb
  rwa [lstO_len] at this
/-- what has many powers comes round -/
theorem cyc_late {U : List Str} (hU : Few f U) {n : Nat} (hn : U.length < n) (hd : orb f h n ≠ none) : ∃ i, i ≤ U.length ∧ ∃ x, orb f h i = some x ∧ Cyc f x := by
  have hdef : ∀ i, i ≤ n → ∃ x, orb f h i = some x := fun i hi => by
    cases e : orb f h i with
    | none => exact absurd (orb_none e hi) hd
    | some x => exact ⟨x, rfl⟩
  by_cases q : ∃ i j, i < j ∧ j < U.length + 1 ∧ (orb f h i).getD "" = (orb f h j).getD ""
  · obtain ⟨i, j, hij, hj, e⟩ := q
    obtain ⟨a, ha⟩ := hdef i (by omega)
    obtain ⟨b, hb⟩ := hdef j (by omega)
    rw [ha, hb] at e
    have e : a = b := e
    refine ⟨i, by omega, a, ha, j - i, by omega, ?_⟩
    rw [← orb_from ha, show i + (j - i) = j by omega, hb, e]
  · have hnd : (lstO f h (U.length + 1)).Nodup := lstO_nodup fun i j hij hj e => q ⟨i, j, hij, hj, e⟩
    have := nodup_le (ws := U) hnd fun k hk => by
      obtain ⟨i, hi, e⟩ := mem_lstO.mp hk
      obtain ⟨a, ha⟩ := hdef i (by omega)
      obtain ⟨b, hb⟩ := hdef (i + 1) (by omega)
      rw [ha] at e
      rw [← show a = k from e]
      refine hU a b ?_
      have : (orb f h i).bind f = some b := hb
      rw [ha] at this
      exact this
    rw [lstO_len] at this
    omega
/-- the far powers of what comes round lie on a ring -/
theorem far_cyc {U : List Str} (hU : Few f U) {n : Nat} (hn : U.length < n) (hd : orb f h n ≠ none) (m : Nat) (hm : U.length ≤ m) : ∃ x, orb f h m = some x ∧ Cyc f x := by
  obtain ⟨i, hi, x, hx, c⟩ := cyc_late hU hn hd
  obtain ⟨y, hy, cy⟩ := c.far (m - i)
  refine ⟨y, ?_, cy⟩
  rw [show m = i + (m - i) by omega, orb_from hx]
  exact hy
end
end
section
local macro_rules | `(tactic| walk_at "sl") => `(tactic| first | assumption | exact SqL.of upd_same | exact SqL.of (by assumption) | ((with_reducible apply sql_upd); (walk_at "sl"); (first | assumption | exact Ne.symm (by assumption))))
local macro_rules | `(tactic| walk_at "st") => `(tactic| first | assumption | exact SqT.of upd_same | exact SqT.of (by assumption))
local macro_rules | `(tactic| walk_at "sc") => `(tactic| first | rfl | assumption | (show (0 : Int) < _; first | assumption | decide | omega) | exact Or.inl ⟨by omega, by omega⟩ | exact Or.inr ⟨by omega, by omega⟩ | exact ⟨by decide, by decide⟩ | exact ⟨by decide, by decide, by decide⟩)
local macro_rules | `(tactic| walk_at "g1") => `(tactic| first
  | refine ⟨(_ : V), rfl, ?_⟩
  | refine ⟨(_ : Bool), rfl, ?_⟩
  | refine ⟨(_ : Int), (_ : Int), rfl, rfl, ?_⟩
  | refine ⟨(_ : Int), rfl, ?_⟩
  | refine ⟨(_ : Str), rfl, ?_⟩
  | refine ⟨(_ : Addr), (_ : List V), rfl, Or.inl (by walk_at "sl"), ?_⟩
  | refine ⟨(_ : Addr), (_ : List V), rfl, Or.inr (by walk_at "st"), ?_⟩
  | refine ⟨(_ : Addr), (_ : List V), (_ : Int), (_ : V), rfl, rfl, (by walk_at "sl"), (by first | rfl | assumption), ?_⟩
  | refine ⟨(_ : Addr), (_ : List V), (_ : Int), (_ : V), rfl, rfl, (by walk_at "st"), (by first | rfl | assumption), ?_⟩
  | refine ⟨(_ : Addr), (_ : List V), (_ : Int), (_ : Nat), rfl, rfl, upd_same, rfl, ?_⟩
  | refine ⟨(_ : Addr), (_ : List V), (_ : Int), (_ : Nat), rfl, rfl, (by assumption), rfl, ?_⟩
  | refine ⟨(_ : Addr), (_ : Addr), (_ : Addr), (_ : List (Str × V)), (_ : V), rfl, (by assumption), (by assumption), (by assumption), (by first | assumption | rfl), ?_⟩
  | refine Or.inl ⟨(_ : Int), rfl, ?_⟩
  | refine And.intro (by walk_at "sc") ?_
  | refine iteT ?_
  | refine iteF ?_)
/-! ### walks by powers -/
def stp (cs : List CD) (r h : Str) : Option Str := match (seekOf (heads cs) r h).1 with
  | none => none
  | some p => if seeAt cs p = "" then none else some (seeAt cs p)
theorem go_orb {cs : List CD} {r h : Str} : ∀ (n k : Nat) (g : Str) (t : TR), t.word = "" → t.asked = lstO (stp cs r) h k → orb (stp cs r) h k = some g → Sound cs t → cs.length < t.found.length + n → (1 ≤ k → seeAt cs (t.found.getLastD 0) = g) →
    ((goT cs r n g t).word = "ring" ∧ ∃ m x, 1 ≤ m ∧ (goT cs r n g t).asked = lstO (stp cs r) h m ∧ (lstO (stp cs r) h m).Nodup ∧ orb (stp cs r) h m = some x ∧ x ∈ lstO (stp cs r) h m ∧ seeAt cs ((goT cs r n g t).found.getLastD 0) = x) ∨
    ((goT cs r n g t).word ≠ "ring" ∧ ∃ m y, orb (stp cs r) h m = some y ∧ stp cs r y = none)
  | 0, k, g, t, _, _, _, s, hl, _ => by
    have := s.le
    omega
  | n + 1, k, g, t, hw, ha, ho, s, hl, hs => by
    by_cases hm : g ∈ t.asked
    · rw [go_hit hm]
      have hk : 1 ≤ k := by
        rcases Nat.eq_zero_or_pos k with z | z
        · rw [ha, z] at hm
          cases hm
        · exact z
      refine .inl ⟨rfl, k, g, hk, ha, by rw [← ha]; exact s.nd, ho, by rw [← ha]; exact hm, hs hk⟩
    · cases e : (seekOf (heads cs) r g).1 with
      | none =>
        rw [go_lost hm e]
        refine .inr ⟨lost_ring, k, g, ho, ?_⟩
        unfold stp
        rw [e]
      | some p =>
        by_cases hz : seeAt cs p = ""
        · rw [go_end hm e hz]
          refine .inr ⟨entry_ring, k, g, ho, ?_⟩
          unfold stp
          rw [e]
          exact if_pos hz
        · rw [go_on hm e hz]
          have hst : stp cs r g = some (seeAt cs p) := by
            unfold stp
            rw [e]
            exact if_neg hz
          refine go_orb n (k + 1) (seeAt cs p) _ rfl ?_ ?_ (s.step hm e) ?_ (fun _ => ?_)
          · rw [lstO_snoc, ho, ha]
            rfl
          · show (orb (stp cs r) h k).bind (stp cs r) = _
            rw [ho]
            exact hst
          · rw [List.length_append]
            show _ < _ + 1 + n
            omega
          · rw [List.getLastD_eq_getLast?, List.getLast?_append]
            rfl
theorem trip_orb (cs : List CD) (r h : Str) (hl : cs.length ≤ 16) :
    ((tripOf cs r h).word = "ring" ∧ ∃ m x, 1 ≤ m ∧ (tripOf cs r h).asked = lstO (stp cs r) h m ∧ (lstO (stp cs r) h m).Nodup ∧ orb (stp cs r) h m = some x ∧ x ∈ lstO (stp cs r) h m ∧ seeAt cs ((tripOf cs r h).found.getLastD 0) = x) ∨
    ((tripOf cs r h).word ≠ "ring" ∧ ∃ m y, orb (stp cs r) h m = some y ∧ stp cs r y = none) :=
  go_orb 99 0 h ⟨"", [], [], 0⟩ rfl rfl rfl Sound.nil (by show _ < 0 + 99; omega) (fun z => absurd z (by omega))
/-- a walk comes round to its own start just if the start has a period; then what was asked is the ring -/
theorem ring_per {cs : List CD} {r h : Str} (hl : cs.length ≤ 16) : ((tripOf cs r h).word = "ring" ∧ seeAt cs ((tripOf cs r h).found.getLastD 0) = h) ↔ Cyc (stp cs r) h := by
  rcases trip_orb cs r h hl with ⟨hw, m, x, h1, ha, hn, hx, hmx, hs⟩ | ⟨hw, m, y, hy, hz⟩
  · constructor
    · rintro ⟨_, e⟩
      rw [hs] at e
      exact ⟨m, h1, by rw [hx, e]⟩
    · intro c
      refine ⟨hw, ?_⟩
      obtain ⟨t, p⟩ := c.per
      rw [hs]
      -- the first repeat is the period
      obtain ⟨i, hi, e⟩ := mem_lstO.mp hmx
      obtain ⟨b, hb, _⟩ := p.def i
      rw [hb] at e
      have e : b = x := e
      rw [e] at hb
      have hmt : t ≤ m := by
        rcases Nat.lt_or_ge m t with z | z
        · exact absurd (by rw [hb, hx]) (p.ne hi z)
        · exact z
      have hmt2 : m ≤ t := by
        rcases Nat.lt_or_ge t m with z | z
        · exfalso
          have hd : (List.range m).map (fun i => (orb (stp cs r) h i).getD "") = lstO (stp cs r) h m := rfl
          unfold lstO at hn
          have q := List.pairwise_iff_getElem.mp hn 0 t (by rw [List.length_map, List.length_range]; omega) (by rw [List.length_map, List.length_range]; exact z) (by have := p.p; omega)
          rw [List.getElem_map, List.getElem_map, List.getElem_range, List.getElem_range, p.e] at q
          exact q rfl
        · exact z
      have : m = t := by omega
      rw [this, p.e] at hx
      exact (Option.some.inj hx).symm
  · constructor
    · rintro ⟨e, _⟩
      exact absurd e hw
    · intro c
      obtain ⟨z, hz2, cz⟩ := c.far m
      rw [hy] at hz2
      obtain rfl := Option.some.inj hz2
      obtain ⟨w2, hw2⟩ := cz.step
      rw [hz] at hw2
      cases hw2
theorem ring_list {cs : List CD} {r h : Str} (hl : cs.length ≤ 16) {t : Nat} (p : Per (stp cs r) h t) : (tripOf cs r h).asked = lstO (stp cs r) h t := by
  have c : Cyc (stp cs r) h := ⟨t, p.p, p.e⟩
  obtain ⟨hw, hs0⟩ := (ring_per hl).mpr c
  rcases trip_orb cs r h hl with ⟨_, m, x, h1, ha, hn, hx, hmx, hs⟩ | ⟨hw2, _⟩
  · rw [hs0] at hs
    subst hs
    have hmt : t ≤ m := by
      rcases Nat.lt_or_ge m t with z | z
      · exact absurd hx (p.l m h1 z)
      · exact z
    have hmt2 : m ≤ t := by
      rcases Nat.lt_or_ge t m with z | z
      · exfalso
        unfold lstO at hn
        have q := List.pairwise_iff_getElem.mp hn 0 t (by rw [List.length_map, List.length_range]; omega) (by rw [List.length_map, List.length_range]; exact z) (by have := p.p; omega)
        rw [List.getElem_map, List.getElem_map, List.getElem_range, List.getElem_range, p.e] at q
        exact q rfl
      · exact z
    rw [ha, show m = t by omega]
  · exact absurd hw hw2
/-- a walk is a ring just if it never ends -/
theorem ring_on {cs : List CD} {r h : Str} (hl : cs.length ≤ 16) : (tripOf cs r h).word = "ring" ↔ ∀ n, orb (stp cs r) h n ≠ none := by
  rcases trip_orb cs r h hl with ⟨hw, m, x, h1, ha, hn, hx, hmx, hs⟩ | ⟨hw, m, y, hy, hz⟩
  · refine ⟨fun _ n e => ?_, fun _ => hw⟩
    obtain ⟨i, hi, ei⟩ := mem_lstO.mp hmx
    cases eo : orb (stp cs r) h i with
    | none => rw [orb_none eo (show i ≤ m by omega)] at hx; cases hx
    | some b =>
      rw [eo] at ei
      have ei : b = x := ei
      subst ei
      have c : Cyc (stp cs r) b := ⟨m - i, by omega, by rw [← orb_from eo, show i + (m - i) = m by omega, hx]⟩
      obtain ⟨z, hz, _⟩ := c.far n
      have : orb (stp cs r) h (i + n) = some z := by rw [orb_from eo, hz]
      rw [orb_none e (show n ≤ i + n by omega)] at this
      cases this
  · refine ⟨fun e => absurd e hw, fun g => absurd (?_ : orb (stp cs r) h (m + 1) = none) (g (m + 1))⟩
    show (orb (stp cs r) h m).bind _ = none
    rw [hy]
    exact hz
end
section
local macro_rules | `(tactic| walk_at "sl") => `(tactic| first | assumption | exact SqL.of upd_same | exact SqL.of (by assumption) | ((with_reducible apply sql_upd); (walk_at "sl"); (first | assumption | exact Ne.symm (by assumption))))
local macro_rules | `(tactic| walk_at "st") => `(tactic| first | assumption | exact SqT.of upd_same | exact SqT.of (by assumption))
local macro_rules | `(tactic| walk_at "sc") => `(tactic| first | rfl | assumption | (show (0 : Int) < _; first | assumption | decide | omega) | exact Or.inl ⟨by omega, by omega⟩ | exact Or.inr ⟨by omega, by omega⟩ | exact ⟨by decide, by decide⟩ | exact ⟨by decide, by decide, by decide⟩)
local macro_rules | `(tactic| walk_at "g1") => `(tactic| first
  | refine ⟨(_ : V), rfl, ?_⟩
  | refine ⟨(_ : Bool), rfl, ?_⟩
  | refine ⟨(_ : Int), (_ : Int), rfl, rfl, ?_⟩
  | refine ⟨(_ : Int), rfl, ?_⟩
  | refine ⟨(_ : Str), rfl, ?_⟩
  | refine ⟨(_ : Addr), (_ : List V), rfl, Or.inl (by walk_at "sl"), ?_⟩
  | refine ⟨(_ : Addr), (_ : List V), rfl, Or.inr (by walk_at "st"), ?_⟩
  | refine ⟨(_ : Addr), (_ : List V), (_ : Int), (_ : V), rfl, rfl, (by walk_at "sl"), (by first | rfl | assumption), ?_⟩
  | refine ⟨(_ : Addr), (_ : List V), (_ : Int), (_ : V), rfl, rfl, (by walk_at "st"), (by first | rfl | assumption), ?_⟩
  | refine ⟨(_ : Addr), (_ : List V), (_ : Int), (_ : Nat), rfl, rfl, upd_same, rfl, ?_⟩
  | refine ⟨(_ : Addr), (_ : List V), (_ : Int), (_ : Nat), rfl, rfl, (by assumption), rfl, ?_⟩
  | refine ⟨(_ : Addr), (_ : Addr), (_ : Addr), (_ : List (Str × V)), (_ : V), rfl, (by assumption), (by assumption), (by assumption), (by first | assumption | rfl), ?_⟩
  | refine Or.inl ⟨(_ : Int), rfl, ?_⟩
  | refine And.intro (by walk_at "sc") ?_
  | refine iteT ?_
  | refine iteF ?_)
/-! ### dicts from texts -/
structure DictS (kvs : List (Key × V)) (S : Str → Option V) (ds : List Str) : Prop where
  k : kvs.map (·.1) = ds.map Sum.inr
  n : ds.Nodup
  v : ∀ x : Str, valV kvs (.inr x) = S x
  m : ∀ x, x ∈ ds ↔ S x ≠ none
theorem DictS.nil : DictS [] (fun _ => none) [] := ⟨rfl, List.nodup_nil, fun _ => rfl, fun x => ⟨(fun h => nomatch h), fun h => absurd rfl h⟩⟩
theorem DictS.len {kvs : List (Key × V)} {S : Str → Option V} {ds : List Str} (h : DictS kvs S ds) : kvs.length = ds.length := by
  have := congrArg List.length h.k
  rwa [List.length_map, List.length_map] at this
theorem DictS.put {kvs : List (Key × V)} {S : Str → Option V} {ds : List Str} (h : DictS kvs S ds) {x : Str} (hx : S x = none) (y : V) : DictS (putK kvs (.inr x) y) (fun z => if z = x then some y else S z) (ds ++ [x]) := by
  have hv : valV kvs (Sum.inr x : Key) = none := by rw [h.v, hx]
  refine ⟨?_, ?_, fun z => ?_, fun z => ?_⟩
  · rw [L2.putK_new y hv, List.map_append, List.map_append, h.k]
    rfl
  · refine List.nodup_append.mpr ⟨h.n, List.nodup_cons.mpr ⟨List.not_mem_nil, List.nodup_nil⟩, fun a ha b hb e => ?_⟩
    rw [List.mem_singleton] at hb
    rw [e, hb] at ha
    exact (h.m x).mp ha hx
  · rw [valV_put, h.v]
    by_cases e : z = x
    · rw [if_pos (congrArg Sum.inr e), if_pos e]
    · rw [if_neg (fun q => e (Sum.inr.inj q)), if_neg e]
  · rw [List.mem_append, List.mem_singleton, h.m]
    by_cases e : z = x
    · show _ ↔ (if z = x then some y else S z) ≠ none
      rw [if_pos e]
      exact ⟨fun _ => nofun, fun _ => .inr e⟩
    · show _ ↔ (if z = x then some y else S z) ≠ none
      rw [if_neg e]
      exact ⟨fun q => q.elim id fun w => absurd w e, .inl⟩
def kvsOf (ds : List Str) (g : Str → V) : List (Key × V) := ds.map fun x => (Sum.inr x, g x)
theorem kvsOf_pw {ds : List Str} (n : ds.Nodup) (g : Str → V) : (kvsOf ds g).Pairwise (fun p q => p.1 ≠ q.1) :=
  List.pairwise_map.mpr (n.imp fun h e => h (Sum.inr.inj e))
theorem kvsOf_merge {ds : List Str} (n : ds.Nodup) (g : Str → V) : mergeK [] (kvsOf ds g) = kvsOf ds g := by
  rw [mergeK_new (by rw [List.nil_append]; exact kvsOf_pw n g), List.nil_append]
theorem kvsOf_dict {ds : List Str} (n : ds.Nodup) (g : Str → V) : DictS (kvsOf ds g) (fun x => if x ∈ ds then some (g x) else none) ds := by
  refine ⟨by unfold kvsOf; rw [List.map_map]; rfl, n, fun x => ?_, fun x => ?_⟩
  · by_cases h : x ∈ ds
    · rw [if_pos h]
      exact valV_at (kvsOf_pw n g) (List.mem_map.mpr ⟨x, h, rfl⟩)
    · rw [if_neg h]
      cases e : valV (kvsOf ds g) (Sum.inr x : Key) with
      | none => rfl
      | some v =>
        obtain ⟨p, hp, e2⟩ := List.mem_map.mp (valV_in e)
        obtain ⟨y, hy, rfl⟩ := List.mem_map.mp hp
        rw [show y = x from Sum.inr.inj e2] at hy
        exact absurd hy h
  · by_cases h : x ∈ ds
    · rw [if_pos h]
      exact ⟨fun _ => nofun, fun _ => h⟩
    · rw [if_neg h]
      exact ⟨fun z => absurd z h, fun z => absurd rfl z⟩
theorem DictS.ext {kvs : List (Key × V)} {S S' : Str → Option V} {ds : List Str} (h : DictS kvs S ds) (e : ∀ x, S x = S' x) : DictS kvs S' ds := ⟨h.k, h.n, fun x => (h.v x).trans (e x), fun x => by rw [h.m, e]⟩
/-- the turn in which a text comes back first, of the first so many -/
def backT (f : Str → Option Str) (x : Str) : Nat → Option Nat
  | 0 => none
  | n + 1 => match backT f x n with
    | some t => some t
    | none => if orb f x (n + 1) = some x then some (n + 1) else none
theorem backT_some {f : Str → Option Str} {x : Str} : ∀ {n t : Nat}, backT f x n = some t → Per f x t ∧ t ≤ n
  | 0, _, h => by cases h
  | n + 1, t, h => by
    unfold backT at h
    cases e : backT f x n with
    | some u =>
      rw [e] at h
      obtain rfl := Option.some.inj h
      obtain ⟨h1, h2⟩ := backT_some e
      exact ⟨h1, by omega⟩
    | none =>
      rw [e] at h
      have h : (if orb f x (n + 1) = some x then some (n + 1) else none) = some t := h
      by_cases g : orb f x (n + 1) = some x
      · rw [if_pos g] at h
        obtain rfl := Option.some.inj h
        refine ⟨⟨by omega, g, fun s h1 h2 h3 => ?_⟩, Nat.le_refl _⟩
        have := backT_none e s h1 (by omega)
        exact this h3
      · rw [if_neg g] at h
        cases h
where backT_none {f : Str → Option Str} {x : Str} : ∀ {n : Nat}, backT f x n = none → ∀ s, 1 ≤ s → s ≤ n → orb f x s ≠ some x
  | 0, _, s, h1, h2 => by omega
  | n + 1, h, s, h1, h2 => by
    unfold backT at h
    cases e : backT f x n with
    | some u =>
      rw [e] at h
      cases h
    | none =>
      rw [e] at h
      have h : (if orb f x (n + 1) = some x then some (n + 1) else none) = none := h
      by_cases g : orb f x (n + 1) = some x
      · rw [if_pos g] at h
        cases h
      · by_cases hs : s ≤ n
        · exact backT_none e s h1 hs
        · rw [show s = n + 1 by omega]
          exact g
theorem backT_per {f : Str → Option Str} {x : Str} {U : List Str} (hU : Few f U) {n : Nat} (hn : U.length ≤ n) {t : Nat} (p : Per f x t) : backT f x n = some t := by
  cases e : backT f x n with
  | none => exact absurd p.e (backT_some.backT_none e t p.p (by have := p.le hU; omega))
  | some u =>
    obtain ⟨h1, h2⟩ := backT_some e
    rcases Nat.lt_trichotomy u t with z | z | z
    · exact absurd h1.e (p.l u h1.p z)
    · rw [z]
    · exact absurd p.e (h1.l t p.p z)
/-- pairs of a text and a value -/
def PK (K : PySem.W.Frag) (H : Hp) (ps : List Addr) (l : List Str) (g : Str → V) : Prop := Paired (fun p (kv : Key × V) => SqT K H p [kV kv.1, kv.2]) ps (kvsOf l g)
theorem PK.imm {H H' : Hp} {ps : List Addr} {l : List Str} {g : Str → V} (h : PK K H ps l g) (c : Imm H H') : PK K H' ps l g := PySem.Paired.mono (fun _ _ q => c.seqT q) h
theorem PK.snoc {H : Hp} {ps : List Addr} {ds : List Str} {g : Str → V} {j : Nat} {x : Str} {p : Addr} (h : PK K H ps (ds.take j) g) (hx : ds[j]? = some x) (q : SqT K H p [.str x, g x]) : PK K H (ps ++ [p]) (ds.take (j + 1)) g := by
  unfold PK
  have e : kvsOf (ds.take (j + 1)) g = kvsOf (ds.take j) g ++ [(Sum.inr x, g x)] := by
    unfold kvsOf
    rw [List.take_add_one, hx, List.map_append]
    rfl
  rw [e]
  exact PySem.Paired.snoc h q
theorem PK.len {H : Hp} {ps : List Addr} {l : List Str} {g : Str → V} (h : PK K H ps l g) : ps.length = l.length := by
  have := PySem.Paired.length h
  unfold kvsOf at this
  rwa [List.length_map] at this
theorem PK.nil {H : Hp} {g : Str → V} : PK K H [] [] g := PySem.Paired.nil
def gT (f : Str → Option Str) (t : Nat) (x : Str) : V := .str ((orb f x t).getD "")
def RS (f : Str → Option Str) (ds : List Str) (t : Nat) : Str → Option V := fun x => if x ∈ ds then (backT f x t).map fun (k : Nat) => V.int (k : Nat) else none
theorem gT_zero (f : Str → Option Str) (ds : List Str) : kvsOf ds (gT f 0) = kvsOf ds V.str := rfl
theorem gT_next {f : Str → Option Str} (h0 : f "" = none) (x : Str) (t : Nat) : (f ((orb f x t).getD "")).getD "" = (orb f x (t + 1)).getD "" := by
  show _ = ((orb f x t).bind f).getD ""
  cases e : orb f x t with
  | none =>
    show (f "").getD "" = ""
    rw [h0]
    rfl
  | some y => rfl
theorem kvsOf_get {ds : List Str} {g : Str → V} {j : Nat} {x : Str} (h : ds[j]? = some x) : (kvsOf ds g)[j]? = some (Sum.inr x, g x) := by
  unfold kvsOf
  rw [List.getElem?_map, h]
  rfl
theorem kvsOf_len (ds : List Str) (g : Str → V) : (kvsOf ds g).length = ds.length := List.length_map ..
theorem back_same {f : Str → Option Str} {x : Str} {q : Nat} (h : backT f x q ≠ none ∨ orb f x (q + 1) ≠ some x) : backT f x (q + 1) = backT f x q := by
  show (match backT f x q with | some t => some t | none => if orb f x (q + 1) = some x then some (q + 1) else none) = backT f x q
  cases e : backT f x q with
  | some t => rfl
  | none =>
    rcases h with h | h
    · exact absurd e h
    · exact if_neg h
theorem back_step {f : Str → Option Str} {x : Str} {q : Nat} (h : backT f x q = none) (g : orb f x (q + 1) = some x) : backT f x (q + 1) = some (q + 1) := by
  show (match backT f x q with | some t => some t | none => if orb f x (q + 1) = some x then some (q + 1) else none) = _
  rw [h]
  exact if_pos g
theorem ext_step {S T : Str → Option V} {l : List Str} {x : Str} (h : S x = T x) (z : Str) : (if z ∈ l then T z else S z) = if z ∈ l ++ [x] then T z else S z := by
  by_cases hz : z ∈ l
  · rw [if_pos hz, if_pos (List.mem_append_left _ hz)]
  · rw [if_neg hz]
    by_cases e : z = x
    · rw [if_pos (List.mem_append_right _ (by rw [e]; exact .head _)), e, h]
    · rw [if_neg fun q => (List.mem_append.mp q).elim hz fun w => e (List.mem_singleton.mp w)]
theorem sh_text {x : Str} (h : PyData.strOk x = true) : SeqAt.shaped (.str x) = true := by
  show (PyData.strOk x && decide (0 ≤ 64)) = true
  rw [h]
  rfl
end
section
local macro_rules | `(tactic| walk_at "sl") => `(tactic| first | assumption | exact SqL.of upd_same | exact SqL.of (by assumption) | ((with_reducible apply sql_upd); (walk_at "sl"); (first | assumption | exact Ne.symm (by assumption))))
local macro_rules | `(tactic| walk_at "st") => `(tactic| first | assumption | exact SqT.of upd_same | exact SqT.of (by assumption))
local macro_rules | `(tactic| walk_at "sc") => `(tactic| first | rfl | assumption | (show (0 : Int) < _; first | assumption | decide | omega) | exact Or.inl ⟨by omega, by omega⟩ | exact Or.inr ⟨by omega, by omega⟩ | exact ⟨by decide, by decide⟩ | exact ⟨by decide, by decide, by decide⟩)
local macro_rules | `(tactic| walk_at "g1") => `(tactic| first
  | refine ⟨(_ : V), rfl, ?_⟩
  | refine ⟨(_ : Bool), rfl, ?_⟩
  | refine ⟨(_ : Int), (_ : Int), rfl, rfl, ?_⟩
  | refine ⟨(_ : Int), rfl, ?_⟩
  | refine ⟨(_ : Str), rfl, ?_⟩
  | refine ⟨(_ : Addr), (_ : List V), rfl, Or.inl (by walk_at "sl"), ?_⟩
  | refine ⟨(_ : Addr), (_ : List V), rfl, Or.inr (by walk_at "st"), ?_⟩
  | refine ⟨(_ : Addr), (_ : List V), (_ : Int), (_ : V), rfl, rfl, (by walk_at "sl"), (by first | rfl | assumption), ?_⟩
  | refine ⟨(_ : Addr), (_ : List V), (_ : Int), (_ : V), rfl, rfl, (by walk_at "st"), (by first | rfl | assumption), ?_⟩
  | refine ⟨(_ : Addr), (_ : List V), (_ : Int), (_ : Nat), rfl, rfl, upd_same, rfl, ?_⟩
  | refine ⟨(_ : Addr), (_ : List V), (_ : Int), (_ : Nat), rfl, rfl, (by assumption), rfl, ?_⟩
  | refine ⟨(_ : Addr), (_ : Addr), (_ : Addr), (_ : List (Str × V)), (_ : V), rfl, (by assumption), (by assumption), (by assumption), (by first | assumption | rfl), ?_⟩
  | refine Or.inl ⟨(_ : Int), rfl, ?_⟩
  | refine And.intro (by walk_at "sc") ?_
  | refine iteT ?_
  | refine iteF ?_)
/-! ### sorted texts -/
theorem leL_anti {a b : Str} (h1 : ¬ b.cps.toList < a.cps.toList) (h2 : ¬ a.cps.toList < b.cps.toList) : a = b := by
  have e : a.cps.toList = b.cps.toList := List.le_antisymm (List.not_lt.mp h1) (List.not_lt.mp h2)
  have := Array.ext' e
  cases a
  cases b
  exact congrArg Str.mk this
theorem rising_pw : ∀ {x : Str} {r : List Str}, PyProof.Rows.risingS x r = true → (x :: r).Pairwise fun a b => ¬ b.cps.toList < a.cps.toList
  | x, [], _ => List.pairwise_singleton _ _
  | x, y :: r, h => by
    have h' : (!PySem.Spec.ltCps y.cps.toList x.cps.toList && PyProof.Rows.risingS y r) = true := h
    rw [PyProof.Rows.ltCps_eq, Bool.and_eq_true] at h'
    have ih := rising_pw h'.2
    have h1 : ¬ y.cps.toList < x.cps.toList := by simpa using h'.1
    refine List.pairwise_cons.mpr ⟨fun z hz => ?_, ih⟩
    rcases List.mem_cons.mp hz with rfl | hz
    · exact h1
    · have h2 := (List.pairwise_cons.mp ih).1 z hz
      exact List.not_lt.mpr (List.le_trans (List.not_lt.mp h1) (List.not_lt.mp h2))
theorem sorted_pw {ys : List Str} (h : PyProof.Rows.sortedS ys = true) : ys.Pairwise fun a b => ¬ b.cps.toList < a.cps.toList := by
  cases ys with
  | nil => exact .nil
  | cons x r => exact rising_pw h
theorem sorted_same {ys zs : List Str} (h1 : PyProof.Rows.sortedS ys = true) (h2 : PyProof.Rows.sortedS zs = true) (n1 : ys.Nodup) (n2 : zs.Nodup) (h : ∀ k, k ∈ ys ↔ k ∈ zs) : ys = zs :=
  List.Perm.eq_of_pairwise (fun _ _ _ _ a b => leL_anti a b) (sorted_pw h1) (sorted_pw h2) ((List.perm_ext_iff_of_nodup n1 n2).mpr h)
end
section
local macro_rules | `(tactic| walk_at "sl") => `(tactic| first | assumption | exact SqL.of upd_same | exact SqL.of (by assumption) | ((with_reducible apply sql_upd); (walk_at "sl"); (first | assumption | exact Ne.symm (by assumption))))
local macro_rules | `(tactic| walk_at "st") => `(tactic| first | assumption | exact SqT.of upd_same | exact SqT.of (by assumption))
local macro_rules | `(tactic| walk_at "sc") => `(tactic| first | rfl | assumption | (show (0 : Int) < _; first | assumption | decide | omega) | exact Or.inl ⟨by omega, by omega⟩ | exact Or.inr ⟨by omega, by omega⟩ | exact ⟨by decide, by decide⟩ | exact ⟨by decide, by decide, by decide⟩)
local macro_rules | `(tactic| walk_at "g1") => `(tactic| first
  | refine ⟨(_ : V), rfl, ?_⟩
  | refine ⟨(_ : Bool), rfl, ?_⟩
  | refine ⟨(_ : Int), (_ : Int), rfl, rfl, ?_⟩
  | refine ⟨(_ : Int), rfl, ?_⟩
  | refine ⟨(_ : Str), rfl, ?_⟩
  | refine ⟨(_ : Addr), (_ : List V), rfl, Or.inl (by walk_at "sl"), ?_⟩
  | refine ⟨(_ : Addr), (_ : List V), rfl, Or.inr (by walk_at "st"), ?_⟩
  | refine ⟨(_ : Addr), (_ : List V), (_ : Int), (_ : V), rfl, rfl, (by walk_at "sl"), (by first | rfl | assumption), ?_⟩
  | refine ⟨(_ : Addr), (_ : List V), (_ : Int), (_ : V), rfl, rfl, (by walk_at "st"), (by first | rfl | assumption), ?_⟩
  | refine ⟨(_ : Addr), (_ : List V), (_ : Int), (_ : Nat), rfl, rfl, upd_same, rfl, ?_⟩
  | refine ⟨(_ : Addr), (_ : List V), (_ : Int), (_ : Nat), rfl, rfl, (by assumption), rfl, ?_⟩
  | refine ⟨(_ : Addr), (_ : Addr), (_ : Addr), (_ : List (Str × V)), (_ : V), rfl, (by assumption), (by assumption), (by assumption), (by first | assumption | rfl), ?_⟩
  | refine Or.inl ⟨(_ : Int), rfl, ?_⟩
  | refine And.intro (by walk_at "sc") ?_
  | refine iteT ?_
  | refine iteF ?_)
/-! ### rings and their least texts -/
theorem minS_spec : ∀ (ps : List Str) (p : Str), minS p ps ∈ p :: ps ∧ ∀ y ∈ p :: ps, ¬ y.cps.toList < (minS p ps).cps.toList
  | [], p => ⟨.head _, fun y hy => by
    rw [List.mem_singleton.mp hy]
    exact List.lt_irrefl _⟩
  | q :: ps, p => by
    have hlt : ltD q p = decide (q.cps.toList < p.cps.toList) := PySem.W.dataLt_str q p
    obtain ⟨h1, h2⟩ := minS_spec ps (if ltD q p = true then q else p)
    have e : minS p (q :: ps) = minS (if ltD q p = true then q else p) ps := rfl
    rw [e]
    by_cases hq : q.cps.toList < p.cps.toList
    · rw [if_pos (hlt.trans (decide_eq_true hq))] at h1 h2 ⊢
      refine ⟨List.mem_cons_of_mem _ h1, fun y hy => ?_⟩
      rcases List.mem_cons.mp hy with rfl | hy
      · intro z
        exact h2 q (.head _) (List.lt_trans hq z)
      · exact h2 y hy
    · rw [if_neg (by rw [hlt, decide_eq_false hq]; exact Bool.false_ne_true)] at h1 h2 ⊢
      refine ⟨?_, fun y hy => ?_⟩
      · rcases List.mem_cons.mp h1 with e2 | h1
        · rw [e2]
          exact .head _
        · exact List.mem_cons_of_mem _ (List.mem_cons_of_mem _ h1)
      · rcases List.mem_cons.mp hy with rfl | hy
        · exact h2 _ (.head _)
        · rcases List.mem_cons.mp hy with rfl | hy
          · intro z
            have := h2 p (.head _)
            have h3 := List.not_lt.mp this
            have h4 := List.not_lt.mp hq
            exact absurd z (List.not_lt.mpr (List.le_trans h3 h4))
          · exact h2 y (List.mem_cons_of_mem _ hy)
theorem minL_spec {ws : List Str} (h : ws ≠ []) : minL ws ∈ ws ∧ ∀ y ∈ ws, ¬ y.cps.toList < (minL ws).cps.toList := by
  cases ws with
  | nil => exact absurd rfl h
  | cons p ps => exact minS_spec ps p
theorem minL_same {ws zs : List Str} (h1 : ws ≠ []) (h2 : zs ≠ []) (h : ∀ x, x ∈ ws ↔ x ∈ zs) : minL ws = minL zs := by
  obtain ⟨a1, a2⟩ := minL_spec h1
  obtain ⟨b1, b2⟩ := minL_spec h2
  exact leL_anti (a2 _ ((h _).mpr b1)) (b2 _ ((h _).mp a1))
def rngL (f : Str → Option Str) (h : Str) : List Str := lstO f h ((backT f h 7).getD 0)
def dueB (f : Str → Option Str) (h : Str) : Bool := decide (minL (rngL f h) = h)
section
variable {f : Str → Option Str} {U : List Str}
theorem rng_per (hU : Few f U) (h7 : U.length ≤ 7) {h : Str} (c : Cyc f h) : ∃ t, Per f h t ∧ rngL f h = lstO f h t := by
  obtain ⟨t, p⟩ := c.per
  refine ⟨t, p, ?_⟩
  unfold rngL
  rw [backT_per hU h7 p]
  rfl
/-- the ring of a text is all that its powers come to -/
theorem mem_rng (hU : Few f U) (h7 : U.length ≤ 7) {h x : Str} (c : Cyc f h) : x ∈ rngL f h ↔ ∃ i, orb f h i = some x := by
  obtain ⟨t, p, e⟩ := rng_per hU h7 c
  rw [e, mem_lstO]
  constructor
  · rintro ⟨i, _, hi⟩
    obtain ⟨y, hy, _⟩ := p.def i
    rw [hy] at hi
    exact ⟨i, by rw [hy]; exact congrArg some hi⟩
  · rintro ⟨i, hi⟩
    have hm : ∀ k, orb f h (i % t + k * t) = orb f h (i % t) := fun k => by
      induction k with
      | zero => rw [Nat.zero_mul, Nat.add_zero]
      | succ k ih =>
        rw [show i % t + (k + 1) * t = t + (i % t + k * t) by rw [Nat.add_mul, Nat.one_mul]; omega, orb_from p.e]
        exact ih
    have hi2 : orb f h (i % t) = some x := by
      rw [← hm (i / t), show i % t + i / t * t = i by rw [Nat.mul_comm]; exact Nat.mod_add_div i t]
      exact hi
    exact ⟨i % t, Nat.mod_lt _ p.p, by rw [hi2]; rfl⟩
theorem rng_ne (hU : Few f U) (h7 : U.length ≤ 7) {h : Str} (c : Cyc f h) : rngL f h ≠ [] := fun z => by
  have := (mem_rng hU h7 c (x := h)).mpr ⟨0, rfl⟩
  rw [z] at this
  cases this
theorem rng_cyc (hU : Few f U) (h7 : U.length ≤ 7) {h x : Str} (c : Cyc f h) (hx : x ∈ rngL f h) : Cyc f x := by
  obtain ⟨i, hi⟩ := (mem_rng hU h7 c).mp hx
  obtain ⟨y, hy, cy⟩ := c.far i
  rw [hi] at hy
  rw [Option.some.inj hy]
  exact cy
/-- what lies on one ring has one ring -/
theorem rng_same (hU : Few f U) (h7 : U.length ≤ 7) {h x : Str} (c : Cyc f h) (hx : x ∈ rngL f h) (y : Str) : y ∈ rngL f x ↔ y ∈ rngL f h := by
  have cx := rng_cyc hU h7 c hx
  obtain ⟨i, hi⟩ := (mem_rng hU h7 c).mp hx
  rw [mem_rng hU h7 c, mem_rng hU h7 cx]
  constructor
  · rintro ⟨j, hj⟩
    exact ⟨i + j, by rw [orb_from hi]; exact hj⟩
  · rintro ⟨j, hj⟩
    -- h comes again behind x
    obtain ⟨t, p⟩ := c.per
    have hm : ∀ k n, orb f h (k * t + n) = orb f h n := fun k n => by
      induction k with
      | zero => rw [Nat.zero_mul, Nat.zero_add]
      | succ k ih =>
        rw [show (k + 1) * t + n = t + (k * t + n) by rw [Nat.add_mul, Nat.one_mul]; omega, orb_from p.e]
        exact ih
    refine ⟨i * t + j - i, ?_⟩
    rw [← orb_from hi, show i + (i * t + j - i) = i * t + j by have := Nat.le_mul_of_pos_right i p.p; omega, hm]
    exact hj
/-- each ring's least text tells it -/
theorem rng_due (hU : Few f U) (h7 : U.length ≤ 7) {x : Str} (c : Cyc f x) : ∃ h, Cyc f h ∧ dueB f h = true ∧ x ∈ rngL f h := by
  obtain ⟨h1, _⟩ := minL_spec (rng_ne hU h7 c)
  have ch := rng_cyc hU h7 c h1
  refine ⟨minL (rngL f x), ch, ?_, ?_⟩
  · unfold dueB
    exact decide_eq_true (minL_same (rng_ne hU h7 ch) (rng_ne hU h7 c) (rng_same hU h7 c h1))
  · rw [rng_same hU h7 c h1]
    exact (mem_rng hU h7 c).mpr ⟨0, rfl⟩
end
/-- steps that stay at the end -/
def spt (f : Str → Option Str) (h : Str) : Nat → Str
  | 0 => h
  | k + 1 => (f (spt f h k)).getD (spt f h k)
theorem spt_on {f : Str → Option Str} {h : Str} : ∀ {k : Nat}, orb f h k ≠ none → orb f h k = some (spt f h k)
  | 0, _ => rfl
  | k + 1, hk => by
    have h1 : orb f h k ≠ none := fun z => hk (orb_none z (Nat.le_succ k))
    have h2 := spt_on h1
    show (orb f h k).bind f = some ((f (spt f h k)).getD (spt f h k))
    have hk : (orb f h k).bind f ≠ none := hk
    rw [h2] at hk ⊢
    have hk : f (spt f h k) ≠ none := hk
    show f (spt f h k) = _
    cases e : f (spt f h k) with
    | none => exact absurd e hk
    | some y => rfl
theorem spt_off {f : Str → Option Str} {h : Str} : ∀ {k : Nat}, orb f h (k + 1) = none → f (spt f h k) = none := fun {k} => by
  induction k with
  | zero => exact fun e => e
  | succ k ih =>
    intro e
    by_cases z : orb f h (k + 1) = none
    · have := ih z
      show f ((f (spt f h k)).getD (spt f h k)) = none
      rw [this]
      exact this
    · have h2 := spt_on z
      have e : (orb f h (k + 1)).bind f = none := e
      rw [h2] at e
      exact e
/-- the far steps lie on a ring just if the walk never ends -/
theorem spt_far {f : Str → Option Str} {U : List Str} (hU : Few f U) (h6 : U.length ≤ 6) (h : Str) : Cyc f (spt f h 9) ↔ ∀ n, orb f h n ≠ none := by
  constructor
  · intro c n e
    by_cases z : orb f h 10 = none
    · have := spt_off (k := 9) z
      obtain ⟨y, hy⟩ := c.step
      rw [this] at hy
      cases hy
    · obtain ⟨i, hi, x, hx, cx⟩ := cyc_late hU (n := 10) (by omega) z
      obtain ⟨y, hy, _⟩ := cx.far n
      have : orb f h (i + n) = some y := by rw [orb_from hx]; exact hy
      rw [orb_none e (by omega)] at this
      cases this
  · intro g
    obtain ⟨x, hx, cx⟩ := far_cyc hU (n := 7) (by omega) (g 7) 9 (by omega)
    rw [spt_on (g 9)] at hx
    rw [Option.some.inj hx]
    exact cx
/-! ### lists of tuples of texts as data -/
def wordsD (wss : List (List Str)) : PyData := .list (wss.map fun ws => .tuple (ws.map PyData.str))
theorem dp_strs9 {H : Hp} : ∀ ws : List Str, DpAll K H (ws.map V.str) (ws.map PyData.str)
  | [] => .nil
  | _ :: ws => .cons (.str _) (dp_strs9 ws)
theorem dp_words {H : Hp} : ∀ {xs : List V} {wss : List (List Str)}, WordsAt K H xs wss → DpAll K H xs (wss.map fun ws => .tuple (ws.map PyData.str))
  | [], [], _ => .nil
  | [], _ :: _, h => by cases h.1
  | _ :: _, [], h => by cases h.1
  | x :: xs, ws :: wss, h => by
    obtain ⟨t, rfl, ht⟩ := h.2 0 x ws rfl rfl
    exact .cons (.tup ht (dp_strs9 ws)) (dp_words ⟨Nat.succ.inj h.1, fun i x o h1 h2 => h.2 (i + 1) x o h1 h2⟩)
theorem lay_strs9 : ∀ {ws : List Str}, (∀ x ∈ ws, PyData.strOk x = true) → PyData.canLayAll0 (ws.map PyData.str) = true
  | [], _ => rfl
  | x :: ws, h => by
    show (PyData.strOk x && PyData.canLayAll0 (ws.map PyData.str)) = true
    rw [h x (.head _), lay_strs9 fun y hy => h y (.tail _ hy)]
    rfl
theorem sh_words {wss : List (List Str)} (h : ∀ ws ∈ wss, ∀ x ∈ ws, PyData.strOk x = true) : SeqAt.shaped (wordsD wss) = true := by
  have h1 : PyData.canLayAll0 (wss.map fun ws => PyData.tuple (ws.map PyData.str)) = true := by
    induction wss with
    | nil => rfl
    | cons ws wss ih =>
      show (PyData.canLayAll0 (ws.map PyData.str) && PyData.canLayAll0 (wss.map fun ws => PyData.tuple (ws.map PyData.str))) = true
      rw [lay_strs9 (h ws (.head _)), ih fun v hv => h v (.tail _ hv)]
      rfl
  have h2 : ∀ l : List (List Str), PyData.depthAll (l.map fun ws => PyData.tuple (ws.map PyData.str)) ≤ 1 := fun l => by
    induction l with
    | nil => exact Nat.zero_le _
    | cons ws l ih =>
      show max (PyData.depthAll (ws.map PyData.str) + 1) (PyData.depthAll (l.map fun ws => PyData.tuple (ws.map PyData.str))) ≤ 1
      rw [strs_depth]
      omega
  show (PyData.canLayAll0 _ && decide (PyData.depthAll _ + 1 ≤ 64)) = true
  have := h2 wss
  rw [h1, decide_eq_true (by omega)]
  rfl
end
section
local macro_rules | `(tactic| walk_at "sl") => `(tactic| first | assumption | exact SqL.of upd_same | exact SqL.of (by assumption) | ((with_reducible apply sql_upd); (walk_at "sl"); (first | assumption | exact Ne.symm (by assumption))))
local macro_rules | `(tactic| walk_at "st") => `(tactic| first | assumption | exact SqT.of upd_same | exact SqT.of (by assumption))
local macro_rules | `(tactic| walk_at "sc") => `(tactic| first | rfl | assumption | (show (0 : Int) < _; first | assumption | decide | omega) | exact Or.inl ⟨by omega, by omega⟩ | exact Or.inr ⟨by omega, by omega⟩ | exact ⟨by decide, by decide⟩ | exact ⟨by decide, by decide, by decide⟩)
local macro_rules | `(tactic| walk_at "g1") => `(tactic| first
  | refine ⟨(_ : V), rfl, ?_⟩
  | refine ⟨(_ : Bool), rfl, ?_⟩
  | refine ⟨(_ : Int), (_ : Int), rfl, rfl, ?_⟩
  | refine ⟨(_ : Int), rfl, ?_⟩
  | refine ⟨(_ : Str), rfl, ?_⟩
  | refine ⟨(_ : Addr), (_ : List V), rfl, Or.inl (by walk_at "sl"), ?_⟩
  | refine ⟨(_ : Addr), (_ : List V), rfl, Or.inr (by walk_at "st"), ?_⟩
  | refine ⟨(_ : Addr), (_ : List V), (_ : Int), (_ : V), rfl, rfl, (by walk_at "sl"), (by first | rfl | assumption), ?_⟩
  | refine ⟨(_ : Addr), (_ : List V), (_ : Int), (_ : V), rfl, rfl, (by walk_at "st"), (by first | rfl | assumption), ?_⟩
  | refine ⟨(_ : Addr), (_ : List V), (_ : Int), (_ : Nat), rfl, rfl, upd_same, rfl, ?_⟩
  | refine ⟨(_ : Addr), (_ : List V), (_ : Int), (_ : Nat), rfl, rfl, (by assumption), rfl, ?_⟩
  | refine ⟨(_ : Addr), (_ : Addr), (_ : Addr), (_ : List (Str × V)), (_ : V), rfl, (by assumption), (by assumption), (by assumption), (by first | assumption | rfl), ?_⟩
  | refine Or.inl ⟨(_ : Int), rfl, ?_⟩
  | refine And.intro (by walk_at "sc") ?_
  | refine iteT ?_
  | refine iteF ?_)
def spLaw (K : PySem.W.Frag) : Sp := fun vs H Q _ => ∃ (a : Addr) (ns : List Int), vs = [.ref a] ∧ SqL K H a (ns.map V.int) ∧ ns.length ≤ 63 ∧ ∀ H', Q (.bl true) H'
theorem see_good {c : CD} (h : SeeC c) : c.Good := by
  have hw := n6_word _ h.h
  refine ⟨hw, by rw [h.b]; rfl, ?_, ?_, by rw [h.a]; rfl⟩
  · rcases h.s with e | ⟨e1, e2⟩
    · show isTarget c.see c.heading = true
      rw [e]
      rfl
    · show isTarget c.see c.heading = true
      unfold isTarget
      rw [n6_word _ e1, decide_eq_false e2]
      simp
  · rcases h.s with e | _
    · exact .inl e
    · exact .inr ⟨h.b, h.a⟩
theorem stp_few {cs : List CD} {r : Str} (hg : ∀ c ∈ cs, SeeC c) : Few (stp cs r) n6 := fun x y h => by
  unfold stp at h
  cases e : (seekOf (heads cs) r x).1 with
  | none => rw [e] at h; cases h
  | some p =>
    have hs := seek_sound e
    unfold heads at hs
    rw [List.getElem?_map] at hs
    obtain ⟨c, hc, hcx⟩ := Option.map_eq_some_iff.mp hs
    rw [← hcx]
    exact (hg c (List.mem_of_getElem? hc)).h
theorem stp_head {cs : List CD} {r x y : Str} (h : stp cs r x = some y) : x ∈ heads cs := by
  unfold stp at h
  cases e : (seekOf (heads cs) r x).1 with
  | none => rw [e] at h; cases h
  | some p => exact List.mem_of_getElem? (seek_sound e)
theorem known_n6 {cs : List CD} (hg : ∀ c ∈ cs, SeeC c) : ∀ k ∈ known cs, k ∈ n6 := fun k hk => by
  obtain ⟨c, hc, hk⟩ := List.mem_flatMap.mp hk
  have g := hg c hc
  unfold knownOf at hk
  rw [g.a, List.append_nil] at hk
  rcases List.mem_cons.mp hk with e | hk
  · rw [e]
    exact g.h
  · by_cases z : c.see = ""
    · rw [if_pos z] at hk
      cases hk
    · rw [if_neg z, List.mem_singleton] at hk
      rw [hk]
      rcases g.s with e | e
      · exact absurd e z
      · exact e.1
theorem known_few {cs : List CD} (hg : ∀ c ∈ cs, SeeC c) : (known cs).length ≤ 2 * cs.length := by
  induction cs with
  | nil => exact Nat.le_refl _
  | cons c cs ih =>
    have h1 := ih fun d hd => hg d (.tail _ hd)
    have g := hg c (.head _)
    have e : known (c :: cs) = knownOf c ++ known cs := rfl
    have h2 : (knownOf c).length ≤ 2 := by
      unfold knownOf
      rw [g.a, List.append_nil]
      split
      · show 1 ≤ 2
        omega
      · show 2 ≤ 2
        omega
    rw [e, List.length_append, List.length_cons]
    omega
theorem head_known {cs : List CD} {x : Str} (h : x ∈ heads cs) : x ∈ known cs := by
  obtain ⟨c, hc, e⟩ := List.mem_map.mp h
  exact List.mem_flatMap.mpr ⟨c, hc, by unfold knownOf; rw [← e]; exact List.mem_append_left _ (.head _)⟩
def SF (f : Str → Option Str) (l : List Str) : Str → Option V := fun x => if x ∈ l then (f x).map V.str else none
def rules3P : List Str := ["all", "half", "leaf"]
def TupR (H : Hp) (t : Addr) : Prop := H t = some (.tup (rules3P.map V.str))
theorem ok_law (T : Top K mg) : FnOk P w K mg base CX0 8 T.a_law T.fd_law ["_law_script"] (spLaw K) := by
  refine T.F_law.ok sc_law (fun vs H Q E h => ?_) (fun cdv A outer s H vs Q E hr h => ?_)
  · obtain ⟨a, ns, rfl, _⟩ := h
    rfl
  · obtain ⟨a, ns, rfl, hS, hl, k⟩ := h
    have hu := hu_of hr
    refine ⟨_, (pss_cons (ps_set (i := 1) sc_law.nd rfl (.inl rfl) (pe_lst (pa_cons (pv 0) (pa_cons pe_int (pa_cons pe_int (pa_cons pe_int pa_nil))))))
      (pss_cons (ps_set (i := 2) sc_law.nd rfl (.inl rfl) (pe_call (ok_llaw_seeing T) (hr.mono (by decide)) (by rfl) T.g_llaw_seeing T.F_llaw_seeing.kp (b_llaw_seeing T) .nil pass0 (pa_cons (pv 1) pa_nil)))
      (pss_cons (ps_set (i := 3) sc_law.nd rfl (.inl rfl) (pe_call (ok_llaw_drawer T) (hr.mono (by decide)) (by rfl) T.g_llaw_drawer T.F_llaw_drawer.kp (b_llaw_drawer T) .nil pass0 (pa_cons (pv 2) pa_nil)))
      (pss_cons (ps_for PassesOwn.never rfl (pi_tup (pe_tup (pa_cons pe_str (pa_cons pe_str (pa_cons pe_str pa_nil))))) (pg_name (i := 4) sc_law.nd rfl (.inl rfl))
        (pss_cons (ps_set (i := 5) sc_law.nd rfl (.inr rfl) pe_dnewK)
        (pss_cons (ps_for PassesOwn.never rfl (pi_list (pe_call (ok_llaw_known T) (hr.mono (by decide)) (by rfl) T.g_llaw_known T.F_llaw_known.kp (b_llaw_known T) .nil pass0 (pa_cons (pv 2) pa_nil))) (pg_name (i := 6) sc_law.nd rfl (.inl rfl))
          (pss_cons (ps_set (i := 7) sc_law.nd rfl (.inl rfl) (pe_ix ix_tup (pe_call (ok_llaw_looked T) (hr.mono (by decide)) (by rfl) T.g_llaw_looked T.F_llaw_looked.kp (b_llaw_looked T) .nil pass0 (pa_cons (pv 2) (pa_cons (pv 4) (pa_cons (pv 6) pa_nil)))) pe_int (fun _ _ => rfl)))
          (pss_one (ps_if (PW.pt (pw_and (pt_cmpR op_notN (pv 7) pe_non (nomark _)) (pw_and1 (pt_cmpR op_ne (pe_ix ix_tup (pe_ix ix_list (pv 2) (pv 7) (fun _ _ => rfl)) pe_int (fun _ _ => rfl)) pe_str (nomark _))))) (pss_one (ps_dput hu (pv 5) (pv 6) (pe_ix ix_tup (pe_ix ix_list (pv 2) (pv 7) (fun _ _ => rfl)) pe_int (fun _ _ => rfl)) rfl)) pss_nil))))
        (pss_cons (ps_asg (pe_tup (pa_cons (pe_frz (pe_callTy (call_dictP rfl) (by rfl) T.m_dict (by decide +kernel) (pa_cons (pe_lc (own := [("_law_heading", 6)]) (g := gName 6) (tt := tYes) rfl sc_law.nd (pi_keys (pe_frz (pv 5))) (blkOk_by (N := N_law) (sc := defScope s_law) (by decide +kernel)) (fun _ _ _ _ _ => (pg_name (i := 6) sc_law.nd rfl (.inl rfl))) (fun _ _ _ _ _ => pts_nil) (fun _ _ _ _ _ => (pe_tup (pa_cons (pv 6) (pa_cons (pv 6) pa_nil))))) pa_nil))) (pa_cons pe_dnewK pa_nil))) (pg_tup rfl (pgs_cons (pg_name (i := 8) sc_law.nd rfl (.inr rfl)) (pgs_cons (pg_name (i := 9) sc_law.nd rfl (.inl rfl)) pgs_nil))))
        (pss_cons (ps_for PassesOwn.never rfl (pi_range2 (by rfl) T.m_range (pa_cons pe_int (pa_cons pe_int pa_nil))) (pg_name (i := 10) sc_law.nd rfl (.inl rfl))
          (pss_cons (ps_set (i := 8) sc_law.nd rfl (.inr rfl) (pe_frz (pe_callTy (call_dictP rfl) (by rfl) T.m_dict (by decide +kernel) (pa_cons (pe_lc (own := [("_law_heading", 6)]) (g := gName 6) (tt := tYes) rfl sc_law.nd (pi_keys (pv 8)) (blkOk_by (N := N_law) (sc := defScope s_law) (by decide +kernel)) (fun _ _ _ _ _ => (pg_name (i := 6) sc_law.nd rfl (.inl rfl))) (fun _ _ _ _ _ => pts_nil) (fun _ _ _ _ _ => (pe_tup (pa_cons (pv 6) (pa_cons (pe_dget2 (hu_of hr) (pv 5) (pe_dget (hu_of hr) (pv 8) (pv 6) (fun _ _ => rfl)) pe_str ⟨rfl, rfl, rfl, rfl⟩) pa_nil))))) pa_nil))))
          (pss_one (ps_for PassesOwn.never rfl (pi_keys (pv 8)) (pg_name (i := 6) sc_law.nd rfl (.inl rfl))
            (pss_one (ps_if (PW.pt (pw_and (pt_cmpR (op_eqD hr.units) (pe_dget (hu_of hr) (pv 8) (pv 6) (fun _ _ => rfl)) (pv 6) (nomark _)) (pw_and1 (pt_cmp (pc_dnotin (hu_of hr) (pv 6) (pv 9)))))) (pss_one (ps_dput hu (pv 9) (pv 6) (pv 10) rfl)) pss_nil))))))
        (pss_cons (ps_set (i := 11) sc_law.nd rfl (.inl rfl) (pe_lst pa_nil))
        (pss_cons (ps_for PassesOwn.never rfl (pi_list (pe_callB (call_sortedD rfl) (by rfl) T.m_sorted (by decide +kernel) (pa_cons (pv 9) pa_nil))) (pg_name (i := 6) sc_law.nd rfl (.inl rfl))
          (pss_cons (ps_set (i := 12) sc_law.nd rfl (.inl rfl) (pe_lst (pa_cons (pv 6) pa_nil)))
          (pss_cons (ps_for PassesOwn.never rfl (pi_range1 (by rfl) T.m_range (pa_cons (pe_op op_sub (pe_dget (hu_of hr) (pv 9) (pv 6) (fun _ _ => rfl)) pe_int) pa_nil)) (pg_name (i := 10) sc_law.nd rfl (.inl rfl))
            (pss_one (ps_expr (pe_bm PySem.F.plainAttrs_list PySem.F.slot_list_append PySem.F.type_list_append mt_append (pv 12) (pa_cons (pe_dget (hu_of hr) (pv 5) (pe_ix ix_list (pv 12) (pe_un un_neg pe_int) (fun _ _ => rfl)) (fun _ _ => rfl)) pa_nil)))))
          (pss_one (ps_if (pt_cmpR op_eq (pe_callB (cr_minT rfl hr.units) (by rfl) T.m_min (by decide +kernel) (pa_cons (pv 12) pa_nil)) (pv 6) (nomark _)) (pss_one (ps_expr (pe_bm PySem.F.plainAttrs_list PySem.F.slot_list_append PySem.F.type_list_append mt_append (pv 11) (pa_cons (pe_callTy call_tuple_of (by rfl) T.m_tuple (by decide +kernel) (pa_cons (pv 12) pa_nil)) pa_nil)))) pss_nil)))))
        (pss_cons (ps_if (pt_cmpR (op_neD hr.units) (pe_call (ok_see_rings T) (hr.mono (by decide)) (by rfl) T.g_see_rings T.F_see_rings.kp (b_see_rings T) .nil pass0 (pa_cons (pv 3) (pa_cons (pv 4) pa_nil))) (pv 11) (nomark _)) (pss_one (ps_ret pe_bl)) pss_nil)
        (pss_cons (ps_set (i := 13) sc_law.nd rfl (.inl rfl) (pe_lst pa_nil))
        (pss_cons (ps_for PassesOwn.never rfl (pi_list (pv 11)) (pg_name (i := 12) sc_law.nd rfl (.inl rfl))
          (pss_one (ps_set (i := 13) sc_law.nd rfl (.inl rfl) (pe_op op_cat (pv 13) (pe_callTy call_list_of (by rfl) T.m_list (by decide +kernel) (pa_cons (pv 12) pa_nil))))))
        (pss_one (ps_for PassesOwn.never rfl (pi_list (pe_call (ok_llaw_known T) (hr.mono (by decide)) (by rfl) T.g_llaw_known T.F_llaw_known.kp (b_llaw_known T) .nil pass0 (pa_cons (pv 2) pa_nil))) (pg_name (i := 6) sc_law.nd rfl (.inl rfl))
          (pss_cons (ps_set (i := 14) sc_law.nd rfl (.inl rfl) (pv 6))
          (pss_cons (ps_for PassesOwn.never rfl (pi_range1 (by rfl) T.m_range (pa_cons pe_int pa_nil)) (pg_name (i := 10) sc_law.nd rfl (.inl rfl))
            (pss_one (ps_set (i := 14) sc_law.nd rfl (.inl rfl) (pe_dget2 (hu_of hr) (pv 5) (pv 14) (pv 14) ⟨rfl, rfl, rfl, rfl⟩))))
          (pss_one (ps_if (pt_cmpR op_ne (pe_cmpR op_eq (pe_ix ix_tup (pe_call (ok_walk T) (hr.mono (by decide)) (by rfl) T.g_walk T.F_walk.kp (b_walk T) .nil pass0 (pa_cons (pv 3) (pa_cons (pv 4) (pa_cons (pv 6) pa_nil)))) pe_int (fun _ _ => rfl)) pe_str (nomark _)) (pe_cmpR op_in_seq (pv 14) (pv 13) rfl) (nomark _)) (pss_one (ps_ret pe_bl)) pss_nil))))))))))))))))
      (pss_one (ps_ret pe_bl)))))), ?_⟩
    have hsz := sizeLine_of (show (1000000 : Nat) ≤ 1000000 by omega)
    refine ⟨_, rfl, by show 4 ≤ sizeLine; decide, fun rw hrw => ?_⟩
    have R1 : RowAt K (upd H rw (.lst [.ref a, .int 0, .int 0, .int 0])) rw a ns := ⟨0, 0, 0, upd_same, Scr.new hS hrw, by decide, by decide⟩
    generalize upd H rw (.lst [.ref a, .int 0, .int 0, .int 0]) = H1 at *
    clear hrw hS
    refine ⟨_, rfl, rw, a, ns, rfl, R1, fun ls xs cs H2 R2 nls e2 hx hcl hg => ?_⟩
    have hgd : ∀ c ∈ cs, c.Good ∧ c.also.length ≤ 4 := fun c hc => ⟨see_good (hg c hc), by rw [(hg c hc).a]; show 0 ≤ 4; omega⟩
    refine ⟨_, rfl, ls, xs, cs, rfl, SqL.of e2, hx, hgd, by omega, fun d H3 s3 D3 => ?_⟩
    have e3 := s3 _ _ e2
    have x3 := hx.imm s3.imm
    clear R1 R2 e2 hx s3 H1 H2
    refine ⟨by show 3 ≤ sizeLine; decide, fun tr htr => ⟨tr, rfl, ⟨_, SqT.of upd_same⟩, ?_⟩⟩
    have s4 := same_new (o := .tup (rules3P.map V.str)) htr
    have e4 := s4 _ _ e3
    have x4 := x3.imm s4.imm
    have D4 := D3.imm s4.imm
    have h4 : (upd H3 tr (.tup (rules3P.map V.str))) tr = some (.tup (rules3P.map V.str)) := upd_same
    have r4 : TupR (upd H3 tr (.tup (rules3P.map V.str))) tr := h4
    refine for_tup (K := K) (a := tr) (xs := rules3P.map V.str) (fun i σ H5 => ∃ y4 y5 y6 y7 y8 y9 y10 y11 y12 y13 y14, σ = [some (.ref a), some (.ref rw), some (.ref ls), some (.ref d), y4, y5, y6, y7, y8, y9, y10, y11, y12, y13, y14] ∧ Same (upd H3 tr (.tup (rules3P.map V.str))) H5) ⟨_, _, _, _, _, _, _, _, _, _, _, rfl, Same.refl _⟩ (fun i σ H5 _ ⟨_, _, _, _, _, _, _, _, _, _, _, _, s⟩ => SqT.of (s _ _ r4)) (fun i x σ H5 hi hP => ?_) (fun σ H5 hP => ?_)
    · obtain ⟨y4, y5, y6, y7, y8, y9, y10, y11, y12, y13, y14, rfl, s5⟩ := hP
      rw [List.getElem?_map] at hi
      obtain ⟨r, hri, rfl⟩ := Option.map_eq_some_iff.mp hi
      have hr3 : r ∈ rules3 := (show ∀ x ∈ rules3P, x ∈ rules3 by decide) r (List.mem_of_getElem? hri)
      have e5 := s5 _ _ e4
      have x5 := x4.imm s5.imm
      have D5 := D4.imm s5.imm
      have hfew : Few (stp cs r) n6 := stp_few hg
      generalize hf : stp cs r = f at *
      intro b hb
      have s6 := same_new (o := .dK []) hb
      have e6 := s6 _ _ e5
      have x6 := x5.imm s6.imm
      have b6 : (upd H5 b (.dK [])) b = some (.dK []) := upd_same
      refine ⟨_, rfl, ls, xs, cs, rfl, SqL.of e6, x6, by have := known_few hg; omega, fun ks hk1 hk2 => ?_, fun kl H7 ys hnd hst hmem s7 nkl ekl => ⟨kl, rfl, ⟨_, SqL.of ekl⟩, ?_⟩⟩
      · have := nodup_le (ws := n6) hk1 fun x hx => known_n6 hg x ((hk2 x).mp hx)
        have h6 : n6.length = 6 := rfl
        omega
      have hys : ∀ x ∈ ys, x ∈ n6 := fun x hx => known_n6 hg x ((hmem x).mp hx)
      have hyl : ys.length ≤ 6 := nodup_le (ws := n6) hnd hys
      have e7 := s7 _ _ e6
      have x7 := x6.imm s7.imm
      have b7 := s7 _ _ b6
      have s57 : Same H5 H7 := s6.trans s7
      have nbk : kl ≠ b := fun e => by rw [e, b6] at nkl; cases nkl
      clear s6 e6 x6 b6 s7
      refine for_list (K := K) (a := kl) (xs := ys.map V.str) (fun i σ H8 => ∃ (kvs : List (Key × V)) (ds : List Str) (y6 y7 : Option V), σ = [some (.ref a), some (.ref rw), some (.ref ls), some (.ref d), some (.str r), some (.ref b), y6, y7, y8, y9, y10, y11, y12, y13, y14] ∧ But b H7 H8 ∧ H8 b = some (.dK kvs) ∧ DictS kvs (SF f (ys.take i)) ds) ⟨[], [], _, _, rfl, But.refl, b7, DictS.nil⟩ (fun i σ H8 _ ⟨_, _, _, _, _, b8, _⟩ => b8.seq nbk (SqL.of ekl)) (fun i x σ H8 hi hP => ?_) (fun σ H8 hP => ?_)
      · obtain ⟨kvs, ds, y6, y7, rfl, b8, d8, hd8⟩ := hP
        rw [List.getElem?_map] at hi
        obtain ⟨h, hh, rfl⟩ := Option.map_eq_some_iff.mp hi
        have im8 : Imm H7 H8 := b8.imm b7 rfl
        have hnl : ls ≠ b := fun e => by
          have q := b7
          rw [← e, e7] at q
          cases q
        have e8 := b8 _ _ e7 hnl
        have x8 := x7.imm im8
        have etk : ys.take (i + 1) = ys.take i ++ [h] := by rw [List.take_add_one, hh]; rfl
        have hni : h ∉ ys.take i := fun hm => by
          obtain ⟨j, hj, e⟩ := List.mem_iff_getElem.mp hm
          have hji : j < i := by rw [List.length_take] at hj; omega
          have hil := (List.getElem?_eq_some_iff.mp hh).1
          rw [List.getElem_take] at e
          have q := List.pairwise_iff_getElem.mp hnd j i (by omega) hil hji
          rw [e] at q
          exact q (List.getElem?_eq_some_iff.mp hh).2.symm
        refine ⟨_, rfl, _, rfl, _, rfl, ls, xs, cs, r, h, rfl, SqL.of e8, x8, by omega, hr3, fun t H9 s9 hS => ?_⟩
        obtain ⟨pt, ht9, _⟩ := hS
        refine ⟨t, _, 0, _, rfl, rfl, ht9, rfl, ?_⟩
        have e9 := s9 _ _ e8
        have x9 := x8.imm s9.imm
        have d9 := s9 _ _ d8
        have b9 := b8.same s9
        have hstep : f h = match (seekOf (heads cs) r h).1 with
          | none => none
          | some p => if seeAt cs p = "" then none else some (seeAt cs p) := by rw [← hf]; rfl
        cases hsk : (seekOf (heads cs) r h).1 with
        | none =>
          rw [hsk] at hstep
          have hstep : f h = none := hstep
          refine ⟨_, rfl, rfl, _, rfl, ?_⟩
          rw [show decide (onV none = V.non) = true from rfl]
          refine iteF (iteF ⟨kvs, ds, _, _, rfl, b9, d9, hd8.ext fun x => ?_⟩)
          unfold SF
          rw [etk]
          by_cases hx : x ∈ ys.take i
          · rw [if_pos hx, if_pos (List.mem_append_left _ hx)]
          · rw [if_neg hx]
            by_cases hxh : x = h
            · rw [if_pos (List.mem_append_right _ (by rw [hxh]; exact .head _)), hxh, hstep]
              rfl
            · rw [if_neg fun z => (List.mem_append.mp z).elim hx fun q => hxh (List.mem_singleton.mp q)]
        | some p =>
          rw [hsk] at hstep
          have hstep : f h = if seeAt cs p = "" then none else some (seeAt cs p) := hstep
          refine ⟨_, rfl, rfl, _, rfl, ?_⟩
          rw [show decide (onV (some p) = V.non) = false from decide_eq_false nofun]
          refine iteT ?_
          have hsp := seek_sound hsk
          have hpc : p < cs.length := by
            have := (List.getElem?_eq_some_iff.mp hsp).1
            unfold heads at this
            rwa [List.length_map] at this
          have hcp : cs[p]? = some cs[p] := List.getElem?_eq_getElem hpc
          have hpx : xs[p]? = some (xs[p]'(by rw [x9.1]; exact hpc)) := List.getElem?_eq_getElem _
          obtain ⟨ti, tb, ta, hti, ht1, _, _⟩ := x9.2 p _ _ hpx hcp
          rw [hti] at hpx
          refine ⟨_, rfl, _, rfl, ls, _, ((p : Nat) : Int), _, rfl, rfl, SqL.of e9, atI_nat hpx, ?_⟩
          refine ⟨ti, _, 2, _, rfl, rfl, ht1, rfl, ?_⟩
          refine tC_to (rNe_to (b := !decide (cs[p].see = "")) rfl (by rw [str_dec]) ?_)
          refine ⟨_, rfl, ?_⟩
          have hse : seeAt cs p = cs[p].see := see_at hcp
          rw [hse] at hstep
          by_cases hz : cs[p].see = ""
          · rw [decide_eq_true hz]
            rw [if_pos hz] at hstep
            refine iteF ⟨kvs, ds, _, _, rfl, b9, d9, hd8.ext fun x => ?_⟩
            unfold SF
            rw [etk]
            by_cases hx : x ∈ ys.take i
            · rw [if_pos hx, if_pos (List.mem_append_left _ hx)]
            · rw [if_neg hx]
              by_cases hxh : x = h
              · rw [if_pos (List.mem_append_right _ (by rw [hxh]; exact .head _)), hxh, hstep]
                rfl
              · rw [if_neg fun z => (List.mem_append.mp z).elim hx fun q => hxh (List.mem_singleton.mp q)]
          · rw [decide_eq_false hz]
            rw [if_neg hz] at hstep
            refine iteT ?_
            refine ⟨_, rfl, _, rfl, ls, _, ((p : Nat) : Int), _, rfl, rfl, SqL.of e9, atI_nat hpx, ti, _, 2, _, rfl, rfl, ht1, rfl, ?_⟩
            have hdl := hd8.len
            have hds : ds.length ≤ 6 := nodup_le (ws := n6) hd8.n fun x hx => by
              have q := (hd8.m x).mp hx
              unfold SF at q
              by_cases hx : x ∈ ys.take i
              · exact hys x (List.mem_of_mem_take hx)
              · rw [if_neg hx] at q
                exact absurd rfl q
            refine ⟨_, rfl, _, rfl, b, _, rfl, DPut.k (k := Sum.inr h) d9 (sizeLine_of (by omega)), ?_⟩
            refine ⟨_, ds ++ [h], _, _, rfl, b9.upd, upd_same, (hd8.put (by unfold SF; rw [if_neg hni]) _).ext fun x => ?_⟩
            unfold SF
            rw [etk]
            by_cases hxh : x = h
            · rw [if_pos hxh, if_pos (List.mem_append_right _ (by rw [hxh]; exact .head _)), hxh, hstep]
              rfl
            · rw [if_neg hxh]
              by_cases hx : x ∈ ys.take i
              · rw [if_pos hx, if_pos (List.mem_append_left _ hx)]
              · rw [if_neg hx, if_neg fun z => (List.mem_append.mp z).elim hx fun q => hxh (List.mem_singleton.mp q)]
      · obtain ⟨kvs, ds, y6, y7, rfl, b8, d8, hd8⟩ := hP
        rw [List.length_map, List.take_length] at hd8
        have hfy : ∀ x, f x ≠ none → x ∈ ys := fun x hx => by
          cases e : f x with
          | none => exact absurd e hx
          | some y =>
            rw [← hf] at e
            exact (hmem x).mpr (head_known (stp_head e))
        have hdS : DictS kvs (fun x => (f x).map V.str) ds := hd8.ext fun x => by
          unfold SF
          by_cases hx : x ∈ ys
          · rw [if_pos hx]
          · rw [if_neg hx]
            cases e : f x with
            | none => rfl
            | some y => exact absurd (hfy x (by rw [e]; exact nofun)) hx
        have hds : ∀ x, x ∈ ds ↔ f x ≠ none := fun x => by
          rw [hdS.m]
          cases f x <;> simp
        have hds6 : ∀ x ∈ ds, x ∈ n6 := fun x hx => hys x (hfy x ((hds x).mp hx))
        have hdl : ds.length ≤ 6 := nodup_le (ws := n6) hdS.n hds6
        have s58 : Same H5 H8 := fun c o hc => b8 c o (s57 c o hc) (ne_of_none hc hb)
        clear hd8 b8 ekl b7 s57 e7 x7
        refine ⟨_, rfl, b, _, rfl, d8, trivial, fun od => ⟨b, od, rfl, .inl ⟨kvs, upd_same, fun D hD => ?_⟩⟩⟩
        have s59 : Same H5 (upd H8 b (.frz od (.dK kvs))) := same_mut s58 hb
        have d9 : (upd H8 b (.frz od (.dK kvs))) b = some (.frz od (.dK kvs)) := upd_same
        generalize upd H8 b (.frz od (.dK kvs)) = H9 at *
        clear s58 d8 H8
        refine lc_it (walk_keys (kvs := kvs)) (fun j H10 => Same H9 H10 ∧ ∃ ps : List Addr, H10 D = some (.lst (ps.map V.ref)) ∧ PK K H10 ps (ds.take j) V.str) ⟨same_new hD, [], upd_same, PK.nil⟩ (fun j H10 _ hP => hP.1 _ _ d9) (fun j x H10 Hy hj hP hyy => ?_) (fun H10 hP => ?_)
        · obtain ⟨s10, ps, e10, hp⟩ := hP
          obtain ⟨rfl, kk, vv, hkv, rfl⟩ := hyy
          have hjd : j < ds.length := by rw [← hdS.len]; exact hj
          have hdj : ds[j]? = some ds[j] := List.getElem?_eq_getElem hjd
          have hkk : kk = Sum.inr ds[j] := by
            have q : (kvs.map (·.1))[j]? = some kk := by rw [List.getElem?_map, hkv]; rfl
            rw [hdS.k, List.getElem?_map, hdj] at q
            exact (Option.some.inj q).symm
          subst hkk
          refine ⟨rfl, tYes_of ?_⟩
          refine ⟨_, rfl, _, rfl, by show 2 ≤ sizeLine; decide, fun pt hpt => ?_⟩
          have s11 := same_new (o := .tup [.str ds[j], .str ds[j]]) hpt
          have e11 := s11 _ _ e10
          have g11 : (upd Hy pt (.tup [.str ds[j], .str ds[j]])) pt = some (.tup [.str ds[j], .str ds[j]]) := upd_same
          have hpl := hp.len
          rw [List.length_take] at hpl
          have im : Imm _ (upd (upd Hy pt (.tup [.str ds[j], .str ds[j]])) D (.lst (ps.map V.ref ++ [.ref pt]))) := Imm.refl.mut e11 rfl
          refine ⟨_, e11, sizeLine_of (by rw [List.length_map]; omega), same_mut (s10.trans s11) hD, ps ++ [pt], by rw [upd_same, List.map_append]; rfl, ?_⟩
          exact PK.snoc ((hp.imm s11.imm).imm im) hdj (SqT.of (im _ _ g11 rfl))
        · obtain ⟨s10, ps, e10, hp⟩ := hP
          rw [hdS.len, List.take_length] at hp
          refine ⟨D, ps, kvsOf ds V.str, rfl, SqL.of e10, hp, fun ph hph => ⟨ph, _, rfl, upd_same, trivial, fun oh => ?_⟩⟩
          rw [kvsOf_merge hdS.n]
          have s11 : Same H10 (upd (upd H10 ph (.dK (kvsOf ds V.str))) ph (.frz oh (.dK (kvsOf ds V.str)))) := fun c o hc => by
            have hne := ne_of_none hc hph
            rw [upd_ne hne, upd_ne hne]
            exact hc
          have h11 : (upd (upd H10 ph (.dK (kvsOf ds V.str))) ph (.frz oh (.dK (kvsOf ds V.str)))) ph = some (.frz oh (.dK (kvsOf ds V.str))) := upd_same
          generalize upd (upd H10 ph (.dK (kvsOf ds V.str))) ph (.frz oh (.dK (kvsOf ds V.str))) = H11 at *
          intro pr hpr
          have s12 := same_new (o := .dK []) hpr
          have r12 : (upd H11 pr (.dK [])) pr = some (.dK []) := upd_same
          have h12 := s12 _ _ h11
          have s911 := s10.trans s11
          have nrH9 : H9 pr = none := by
            cases z : H9 pr with
            | none => rfl
            | some o => rw [s911 _ _ z] at hpr; cases hpr
          have s912 := s911.trans s12
          generalize upd H11 pr (.dK []) = H12 at *
          refine ⟨by show 2 ≤ sizeLine; decide, fun tt htt => ?_⟩
          have s13 := same_new (o := .tup [.ref ph, .ref pr]) htt
          refine ⟨tt, _, rfl, SqT.of upd_same, rfl, _, _, rfl, _, _, rfl, rfl, ?_⟩
          have r13 := s13 _ _ r12
          have h13 := s13 _ _ h12
          have s913 := s912.trans s13
          generalize upd H12 tt (.tup [.ref ph, .ref pr]) = H13 at *
          clear s10 e10 hp hph s11 h11 hpr s12 r12 h12 s911 s912 htt s13 H10 H11 H12
          have hok : ∀ x y, f x = some y → PyData.strOk y = true := fun x y e => by
            rw [← hf] at e
            unfold stp at e
            cases e2 : (seekOf (heads cs) r x).1 with
            | none => rw [e2] at e; cases e
            | some p =>
              rw [e2] at e
              have e : (if seeAt cs p = "" then none else some (seeAt cs p)) = some y := e
              by_cases hz : seeAt cs p = ""
              · rw [if_pos hz] at e
                cases e
              · rw [if_neg hz] at e
                obtain rfl := Option.some.inj e
                have hsp := seek_sound e2
                unfold heads at hsp
                rw [List.getElem?_map] at hsp
                obtain ⟨c, hc, _⟩ := Option.map_eq_some_iff.mp hsp
                rw [see_at hc] at hz ⊢
                rcases (hg c (List.mem_of_getElem? hc)).s with w | w
                · exact absurd w hz
                · exact n6_ok _ w.1
          have hf0 : f "" = none := by
            cases e : f "" with
            | none => rfl
            | some y => exact absurd (hfew "" y e) (by decide +kernel)
          refine ⟨1, 8, rfl, ⟨by decide, by decide, by decide, by decide⟩, for_range (lo := 1) (n := 7) (fun q σ H14 => ∃ (ph : Addr) (oh : PySem.Obj) (rk : List (Key × V)) (rs : List Str) (y6 y10 : Option V), σ = [some (.ref a), some (.ref rw), some (.ref ls), some (.ref d), some (.str r), some (.ref b), y6, y7, some (.ref ph), some (.ref pr), y10, y11, y12, y13, y14] ∧ Same H9 H14 ∧ ph ≠ pr ∧ H14 ph = some (.frz oh (.dK (kvsOf ds (gT f q)))) ∧ H14 pr = some (.dK rk) ∧ DictS rk (RS f ds q) rs) ⟨ph, oh, [], [], _, _, rfl, s913, ?_, h13, r13, DictS.nil.ext fun x => ?_⟩ (fun q σ H14 hq hP => ?_) (fun σ H14 hP => ?_)⟩
          · rintro rfl
            rw [h13] at r13
            cases r13
          · unfold RS
            by_cases hx : x ∈ ds
            · rw [if_pos hx]
              rfl
            · rw [if_neg hx]
          · clear s913 h13 r13 H13 oh ph
            obtain ⟨ph, oh, rk, rs, y6, y10, rfl, s14, nphr, h14, r14, hrk⟩ := hP
            have d14 := s14 _ _ d9
            refine ⟨_, rfl, ph, oh, rfl, .inl ⟨kvsOf ds (gT f q), h14, fun D hD => lc_it (walk_keys (kvs := kvsOf ds (gT f q))) (fun j H15 => Same H14 H15 ∧ ∃ ps : List Addr, H15 D = some (.lst (ps.map V.ref)) ∧ PK K H15 ps (ds.take j) (gT f (q + 1))) ⟨same_new hD, [], upd_same, PK.nil⟩ (fun j H15 _ hP => hP.1 _ _ h14) (fun j x H15 Hy hj hP hyy => ?_) (fun H15 hP => ?_)⟩⟩
            · obtain ⟨s15, ps, e15, hp⟩ := hP
              obtain ⟨rfl, kk, vv, hkv, rfl⟩ := hyy
              have hjd : j < ds.length := by rw [kvsOf_len] at hj; exact hj
              have hdj : ds[j]? = some ds[j] := List.getElem?_eq_getElem hjd
              rw [kvsOf_get hdj] at hkv
              obtain ⟨rfl, rfl⟩ := Prod.mk.inj (Option.some.inj hkv)
              have h15 := s15 _ _ h14
              have d15 := s15 _ _ d14
              have hdm := List.getElem_mem hjd
              generalize ds[j] = x at *
              refine ⟨rfl, tYes_of ?_⟩
              refine ⟨_, rfl, _, rfl, b, rfl, .inl ⟨_, .inr ⟨od, d15⟩⟩, _, rfl, _, rfl, ph, gT f q x, rfl, .inl ⟨kvsOf ds (gT f q), Sum.inr x, .inr ⟨oh, h15⟩, rfl, ?_⟩, ?_⟩
              · rw [(kvsOf_dict hdS.n (gT f q)).v, if_pos hdm]
              · refine tC_to ⟨(f ((orb f x q).getD "")).map V.str, .inl ⟨kvs, Sum.inr ((orb f x q).getD ""), .inr ⟨od, d15⟩, rfl, (hdS.v _).symm⟩, ?_⟩
                have ev : ((f ((orb f x q).getD "")).map V.str).getD (V.str "") = gT f (q + 1) x := by
                  show _ = V.str ((orb f x (q + 1)).getD "")
                  rw [← gT_next hf0 x q]
                  cases f ((orb f x q).getD "") <;> rfl
                rw [ev]
                refine ⟨by show 2 ≤ sizeLine; decide, fun pt hpt => ?_⟩
                have s16 := same_new (o := .tup [.str x, gT f (q + 1) x]) hpt
                have e16 := s16 _ _ e15
                have g16 : (upd Hy pt (.tup [.str x, gT f (q + 1) x])) pt = some (.tup [.str x, gT f (q + 1) x]) := upd_same
                have hpl := hp.len
                rw [List.length_take] at hpl
                have im : Imm (upd Hy pt (.tup [.str x, gT f (q + 1) x])) (upd (upd Hy pt (.tup [.str x, gT f (q + 1) x])) D (.lst (ps.map V.ref ++ [.ref pt]))) := Imm.refl.mut e16 rfl
                refine ⟨_, e16, sizeLine_of (by rw [List.length_map]; omega), same_mut (s15.trans s16) hD, ps ++ [pt], by rw [upd_same, List.map_append]; rfl, ?_⟩
                exact PK.snoc ((hp.imm s16.imm).imm im) hdj (SqT.of (im _ _ g16 rfl))
            · obtain ⟨s15, ps, e15, hp⟩ := hP
              rw [kvsOf_len, List.take_length] at hp
              refine ⟨D, ps, kvsOf ds (gT f (q + 1)), rfl, SqL.of e15, hp, fun ph2 hph => ⟨ph2, _, rfl, upd_same, trivial, fun oh2 => ?_⟩⟩
              rw [kvsOf_merge hdS.n]
              have s16 : Same H15 (upd (upd H15 ph2 (.dK (kvsOf ds (gT f (q + 1))))) ph2 (.frz oh2 (.dK (kvsOf ds (gT f (q + 1)))))) := fun c o hc => by
                have hne := ne_of_none hc hph
                rw [upd_ne hne, upd_ne hne]
                exact hc
              have h16 : (upd (upd H15 ph2 (.dK (kvsOf ds (gT f (q + 1))))) ph2 (.frz oh2 (.dK (kvsOf ds (gT f (q + 1)))))) ph2 = some (.frz oh2 (.dK (kvsOf ds (gT f (q + 1))))) := upd_same
              have r15 := s15 _ _ r14
              have np2 : ph2 ≠ pr := fun e => by rw [e, r15] at hph; cases hph
              generalize upd (upd H15 ph2 (.dK (kvsOf ds (gT f (q + 1))))) ph2 (.frz oh2 (.dK (kvsOf ds (gT f (q + 1))))) = H16 at *
              have s916 := (s14.trans s15).trans s16
              have r16 := s16 _ _ r15
              clear s15 e15 hp hph s16 r15 h14 r14 nphr d14 s14
              refine ⟨_, rfl, ph2, oh2, rfl, .inl ⟨kvsOf ds (gT f (q + 1)), h16, ?_⟩⟩
              refine for_it (walk_keys (kvs := kvsOf ds (gT f (q + 1)))) (fun j σ H17 => ∃ (rk : List (Key × V)) (rs : List Str) (y6 : Option V), σ = [some (.ref a), some (.ref rw), some (.ref ls), some (.ref d), some (.str r), some (.ref b), y6, y7, some (.ref ph2), some (.ref pr), some (.int (1 + ((q : Nat) : Int))), y11, y12, y13, y14] ∧ Same H9 H17 ∧ H17 ph2 = some (.frz oh2 (.dK (kvsOf ds (gT f (q + 1))))) ∧ H17 pr = some (.dK rk) ∧ DictS rk (fun x => if x ∈ ds.take j then RS f ds (q + 1) x else RS f ds q x) rs) ⟨rk, rs, _, rfl, s916, h16, r16, hrk.ext fun x => (if_neg List.not_mem_nil).symm⟩ (fun j σ H17 _ ⟨_, _, _, _, _, h, _⟩ => h) (fun j x σ H17 Hy hj hP hyy => ?_) (fun σ H17 hP => ?_)
              · obtain ⟨rk, rs, y6, rfl, s17, h17, r17, hrk⟩ := hP
                obtain ⟨rfl, kk, vv, hkv, rfl⟩ := hyy
                have hjd : j < ds.length := by rw [kvsOf_len] at hj; exact hj
                have hdj : ds[j]? = some ds[j] := List.getElem?_eq_getElem hjd
                rw [kvsOf_get hdj] at hkv
                obtain ⟨rfl, rfl⟩ := Prod.mk.inj (Option.some.inj hkv)
                have hdm := List.getElem_mem hjd
                have etk : ds.take (j + 1) = ds.take j ++ [ds[j]] := by rw [List.take_add_one, hdj]; rfl
                have hni : ds[j] ∉ ds.take j := fun hm => by
                  obtain ⟨j2, hj2, e⟩ := List.mem_iff_getElem.mp hm
                  have hji : j2 < j := by rw [List.length_take] at hj2; omega
                  rw [List.getElem_take] at e
                  exact List.pairwise_iff_getElem.mp hdS.n j2 j (by omega) hjd hji e
                rw [etk]
                generalize ds[j] = x at *
                have hx6 := hds6 x hdm
                have hxe : x ≠ "" := fun e => by
                  rw [e] at hx6
                  exact absurd hx6 (by decide +kernel)
                have hgo : PyData.strOk ((orb f x (q + 1)).getD "") = true := by
                  have hok0 : PyData.strOk "" = true := by decide +kernel
                  show PyData.strOk (((orb f x q).bind f).getD "") = true
                  cases e : orb f x q with
                  | none => exact hok0
                  | some z =>
                    show PyData.strOk ((f z).getD "") = true
                    cases e2 : f z with
                    | none => exact hok0
                    | some w => exact hok z w e2
                have hbk : ((orb f x (q + 1)).getD "" = x) ↔ orb f x (q + 1) = some x := by
                  cases orb f x (q + 1) with
                  | none => exact ⟨fun e => absurd e.symm hxe, fun e => nomatch e⟩
                  | some z => exact ⟨fun e => congrArg some e, fun e => Option.some.inj e⟩
                have hnx : (if x ∈ ds.take j then RS f ds (q + 1) x else RS f ds q x) = (backT f x q).map fun (k : Nat) => V.int (k : Nat) := by
                  rw [if_neg hni]
                  unfold RS
                  rw [if_pos hdm]
                refine ⟨_, rfl, _, rfl, ph2, gT f (q + 1) x, rfl, .inl ⟨kvsOf ds (gT f (q + 1)), Sum.inr x, .inr ⟨oh2, h17⟩, rfl, ?_⟩, ?_⟩
                · rw [(kvsOf_dict hdS.n (gT f (q + 1))).v, if_pos hdm]
                refine ⟨_, rfl, rEqD_to (b := decide ((orb f x (q + 1)).getD "" = x)) (.str _) (.str _) (sh_text hgo) (sh_text (n6_ok x hx6)) rfl ?_⟩
                refine ⟨_, rfl, ?_⟩
                by_cases hb1 : (orb f x (q + 1)).getD "" = x
                · rw [decide_eq_true hb1]
                  refine iteT ?_
                  refine ⟨_, rfl, _, rfl, pr, _, rfl, .inl ⟨rk, Sum.inr x, .inl r17, rfl, (hrk.v x).symm⟩, ?_⟩
                  rw [hnx]
                  refine ⟨_, rfl, ?_⟩
                  cases hbq : backT f x q with
                  | some u =>
                    refine iteF ⟨rk, rs, _, rfl, s17, h17, r17, hrk.ext (ext_step ?_)⟩
                    unfold RS
                    rw [if_pos hdm, if_pos hdm, back_same (.inl (by rw [hbq]; exact nofun))]
                  | none =>
                    refine iteT ?_
                    rw [hbq] at hnx
                    have hrl := hrk.len
                    have hrsl : rs.length ≤ 6 := nodup_le (ws := n6) hrk.n fun z hz => hds6 z (by
                      have w := (hrk.m z).mp hz
                      unfold RS at w
                      by_cases hzd : z ∈ ds
                      · exact hzd
                      · rw [if_neg hzd] at w
                        by_cases hzt : z ∈ ds.take j
                        · exact absurd (List.mem_of_mem_take hzt) hzd
                        · rw [if_neg hzt, if_neg hzd] at w
                          exact absurd rfl w)
                    refine ⟨_, rfl, _, rfl, _, rfl, pr, _, rfl, DPut.k (k := Sum.inr x) r17 (sizeLine_of (by omega)), ?_⟩
                    have hp2 : (upd Hy pr (.dK (putK rk (Sum.inr x) (.int (1 + ((q : Nat) : Int)))))) ph2 = some (.frz oh2 (.dK (kvsOf ds (gT f (q + 1))))) := by rw [upd_ne np2]; exact h17
                    refine ⟨_, rs ++ [x], _, rfl, same_mut s17 nrH9, hp2, upd_same, (hrk.put hnx _).ext fun z => ?_⟩
                    by_cases hzx : z = x
                    · rw [if_pos hzx, if_pos (List.mem_append_right _ (by rw [hzx]; exact .head _)), hzx]
                      unfold RS
                      rw [if_pos hdm, back_step hbq (hbk.mp hb1)]
                      show some (V.int (1 + ((q : Nat) : Int))) = some (V.int ((q + 1 : Nat) : Int))
                      congr 2
                      omega
                    · rw [if_neg hzx]
                      by_cases hzt : z ∈ ds.take j
                      · rw [if_pos hzt, if_pos (List.mem_append_left _ hzt)]
                      · rw [if_neg hzt, if_neg fun q => (List.mem_append.mp q).elim hzt fun w => hzx (List.mem_singleton.mp w)]
                · rw [decide_eq_false hb1]
                  refine iteF (iteF ⟨rk, rs, _, rfl, s17, h17, r17, hrk.ext (ext_step ?_)⟩)
                  unfold RS
                  rw [if_pos hdm, if_pos hdm, back_same (.inr fun e => hb1 (hbk.mpr e))]
              · obtain ⟨rk, rs, y6, rfl, s17, h17, r17, hrk⟩ := hP
                rw [kvsOf_len, List.take_length] at hrk
                refine ⟨ph2, oh2, rk, rs, _, _, rfl, s17, np2, h17, r17, hrk.ext fun x => ?_⟩
                by_cases hx : x ∈ ds
                · rw [if_pos hx]
                · rw [if_neg hx]
                  unfold RS
                  rw [if_neg hx, if_neg hx]
          · clear s913 h13 r13 H13 oh ph
            obtain ⟨ph, oh, rk, rs, y6, y10, rfl, s14, nphr, h14, r14, hrk⟩ := hP
            have hcyc : ∀ h, h ∈ rs ↔ Cyc f h := fun h => by
              rw [hrk.m]
              unfold RS
              constructor
              · intro w
                by_cases hd : h ∈ ds
                · rw [if_pos hd] at w
                  cases e : backT f h 7 with
                  | none => rw [e] at w; exact absurd rfl w
                  | some t =>
                    obtain ⟨p, _⟩ := backT_some e
                    exact ⟨t, p.p, p.e⟩
                · rw [if_neg hd] at w
                  exact absurd rfl w
              · intro c
                obtain ⟨t, p⟩ := c.per
                obtain ⟨y, hy⟩ := c.step
                rw [if_pos ((hds h).mpr (by rw [hy]; exact nofun)), backT_per hfew (by decide) p]
                exact nofun
            have hper : ∀ h, Cyc f h → ∃ t, Per f h t ∧ backT f h 7 = some t ∧ t ≤ 6 ∧ valV rk (Sum.inr h : Key) = some (.int (t : Nat)) := fun h c => by
              obtain ⟨t, p⟩ := c.per
              obtain ⟨y, hy⟩ := c.step
              have hb := backT_per hfew (n := 7) (by decide) p
              refine ⟨t, p, hb, p.le hfew, ?_⟩
              rw [hrk.v]
              unfold RS
              rw [if_pos ((hds h).mpr (by rw [hy]; exact nofun)), hb]
              rfl
            have hrsl : rs.length ≤ 6 := nodup_le (ws := n6) hrk.n fun z hz => by
              obtain ⟨y, hy⟩ := ((hcyc z).mp hz).step
              exact hfew z y hy
            refine ⟨Nat.zero_le _, fun ld hld => ?_⟩
            have s15 := same_new (o := .lst []) hld
            have f15 : (upd H14 ld (.lst [])) ld = some (.lst []) := upd_same
            have r15 := s15 _ _ r14
            refine ⟨_, rfl, pr, rk, rs, rfl, .inl r15, hrk.k, by omega, fun zs lz hperm hzst hlz => ⟨lz, rfl, ⟨_, SqL.of upd_same⟩, ?_⟩⟩
            have s16 := s15.trans (same_new (o := .lst (zs.map V.str)) hlz)
            have z16 : (upd (upd H14 ld (.lst [])) lz (.lst (zs.map V.str))) lz = some (.lst (zs.map V.str)) := upd_same
            have f16 := same_new (o := .lst (zs.map V.str)) hlz _ _ f15
            have nlz : lz ≠ ld := fun e => by rw [e, f15] at hlz; cases hlz
            have hzn : zs.Nodup := hperm.nodup_iff.mpr hrk.n
            have hzm : ∀ h, h ∈ zs ↔ Cyc f h := fun h => hperm.mem_iff.trans (hcyc h)
            have hzl : zs.length ≤ 6 := by rw [hperm.length_eq]; exact hrsl
            refine for_list (K := K) (a := lz) (xs := zs.map V.str) (fun j σ H17 => ∃ (ws : List V) (y6 y10 y12 : Option V), σ = [some (.ref a), some (.ref rw), some (.ref ls), some (.ref d), some (.str r), some (.ref b), y6, y7, some (.ref ph), some (.ref pr), y10, some (.ref ld), y12, y13, y14] ∧ Same H14 H17 ∧ H17 lz = some (.lst (zs.map V.str)) ∧ H17 ld = some (.lst ws) ∧ WordsAt K H17 ws (((zs.take j).filter (dueB f)).map (rngL f))) ⟨[], _, _, _, rfl, s16, z16, f16, rfl, fun i x o h => nomatch h⟩ (fun j σ H17 _ ⟨_, _, _, _, _, _, h, _⟩ => SqL.of h) (fun j x σ H17 hj hP => ?_) (fun σ H17 hP => ?_)
            · clear s16 z16 f16 s15 f15 r15
              obtain ⟨ws, y6, y10, y12, rfl, s17, z17, f17, hw17⟩ := hP
              rw [List.getElem?_map] at hj
              obtain ⟨h, hh, rfl⟩ := Option.map_eq_some_iff.mp hj
              have hjl := (List.getElem?_eq_some_iff.mp hh).1
              obtain ⟨t, hp, hbt, ht6, hv⟩ := hper h ((hzm h).mp (List.mem_of_getElem? hh))
              refine ⟨_, rfl, by show 1 ≤ sizeLine; decide, fun lr hlr => ?_⟩
              have s18 := same_new (o := .lst [.str h]) hlr
              have l18 : (upd H17 lr (.lst [.str h])) lr = some (.lst ((lstO f h 1).map V.str)) := upd_same
              have z18 := s18 _ _ z17
              have f18 := s18 _ _ f17
              have w18 := hw17.imm s18.imm
              have nlrz := (ne_of_none z17 hlr).symm
              have nlrd := (ne_of_none f17 hlr).symm
              have sH : H14 lr = none := by
                cases z : H14 lr with
                | none => rfl
                | some o => rw [s17 _ _ z] at hlr; cases hlr
              have s1418 := s17.trans s18
              generalize upd H17 lr (.lst [.str h]) = H18 at *
              have r18 := s1418 _ _ r14
              have d14 := s14 _ _ d9
              refine ⟨_, rfl, _, rfl, pr, .int (t : Nat), rfl, .inl ⟨rk, Sum.inr h, .inl r18, rfl, hv.symm⟩, ?_⟩
              refine tC_to (rI0_to rfl ?_)
              refine ⟨((t : Nat) : Int) - 1, rfl, by omega, by omega, for_range (lo := 0) (n := (((t : Nat) : Int) - 1).toNat) (fun u σ H19 => ∃ (y10 : Option V), σ = [some (.ref a), some (.ref rw), some (.ref ls), some (.ref d), some (.str r), some (.ref b), some (.str h), y7, some (.ref ph), some (.ref pr), y10, some (.ref ld), some (.ref lr), y13, y14] ∧ Same H14 H19 ∧ H19 lz = some (.lst (zs.map V.str)) ∧ H19 ld = some (.lst ws) ∧ WordsAt K H19 ws (((zs.take j).filter (dueB f)).map (rngL f)) ∧ H19 lr = some (.lst ((lstO f h (u + 1)).map V.str))) ⟨_, rfl, s1418, z18, f18, w18, l18⟩ (fun u σ H19 hu19 hP => ?_) (fun σ H19 hP => ?_)⟩
              · clear s1418 z18 f18 w18 l18 r18
                obtain ⟨y10, rfl, s19, z19, f19, w19, l19⟩ := hP
                obtain ⟨xu, hxu, _⟩ := hp.def u
                obtain ⟨yu, hyu, _⟩ := hp.def (u + 1)
                have hfu : f xu = some yu := by
                  have : (orb f h u).bind f = some yu := hyu
                  rw [hxu] at this
                  exact this
                have hll : lstO f h (u + 1) = lstO f h u ++ [xu] := by rw [lstO_snoc, hxu]; rfl
                have hlast : atI ((lstO f h (u + 1)).map V.str) (-1) = some (.str xu) := by
                  rw [hll, List.map_append]
                  exact atI_last ..
                have d19 := s19 _ _ d14
                refine ⟨_, rfl, .inl ⟨rfl, _, SqL.of l19⟩, _, rfl, _, rfl, 1, rfl, lr, _, -1, _, rfl, rfl, SqL.of l19, hlast, b, .str yu, rfl, .inl ⟨kvs, Sum.inr xu, .inr ⟨od, d19⟩, rfl, ?_⟩, ?_⟩
                · rw [hdS.v, hfu]
                  rfl
                have ull := lstO_len f h (u + 1)
                have im : Imm H19 (upd H19 lr (.lst ((lstO f h (u + 1)).map V.str ++ [.str yu]))) := Imm.refl.mut l19 rfl
                refine ⟨lr, _, .str yu, rfl, rfl, l19, sizeLine_of (by rw [List.length_map, ull]; omega), _, rfl, same_mut s19 sH, by rw [upd_ne nlrz.symm]; exact z19, by rw [upd_ne nlrd.symm]; exact f19, w19.imm im, ?_⟩
                rw [upd_same, lstO_snoc f h (u + 1), hyu, List.map_append]
                rfl
              · clear s1418 z18 f18 w18 l18 r18
                obtain ⟨y10, rfl, s19, z19, f19, w19, l19⟩ := hP
                have htt : (((t : Nat) : Int) - 1).toNat + 1 = t := by have := hp.p; omega
                rw [htt] at l19
                have hrg : rngL f h = lstO f h t := by unfold rngL; rw [hbt]; rfl
                rw [← hrg] at l19
                obtain ⟨pa, pas, hpa⟩ : ∃ x xs, rngL f h = x :: xs := by
                  cases e : rngL f h with
                  | nil =>
                    have := lstO_len f h t
                    rw [← hrg, e] at this
                    have := hp.p
                    simp at *
                    omega
                  | cons x xs => exact ⟨x, xs, rfl⟩
                have hmi : minL (rngL f h) = minS pa pas := by rw [hpa]; rfl
                have hrl : (rngL f h).length ≤ 6 := by rw [hrg, lstO_len]; exact ht6
                refine ⟨_, rfl, lr, pa, pas, rfl, by rw [← hpa]; exact SqL.of l19, ?_⟩
                rw [← hmi]
                refine ⟨_, rfl, rEq_to (b := dueB f h) rfl (by rw [str_dec]; rfl) ?_⟩
                refine ⟨_, rfl, ?_⟩
                have etk : zs.take (j + 1) = zs.take j ++ [h] := by rw [List.take_add_one, hh]; rfl
                rw [etk, List.filter_append, List.map_append]
                cases hdb : dueB f h with
                | true =>
                  refine iteT ?_
                  refine ⟨_, rfl, .inl ⟨rfl, _, SqL.of f19⟩, _, rfl, lr, _, rfl, .inl ⟨SqL.of l19, fun u hu' => ?_⟩⟩
                  have s20 := same_new (o := .tup ((rngL f h).map V.str)) hu'
                  have f20 := s20 _ _ f19
                  have im : Imm (upd H19 u (.tup ((rngL f h).map V.str))) (upd (upd H19 u (.tup ((rngL f h).map V.str))) ld (.lst (ws ++ [.ref u]))) := Imm.refl.mut f20 rfl
                  have hwl := w19.1
                  rw [List.length_map] at hwl
                  have hfl := List.length_filter_le (dueB f) (zs.take j)
                  have htk := List.length_take_le j zs
                  refine ⟨ld, _, .ref u, rfl, rfl, f20, sizeLine_of (by omega), ws ++ [.ref u], _, _, _, rfl, same_mut (s19.trans s20) hld, by rw [upd_ne nlz]; exact s20 _ _ z19, upd_same, ?_⟩
                  rw [List.filter_cons, if_pos hdb, List.filter_nil]
                  exact ((w19.imm s20.imm).imm im).snoc (SqT.of (im _ _ upd_same rfl))
                | false =>
                  refine iteF ⟨ws, _, _, _, rfl, s19, z19, f19, ?_⟩
                  rw [List.filter_cons, if_neg (by rw [hdb]; exact Bool.false_ne_true), List.filter_nil, List.map_nil, List.append_nil]
                  exact w19
            · clear s16 z16 f16 s15 f15 r15
              obtain ⟨ws, y6, y10, y12, rfl, s17, z17, f17, hw17⟩ := hP
              rw [List.length_map, List.take_length] at hw17
              have h6 : n6.length ≤ 6 := by decide
              have h7 : n6.length ≤ 7 := by decide
              have s517 := (s59.trans s14).trans s17
              have D17 := D5.imm s517.imm
              have e17 := s517 _ _ e5
              have x17 := x5.imm s517.imm
              have d17 := s17 _ _ (s14 _ _ d9)
              have hl16 : cs.length ≤ 16 := by omega
              have hDL : ∀ ws ∈ (zs.filter (dueB f)).map (rngL f), ∀ x ∈ ws, x ∈ n6 := fun ws hws x hx => by
                obtain ⟨h, hh, rfl⟩ := List.mem_map.mp hws
                obtain ⟨y, hy⟩ := (rng_cyc hfew h7 ((hzm h).mp (List.mem_filter.mp hh).1) hx).step
                exact hfew x y hy
              refine ⟨_, rfl, _, rfl, d, cs, r, rfl, D17, hl16, hr3, fun q xs2 ys2 H18 s18 e18 hn2 hst2 hm2 hw2 => ?_⟩
              have hB : ∀ h, h ∈ heads cs ∧ ringB cs r h = true ↔ h ∈ zs ∧ dueB f h = true := fun h => by
                have hrp := ring_per (cs := cs) (r := r) (h := h) hl16
                rw [hf] at hrp
                unfold ringB
                rw [Bool.and_eq_true, Bool.and_eq_true, decide_eq_true_eq, decide_eq_true_eq, decide_eq_true_eq, hzm]
                constructor
                · rintro ⟨_, g1, g2, g3⟩
                  have c := hrp.mp ⟨g1, g2⟩
                  obtain ⟨t, p, e⟩ := rng_per hfew h7 c
                  have p2 : Per (stp cs r) h t := by rw [hf]; exact p
                  have ha := ring_list hl16 p2
                  rw [hf] at ha
                  refine ⟨c, ?_⟩
                  unfold dueB
                  rw [e, ← ha]
                  exact decide_eq_true g3.symm
                · rintro ⟨c, g⟩
                  obtain ⟨y, hy⟩ := c.step
                  obtain ⟨g1, g2⟩ := hrp.mpr c
                  obtain ⟨t, p, e⟩ := rng_per hfew h7 c
                  have p2 : Per (stp cs r) h t := by rw [hf]; exact p
                  have ha := ring_list hl16 p2
                  rw [hf] at ha
                  unfold dueB at g
                  rw [e, ← ha] at g
                  exact ⟨stp_head (by rw [hf]; exact hy), g1, g2, (of_decide_eq_true g).symm⟩
              have hfz : ys2.filter (ringB cs r) = zs.filter (dueB f) := by
                refine List.Perm.eq_of_pairwise (fun _ _ _ _ a b => leL_anti a b) ((sorted_pw hst2).sublist List.filter_sublist) ((sorted_pw hzst).sublist List.filter_sublist) ((List.perm_ext_iff_of_nodup (hn2.sublist List.filter_sublist) (hzn.sublist List.filter_sublist)).mpr fun h => ?_)
                rw [List.mem_filter, List.mem_filter, hm2]
                exact hB h
              have hDL2 : (ys2.filter (ringB cs r)).map (fun h => (tripOf cs r h).asked) = (zs.filter (dueB f)).map (rngL f) := by
                rw [hfz]
                refine List.map_congr_left fun h hh => ?_
                have c := (hzm h).mp (List.mem_filter.mp hh).1
                obtain ⟨t, p, e⟩ := rng_per hfew h7 c
                have p2 : Per (stp cs r) h t := by rw [hf]; exact p
                have ha := ring_list hl16 p2
                rw [hf] at ha
                rw [ha, e]
              rw [hDL2] at hw2
              have f18 := s18 _ _ f17
              have w18 := hw17.imm s18.imm
              have hmemb : ∀ x, x ∈ ((zs.filter (dueB f)).map (rngL f)).flatten ↔ Cyc f x := fun x => by
                rw [List.mem_flatten]
                constructor
                · rintro ⟨ws, hws, hx⟩
                  obtain ⟨h, hh, rfl⟩ := List.mem_map.mp hws
                  exact rng_cyc hfew h7 ((hzm h).mp (List.mem_filter.mp hh).1) hx
                · intro c
                  obtain ⟨h, ch, hd, hx⟩ := rng_due hfew h7 c
                  exact ⟨_, List.mem_map.mpr ⟨h, List.mem_filter.mpr ⟨(hzm h).mpr ch, hd⟩, rfl⟩, hx⟩
              have hDll : ((zs.filter (dueB f)).map (rngL f)).length ≤ 6 := by
                rw [List.length_map]
                exact Nat.le_trans (List.length_filter_le ..) hzl
              have hDl6 : ∀ ws ∈ (zs.filter (dueB f)).map (rngL f), ws.length ≤ 6 := fun ws hws => by
                obtain ⟨h, hh, rfl⟩ := List.mem_map.mp hws
                obtain ⟨t, p, e⟩ := rng_per hfew h7 ((hzm h).mp (List.mem_filter.mp hh).1)
                rw [e, lstO_len]
                exact Nat.le_trans (p.le hfew) h6
              generalize (zs.filter (dueB f)).map (rngL f) = DL at *
              refine ⟨_, rfl, rNeD_self (.lst (SqL.of e18) (dp_words hw2)) (.lst (SqL.of f18) (dp_words w18)) (sh_words fun ws hws x hx => n6_ok x (hDL ws hws x hx)) ⟨_, rfl, iteF ?_⟩⟩
              have s518 := s517.trans s18
              have d18 := s18 _ _ d17
              have e18l := s518 _ _ e5
              have x18 := x5.imm s518.imm
              have D18 := D5.imm s518.imm
              clear s17 z17 f17 hw17 s517 D17 e17 x17 d17 hw2 e18
              refine ⟨Nat.zero_le _, fun lm hlm => ?_⟩
              have s19 := same_new (o := .lst []) hlm
              have m19 : (upd H18 lm (.lst [])) lm = some (.lst []) := upd_same
              have hwl := w18.1
              refine ⟨_, rfl, ld, rfl, ⟨_, SqL.of (s19 _ _ f18)⟩, for_list (K := K) (a := ld) (xs := ws) (fun j σ H20 => ∃ (lm : Addr) (y12 : Option V), σ = [some (.ref a), some (.ref rw), some (.ref ls), some (.ref d), some (.str r), some (.ref b), y6, y7, some (.ref ph), some (.ref pr), y10, some (.ref ld), y12, some (.ref lm), y14] ∧ Same H18 H20 ∧ H20 lm = some (.lst ((DL.take j).flatten.map V.str))) ⟨lm, _, rfl, s19, m19⟩ (fun j σ H20 _ ⟨_, _, _, s, _⟩ => SqL.of (s _ _ f18)) (fun j x σ H20 hj hP => ?_) (fun σ H20 hP => ?_)⟩
              · clear s19 m19 hlm lm
                obtain ⟨lm, y12, rfl, s20, m20⟩ := hP
                have hjl := (List.getElem?_eq_some_iff.mp hj).1
                have hDj : DL[j]? = some DL[j] := List.getElem?_eq_getElem (by omega)
                obtain ⟨t, rfl, ht⟩ := w18.2 j x _ hj hDj
                have ht20 := s20.seqT ht
                have hlen : (DL.take j).flatten.length ≤ 6 * 6 := by
                  have q : ∀ l : List (List Str), (∀ ws ∈ l, ws.length ≤ 6) → l.flatten.length ≤ 6 * l.length := fun l => by
                    induction l with
                    | nil => exact fun _ => Nat.zero_le _
                    | cons v l ih =>
                      intro h
                      have g1 := h v (.head _)
                      have g2 := ih fun w hw => h w (.tail _ hw)
                      rw [List.flatten_cons, List.length_append, List.length_cons]
                      omega
                  have g := q (DL.take j) fun v hv => hDl6 v (List.mem_of_mem_take hv)
                  rw [List.length_take] at g
                  omega
                have hl2 := hDl6 _ (List.getElem_mem (show j < DL.length by omega))
                refine ⟨_, rfl, _, rfl, t, _, rfl, .inr ht20, fun lg hlg => ?_⟩
                have s21 := same_new (o := .lst (DL[j].map V.str)) hlg
                refine ⟨lm, lg, _, _, rfl, rfl, s21 _ _ m20, upd_same, Nat.le_of_lt (sizeLine_of (by rw [List.length_map, List.length_map]; omega)), fun lo hlo => ?_⟩
                refine ⟨lo, _, rfl, (s20.trans s21).trans (same_new hlo), ?_⟩
                rw [upd_same, List.take_add_one, hDj, List.flatten_append, List.map_append]
                show some (HO.lst (_ ++ _)) = some (HO.lst (_ ++ ([DL[j]].flatten).map V.str))
                rw [List.flatten_cons, List.flatten_nil, List.append_nil]
              · clear s19 m19 hlm lm
                obtain ⟨lm, y12, rfl, s20, m20⟩ := hP
                rw [hwl, List.take_length] at m20
                have e20 := s20 _ _ e18l
                have x20 := x18.imm s20.imm
                have hme : ∀ x ∈ DL.flatten, x ∈ n6 := fun x hx => by
                  obtain ⟨v, hv, hx⟩ := List.mem_flatten.mp hx
                  exact hDL v hv x hx
                refine ⟨_, rfl, ls, xs, cs, rfl, SqL.of e20, x20, by have := known_few hg; omega, fun ks hk1 hk2 => ?_, fun kl2 H21 ys3 hnd3 hst3 hmem3 s21 nkl3 ekl3 => ⟨kl2, rfl, ⟨_, SqL.of ekl3⟩, ?_⟩⟩
                · have := nodup_le (ws := n6) hk1 fun x hx => known_n6 hg x ((hk2 x).mp hx)
                  omega
                have m21 := s21 _ _ m20
                have s1821 := s20.trans s21
                refine for_list (K := K) (a := kl2) (xs := ys3.map V.str) (fun j σ H22 => ∃ (y6 y10 y14 : Option V), σ = [some (.ref a), some (.ref rw), some (.ref ls), some (.ref d), some (.str r), some (.ref b), y6, y7, some (.ref ph), some (.ref pr), y10, some (.ref ld), y12, some (.ref lm), y14] ∧ Same H21 H22) ⟨_, _, _, rfl, Same.refl _⟩ (fun j σ H22 _ ⟨_, _, _, _, s⟩ => SqL.of (s _ _ ekl3)) (fun j x σ H22 hj hP => ?_) (fun σ H22 hP => ?_)
                · obtain ⟨y6, y10, y14, rfl, s22⟩ := hP
                  rw [List.getElem?_map] at hj
                  obtain ⟨h, hh, rfl⟩ := Option.map_eq_some_iff.mp hj
                  have hh6 := known_n6 hg h ((hmem3 h).mp (List.mem_of_getElem? hh))
                  refine ⟨_, rfl, ?_⟩
                  refine ⟨9, rfl, by decide, by decide, for_range (lo := 0) (n := 9) (fun u σ H23 => ∃ (y10 : Option V), σ = [some (.ref a), some (.ref rw), some (.ref ls), some (.ref d), some (.str r), some (.ref b), some (.str h), y7, some (.ref ph), some (.ref pr), y10, some (.ref ld), y12, some (.ref lm), some (.str (spt f h u))] ∧ Same H21 H23) ⟨_, rfl, s22⟩ (fun u σ H23 hu23 hP => ?_) (fun σ H23 hP => ?_)⟩
                  · obtain ⟨y10, rfl, s23⟩ := hP
                    have d23 := s23 _ _ (s1821 _ _ d18)
                    refine ⟨_, rfl, b, rfl, .inl ⟨_, .inr ⟨od, d23⟩⟩, _, rfl, _, rfl, (f (spt f h u)).map V.str, .inl ⟨kvs, Sum.inr (spt f h u), .inr ⟨od, d23⟩, rfl, (hdS.v _).symm⟩, ?_⟩
                    have ev : ((f (spt f h u)).map V.str).getD (V.str (spt f h u)) = V.str (spt f h (u + 1)) := by
                      show _ = V.str ((f (spt f h u)).getD (spt f h u))
                      cases f (spt f h u) <;> rfl
                    rw [ev]
                    exact ⟨_, rfl, s23⟩
                  · obtain ⟨y10, rfl, s23⟩ := hP
                    have s1823 := s1821.trans s23
                    refine ⟨_, rfl, _, rfl, _, rfl, d, cs, r, h, rfl, D18.imm s1823.imm, hl16, hr3, n6_word h hh6, fun u H24 s24 hW => ?_⟩
                    obtain ⟨pf, hu24, _⟩ := hW
                    have m24 := s24 _ _ (s23 _ _ m21)
                    have hri := ring_on (cs := cs) (r := r) (h := h) hl16
                    rw [hf] at hri
                    have hsp := spt_far hfew h6 h
                    have hbb : decide ((tripOf cs r h).word = "ring") = decide (spt f h 9 ∈ DL.flatten) := decide_eq_decide.mpr (hri.trans (hsp.symm.trans (hmemb _).symm))
                    refine ⟨u, _, 0, .str (tripOf cs r h).word, rfl, rfl, hu24, rfl, ?_⟩
                    refine tC_to (rEq_to (b := decide ((tripOf cs r h).word = "ring")) rfl (by rw [str_dec]) ?_)
                    refine ⟨_, rfl, _, rfl, lm, _, rfl, .inl (SqL.of m24), rfl, flat_strs _, ?_⟩
                    show rNe (V.bl _) (V.bl (inV (V.str (spt f h 9)) (DL.flatten.map V.str))) _ _
                    rw [mem_dec, hbb]
                    refine rNe_to (b := false) rfl (by rw [decide_eq_true rfl]; rfl) ?_
                    exact ⟨_, rfl, iteF ⟨_, _, _, rfl, s23.trans s24⟩⟩
                · obtain ⟨y6, y10, y14, rfl, s22⟩ := hP
                  exact ⟨_, _, _, _, _, _, _, _, _, _, _, rfl, s5.trans ((s518.trans s1821).trans s22)⟩
    · exact k _
end
end
end My
namespace My
open PySem L2
theorem all_mk {l : PySem.W.OpenLaw} {w : World} {K : PySem.W.Frag} {h : Heap} {mg : Str → Option Value} {fa : Addr}
    {t_LETTERS : Tok} {t_LONGEST_WORD : Tok} {t_MOST_CARDS : Tok} {t_MOST_BOOKS : Tok} {t_LAST_BOOK : Tok} {t_MOST_ALSO : Tok} {at_RULES : Addr} {od_RULES : Option Addr} {on_RULES : Nat} {os_RULES : Array (Option Value)} {ok_RULES_0 : Tok} {ok_RULES_1 : Tok} {ok_RULES_2 : Tok} {f_is_word : Addr} {oc_is_word : Value} {od_is_word : Option Addr} {an_is_word : Option Addr} {sl_is_word : Array (Option Value)} {kV_is_word : Value} {dc_is_word : Value} {pm_is_word : Value} {cd_is_word : Value} {ct_is_word : Value} {f_is_number : Addr} {oc_is_number : Value} {od_is_number : Option Addr} {an_is_number : Option Addr} {sl_is_number : Array (Option Value)} {kV_is_number : Value} {dc_is_number : Value} {pm_is_number : Value} {cd_is_number : Value} {ct_is_number : Value} {f_check_rule : Addr} {oc_check_rule : Value} {od_check_rule : Option Addr} {an_check_rule : Option Addr} {sl_check_rule : Array (Option Value)} {kV_check_rule : Value} {dc_check_rule : Value} {pm_check_rule : Value} {cd_check_rule : Value} {ct_check_rule : Value} {f_check_heading : Addr} {oc_check_heading : Value} {od_check_heading : Option Addr} {an_check_heading : Option Addr} {sl_check_heading : Array (Option Value)} {kV_check_heading : Value} {dc_check_heading : Value} {pm_check_heading : Value} {cd_check_heading : Value} {ct_check_heading : Value} {f_check_place : Addr} {oc_check_place : Value} {od_check_place : Option Addr} {an_check_place : Option Addr} {sl_check_place : Array (Option Value)} {kV_check_place : Value} {dc_check_place : Value} {pm_check_place : Value} {cd_check_place : Value} {ct_check_place : Value} {f_Drawer_init : Addr} {oc_Drawer_init : Value} {od_Drawer_init : Option Addr} {an_Drawer_init : Option Addr} {sl_Drawer_init : Array (Option Value)} {kV_Drawer_init : Value} {dc_Drawer_init : Value} {pm_Drawer_init : Value} {cd_Drawer_init : Value} {ct_Drawer_init : Value} {f_Drawer_cards : Addr} {oc_Drawer_cards : Value} {od_Drawer_cards : Option Addr} {an_Drawer_cards : Option Addr} {sl_Drawer_cards : Array (Option Value)} {kV_Drawer_cards : Value} {dc_Drawer_cards : Value} {pm_Drawer_cards : Value} {cd_Drawer_cards : Value} {ct_Drawer_cards : Value} {f_Drawer_headings : Addr} {oc_Drawer_headings : Value} {od_Drawer_headings : Option Addr} {an_Drawer_headings : Option Addr} {sl_Drawer_headings : Array (Option Value)} {kV_Drawer_headings : Value} {dc_Drawer_headings : Value} {pm_Drawer_headings : Value} {cd_Drawer_headings : Value} {ct_Drawer_headings : Value} {f_Drawer_getitem : Addr} {oc_Drawer_getitem : Value} {od_Drawer_getitem : Option Addr} {an_Drawer_getitem : Option Addr} {sl_Drawer_getitem : Array (Option Value)} {kV_Drawer_getitem : Value} {dc_Drawer_getitem : Value} {pm_Drawer_getitem : Value} {cd_Drawer_getitem : Value} {ct_Drawer_getitem : Value} {f_headings_along : Addr} {oc_headings_along : Value} {od_headings_along : Option Addr} {an_headings_along : Option Addr} {sl_headings_along : Array (Option Value)} {kV_headings_along : Value} {dc_headings_along : Value} {pm_headings_along : Value} {cd_headings_along : Value} {ct_headings_along : Value} {f_seek_along : Addr} {oc_seek_along : Value} {od_seek_along : Option Addr} {an_seek_along : Option Addr} {sl_seek_along : Array (Option Value)} {kV_seek_along : Value} {dc_seek_along : Value} {pm_seek_along : Value} {cd_seek_along : Value} {ct_seek_along : Value} {f_seek_by_halves : Addr} {oc_seek_by_halves : Value} {od_seek_by_halves : Option Addr} {an_seek_by_halves : Option Addr} {sl_seek_by_halves : Array (Option Value)} {kV_seek_by_halves : Value} {dc_seek_by_halves : Value} {pm_seek_by_halves : Value} {cd_seek_by_halves : Value} {ct_seek_by_halves : Value} {f_seek : Addr} {oc_seek : Value} {od_seek : Option Addr} {an_seek : Option Addr} {sl_seek : Array (Option Value)} {kV_seek : Value} {dc_seek : Value} {pm_seek : Value} {cd_seek : Value} {ct_seek : Value} {f_Trip_init : Addr} {oc_Trip_init : Value} {od_Trip_init : Option Addr} {an_Trip_init : Option Addr} {sl_Trip_init : Array (Option Value)} {kV_Trip_init : Value} {dc_Trip_init : Value} {pm_Trip_init : Value} {cd_Trip_init : Value} {ct_Trip_init : Value} {f_travel : Addr} {oc_travel : Value} {od_travel : Option Addr} {an_travel : Option Addr} {sl_travel : Array (Option Value)} {kV_travel : Value} {dc_travel : Value} {pm_travel : Value} {cd_travel : Value} {ct_travel : Value} {f_walk : Addr} {oc_walk : Value} {od_walk : Option Addr} {an_walk : Option Addr} {sl_walk : Array (Option Value)} {kV_walk : Value} {dc_walk : Value} {pm_walk : Value} {cd_walk : Value} {ct_walk : Value} {f_see_rings : Addr} {oc_see_rings : Value} {od_see_rings : Option Addr} {an_see_rings : Option Addr} {sl_see_rings : Array (Option Value)} {kV_see_rings : Value} {dc_see_rings : Value} {pm_see_rings : Value} {cd_see_rings : Value} {ct_see_rings : Value} {f_are_books : Addr} {oc_are_books : Value} {od_are_books : Option Addr} {an_are_books : Option Addr} {sl_are_books : Array (Option Value)} {kV_are_books : Value} {dc_are_books : Value} {pm_are_books : Value} {cd_are_books : Value} {ct_are_books : Value} {f_is_target : Addr} {oc_is_target : Value} {od_is_target : Option Addr} {an_is_target : Option Addr} {sl_is_target : Array (Option Value)} {kV_is_target : Value} {dc_is_target : Value} {pm_is_target : Value} {cd_is_target : Value} {ct_is_target : Value} {f_are_further : Addr} {oc_are_further : Value} {od_are_further : Option Addr} {an_are_further : Option Addr} {sl_are_further : Array (Option Value)} {kV_are_further : Value} {dc_are_further : Value} {pm_are_further : Value} {cd_are_further : Value} {ct_are_further : Value} {f_wrong_part : Addr} {oc_wrong_part : Value} {od_wrong_part : Option Addr} {an_wrong_part : Option Addr} {sl_wrong_part : Array (Option Value)} {kV_wrong_part : Value} {dc_wrong_part : Value} {pm_wrong_part : Value} {cd_wrong_part : Value} {ct_wrong_part : Value} {f_Card_init : Addr} {de_Card_init_0 : Addr} {de_Card_init_2 : Addr} {oc_Card_init : Value} {od_Card_init : Option Addr} {an_Card_init : Option Addr} {sl_Card_init : Array (Option Value)} {kV_Card_init : Value} {dc_Card_init : Value} {pm_Card_init : Value} {cd_Card_init : Value} {ct_Card_init : Value} {dT_Card_init : Addr} {dc0_Card_init : Value} {dd_Card_init : Option Addr} {dn_Card_init : Nat} {ds_Card_init : Array (Option Value)} {du_Card_init_1 : Tok} {f_Card_heading : Addr} {oc_Card_heading : Value} {od_Card_heading : Option Addr} {an_Card_heading : Option Addr} {sl_Card_heading : Array (Option Value)} {kV_Card_heading : Value} {dc_Card_heading : Value} {pm_Card_heading : Value} {cd_Card_heading : Value} {ct_Card_heading : Value} {f_Card_see : Addr} {oc_Card_see : Value} {od_Card_see : Option Addr} {an_Card_see : Option Addr} {sl_Card_see : Array (Option Value)} {kV_Card_see : Value} {dc_Card_see : Value} {pm_Card_see : Value} {cd_Card_see : Value} {ct_Card_see : Value} {f_Card_leads : Addr} {oc_Card_leads : Value} {od_Card_leads : Option Addr} {an_Card_leads : Option Addr} {sl_Card_leads : Array (Option Value)} {kV_Card_leads : Value} {dc_Card_leads : Value} {pm_Card_leads : Value} {cd_Card_leads : Value} {ct_Card_leads : Value} {f_llaw_taken : Addr} {oc_llaw_taken : Value} {od_llaw_taken : Option Addr} {an_llaw_taken : Option Addr} {sl_llaw_taken : Array (Option Value)} {kV_llaw_taken : Value} {dc_llaw_taken : Value} {pm_llaw_taken : Value} {cd_llaw_taken : Value} {ct_llaw_taken : Value} {f_llaw_pick : Addr} {oc_llaw_pick : Value} {od_llaw_pick : Option Addr} {an_llaw_pick : Option Addr} {sl_llaw_pick : Array (Option Value)} {kV_llaw_pick : Value} {dc_llaw_pick : Value} {pm_llaw_pick : Value} {cd_llaw_pick : Value} {ct_llaw_pick : Value} {f_llaw_drawer : Addr} {oc_llaw_drawer : Value} {od_llaw_drawer : Option Addr} {an_llaw_drawer : Option Addr} {sl_llaw_drawer : Array (Option Value)} {kV_llaw_drawer : Value} {dc_llaw_drawer : Value} {pm_llaw_drawer : Value} {cd_llaw_drawer : Value} {ct_llaw_drawer : Value} {f_llaw_looked : Addr} {oc_llaw_looked : Value} {od_llaw_looked : Option Addr} {an_llaw_looked : Option Addr} {sl_llaw_looked : Array (Option Value)} {kV_llaw_looked : Value} {dc_llaw_looked : Value} {pm_llaw_looked : Value} {cd_llaw_looked : Value} {ct_llaw_looked : Value} {f_llaw_known : Addr} {oc_llaw_known : Value} {od_llaw_known : Option Addr} {an_llaw_known : Option Addr} {sl_llaw_known : Array (Option Value)} {kV_llaw_known : Value} {dc_llaw_known : Value} {pm_llaw_known : Value} {cd_llaw_known : Value} {ct_llaw_known : Value} {f_llaw_seeing : Addr} {oc_llaw_seeing : Value} {od_llaw_seeing : Option Addr} {an_llaw_seeing : Option Addr} {sl_llaw_seeing : Array (Option Value)} {kV_llaw_seeing : Value} {dc_llaw_seeing : Value} {pm_llaw_seeing : Value} {cd_llaw_seeing : Value} {ct_llaw_seeing : Value} {f_law : Addr} {oc_law : Value} {od_law : Option Addr} {an_law : Option Addr} {sl_law : Array (Option Value)} {kV_law : Value} {dc_law : Value} {pm_law : Value} {cd_law : Value} {ct_law : Value} {C_Drawer : Addr} {pr_Drawer_cards : Addr} {ps_Drawer_cards : List Value} {pr_Drawer_headings : Addr} {ps_Drawer_headings : List Value} {C_Trip : Addr} {C_Card : Addr} {pr_Card_heading : Addr} {ps_Card_heading : List Value} {pr_Card_see : Addr} {ps_Card_see : List Value} {pr_Card_leads : Addr} {ps_Card_leads : List Value}
    (X : K.In h) (G : h.Ns mainGlobals mg) (hfa : mg "law" = some (.ref fa))
    (z_all : PySem.W.nsIn K mainGlobals "all" = some none)
    (z_bool : PySem.W.nsIn K mainGlobals "bool" = some none)
    (z_dict : PySem.W.nsIn K mainGlobals "dict" = some none)
    (z_enumerate : PySem.W.nsIn K mainGlobals "enumerate" = some none)
    (z_int : PySem.W.nsIn K mainGlobals "int" = some none)
    (z_isinstance : PySem.W.nsIn K mainGlobals "isinstance" = some none)
    (z_len : PySem.W.nsIn K mainGlobals "len" = some none)
    (z_list : PySem.W.nsIn K mainGlobals "list" = some none)
    (z_min : PySem.W.nsIn K mainGlobals "min" = some none)
    (z_range : PySem.W.nsIn K mainGlobals "range" = some none)
    (z_set : PySem.W.nsIn K mainGlobals "set" = some none)
    (z_sorted : PySem.W.nsIn K mainGlobals "sorted" = some none)
    (z_str : PySem.W.nsIn K mainGlobals "str" = some none)
    (z_tuple : PySem.W.nsIn K mainGlobals "tuple" = some none)
    (z_zip : PySem.W.nsIn K mainGlobals "zip" = some none)
    (zc_LETTERS : PySem.W.nsIn K mainGlobals "LETTERS" = some (some (.str "abcdefghijklmnopqrstuvwxyz" t_LETTERS)))
    (zc_LONGEST_WORD : PySem.W.nsIn K mainGlobals "LONGEST_WORD" = some (some (.int (8) t_LONGEST_WORD)))
    (zc_MOST_CARDS : PySem.W.nsIn K mainGlobals "MOST_CARDS" = some (some (.int (16) t_MOST_CARDS)))
    (zc_MOST_BOOKS : PySem.W.nsIn K mainGlobals "MOST_BOOKS" = some (some (.int (6) t_MOST_BOOKS)))
    (zc_LAST_BOOK : PySem.W.nsIn K mainGlobals "LAST_BOOK" = some (some (.int (999) t_LAST_BOOK)))
    (zc_MOST_ALSO : PySem.W.nsIn K mainGlobals "MOST_ALSO" = some (some (.int (4) t_MOST_ALSO)))
    (zc_RULES : PySem.W.nsIn K mainGlobals "RULES" = some (some (.ref at_RULES)))
    (ht_RULES : K.lookup at_RULES = some ⟨.type "tuple", od_RULES, .seq #[.str "all" ok_RULES_0, .str "leaf" ok_RULES_1, .str "half" ok_RULES_2] on_RULES, os_RULES⟩)
    (l_is_word : K.lookup f_is_word = some ⟨oc_is_word, od_is_word, .func (PySem.W.fnOf "is_word" "is_word" (defArgs s_is_word) (defBody s_is_word) (defScope s_is_word) .none kV_is_word dc_is_word pm_is_word an_is_word cd_is_word ct_is_word), sl_is_word⟩)
    (c_is_word : PySem.W.codeIn K cd_is_word "is_word" = true)
    (k_is_word : PySem.W.keepIn K (.ref f_is_word) = true)
    (n_is_word : PySem.W.nsIn K mainGlobals "is_word" = some (some (.ref f_is_word)))
    (l_is_number : K.lookup f_is_number = some ⟨oc_is_number, od_is_number, .func (PySem.W.fnOf "is_number" "is_number" (defArgs s_is_number) (defBody s_is_number) (defScope s_is_number) .none kV_is_number dc_is_number pm_is_number an_is_number cd_is_number ct_is_number), sl_is_number⟩)
    (c_is_number : PySem.W.codeIn K cd_is_number "is_number" = true)
    (k_is_number : PySem.W.keepIn K (.ref f_is_number) = true)
    (n_is_number : PySem.W.nsIn K mainGlobals "is_number" = some (some (.ref f_is_number)))
    (l_check_rule : K.lookup f_check_rule = some ⟨oc_check_rule, od_check_rule, .func (PySem.W.fnOf "check_rule" "check_rule" (defArgs s_check_rule) (defBody s_check_rule) (defScope s_check_rule) .none kV_check_rule dc_check_rule pm_check_rule an_check_rule cd_check_rule ct_check_rule), sl_check_rule⟩)
    (c_check_rule : PySem.W.codeIn K cd_check_rule "check_rule" = true)
    (k_check_rule : PySem.W.keepIn K (.ref f_check_rule) = true)
    (n_check_rule : PySem.W.nsIn K mainGlobals "check_rule" = some (some (.ref f_check_rule)))
    (l_check_heading : K.lookup f_check_heading = some ⟨oc_check_heading, od_check_heading, .func (PySem.W.fnOf "check_heading" "check_heading" (defArgs s_check_heading) (defBody s_check_heading) (defScope s_check_heading) .none kV_check_heading dc_check_heading pm_check_heading an_check_heading cd_check_heading ct_check_heading), sl_check_heading⟩)
    (c_check_heading : PySem.W.codeIn K cd_check_heading "check_heading" = true)
    (k_check_heading : PySem.W.keepIn K (.ref f_check_heading) = true)
    (n_check_heading : PySem.W.nsIn K mainGlobals "check_heading" = some (some (.ref f_check_heading)))
    (l_check_place : K.lookup f_check_place = some ⟨oc_check_place, od_check_place, .func (PySem.W.fnOf "check_place" "check_place" (defArgs s_check_place) (defBody s_check_place) (defScope s_check_place) .none kV_check_place dc_check_place pm_check_place an_check_place cd_check_place ct_check_place), sl_check_place⟩)
    (c_check_place : PySem.W.codeIn K cd_check_place "check_place" = true)
    (k_check_place : PySem.W.keepIn K (.ref f_check_place) = true)
    (n_check_place : PySem.W.nsIn K mainGlobals "check_place" = some (some (.ref f_check_place)))
    (l_Drawer_init : K.lookup f_Drawer_init = some ⟨oc_Drawer_init, od_Drawer_init, .func (PySem.W.fnOf "__init__" "Drawer.__init__" (defArgs s_Drawer_init) (defBody s_Drawer_init) (defScope s_Drawer_init) .none kV_Drawer_init dc_Drawer_init pm_Drawer_init an_Drawer_init cd_Drawer_init ct_Drawer_init), sl_Drawer_init⟩)
    (c_Drawer_init : PySem.W.codeIn K cd_Drawer_init "Drawer.__init__" = true)
    (k_Drawer_init : PySem.W.keepIn K (.ref f_Drawer_init) = true)
    (l_Drawer_cards : K.lookup f_Drawer_cards = some ⟨oc_Drawer_cards, od_Drawer_cards, .func (PySem.W.fnOf "cards" "Drawer.cards" (defArgs s_Drawer_cards) (defBody s_Drawer_cards) (defScope s_Drawer_cards) .none kV_Drawer_cards dc_Drawer_cards pm_Drawer_cards an_Drawer_cards cd_Drawer_cards ct_Drawer_cards), sl_Drawer_cards⟩)
    (c_Drawer_cards : PySem.W.codeIn K cd_Drawer_cards "Drawer.cards" = true)
    (k_Drawer_cards : PySem.W.keepIn K (.ref f_Drawer_cards) = true)
    (l_Drawer_headings : K.lookup f_Drawer_headings = some ⟨oc_Drawer_headings, od_Drawer_headings, .func (PySem.W.fnOf "headings" "Drawer.headings" (defArgs s_Drawer_headings) (defBody s_Drawer_headings) (defScope s_Drawer_headings) .none kV_Drawer_headings dc_Drawer_headings pm_Drawer_headings an_Drawer_headings cd_Drawer_headings ct_Drawer_headings), sl_Drawer_headings⟩)
    (c_Drawer_headings : PySem.W.codeIn K cd_Drawer_headings "Drawer.headings" = true)
    (k_Drawer_headings : PySem.W.keepIn K (.ref f_Drawer_headings) = true)
    (l_Drawer_getitem : K.lookup f_Drawer_getitem = some ⟨oc_Drawer_getitem, od_Drawer_getitem, .func (PySem.W.fnOf "__getitem__" "Drawer.__getitem__" (defArgs s_Drawer_getitem) (defBody s_Drawer_getitem) (defScope s_Drawer_getitem) .none kV_Drawer_getitem dc_Drawer_getitem pm_Drawer_getitem an_Drawer_getitem cd_Drawer_getitem ct_Drawer_getitem), sl_Drawer_getitem⟩)
    (c_Drawer_getitem : PySem.W.codeIn K cd_Drawer_getitem "Drawer.__getitem__" = true)
    (k_Drawer_getitem : PySem.W.keepIn K (.ref f_Drawer_getitem) = true)
    (l_headings_along : K.lookup f_headings_along = some ⟨oc_headings_along, od_headings_along, .func (PySem.W.fnOf "headings_along" "headings_along" (defArgs s_headings_along) (defBody s_headings_along) (defScope s_headings_along) .none kV_headings_along dc_headings_along pm_headings_along an_headings_along cd_headings_along ct_headings_along), sl_headings_along⟩)
    (c_headings_along : PySem.W.codeIn K cd_headings_along "headings_along" = true)
    (k_headings_along : PySem.W.keepIn K (.ref f_headings_along) = true)
    (n_headings_along : PySem.W.nsIn K mainGlobals "headings_along" = some (some (.ref f_headings_along)))
    (l_seek_along : K.lookup f_seek_along = some ⟨oc_seek_along, od_seek_along, .func (PySem.W.fnOf "seek_along" "seek_along" (defArgs s_seek_along) (defBody s_seek_along) (defScope s_seek_along) .none kV_seek_along dc_seek_along pm_seek_along an_seek_along cd_seek_along ct_seek_along), sl_seek_along⟩)
    (c_seek_along : PySem.W.codeIn K cd_seek_along "seek_along" = true)
    (k_seek_along : PySem.W.keepIn K (.ref f_seek_along) = true)
    (n_seek_along : PySem.W.nsIn K mainGlobals "seek_along" = some (some (.ref f_seek_along)))
    (l_seek_by_halves : K.lookup f_seek_by_halves = some ⟨oc_seek_by_halves, od_seek_by_halves, .func (PySem.W.fnOf "seek_by_halves" "seek_by_halves" (defArgs s_seek_by_halves) (defBody s_seek_by_halves) (defScope s_seek_by_halves) .none kV_seek_by_halves dc_seek_by_halves pm_seek_by_halves an_seek_by_halves cd_seek_by_halves ct_seek_by_halves), sl_seek_by_halves⟩)
    (c_seek_by_halves : PySem.W.codeIn K cd_seek_by_halves "seek_by_halves" = true)
    (k_seek_by_halves : PySem.W.keepIn K (.ref f_seek_by_halves) = true)
    (n_seek_by_halves : PySem.W.nsIn K mainGlobals "seek_by_halves" = some (some (.ref f_seek_by_halves)))
    (l_seek : K.lookup f_seek = some ⟨oc_seek, od_seek, .func (PySem.W.fnOf "seek" "seek" (defArgs s_seek) (defBody s_seek) (defScope s_seek) .none kV_seek dc_seek pm_seek an_seek cd_seek ct_seek), sl_seek⟩)
    (c_seek : PySem.W.codeIn K cd_seek "seek" = true)
    (k_seek : PySem.W.keepIn K (.ref f_seek) = true)
    (n_seek : PySem.W.nsIn K mainGlobals "seek" = some (some (.ref f_seek)))
    (l_Trip_init : K.lookup f_Trip_init = some ⟨oc_Trip_init, od_Trip_init, .func (PySem.W.fnOf "__init__" "Trip.__init__" (defArgs s_Trip_init) (defBody s_Trip_init) (defScope s_Trip_init) .none kV_Trip_init dc_Trip_init pm_Trip_init an_Trip_init cd_Trip_init ct_Trip_init), sl_Trip_init⟩)
    (c_Trip_init : PySem.W.codeIn K cd_Trip_init "Trip.__init__" = true)
    (k_Trip_init : PySem.W.keepIn K (.ref f_Trip_init) = true)
    (l_travel : K.lookup f_travel = some ⟨oc_travel, od_travel, .func (PySem.W.fnOf "travel" "travel" (defArgs s_travel) (defBody s_travel) (defScope s_travel) .none kV_travel dc_travel pm_travel an_travel cd_travel ct_travel), sl_travel⟩)
    (c_travel : PySem.W.codeIn K cd_travel "travel" = true)
    (k_travel : PySem.W.keepIn K (.ref f_travel) = true)
    (n_travel : PySem.W.nsIn K mainGlobals "travel" = some (some (.ref f_travel)))
    (l_walk : K.lookup f_walk = some ⟨oc_walk, od_walk, .func (PySem.W.fnOf "walk" "walk" (defArgs s_walk) (defBody s_walk) (defScope s_walk) .none kV_walk dc_walk pm_walk an_walk cd_walk ct_walk), sl_walk⟩)
    (c_walk : PySem.W.codeIn K cd_walk "walk" = true)
    (k_walk : PySem.W.keepIn K (.ref f_walk) = true)
    (n_walk : PySem.W.nsIn K mainGlobals "walk" = some (some (.ref f_walk)))
    (l_see_rings : K.lookup f_see_rings = some ⟨oc_see_rings, od_see_rings, .func (PySem.W.fnOf "see_rings" "see_rings" (defArgs s_see_rings) (defBody s_see_rings) (defScope s_see_rings) .none kV_see_rings dc_see_rings pm_see_rings an_see_rings cd_see_rings ct_see_rings), sl_see_rings⟩)
    (c_see_rings : PySem.W.codeIn K cd_see_rings "see_rings" = true)
    (k_see_rings : PySem.W.keepIn K (.ref f_see_rings) = true)
    (n_see_rings : PySem.W.nsIn K mainGlobals "see_rings" = some (some (.ref f_see_rings)))
    (l_are_books : K.lookup f_are_books = some ⟨oc_are_books, od_are_books, .func (PySem.W.fnOf "are_books" "are_books" (defArgs s_are_books) (defBody s_are_books) (defScope s_are_books) .none kV_are_books dc_are_books pm_are_books an_are_books cd_are_books ct_are_books), sl_are_books⟩)
    (c_are_books : PySem.W.codeIn K cd_are_books "are_books" = true)
    (k_are_books : PySem.W.keepIn K (.ref f_are_books) = true)
    (n_are_books : PySem.W.nsIn K mainGlobals "are_books" = some (some (.ref f_are_books)))
    (l_is_target : K.lookup f_is_target = some ⟨oc_is_target, od_is_target, .func (PySem.W.fnOf "is_target" "is_target" (defArgs s_is_target) (defBody s_is_target) (defScope s_is_target) .none kV_is_target dc_is_target pm_is_target an_is_target cd_is_target ct_is_target), sl_is_target⟩)
    (c_is_target : PySem.W.codeIn K cd_is_target "is_target" = true)
    (k_is_target : PySem.W.keepIn K (.ref f_is_target) = true)
    (n_is_target : PySem.W.nsIn K mainGlobals "is_target" = some (some (.ref f_is_target)))
    (l_are_further : K.lookup f_are_further = some ⟨oc_are_further, od_are_further, .func (PySem.W.fnOf "are_further" "are_further" (defArgs s_are_further) (defBody s_are_further) (defScope s_are_further) .none kV_are_further dc_are_further pm_are_further an_are_further cd_are_further ct_are_further), sl_are_further⟩)
    (c_are_further : PySem.W.codeIn K cd_are_further "are_further" = true)
    (k_are_further : PySem.W.keepIn K (.ref f_are_further) = true)
    (n_are_further : PySem.W.nsIn K mainGlobals "are_further" = some (some (.ref f_are_further)))
    (l_wrong_part : K.lookup f_wrong_part = some ⟨oc_wrong_part, od_wrong_part, .func (PySem.W.fnOf "wrong_part" "wrong_part" (defArgs s_wrong_part) (defBody s_wrong_part) (defScope s_wrong_part) .none kV_wrong_part dc_wrong_part pm_wrong_part an_wrong_part cd_wrong_part ct_wrong_part), sl_wrong_part⟩)
    (c_wrong_part : PySem.W.codeIn K cd_wrong_part "wrong_part" = true)
    (k_wrong_part : PySem.W.keepIn K (.ref f_wrong_part) = true)
    (n_wrong_part : PySem.W.nsIn K mainGlobals "wrong_part" = some (some (.ref f_wrong_part)))
    (l_Card_init : K.lookup f_Card_init = some ⟨oc_Card_init, od_Card_init, .func (PySem.W.fnOf "__init__" "Card.__init__" (defArgs s_Card_init) (defBody s_Card_init) (defScope s_Card_init) (.ref dT_Card_init) kV_Card_init dc_Card_init pm_Card_init an_Card_init cd_Card_init ct_Card_init), sl_Card_init⟩)
    (c_Card_init : PySem.W.codeIn K cd_Card_init "Card.__init__" = true)
    (k_Card_init : PySem.W.keepIn K (.ref f_Card_init) = true)
    (dk_Card_init : K.lookup dT_Card_init = some ⟨dc0_Card_init, dd_Card_init, .seq #[.ref de_Card_init_0, .str "" du_Card_init_1, .ref de_Card_init_2] dn_Card_init, ds_Card_init⟩)
    (l_Card_heading : K.lookup f_Card_heading = some ⟨oc_Card_heading, od_Card_heading, .func (PySem.W.fnOf "heading" "Card.heading" (defArgs s_Card_heading) (defBody s_Card_heading) (defScope s_Card_heading) .none kV_Card_heading dc_Card_heading pm_Card_heading an_Card_heading cd_Card_heading ct_Card_heading), sl_Card_heading⟩)
    (c_Card_heading : PySem.W.codeIn K cd_Card_heading "Card.heading" = true)
    (k_Card_heading : PySem.W.keepIn K (.ref f_Card_heading) = true)
    (l_Card_see : K.lookup f_Card_see = some ⟨oc_Card_see, od_Card_see, .func (PySem.W.fnOf "see" "Card.see" (defArgs s_Card_see) (defBody s_Card_see) (defScope s_Card_see) .none kV_Card_see dc_Card_see pm_Card_see an_Card_see cd_Card_see ct_Card_see), sl_Card_see⟩)
    (c_Card_see : PySem.W.codeIn K cd_Card_see "Card.see" = true)
    (k_Card_see : PySem.W.keepIn K (.ref f_Card_see) = true)
    (l_Card_leads : K.lookup f_Card_leads = some ⟨oc_Card_leads, od_Card_leads, .func (PySem.W.fnOf "leads" "Card.leads" (defArgs s_Card_leads) (defBody s_Card_leads) (defScope s_Card_leads) .none kV_Card_leads dc_Card_leads pm_Card_leads an_Card_leads cd_Card_leads ct_Card_leads), sl_Card_leads⟩)
    (c_Card_leads : PySem.W.codeIn K cd_Card_leads "Card.leads" = true)
    (k_Card_leads : PySem.W.keepIn K (.ref f_Card_leads) = true)
    (l_llaw_taken : K.lookup f_llaw_taken = some ⟨oc_llaw_taken, od_llaw_taken, .func (PySem.W.fnOf "_law_taken" "_law_taken" (defArgs s_llaw_taken) (defBody s_llaw_taken) (defScope s_llaw_taken) .none kV_llaw_taken dc_llaw_taken pm_llaw_taken an_llaw_taken cd_llaw_taken ct_llaw_taken), sl_llaw_taken⟩)
    (c_llaw_taken : PySem.W.codeIn K cd_llaw_taken "_law_taken" = true)
    (k_llaw_taken : PySem.W.keepIn K (.ref f_llaw_taken) = true)
    (n_llaw_taken : PySem.W.nsIn K mainGlobals "_law_taken" = some (some (.ref f_llaw_taken)))
    (l_llaw_pick : K.lookup f_llaw_pick = some ⟨oc_llaw_pick, od_llaw_pick, .func (PySem.W.fnOf "_law_pick" "_law_pick" (defArgs s_llaw_pick) (defBody s_llaw_pick) (defScope s_llaw_pick) .none kV_llaw_pick dc_llaw_pick pm_llaw_pick an_llaw_pick cd_llaw_pick ct_llaw_pick), sl_llaw_pick⟩)
    (c_llaw_pick : PySem.W.codeIn K cd_llaw_pick "_law_pick" = true)
    (k_llaw_pick : PySem.W.keepIn K (.ref f_llaw_pick) = true)
    (n_llaw_pick : PySem.W.nsIn K mainGlobals "_law_pick" = some (some (.ref f_llaw_pick)))
    (l_llaw_drawer : K.lookup f_llaw_drawer = some ⟨oc_llaw_drawer, od_llaw_drawer, .func (PySem.W.fnOf "_law_drawer" "_law_drawer" (defArgs s_llaw_drawer) (defBody s_llaw_drawer) (defScope s_llaw_drawer) .none kV_llaw_drawer dc_llaw_drawer pm_llaw_drawer an_llaw_drawer cd_llaw_drawer ct_llaw_drawer), sl_llaw_drawer⟩)
    (c_llaw_drawer : PySem.W.codeIn K cd_llaw_drawer "_law_drawer" = true)
    (k_llaw_drawer : PySem.W.keepIn K (.ref f_llaw_drawer) = true)
    (n_llaw_drawer : PySem.W.nsIn K mainGlobals "_law_drawer" = some (some (.ref f_llaw_drawer)))
    (l_llaw_looked : K.lookup f_llaw_looked = some ⟨oc_llaw_looked, od_llaw_looked, .func (PySem.W.fnOf "_law_looked" "_law_looked" (defArgs s_llaw_looked) (defBody s_llaw_looked) (defScope s_llaw_looked) .none kV_llaw_looked dc_llaw_looked pm_llaw_looked an_llaw_looked cd_llaw_looked ct_llaw_looked), sl_llaw_looked⟩)
    (c_llaw_looked : PySem.W.codeIn K cd_llaw_looked "_law_looked" = true)
    (k_llaw_looked : PySem.W.keepIn K (.ref f_llaw_looked) = true)
    (n_llaw_looked : PySem.W.nsIn K mainGlobals "_law_looked" = some (some (.ref f_llaw_looked)))
    (l_llaw_known : K.lookup f_llaw_known = some ⟨oc_llaw_known, od_llaw_known, .func (PySem.W.fnOf "_law_known" "_law_known" (defArgs s_llaw_known) (defBody s_llaw_known) (defScope s_llaw_known) .none kV_llaw_known dc_llaw_known pm_llaw_known an_llaw_known cd_llaw_known ct_llaw_known), sl_llaw_known⟩)
    (c_llaw_known : PySem.W.codeIn K cd_llaw_known "_law_known" = true)
    (k_llaw_known : PySem.W.keepIn K (.ref f_llaw_known) = true)
    (n_llaw_known : PySem.W.nsIn K mainGlobals "_law_known" = some (some (.ref f_llaw_known)))
    (l_llaw_seeing : K.lookup f_llaw_seeing = some ⟨oc_llaw_seeing, od_llaw_seeing, .func (PySem.W.fnOf "_law_seeing" "_law_seeing" (defArgs s_llaw_seeing) (defBody s_llaw_seeing) (defScope s_llaw_seeing) .none kV_llaw_seeing dc_llaw_seeing pm_llaw_seeing an_llaw_seeing cd_llaw_seeing ct_llaw_seeing), sl_llaw_seeing⟩)
    (c_llaw_seeing : PySem.W.codeIn K cd_llaw_seeing "_law_seeing" = true)
    (k_llaw_seeing : PySem.W.keepIn K (.ref f_llaw_seeing) = true)
    (n_llaw_seeing : PySem.W.nsIn K mainGlobals "_law_seeing" = some (some (.ref f_llaw_seeing)))
    (l_law : K.lookup f_law = some ⟨oc_law, od_law, .func (PySem.W.fnOf "law" "law" (defArgs s_law) (defBody s_law) (defScope s_law) .none kV_law dc_law pm_law an_law cd_law ct_law), sl_law⟩)
    (c_law : PySem.W.codeIn K cd_law "law" = true)
    (k_law : PySem.W.keepIn K (.ref f_law) = true)
    (n_law : PySem.W.nsIn K mainGlobals "law" = some (some (.ref f_law)))
    (n_Drawer : PySem.W.nsIn K mainGlobals "Drawer" = some (some (.ref C_Drawer)))
    (cg_Drawer : PySem.W.plainGet K C_Drawer Str.empty = true)
    (ch_Drawer : PySem.W.hasDictIn K C_Drawer = true)
    (cp_Drawer : PySem.W.plainOver K C_Drawer = true)
    (cs_Drawer : PySem.W.findIn K (.ref C_Drawer) "__setattr__" = some (some (.builtin "object.__setattr__")))
    (na_Drawer__cards : PySem.W.findIn K (.ref C_Drawer) "_cards" = some none)
    (mk1_Drawer : PySem.W.makesIn K C_Drawer = true)
    (mk2_Drawer : PySem.W.findIn K (.ref C_Drawer) "__init__" = some (some (.ref f_Drawer_init)))
    (mk3_Drawer : PySem.W.isFn K (.ref f_Drawer_init) = true)
    (mk4_Drawer : PySem.W.keepIn K (.ref C_Drawer) = true)
    (p1_Drawer_cards : PySem.W.findIn K (.ref C_Drawer) "cards" = some (some (.ref pr_Drawer_cards)))
    (p2_Drawer_cards : PySem.W.specialIn K (.ref pr_Drawer_cards) "__get__" = some (some (.builtin "property.__get__")))
    (p3_Drawer_cards : PySem.W.takesIn K (.ref pr_Drawer_cards) = some true)
    (p4_Drawer_cards : PySem.W.recIn K pr_Drawer_cards "property" = some (.ref f_Drawer_cards :: ps_Drawer_cards))
    (p1_Drawer_headings : PySem.W.findIn K (.ref C_Drawer) "headings" = some (some (.ref pr_Drawer_headings)))
    (p2_Drawer_headings : PySem.W.specialIn K (.ref pr_Drawer_headings) "__get__" = some (some (.builtin "property.__get__")))
    (p3_Drawer_headings : PySem.W.takesIn K (.ref pr_Drawer_headings) = some true)
    (p4_Drawer_headings : PySem.W.recIn K pr_Drawer_headings "property" = some (.ref f_Drawer_headings :: ps_Drawer_headings))
    (me1_Drawer_getitem : PySem.W.findIn K (.ref C_Drawer) "__getitem__" = some (some (.ref f_Drawer_getitem)))
    (me2_Drawer_getitem : PySem.W.isFn K (.ref f_Drawer_getitem) = true)
    (me3_Drawer_getitem : PySem.W.keepIn K (.ref f_Drawer_getitem) = true)
    (fi_Drawer_getitem : PySem.W.fnIn K f_Drawer_getitem = true)
    (n_Trip : PySem.W.nsIn K mainGlobals "Trip" = some (some (.ref C_Trip)))
    (cg_Trip : PySem.W.plainGet K C_Trip Str.empty = true)
    (ch_Trip : PySem.W.hasDictIn K C_Trip = true)
    (cp_Trip : PySem.W.plainOver K C_Trip = true)
    (cs_Trip : PySem.W.findIn K (.ref C_Trip) "__setattr__" = some (some (.builtin "object.__setattr__")))
    (na_Trip_word : PySem.W.findIn K (.ref C_Trip) "word" = some none)
    (na_Trip_asked : PySem.W.findIn K (.ref C_Trip) "asked" = some none)
    (na_Trip_found : PySem.W.findIn K (.ref C_Trip) "found" = some none)
    (na_Trip_total : PySem.W.findIn K (.ref C_Trip) "total" = some none)
    (na_Trip_end : PySem.W.findIn K (.ref C_Trip) "end" = some none)
    (mk1_Trip : PySem.W.makesIn K C_Trip = true)
    (mk2_Trip : PySem.W.findIn K (.ref C_Trip) "__init__" = some (some (.ref f_Trip_init)))
    (mk3_Trip : PySem.W.isFn K (.ref f_Trip_init) = true)
    (mk4_Trip : PySem.W.keepIn K (.ref C_Trip) = true)
    (n_Card : PySem.W.nsIn K mainGlobals "Card" = some (some (.ref C_Card)))
    (cg_Card : PySem.W.plainGet K C_Card Str.empty = true)
    (ch_Card : PySem.W.hasDictIn K C_Card = true)
    (cp_Card : PySem.W.plainOver K C_Card = true)
    (cs_Card : PySem.W.findIn K (.ref C_Card) "__setattr__" = some (some (.builtin "object.__setattr__")))
    (na_Card__heading : PySem.W.findIn K (.ref C_Card) "_heading" = some none)
    (na_Card__books : PySem.W.findIn K (.ref C_Card) "_books" = some none)
    (na_Card__see : PySem.W.findIn K (.ref C_Card) "_see" = some none)
    (na_Card__also : PySem.W.findIn K (.ref C_Card) "_also" = some none)
    (mk1_Card : PySem.W.makesIn K C_Card = true)
    (mk2_Card : PySem.W.findIn K (.ref C_Card) "__init__" = some (some (.ref f_Card_init)))
    (mk3_Card : PySem.W.isFn K (.ref f_Card_init) = true)
    (mk4_Card : PySem.W.keepIn K (.ref C_Card) = true)
    (p1_Card_heading : PySem.W.findIn K (.ref C_Card) "heading" = some (some (.ref pr_Card_heading)))
    (p2_Card_heading : PySem.W.specialIn K (.ref pr_Card_heading) "__get__" = some (some (.builtin "property.__get__")))
    (p3_Card_heading : PySem.W.takesIn K (.ref pr_Card_heading) = some true)
    (p4_Card_heading : PySem.W.recIn K pr_Card_heading "property" = some (.ref f_Card_heading :: ps_Card_heading))
    (p1_Card_see : PySem.W.findIn K (.ref C_Card) "see" = some (some (.ref pr_Card_see)))
    (p2_Card_see : PySem.W.specialIn K (.ref pr_Card_see) "__get__" = some (some (.builtin "property.__get__")))
    (p3_Card_see : PySem.W.takesIn K (.ref pr_Card_see) = some true)
    (p4_Card_see : PySem.W.recIn K pr_Card_see "property" = some (.ref f_Card_see :: ps_Card_see))
    (p1_Card_leads : PySem.W.findIn K (.ref C_Card) "leads" = some (some (.ref pr_Card_leads)))
    (p2_Card_leads : PySem.W.specialIn K (.ref pr_Card_leads) "__get__" = some (some (.builtin "property.__get__")))
    (p3_Card_leads : PySem.W.takesIn K (.ref pr_Card_leads) = some true)
    (p4_Card_leads : PySem.W.recIn K pr_Card_leads "property" = some (.ref f_Card_leads :: ps_Card_leads))
    : ∃ fd : FuncData, (∀ (s : Shared) (v : Value), BindsTo s fd ⟨[v], []⟩ [("_law_script", v)]) ∧ ∀ base : Heap, K.In base → base.Ns mainGlobals mg → FnOk l.prog w K mg base CX0 8 fa fd ["_law_script"] (spLaw K) := by
  have e : fa = f_law := by
    have z := hfa.symm.trans (PySem.W.mg_of X G n_law)
    cases z
    rfl
  have T : ∃ T : Top K mg, T.a_law = f_law ∧ T.fd_law = PySem.W.fnOf "law" "law" (defArgs s_law) (defBody s_law) (defScope s_law) .none kV_law dc_law pm_law an_law cd_law ct_law := ⟨{
    m_all := PySem.W.mg_none_of X G z_all
    m_bool := PySem.W.mg_none_of X G z_bool
    m_dict := PySem.W.mg_none_of X G z_dict
    m_enumerate := PySem.W.mg_none_of X G z_enumerate
    m_int := PySem.W.mg_none_of X G z_int
    m_isinstance := PySem.W.mg_none_of X G z_isinstance
    m_len := PySem.W.mg_none_of X G z_len
    m_list := PySem.W.mg_none_of X G z_list
    m_min := PySem.W.mg_none_of X G z_min
    m_range := PySem.W.mg_none_of X G z_range
    m_set := PySem.W.mg_none_of X G z_set
    m_sorted := PySem.W.mg_none_of X G z_sorted
    m_str := PySem.W.mg_none_of X G z_str
    m_tuple := PySem.W.mg_none_of X G z_tuple
    m_zip := PySem.W.mg_none_of X G z_zip
    v_LETTERS := .str "abcdefghijklmnopqrstuvwxyz" t_LETTERS
    g_LETTERS := PySem.W.mg_of X G zc_LETTERS
    r_LETTERS := ⟨_, rfl⟩
    v_LONGEST_WORD := .int (8) t_LONGEST_WORD
    g_LONGEST_WORD := PySem.W.mg_of X G zc_LONGEST_WORD
    r_LONGEST_WORD := ⟨_, rfl⟩
    v_MOST_CARDS := .int (16) t_MOST_CARDS
    g_MOST_CARDS := PySem.W.mg_of X G zc_MOST_CARDS
    r_MOST_CARDS := ⟨_, rfl⟩
    v_MOST_BOOKS := .int (6) t_MOST_BOOKS
    g_MOST_BOOKS := PySem.W.mg_of X G zc_MOST_BOOKS
    r_MOST_BOOKS := ⟨_, rfl⟩
    v_LAST_BOOK := .int (999) t_LAST_BOOK
    g_LAST_BOOK := PySem.W.mg_of X G zc_LAST_BOOK
    r_LAST_BOOK := ⟨_, rfl⟩
    v_MOST_ALSO := .int (4) t_MOST_ALSO
    g_MOST_ALSO := PySem.W.mg_of X G zc_MOST_ALSO
    r_MOST_ALSO := ⟨_, rfl⟩
    a_RULES := at_RULES
    g_RULES := PySem.W.mg_of X G zc_RULES
    r_RULES := rfl
    t_RULES := fun H => .inr ⟨_, #[.str "all" ok_RULES_0, .str "leaf" ok_RULES_1, .str "half" ok_RULES_2], _, ht_RULES, rfl, rfl, by show 3 ≤ sizeLine; decide, .cons ⟨_, rfl⟩ (.cons ⟨_, rfl⟩ (.cons ⟨_, rfl⟩ (.nil)))⟩
    a_is_word := f_is_word
    fd_is_word := PySem.W.fnOf "is_word" "is_word" (defArgs s_is_word) (defBody s_is_word) (defScope s_is_word) .none kV_is_word dc_is_word pm_is_word an_is_word cd_is_word ct_is_word
    F_is_word := fun_mk (st := s_is_word) l_is_word c_is_word k_is_word
    g_is_word := PySem.W.mg_of X G n_is_word
    a_is_number := f_is_number
    fd_is_number := PySem.W.fnOf "is_number" "is_number" (defArgs s_is_number) (defBody s_is_number) (defScope s_is_number) .none kV_is_number dc_is_number pm_is_number an_is_number cd_is_number ct_is_number
    F_is_number := fun_mk (st := s_is_number) l_is_number c_is_number k_is_number
    g_is_number := PySem.W.mg_of X G n_is_number
    a_check_rule := f_check_rule
    fd_check_rule := PySem.W.fnOf "check_rule" "check_rule" (defArgs s_check_rule) (defBody s_check_rule) (defScope s_check_rule) .none kV_check_rule dc_check_rule pm_check_rule an_check_rule cd_check_rule ct_check_rule
    F_check_rule := fun_mk (st := s_check_rule) l_check_rule c_check_rule k_check_rule
    g_check_rule := PySem.W.mg_of X G n_check_rule
    a_check_heading := f_check_heading
    fd_check_heading := PySem.W.fnOf "check_heading" "check_heading" (defArgs s_check_heading) (defBody s_check_heading) (defScope s_check_heading) .none kV_check_heading dc_check_heading pm_check_heading an_check_heading cd_check_heading ct_check_heading
    F_check_heading := fun_mk (st := s_check_heading) l_check_heading c_check_heading k_check_heading
    g_check_heading := PySem.W.mg_of X G n_check_heading
    a_check_place := f_check_place
    fd_check_place := PySem.W.fnOf "check_place" "check_place" (defArgs s_check_place) (defBody s_check_place) (defScope s_check_place) .none kV_check_place dc_check_place pm_check_place an_check_place cd_check_place ct_check_place
    F_check_place := fun_mk (st := s_check_place) l_check_place c_check_place k_check_place
    g_check_place := PySem.W.mg_of X G n_check_place
    a_Drawer_init := f_Drawer_init
    fd_Drawer_init := PySem.W.fnOf "__init__" "Drawer.__init__" (defArgs s_Drawer_init) (defBody s_Drawer_init) (defScope s_Drawer_init) .none kV_Drawer_init dc_Drawer_init pm_Drawer_init an_Drawer_init cd_Drawer_init ct_Drawer_init
    F_Drawer_init := fun_mk (st := s_Drawer_init) l_Drawer_init c_Drawer_init k_Drawer_init
    a_Drawer_cards := f_Drawer_cards
    fd_Drawer_cards := PySem.W.fnOf "cards" "Drawer.cards" (defArgs s_Drawer_cards) (defBody s_Drawer_cards) (defScope s_Drawer_cards) .none kV_Drawer_cards dc_Drawer_cards pm_Drawer_cards an_Drawer_cards cd_Drawer_cards ct_Drawer_cards
    F_Drawer_cards := fun_mk (st := s_Drawer_cards) l_Drawer_cards c_Drawer_cards k_Drawer_cards
    a_Drawer_headings := f_Drawer_headings
    fd_Drawer_headings := PySem.W.fnOf "headings" "Drawer.headings" (defArgs s_Drawer_headings) (defBody s_Drawer_headings) (defScope s_Drawer_headings) .none kV_Drawer_headings dc_Drawer_headings pm_Drawer_headings an_Drawer_headings cd_Drawer_headings ct_Drawer_headings
    F_Drawer_headings := fun_mk (st := s_Drawer_headings) l_Drawer_headings c_Drawer_headings k_Drawer_headings
    a_Drawer_getitem := f_Drawer_getitem
    fd_Drawer_getitem := PySem.W.fnOf "__getitem__" "Drawer.__getitem__" (defArgs s_Drawer_getitem) (defBody s_Drawer_getitem) (defScope s_Drawer_getitem) .none kV_Drawer_getitem dc_Drawer_getitem pm_Drawer_getitem an_Drawer_getitem cd_Drawer_getitem ct_Drawer_getitem
    F_Drawer_getitem := fun_mk (st := s_Drawer_getitem) l_Drawer_getitem c_Drawer_getitem k_Drawer_getitem
    a_headings_along := f_headings_along
    fd_headings_along := PySem.W.fnOf "headings_along" "headings_along" (defArgs s_headings_along) (defBody s_headings_along) (defScope s_headings_along) .none kV_headings_along dc_headings_along pm_headings_along an_headings_along cd_headings_along ct_headings_along
    F_headings_along := fun_mk (st := s_headings_along) l_headings_along c_headings_along k_headings_along
    g_headings_along := PySem.W.mg_of X G n_headings_along
    a_seek_along := f_seek_along
    fd_seek_along := PySem.W.fnOf "seek_along" "seek_along" (defArgs s_seek_along) (defBody s_seek_along) (defScope s_seek_along) .none kV_seek_along dc_seek_along pm_seek_along an_seek_along cd_seek_along ct_seek_along
    F_seek_along := fun_mk (st := s_seek_along) l_seek_along c_seek_along k_seek_along
    g_seek_along := PySem.W.mg_of X G n_seek_along
    a_seek_by_halves := f_seek_by_halves
    fd_seek_by_halves := PySem.W.fnOf "seek_by_halves" "seek_by_halves" (defArgs s_seek_by_halves) (defBody s_seek_by_halves) (defScope s_seek_by_halves) .none kV_seek_by_halves dc_seek_by_halves pm_seek_by_halves an_seek_by_halves cd_seek_by_halves ct_seek_by_halves
    F_seek_by_halves := fun_mk (st := s_seek_by_halves) l_seek_by_halves c_seek_by_halves k_seek_by_halves
    g_seek_by_halves := PySem.W.mg_of X G n_seek_by_halves
    a_seek := f_seek
    fd_seek := PySem.W.fnOf "seek" "seek" (defArgs s_seek) (defBody s_seek) (defScope s_seek) .none kV_seek dc_seek pm_seek an_seek cd_seek ct_seek
    F_seek := fun_mk (st := s_seek) l_seek c_seek k_seek
    g_seek := PySem.W.mg_of X G n_seek
    a_Trip_init := f_Trip_init
    fd_Trip_init := PySem.W.fnOf "__init__" "Trip.__init__" (defArgs s_Trip_init) (defBody s_Trip_init) (defScope s_Trip_init) .none kV_Trip_init dc_Trip_init pm_Trip_init an_Trip_init cd_Trip_init ct_Trip_init
    F_Trip_init := fun_mk (st := s_Trip_init) l_Trip_init c_Trip_init k_Trip_init
    a_travel := f_travel
    fd_travel := PySem.W.fnOf "travel" "travel" (defArgs s_travel) (defBody s_travel) (defScope s_travel) .none kV_travel dc_travel pm_travel an_travel cd_travel ct_travel
    F_travel := fun_mk (st := s_travel) l_travel c_travel k_travel
    g_travel := PySem.W.mg_of X G n_travel
    a_walk := f_walk
    fd_walk := PySem.W.fnOf "walk" "walk" (defArgs s_walk) (defBody s_walk) (defScope s_walk) .none kV_walk dc_walk pm_walk an_walk cd_walk ct_walk
    F_walk := fun_mk (st := s_walk) l_walk c_walk k_walk
    g_walk := PySem.W.mg_of X G n_walk
    a_see_rings := f_see_rings
    fd_see_rings := PySem.W.fnOf "see_rings" "see_rings" (defArgs s_see_rings) (defBody s_see_rings) (defScope s_see_rings) .none kV_see_rings dc_see_rings pm_see_rings an_see_rings cd_see_rings ct_see_rings
    F_see_rings := fun_mk (st := s_see_rings) l_see_rings c_see_rings k_see_rings
    g_see_rings := PySem.W.mg_of X G n_see_rings
    a_are_books := f_are_books
    fd_are_books := PySem.W.fnOf "are_books" "are_books" (defArgs s_are_books) (defBody s_are_books) (defScope s_are_books) .none kV_are_books dc_are_books pm_are_books an_are_books cd_are_books ct_are_books
    F_are_books := fun_mk (st := s_are_books) l_are_books c_are_books k_are_books
    g_are_books := PySem.W.mg_of X G n_are_books
    a_is_target := f_is_target
    fd_is_target := PySem.W.fnOf "is_target" "is_target" (defArgs s_is_target) (defBody s_is_target) (defScope s_is_target) .none kV_is_target dc_is_target pm_is_target an_is_target cd_is_target ct_is_target
    F_is_target := fun_mk (st := s_is_target) l_is_target c_is_target k_is_target
    g_is_target := PySem.W.mg_of X G n_is_target
    a_are_further := f_are_further
    fd_are_further := PySem.W.fnOf "are_further" "are_further" (defArgs s_are_further) (defBody s_are_further) (defScope s_are_further) .none kV_are_further dc_are_further pm_are_further an_are_further cd_are_further ct_are_further
    F_are_further := fun_mk (st := s_are_further) l_are_further c_are_further k_are_further
    g_are_further := PySem.W.mg_of X G n_are_further
    a_wrong_part := f_wrong_part
    fd_wrong_part := PySem.W.fnOf "wrong_part" "wrong_part" (defArgs s_wrong_part) (defBody s_wrong_part) (defScope s_wrong_part) .none kV_wrong_part dc_wrong_part pm_wrong_part an_wrong_part cd_wrong_part ct_wrong_part
    F_wrong_part := fun_mk (st := s_wrong_part) l_wrong_part c_wrong_part k_wrong_part
    g_wrong_part := PySem.W.mg_of X G n_wrong_part
    a_Card_init := f_Card_init
    e_Card_init_0 := de_Card_init_0
    e_Card_init_2 := de_Card_init_2
    fd_Card_init := PySem.W.fnOf "__init__" "Card.__init__" (defArgs s_Card_init) (defBody s_Card_init) (defScope s_Card_init) (.ref dT_Card_init) kV_Card_init dc_Card_init pm_Card_init an_Card_init cd_Card_init ct_Card_init
    F_Card_init := ⟨⟨_, _, _, _, _, _, _, _, _, _, rfl, l_Card_init, c_Card_init, .inr ⟨by simp, _, _, [.ref de_Card_init_0, .str "" du_Card_init_1, .ref de_Card_init_2], _, rfl, dk_Card_init, rfl, .cons rfl (.cons ⟨_, rfl⟩ (.cons rfl (.nil)))⟩, .inl rfl⟩, k_Card_init⟩
    a_Card_heading := f_Card_heading
    fd_Card_heading := PySem.W.fnOf "heading" "Card.heading" (defArgs s_Card_heading) (defBody s_Card_heading) (defScope s_Card_heading) .none kV_Card_heading dc_Card_heading pm_Card_heading an_Card_heading cd_Card_heading ct_Card_heading
    F_Card_heading := fun_mk (st := s_Card_heading) l_Card_heading c_Card_heading k_Card_heading
    a_Card_see := f_Card_see
    fd_Card_see := PySem.W.fnOf "see" "Card.see" (defArgs s_Card_see) (defBody s_Card_see) (defScope s_Card_see) .none kV_Card_see dc_Card_see pm_Card_see an_Card_see cd_Card_see ct_Card_see
    F_Card_see := fun_mk (st := s_Card_see) l_Card_see c_Card_see k_Card_see
    a_Card_leads := f_Card_leads
    fd_Card_leads := PySem.W.fnOf "leads" "Card.leads" (defArgs s_Card_leads) (defBody s_Card_leads) (defScope s_Card_leads) .none kV_Card_leads dc_Card_leads pm_Card_leads an_Card_leads cd_Card_leads ct_Card_leads
    F_Card_leads := fun_mk (st := s_Card_leads) l_Card_leads c_Card_leads k_Card_leads
    a_llaw_taken := f_llaw_taken
    fd_llaw_taken := PySem.W.fnOf "_law_taken" "_law_taken" (defArgs s_llaw_taken) (defBody s_llaw_taken) (defScope s_llaw_taken) .none kV_llaw_taken dc_llaw_taken pm_llaw_taken an_llaw_taken cd_llaw_taken ct_llaw_taken
    F_llaw_taken := fun_mk (st := s_llaw_taken) l_llaw_taken c_llaw_taken k_llaw_taken
    g_llaw_taken := PySem.W.mg_of X G n_llaw_taken
    a_llaw_pick := f_llaw_pick
    fd_llaw_pick := PySem.W.fnOf "_law_pick" "_law_pick" (defArgs s_llaw_pick) (defBody s_llaw_pick) (defScope s_llaw_pick) .none kV_llaw_pick dc_llaw_pick pm_llaw_pick an_llaw_pick cd_llaw_pick ct_llaw_pick
    F_llaw_pick := fun_mk (st := s_llaw_pick) l_llaw_pick c_llaw_pick k_llaw_pick
    g_llaw_pick := PySem.W.mg_of X G n_llaw_pick
    a_llaw_drawer := f_llaw_drawer
    fd_llaw_drawer := PySem.W.fnOf "_law_drawer" "_law_drawer" (defArgs s_llaw_drawer) (defBody s_llaw_drawer) (defScope s_llaw_drawer) .none kV_llaw_drawer dc_llaw_drawer pm_llaw_drawer an_llaw_drawer cd_llaw_drawer ct_llaw_drawer
    F_llaw_drawer := fun_mk (st := s_llaw_drawer) l_llaw_drawer c_llaw_drawer k_llaw_drawer
    g_llaw_drawer := PySem.W.mg_of X G n_llaw_drawer
    a_llaw_looked := f_llaw_looked
    fd_llaw_looked := PySem.W.fnOf "_law_looked" "_law_looked" (defArgs s_llaw_looked) (defBody s_llaw_looked) (defScope s_llaw_looked) .none kV_llaw_looked dc_llaw_looked pm_llaw_looked an_llaw_looked cd_llaw_looked ct_llaw_looked
    F_llaw_looked := fun_mk (st := s_llaw_looked) l_llaw_looked c_llaw_looked k_llaw_looked
    g_llaw_looked := PySem.W.mg_of X G n_llaw_looked
    a_llaw_known := f_llaw_known
    fd_llaw_known := PySem.W.fnOf "_law_known" "_law_known" (defArgs s_llaw_known) (defBody s_llaw_known) (defScope s_llaw_known) .none kV_llaw_known dc_llaw_known pm_llaw_known an_llaw_known cd_llaw_known ct_llaw_known
    F_llaw_known := fun_mk (st := s_llaw_known) l_llaw_known c_llaw_known k_llaw_known
    g_llaw_known := PySem.W.mg_of X G n_llaw_known
    a_llaw_seeing := f_llaw_seeing
    fd_llaw_seeing := PySem.W.fnOf "_law_seeing" "_law_seeing" (defArgs s_llaw_seeing) (defBody s_llaw_seeing) (defScope s_llaw_seeing) .none kV_llaw_seeing dc_llaw_seeing pm_llaw_seeing an_llaw_seeing cd_llaw_seeing ct_llaw_seeing
    F_llaw_seeing := fun_mk (st := s_llaw_seeing) l_llaw_seeing c_llaw_seeing k_llaw_seeing
    g_llaw_seeing := PySem.W.mg_of X G n_llaw_seeing
    a_law := f_law
    fd_law := PySem.W.fnOf "law" "law" (defArgs s_law) (defBody s_law) (defScope s_law) .none kV_law dc_law pm_law an_law cd_law ct_law
    F_law := fun_mk (st := s_law) l_law c_law k_law
    g_law := PySem.W.mg_of X G n_law
    c_Drawer := C_Drawer
    g_Drawer := PySem.W.mg_of X G n_Drawer
    cl_Drawer := ⟨cg_Drawer, ch_Drawer, cp_Drawer, cs_Drawer⟩
    n_Drawer__cards := na_Drawer__cards
    Mk_Drawer := ⟨mk1_Drawer, mk2_Drawer, mk3_Drawer, mk4_Drawer⟩
    p_Drawer_cards := pr_Drawer_cards
    P_Drawer_cards := ⟨p1_Drawer_cards, p2_Drawer_cards, p3_Drawer_cards, _, p4_Drawer_cards⟩
    p_Drawer_headings := pr_Drawer_headings
    P_Drawer_headings := ⟨p1_Drawer_headings, p2_Drawer_headings, p3_Drawer_headings, _, p4_Drawer_headings⟩
    M_Drawer_getitem := ⟨me1_Drawer_getitem, me2_Drawer_getitem, me3_Drawer_getitem⟩
    I_Drawer_getitem := fi_Drawer_getitem
    c_Trip := C_Trip
    g_Trip := PySem.W.mg_of X G n_Trip
    cl_Trip := ⟨cg_Trip, ch_Trip, cp_Trip, cs_Trip⟩
    n_Trip_word := na_Trip_word
    n_Trip_asked := na_Trip_asked
    n_Trip_found := na_Trip_found
    n_Trip_total := na_Trip_total
    n_Trip_end := na_Trip_end
    Mk_Trip := ⟨mk1_Trip, mk2_Trip, mk3_Trip, mk4_Trip⟩
    c_Card := C_Card
    g_Card := PySem.W.mg_of X G n_Card
    cl_Card := ⟨cg_Card, ch_Card, cp_Card, cs_Card⟩
    n_Card__heading := na_Card__heading
    n_Card__books := na_Card__books
    n_Card__see := na_Card__see
    n_Card__also := na_Card__also
    Mk_Card := ⟨mk1_Card, mk2_Card, mk3_Card, mk4_Card⟩
    p_Card_heading := pr_Card_heading
    P_Card_heading := ⟨p1_Card_heading, p2_Card_heading, p3_Card_heading, _, p4_Card_heading⟩
    p_Card_see := pr_Card_see
    P_Card_see := ⟨p1_Card_see, p2_Card_see, p3_Card_see, _, p4_Card_see⟩
    p_Card_leads := pr_Card_leads
    P_Card_leads := ⟨p1_Card_leads, p2_Card_leads, p3_Card_leads, _, p4_Card_leads⟩
    }, rfl, rfl⟩
  obtain ⟨T, e1, e2⟩ := T
  refine ⟨T.fd_law, fun s v => ?_, fun base _ _ => ?_⟩
  · rw [e2]
    exact .of_eq rfl
  · rw [e, ← e1]
    exact ok_law T
end My
open PySem PySem.W PyProof.Rows
set_option maxRecDepth 100000 in
set_option maxHeartbeats 0 in
theorem PySem.Challenge.cw_seerings_k09_whole_rings_by_powers_holds : PySem.Challenge.rw_seerings_k09_whole_rings_by_powers.Holds := by
  w_on; o_law; k_head; (case hw => w_witness2)
  k_fill
  refine L2.walk_of (l := PySem.Challenge.rw_seerings_k09_whole_rings_by_powers) (n := 63) (k := 8) (x := "_law_script") (CX := fun _ => L2.CX0) (sp := fun w => My.spLaw _) rfl (by decide) rfl ⟨rfl, by decide, by decide⟩ (fun w h Y => PySem.W.kIn_of Y) ?F (fun _ _ a ns hl _ hS => ⟨a, ns, rfl, hS, hl, fun _ => rfl⟩) (fun _ _ _ _ _ h => h)
  case F =>
    intro w mg fa h KX G hmg
    refine' My.all_mk KX G hmg ?z_all ?z_bool ?z_dict ?z_enumerate ?z_int ?z_isinstance ?z_len ?z_list ?z_min ?z_range ?z_set ?z_sorted ?z_str ?z_tuple ?z_zip ?zc_LETTERS ?zc_LONGEST_WORD ?zc_MOST_CARDS ?zc_MOST_BOOKS ?zc_LAST_BOOK ?zc_MOST_ALSO ?zc_RULES ?ht_RULES ?l_is_word ?c_is_word ?k_is_word ?n_is_word ?l_is_number ?c_is_number ?k_is_number ?n_is_number ?l_check_rule ?c_check_rule ?k_check_rule ?n_check_rule ?l_check_heading ?c_check_heading ?k_check_heading ?n_check_heading ?l_check_place ?c_check_place ?k_check_place ?n_check_place ?l_Drawer_init ?c_Drawer_init ?k_Drawer_init ?l_Drawer_cards ?c_Drawer_cards ?k_Drawer_cards ?l_Drawer_headings ?c_Drawer_headings ?k_Drawer_headings ?l_Drawer_getitem ?c_Drawer_getitem ?k_Drawer_getitem ?l_headings_along ?c_headings_along ?k_headings_along ?n_headings_along ?l_seek_along ?c_seek_along ?k_seek_along ?n_seek_along ?l_seek_by_halves ?c_seek_by_halves ?k_seek_by_halves ?n_seek_by_halves ?l_seek ?c_seek ?k_seek ?n_seek ?l_Trip_init ?c_Trip_init ?k_Trip_init ?l_travel ?c_travel ?k_travel ?n_travel ?l_walk ?c_walk ?k_walk ?n_walk ?l_see_rings ?c_see_rings ?k_see_rings ?n_see_rings ?l_are_books ?c_are_books ?k_are_books ?n_are_books ?l_is_target ?c_is_target ?k_is_target ?n_is_target ?l_are_further ?c_are_further ?k_are_further ?n_are_further ?l_wrong_part ?c_wrong_part ?k_wrong_part ?n_wrong_part ?l_Card_init ?c_Card_init ?k_Card_init ?dk_Card_init ?l_Card_heading ?c_Card_heading ?k_Card_heading ?l_Card_see ?c_Card_see ?k_Card_see ?l_Card_leads ?c_Card_leads ?k_Card_leads ?l_llaw_taken ?c_llaw_taken ?k_llaw_taken ?n_llaw_taken ?l_llaw_pick ?c_llaw_pick ?k_llaw_pick ?n_llaw_pick ?l_llaw_drawer ?c_llaw_drawer ?k_llaw_drawer ?n_llaw_drawer ?l_llaw_looked ?c_llaw_looked ?k_llaw_looked ?n_llaw_looked ?l_llaw_known ?c_llaw_known ?k_llaw_known ?n_llaw_known ?l_llaw_seeing ?c_llaw_seeing ?k_llaw_seeing ?n_llaw_seeing ?l_law ?c_law ?k_law ?n_law ?n_Drawer ?cg_Drawer ?ch_Drawer ?cp_Drawer ?cs_Drawer ?na_Drawer__cards ?mk1_Drawer ?mk2_Drawer ?mk3_Drawer ?mk4_Drawer ?p1_Drawer_cards ?p2_Drawer_cards ?p3_Drawer_cards ?p4_Drawer_cards ?p1_Drawer_headings ?p2_Drawer_headings ?p3_Drawer_headings ?p4_Drawer_headings ?me1_Drawer_getitem ?me2_Drawer_getitem ?me3_Drawer_getitem ?fi_Drawer_getitem ?n_Trip ?cg_Trip ?ch_Trip ?cp_Trip ?cs_Trip ?na_Trip_word ?na_Trip_asked ?na_Trip_found ?na_Trip_total ?na_Trip_end ?mk1_Trip ?mk2_Trip ?mk3_Trip ?mk4_Trip ?n_Card ?cg_Card ?ch_Card ?cp_Card ?cs_Card ?na_Card__heading ?na_Card__books ?na_Card__see ?na_Card__also ?mk1_Card ?mk2_Card ?mk3_Card ?mk4_Card ?p1_Card_heading ?p2_Card_heading ?p3_Card_heading ?p4_Card_heading ?p1_Card_see ?p2_Card_see ?p3_Card_see ?p4_Card_see ?p1_Card_leads ?p2_Card_leads ?p3_Card_leads ?p4_Card_leads
    (case z_all => k_is)
    (case z_bool => k_is)
    (case z_dict => k_is)
    (case z_enumerate => k_is)
    (case z_int => k_is)
    (case z_isinstance => k_is)
    (case z_len => k_is)
    (case z_list => k_is)
    (case z_min => k_is)
    (case z_range => k_is)
    (case z_set => k_is)
    (case z_sorted => k_is)
    (case z_str => k_is)
    (case z_tuple => k_is)
    (case z_zip => k_is)
    (case zc_LETTERS => k_is)
    (case zc_LONGEST_WORD => k_is)
    (case zc_MOST_CARDS => k_is)
    (case zc_MOST_BOOKS => k_is)
    (case zc_LAST_BOOK => k_is)
    (case zc_MOST_ALSO => k_is)
    (case zc_RULES => k_is)
    (case n_is_word => k_is)
    (case n_is_number => k_is)
    (case n_check_rule => k_is)
    (case n_check_heading => k_is)
    (case n_check_place => k_is)
    (case n_headings_along => k_is)
    (case n_seek_along => k_is)
    (case n_seek_by_halves => k_is)
    (case n_seek => k_is)
    (case n_travel => k_is)
    (case n_walk => k_is)
    (case n_see_rings => k_is)
    (case n_are_books => k_is)
    (case n_is_target => k_is)
    (case n_are_further => k_is)
    (case n_wrong_part => k_is)
    (case n_llaw_taken => k_is)
    (case n_llaw_pick => k_is)
    (case n_llaw_drawer => k_is)
    (case n_llaw_looked => k_is)
    (case n_llaw_known => k_is)
    (case n_llaw_seeing => k_is)
    (case n_law => k_is)
    (case n_Drawer => k_is)
    (case n_Trip => k_is)
    (case n_Card => k_is)
    (case mk2_Drawer => k_is)
    (case mk2_Trip => k_is)
    (case mk2_Card => k_is)
    (case me1_Drawer_getitem => k_is)
    (case p1_Drawer_cards => k_is)
    (case p1_Drawer_headings => k_is)
    (case p1_Card_heading => k_is)
    (case p1_Card_see => k_is)
    (case p1_Card_leads => k_is)
    (case p4_Drawer_cards => k_is)
    (case p4_Drawer_headings => k_is)
    (case p4_Card_heading => k_is)
    (case p4_Card_see => k_is)
    (case p4_Card_leads => k_is)
    (case l_is_word => k_is)
    (case l_is_number => k_is)
    (case l_check_rule => k_is)
    (case l_check_heading => k_is)
    (case l_check_place => k_is)
    (case l_Drawer_init => k_is)
    (case l_Drawer_cards => k_is)
    (case l_Drawer_headings => k_is)
    (case l_Drawer_getitem => k_is)
    (case l_headings_along => k_is)
    (case l_seek_along => k_is)
    (case l_seek_by_halves => k_is)
    (case l_seek => k_is)
    (case l_Trip_init => k_is)
    (case l_travel => k_is)
    (case l_walk => k_is)
    (case l_see_rings => k_is)
    (case l_are_books => k_is)
    (case l_is_target => k_is)
    (case l_are_further => k_is)
    (case l_wrong_part => k_is)
    (case l_Card_init => k_is)
    (case l_Card_heading => k_is)
    (case l_Card_see => k_is)
    (case l_Card_leads => k_is)
    (case l_llaw_taken => k_is)
    (case l_llaw_pick => k_is)
    (case l_llaw_drawer => k_is)
    (case l_llaw_looked => k_is)
    (case l_llaw_known => k_is)
    (case l_llaw_seeing => k_is)
    (case l_law => k_is)
    (case dk_Card_init => k_is)
    (case ht_RULES => k_is)
    (case c_is_word => k_is)
    (case k_is_word => k_is)
    (case c_is_number => k_is)
    (case k_is_number => k_is)
    (case c_check_rule => k_is)
    (case k_check_rule => k_is)
    (case c_check_heading => k_is)
    (case k_check_heading => k_is)
    (case c_check_place => k_is)
    (case k_check_place => k_is)
    (case c_Drawer_init => k_is)
    (case k_Drawer_init => k_is)
    (case c_Drawer_cards => k_is)
    (case k_Drawer_cards => k_is)
    (case c_Drawer_headings => k_is)
    (case k_Drawer_headings => k_is)
    (case c_Drawer_getitem => k_is)
    (case k_Drawer_getitem => k_is)
    (case c_headings_along => k_is)
    (case k_headings_along => k_is)
    (case c_seek_along => k_is)
    (case k_seek_along => k_is)
    (case c_seek_by_halves => k_is)
    (case k_seek_by_halves => k_is)
    (case c_seek => k_is)
    (case k_seek => k_is)
    (case c_Trip_init => k_is)
    (case k_Trip_init => k_is)
    (case c_travel => k_is)
    (case k_travel => k_is)
    (case c_walk => k_is)
    (case k_walk => k_is)
    (case c_see_rings => k_is)
    (case k_see_rings => k_is)
    (case c_are_books => k_is)
    (case k_are_books => k_is)
    (case c_is_target => k_is)
    (case k_is_target => k_is)
    (case c_are_further => k_is)
    (case k_are_further => k_is)
    (case c_wrong_part => k_is)
    (case k_wrong_part => k_is)
    (case c_Card_init => k_is)
    (case k_Card_init => k_is)
    (case c_Card_heading => k_is)
    (case k_Card_heading => k_is)
    (case c_Card_see => k_is)
    (case k_Card_see => k_is)
    (case c_Card_leads => k_is)
    (case k_Card_leads => k_is)
    (case c_llaw_taken => k_is)
    (case k_llaw_taken => k_is)
    (case c_llaw_pick => k_is)
    (case k_llaw_pick => k_is)
    (case c_llaw_drawer => k_is)
    (case k_llaw_drawer => k_is)
    (case c_llaw_looked => k_is)
    (case k_llaw_looked => k_is)
    (case c_llaw_known => k_is)
    (case k_llaw_known => k_is)
    (case c_llaw_seeing => k_is)
    (case k_llaw_seeing => k_is)
    (case c_law => k_is)
    (case k_law => k_is)
    (case cg_Drawer => k_is)
    (case ch_Drawer => k_is)
    (case cp_Drawer => k_is)
    (case cs_Drawer => k_is)
    (case na_Drawer__cards => k_is)
    (case mk1_Drawer => k_is)
    (case mk3_Drawer => k_is)
    (case mk4_Drawer => k_is)
    (case p2_Drawer_cards => k_is)
    (case p3_Drawer_cards => k_is)
    (case p2_Drawer_headings => k_is)
    (case p3_Drawer_headings => k_is)
    (case me2_Drawer_getitem => k_is)
    (case me3_Drawer_getitem => k_is)
    (case fi_Drawer_getitem => k_is)
    (case cg_Trip => k_is)
    (case ch_Trip => k_is)
    (case cp_Trip => k_is)
    (case cs_Trip => k_is)
    (case na_Trip_word => k_is)
    (case na_Trip_asked => k_is)
    (case na_Trip_found => k_is)
    (case na_Trip_total => k_is)
    (case na_Trip_end => k_is)
    (case mk1_Trip => k_is)
    (case mk3_Trip => k_is)
    (case mk4_Trip => k_is)
    (case cg_Card => k_is)
    (case ch_Card => k_is)
    (case cp_Card => k_is)
    (case cs_Card => k_is)
    (case na_Card__heading => k_is)
    (case na_Card__books => k_is)
    (case na_Card__see => k_is)
    (case na_Card__also => k_is)
    (case mk1_Card => k_is)
    (case mk3_Card => k_is)
    (case mk4_Card => k_is)
    (case p2_Card_heading => k_is)
    (case p3_Card_heading => k_is)
    (case p2_Card_see => k_is)
    (case p3_Card_see => k_is)
    (case p2_Card_leads => k_is)
    (case p3_Card_leads => k_is)
