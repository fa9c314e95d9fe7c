import PyProof.Rows.All
import Wide.All
import OpenK.AllK
import Wide.FinOn
import HandS.ForMost
import HandS.Wide
import HandS.Property
import HandS.IsInst
import HandS.Defaults
import HandS.MakeKw
import HandS.Style
import HandS.TupAny
import HandS.Zip
import HandS.Strs
import HandS.SortKw
import PySem.Challenge.RW_seerings_k06_out_of_order_by_rising_rows
import HandS.Walk
import HandS.Iter
import KE.GoesMore
import KE.GoesEnum
import PyProof.P3Eq
import KE.DataMinMax
import HandS.SetFor
set_option Elab.async false
set_option linter.all false
set_option maxRecDepth 100000
set_option maxHeartbeats 4000000
namespace My
open PySem L2
def top (i : Nat) : Stmt := PySem.Challenge.pw_seerings_k06_out_of_order_by_rising_rows.main.body.getD i (.Pass ⟨0, 0, 0, 0⟩)
abbrev s_is_word : Stmt := top 9
abbrev N_is_word : List Str := ["text", "letter"]
theorem sc_is_word : FnScope N_is_word ["text"] (defScope s_is_word) := ⟨rfl, rfl, rfl, by decide +kernel, rfl, by decide +kernel, by decide +kernel⟩
abbrev s_is_number : Stmt := top 10
abbrev N_is_number : List Str := ["number", "least", "greatest"]
theorem sc_is_number : FnScope N_is_number ["number", "least", "greatest"] (defScope s_is_number) := ⟨rfl, rfl, rfl, by decide +kernel, rfl, by decide +kernel, by decide +kernel⟩
abbrev s_check_place : Stmt := top 11
abbrev N_check_place : List Str := ["many", "place"]
theorem sc_check_place : FnScope N_check_place ["many", "place"] (defScope s_check_place) := ⟨rfl, rfl, rfl, by decide +kernel, rfl, by decide +kernel, by decide +kernel⟩
abbrev s_Drawer_init : Stmt := inClass (top 14) 0
abbrev N_Drawer_init : List Str := ["self", "cards"]
theorem sc_Drawer_init : FnScope N_Drawer_init ["self", "cards"] (defScope s_Drawer_init) := ⟨rfl, rfl, rfl, by decide +kernel, rfl, by decide +kernel, by decide +kernel⟩
abbrev s_Drawer_cards : Stmt := inClass (top 14) 1
abbrev N_Drawer_cards : List Str := ["self"]
theorem sc_Drawer_cards : FnScope N_Drawer_cards ["self"] (defScope s_Drawer_cards) := ⟨rfl, rfl, rfl, by decide +kernel, rfl, by decide +kernel, by decide +kernel⟩
abbrev s_Drawer_without : Stmt := inClass (top 14) 3
abbrev N_Drawer_without : List Str := ["self", "places", "place", "card"]
theorem sc_Drawer_without : FnScope N_Drawer_without ["self", "places"] (defScope s_Drawer_without) := ⟨rfl, rfl, rfl, by decide +kernel, rfl, by decide +kernel, by decide +kernel⟩
abbrev s_headings_along : Stmt := top 15
abbrev N_headings_along : List Str := ["drawer", "card"]
theorem sc_headings_along : FnScope N_headings_along ["drawer"] (defScope s_headings_along) := ⟨rfl, rfl, rfl, by decide +kernel, rfl, by decide +kernel, by decide +kernel⟩
abbrev s_is_filed : Stmt := top 16
abbrev N_is_filed : List Str := ["drawer", "row", "ahead", "heading"]
theorem sc_is_filed : FnScope N_is_filed ["drawer"] (defScope s_is_filed) := ⟨rfl, rfl, rfl, by decide +kernel, rfl, by decide +kernel, by decide +kernel⟩
abbrev s_most_in_order : Stmt := top 18
abbrev N_most_in_order : List Str := ["row", "lengths", "place", "heading", "ahead", "before"]
theorem sc_most_in_order : FnScope N_most_in_order ["row"] (defScope s_most_in_order) := ⟨rfl, rfl, rfl, by decide +kernel, rfl, by decide +kernel, by decide +kernel⟩
abbrev s_out_of_order : Stmt := top 19
abbrev N_out_of_order : List Str := ["drawer", "row", "left", "last", "out", "place", "heading", "behind", "later"]
theorem sc_out_of_order : FnScope N_out_of_order ["drawer"] (defScope s_out_of_order) := ⟨rfl, rfl, rfl, by decide +kernel, rfl, by decide +kernel, by decide +kernel⟩
abbrev s_are_books : Stmt := top 24
abbrev N_are_books : List Str := ["books", "book", "later"]
theorem sc_are_books : FnScope N_are_books ["books"] (defScope s_are_books) := ⟨rfl, rfl, rfl, by decide +kernel, rfl, by decide +kernel, by decide +kernel⟩
abbrev s_is_target : Stmt := top 25
abbrev N_is_target : List Str := ["see", "heading"]
theorem sc_is_target : FnScope N_is_target ["see", "heading"] (defScope s_is_target) := ⟨rfl, rfl, rfl, by decide +kernel, rfl, by decide +kernel, by decide +kernel⟩
abbrev s_are_further : Stmt := top 26
abbrev N_are_further : List Str := ["also", "heading", "word"]
theorem sc_are_further : FnScope N_are_further ["also", "heading"] (defScope s_are_further) := ⟨rfl, rfl, rfl, by decide +kernel, rfl, by decide +kernel, by decide +kernel⟩
abbrev s_wrong_part : Stmt := top 27
abbrev N_wrong_part : List Str := ["heading", "books", "see", "also"]
theorem sc_wrong_part : FnScope N_wrong_part ["heading", "books", "see", "also"] (defScope s_wrong_part) := ⟨rfl, rfl, rfl, by decide +kernel, rfl, by decide +kernel, by decide +kernel⟩
abbrev s_Card_init : Stmt := inClass (top 28) 0
abbrev N_Card_init : List Str := ["self", "heading", "books", "see", "also", "part"]
theorem sc_Card_init : FnScope N_Card_init ["self", "heading", "books", "see", "also"] (defScope s_Card_init) := ⟨rfl, rfl, rfl, by decide +kernel, rfl, by decide +kernel, by decide +kernel⟩
abbrev s_Card_heading : Stmt := inClass (top 28) 1
abbrev N_Card_heading : List Str := ["self"]
theorem sc_Card_heading : FnScope N_Card_heading ["self"] (defScope s_Card_heading) := ⟨rfl, rfl, rfl, by decide +kernel, rfl, by decide +kernel, by decide +kernel⟩
abbrev s_llaw_taken : Stmt := top 30
abbrev N_llaw_taken : List Str := ["_law_row", "_law_many", "_law_found", "_law_cell"]
theorem sc_llaw_taken : FnScope N_llaw_taken ["_law_row", "_law_many"] (defScope s_llaw_taken) := ⟨rfl, rfl, rfl, by decide +kernel, rfl, by decide +kernel, by decide +kernel⟩
abbrev s_llaw_pick : Stmt := top 31
abbrev N_llaw_pick : List Str := ["_law_row", "_law_some"]
theorem sc_llaw_pick : FnScope N_llaw_pick ["_law_row", "_law_some"] (defScope s_llaw_pick) := ⟨rfl, rfl, rfl, by decide +kernel, rfl, by decide +kernel, by decide +kernel⟩
abbrev s_llaw_drawer : Stmt := top 32
abbrev N_llaw_drawer : List Str := ["_law_some", "_law_one"]
theorem sc_llaw_drawer : FnScope N_llaw_drawer ["_law_some"] (defScope s_llaw_drawer) := ⟨rfl, rfl, rfl, by decide +kernel, rfl, by decide +kernel, by decide +kernel⟩
abbrev s_llaw_less : Stmt := top 33
abbrev N_llaw_less : List Str := ["_law_some", "_law_places", "_law_k"]
theorem sc_llaw_less : FnScope N_llaw_less ["_law_some", "_law_places"] (defScope s_llaw_less) := ⟨rfl, rfl, rfl, by decide +kernel, rfl, by decide +kernel, by decide +kernel⟩
abbrev s_llaw_sets : Stmt := top 34
abbrev N_llaw_sets : List Str := ["_law_many", "_law_most", "_law_found", "_law_level", "_law_turn", "_law_longer", "_law_one", "_law_k"]
theorem sc_llaw_sets : FnScope N_llaw_sets ["_law_many", "_law_most"] (defScope s_llaw_sets) := ⟨rfl, rfl, rfl, by decide +kernel, rfl, by decide +kernel, by decide +kernel⟩
abbrev s_law : Stmt := top 35
abbrev N_law : List Str := ["_law_script", "_law_row", "_law_names", "_law_k", "_law_some", "_law_rows", "_law_due", "_law_found", "_law_good", "_law_places", "_law_left", "_law_one", "_law_j"]
theorem sc_law : FnScope N_law ["_law_script"] (defScope s_law) := ⟨rfl, rfl, rfl, by decide +kernel, rfl, by decide +kernel, by decide +kernel⟩
structure Top (K : PySem.W.Frag) (mg : Str → Option Value) where
  m_all : mg "all" = none
  m_bool : mg "bool" = none
  m_enumerate : mg "enumerate" = none
  m_int : mg "int" = none
  m_isinstance : mg "isinstance" = none
  m_len : mg "len" = none
  m_max : mg "max" = none
  m_range : mg "range" = none
  m_set : mg "set" = none
  m_sorted : mg "sorted" = none
  m_str : mg "str" = none
  m_tuple : mg "tuple" = none
  m_zip : mg "zip" = none
  v_LETTERS : Value
  g_LETTERS : mg "LETTERS" = some v_LETTERS
  r_LETTERS : RelV (.str "abcdefghijklmnopqrstuvwxyz") v_LETTERS
  v_LONGEST_WORD : Value
  g_LONGEST_WORD : mg "LONGEST_WORD" = some v_LONGEST_WORD
  r_LONGEST_WORD : RelV (.int 8) v_LONGEST_WORD
  v_MOST_CARDS : Value
  g_MOST_CARDS : mg "MOST_CARDS" = some v_MOST_CARDS
  r_MOST_CARDS : RelV (.int 16) v_MOST_CARDS
  v_MOST_BOOKS : Value
  g_MOST_BOOKS : mg "MOST_BOOKS" = some v_MOST_BOOKS
  r_MOST_BOOKS : RelV (.int 6) v_MOST_BOOKS
  v_LAST_BOOK : Value
  g_LAST_BOOK : mg "LAST_BOOK" = some v_LAST_BOOK
  r_LAST_BOOK : RelV (.int 999) v_LAST_BOOK
  v_MOST_ALSO : Value
  g_MOST_ALSO : mg "MOST_ALSO" = some v_MOST_ALSO
  r_MOST_ALSO : RelV (.int 4) v_MOST_ALSO
  a_is_word : Addr
  fd_is_word : FuncData
  F_is_word : Fun K "is_word" "is_word" s_is_word a_is_word fd_is_word
  g_is_word : mg "is_word" = some (.ref a_is_word)
  a_is_number : Addr
  fd_is_number : FuncData
  F_is_number : Fun K "is_number" "is_number" s_is_number a_is_number fd_is_number
  g_is_number : mg "is_number" = some (.ref a_is_number)
  a_check_place : Addr
  fd_check_place : FuncData
  F_check_place : Fun K "check_place" "check_place" s_check_place a_check_place fd_check_place
  g_check_place : mg "check_place" = some (.ref a_check_place)
  a_Drawer_init : Addr
  fd_Drawer_init : FuncData
  F_Drawer_init : Fun K "__init__" "Drawer.__init__" s_Drawer_init a_Drawer_init fd_Drawer_init
  a_Drawer_cards : Addr
  fd_Drawer_cards : FuncData
  F_Drawer_cards : Fun K "cards" "Drawer.cards" s_Drawer_cards a_Drawer_cards fd_Drawer_cards
  a_Drawer_without : Addr
  fd_Drawer_without : FuncData
  F_Drawer_without : Fun K "without" "Drawer.without" s_Drawer_without a_Drawer_without fd_Drawer_without
  a_headings_along : Addr
  fd_headings_along : FuncData
  F_headings_along : Fun K "headings_along" "headings_along" s_headings_along a_headings_along fd_headings_along
  g_headings_along : mg "headings_along" = some (.ref a_headings_along)
  a_is_filed : Addr
  fd_is_filed : FuncData
  F_is_filed : Fun K "is_filed" "is_filed" s_is_filed a_is_filed fd_is_filed
  g_is_filed : mg "is_filed" = some (.ref a_is_filed)
  a_most_in_order : Addr
  fd_most_in_order : FuncData
  F_most_in_order : Fun K "most_in_order" "most_in_order" s_most_in_order a_most_in_order fd_most_in_order
  g_most_in_order : mg "most_in_order" = some (.ref a_most_in_order)
  a_out_of_order : Addr
  fd_out_of_order : FuncData
  F_out_of_order : Fun K "out_of_order" "out_of_order" s_out_of_order a_out_of_order fd_out_of_order
  g_out_of_order : mg "out_of_order" = some (.ref a_out_of_order)
  a_are_books : Addr
  fd_are_books : FuncData
  F_are_books : Fun K "are_books" "are_books" s_are_books a_are_books fd_are_books
  g_are_books : mg "are_books" = some (.ref a_are_books)
  a_is_target : Addr
  fd_is_target : FuncData
  F_is_target : Fun K "is_target" "is_target" s_is_target a_is_target fd_is_target
  g_is_target : mg "is_target" = some (.ref a_is_target)
  a_are_further : Addr
  fd_are_further : FuncData
  F_are_further : Fun K "are_further" "are_further" s_are_further a_are_further fd_are_further
  g_are_further : mg "are_further" = some (.ref a_are_further)
  a_wrong_part : Addr
  fd_wrong_part : FuncData
  F_wrong_part : Fun K "wrong_part" "wrong_part" s_wrong_part a_wrong_part fd_wrong_part
  g_wrong_part : mg "wrong_part" = some (.ref a_wrong_part)
  a_Card_init : Addr
  e_Card_init_0 : Addr
  e_Card_init_2 : Addr
  fd_Card_init : FuncData
  F_Card_init : FunD K "__init__" "Card.__init__" (defArgs s_Card_init) (defBody s_Card_init) (defScope s_Card_init) [.ref e_Card_init_0, .str "", .ref e_Card_init_2] [] a_Card_init fd_Card_init
  a_Card_heading : Addr
  fd_Card_heading : FuncData
  F_Card_heading : Fun K "heading" "Card.heading" s_Card_heading a_Card_heading fd_Card_heading
  a_llaw_taken : Addr
  fd_llaw_taken : FuncData
  F_llaw_taken : Fun K "_law_taken" "_law_taken" s_llaw_taken a_llaw_taken fd_llaw_taken
  g_llaw_taken : mg "_law_taken" = some (.ref a_llaw_taken)
  a_llaw_pick : Addr
  fd_llaw_pick : FuncData
  F_llaw_pick : Fun K "_law_pick" "_law_pick" s_llaw_pick a_llaw_pick fd_llaw_pick
  g_llaw_pick : mg "_law_pick" = some (.ref a_llaw_pick)
  a_llaw_drawer : Addr
  fd_llaw_drawer : FuncData
  F_llaw_drawer : Fun K "_law_drawer" "_law_drawer" s_llaw_drawer a_llaw_drawer fd_llaw_drawer
  g_llaw_drawer : mg "_law_drawer" = some (.ref a_llaw_drawer)
  a_llaw_less : Addr
  fd_llaw_less : FuncData
  F_llaw_less : Fun K "_law_less" "_law_less" s_llaw_less a_llaw_less fd_llaw_less
  g_llaw_less : mg "_law_less" = some (.ref a_llaw_less)
  a_llaw_sets : Addr
  fd_llaw_sets : FuncData
  F_llaw_sets : Fun K "_law_sets" "_law_sets" s_llaw_sets a_llaw_sets fd_llaw_sets
  g_llaw_sets : mg "_law_sets" = some (.ref a_llaw_sets)
  a_law : Addr
  fd_law : FuncData
  F_law : Fun K "law" "law" s_law a_law fd_law
  g_law : mg "law" = some (.ref a_law)
  c_Drawer : Addr
  g_Drawer : mg "Drawer" = some (.ref c_Drawer)
  cl_Drawer : Cls K c_Drawer
  n_Drawer__cards : NoAttr K c_Drawer "_cards"
  Mk_Drawer : Mk K c_Drawer a_Drawer_init
  p_Drawer_cards : Addr
  P_Drawer_cards : PropOf K c_Drawer "cards" p_Drawer_cards a_Drawer_cards
  M_Drawer_without : Meth K c_Drawer "without" a_Drawer_without
  c_Card : Addr
  g_Card : mg "Card" = some (.ref c_Card)
  cl_Card : Cls K c_Card
  n_Card__heading : NoAttr K c_Card "_heading"
  n_Card__books : NoAttr K c_Card "_books"
  n_Card__see : NoAttr K c_Card "_see"
  n_Card__also : NoAttr K c_Card "_also"
  Mk_Card : Mk K c_Card a_Card_init
  p_Card_heading : Addr
  P_Card_heading : PropOf K c_Card "heading" p_Card_heading a_Card_heading
theorem b_is_word {K : PySem.W.Frag} {mg : Str → Option Value} (T : Top K mg) : Binds K T.fd_is_word ["text"] [] := T.F_is_word.binds (ps := ["text"]) fun _ _ _ _ _ _ us hl => match us, hl with | [_], _ => rfl
theorem b_is_number {K : PySem.W.Frag} {mg : Str → Option Value} (T : Top K mg) : Binds K T.fd_is_number ["number", "least", "greatest"] [] := T.F_is_number.binds (ps := ["number", "least", "greatest"]) fun _ _ _ _ _ _ us hl => match us, hl with | [_, _, _], _ => rfl
theorem b_check_place {K : PySem.W.Frag} {mg : Str → Option Value} (T : Top K mg) : Binds K T.fd_check_place ["many", "place"] [] := T.F_check_place.binds (ps := ["many", "place"]) fun _ _ _ _ _ _ us hl => match us, hl with | [_, _], _ => rfl
theorem b_Drawer_init {K : PySem.W.Frag} {mg : Str → Option Value} (T : Top K mg) : Binds K T.fd_Drawer_init ["self", "cards"] [] := T.F_Drawer_init.binds (ps := ["self", "cards"]) fun _ _ _ _ _ _ us hl => match us, hl with | [_, _], _ => rfl
theorem b_Drawer_cards {K : PySem.W.Frag} {mg : Str → Option Value} (T : Top K mg) : Binds K T.fd_Drawer_cards ["self"] [] := T.F_Drawer_cards.binds (ps := ["self"]) fun _ _ _ _ _ _ us hl => match us, hl with | [_], _ => rfl
theorem b_Drawer_without {K : PySem.W.Frag} {mg : Str → Option Value} (T : Top K mg) : Binds K T.fd_Drawer_without ["self", "places"] [] := T.F_Drawer_without.binds (ps := ["self", "places"]) fun _ _ _ _ _ _ us hl => match us, hl with | [_, _], _ => rfl
theorem b_headings_along {K : PySem.W.Frag} {mg : Str → Option Value} (T : Top K mg) : Binds K T.fd_headings_along ["drawer"] [] := T.F_headings_along.binds (ps := ["drawer"]) fun _ _ _ _ _ _ us hl => match us, hl with | [_], _ => rfl
theorem b_is_filed {K : PySem.W.Frag} {mg : Str → Option Value} (T : Top K mg) : Binds K T.fd_is_filed ["drawer"] [] := T.F_is_filed.binds (ps := ["drawer"]) fun _ _ _ _ _ _ us hl => match us, hl with | [_], _ => rfl
theorem b_most_in_order {K : PySem.W.Frag} {mg : Str → Option Value} (T : Top K mg) : Binds K T.fd_most_in_order ["row"] [] := T.F_most_in_order.binds (ps := ["row"]) fun _ _ _ _ _ _ us hl => match us, hl with | [_], _ => rfl
theorem b_out_of_order {K : PySem.W.Frag} {mg : Str → Option Value} (T : Top K mg) : Binds K T.fd_out_of_order ["drawer"] [] := T.F_out_of_order.binds (ps := ["drawer"]) fun _ _ _ _ _ _ us hl => match us, hl with | [_], _ => rfl
theorem b_are_books {K : PySem.W.Frag} {mg : Str → Option Value} (T : Top K mg) : Binds K T.fd_are_books ["books"] [] := T.F_are_books.binds (ps := ["books"]) fun _ _ _ _ _ _ us hl => match us, hl with | [_], _ => rfl
theorem b_is_target {K : PySem.W.Frag} {mg : Str → Option Value} (T : Top K mg) : Binds K T.fd_is_target ["see", "heading"] [] := T.F_is_target.binds (ps := ["see", "heading"]) fun _ _ _ _ _ _ us hl => match us, hl with | [_, _], _ => rfl
theorem b_are_further {K : PySem.W.Frag} {mg : Str → Option Value} (T : Top K mg) : Binds K T.fd_are_further ["also", "heading"] [] := T.F_are_further.binds (ps := ["also", "heading"]) fun _ _ _ _ _ _ us hl => match us, hl with | [_, _], _ => rfl
theorem b_wrong_part {K : PySem.W.Frag} {mg : Str → Option Value} (T : Top K mg) : Binds K T.fd_wrong_part ["heading", "books", "see", "also"] [] := T.F_wrong_part.binds (ps := ["heading", "books", "see", "also"]) fun _ _ _ _ _ _ us hl => match us, hl with | [_, _, _, _], _ => rfl
theorem b_Card_heading {K : PySem.W.Frag} {mg : Str → Option Value} (T : Top K mg) : Binds K T.fd_Card_heading ["self"] [] := T.F_Card_heading.binds (ps := ["self"]) fun _ _ _ _ _ _ us hl => match us, hl with | [_], _ => rfl
theorem b_llaw_taken {K : PySem.W.Frag} {mg : Str → Option Value} (T : Top K mg) : Binds K T.fd_llaw_taken ["_law_row", "_law_many"] [] := T.F_llaw_taken.binds (ps := ["_law_row", "_law_many"]) fun _ _ _ _ _ _ us hl => match us, hl with | [_, _], _ => rfl
theorem b_llaw_pick {K : PySem.W.Frag} {mg : Str → Option Value} (T : Top K mg) : Binds K T.fd_llaw_pick ["_law_row", "_law_some"] [] := T.F_llaw_pick.binds (ps := ["_law_row", "_law_some"]) fun _ _ _ _ _ _ us hl => match us, hl with | [_, _], _ => rfl
theorem b_llaw_drawer {K : PySem.W.Frag} {mg : Str → Option Value} (T : Top K mg) : Binds K T.fd_llaw_drawer ["_law_some"] [] := T.F_llaw_drawer.binds (ps := ["_law_some"]) fun _ _ _ _ _ _ us hl => match us, hl with | [_], _ => rfl
theorem b_llaw_less {K : PySem.W.Frag} {mg : Str → Option Value} (T : Top K mg) : Binds K T.fd_llaw_less ["_law_some", "_law_places"] [] := T.F_llaw_less.binds (ps := ["_law_some", "_law_places"]) fun _ _ _ _ _ _ us hl => match us, hl with | [_, _], _ => rfl
theorem b_llaw_sets {K : PySem.W.Frag} {mg : Str → Option Value} (T : Top K mg) : Binds K T.fd_llaw_sets ["_law_many", "_law_most"] [] := T.F_llaw_sets.binds (ps := ["_law_many", "_law_most"]) fun _ _ _ _ _ _ us hl => match us, hl with | [_, _], _ => rfl
theorem b_law {K : PySem.W.Frag} {mg : Str → Option Value} (T : Top K mg) : Binds K T.fd_law ["_law_script"] [] := T.F_law.binds (ps := ["_law_script"]) fun _ _ _ _ _ _ us hl => match us, hl with | [_], _ => rfl
end My
namespace My
open PySem L2
section
variable {K : PySem.W.Frag} {H H' H1 H2 : Hp} {a b p r : Addr} {o o' : HO} {xs ys : List V}
/-! ### what stands stays -/
theorem sql_upd (h : SqL K H a xs) (n : a ≠ p) : SqL K (upd H p o) a xs := by
  rcases h with (h | ⟨u, h⟩) | h
  · exact .inl (.inl (by rw [upd_ne n]; exact h))
  · exact .inl (.inr ⟨u, by rw [upd_ne n]; exact h⟩)
  · exact .inr h
theorem sqt_upd (h : SqT K H a xs) (n : a ≠ p) : SqT K (upd H p o) a xs := by
  rcases h with (h | ⟨u, h⟩) | h
  · exact .inl (.inl (by rw [upd_ne n]; exact h))
  · exact .inl (.inr ⟨u, by rw [upd_ne n]; exact h⟩)
  · exact .inr h
theorem _root_.L2.Same.seqT (e : Same H H') (h : SqT K H a xs) : SqT K H' a xs := by
  rcases h with (h | ⟨o, h⟩) | h
  · exact .inl (.inl (e _ _ h))
  · exact .inl (.inr ⟨o, e _ _ h⟩)
  · exact .inr h
theorem same_new (n : H p = none) : Same H (upd H p o) := fun b x e => by
  rw [upd_ne (ne_of_none e n)]
  exact e
/-- an object that H does not know may change -/
theorem same_mut (e : Same H H') (n : H p = none) : Same H (upd H' p o) := fun b x h => by
  rw [upd_ne (ne_of_none h n)]
  exact e b x h
theorem kp (h : H r = some o) (n : H p = none) : upd H p o' r = some o := by
  rw [upd_ne (ne_of_none h n)]
  exact h
theorem kn (h : H r = some o) (n : r ≠ p) : upd H p o' r = some o := by
  rw [upd_ne n]
  exact h
/-- all but one -/
def But (r : Addr) (H H' : Hp) : Prop := ∀ b o, H b = some o → b ≠ r → H' b = some o
theorem But.refl : But r H H := fun _ _ h _ => h
theorem But.trans (a : But r H H1) (b : But r H1 H2) : But r H H2 := fun c o h n => b c o (a c o h n) n
theorem But.upd (a : But r H H1) : But r H (L2.upd H1 r o) := fun c x h n => by
  rw [upd_ne n]
  exact a c x h n
theorem But.same (a : But r H H1) (b : Same H1 H2) : But r H H2 := fun c o h n => b c o (a c o h n)
theorem _root_.L2.Same.but (a : Same H H1) : But r H H1 := fun c o h _ => a c o h
theorem But.seq (e : But r H H') (n : a ≠ r) (h : SqL K H a xs) : SqL K H' a xs := by
  rcases h with (h | ⟨o, h⟩) | h
  · exact .inl (.inl (e _ _ h n))
  · exact .inl (.inr ⟨o, e _ _ h n⟩)
  · exact .inr h
theorem But.seqT (e : But r H H') (n : a ≠ r) (h : SqT K H a xs) : SqT K H' a xs := by
  rcases h with (h | ⟨o, h⟩) | h
  · exact .inl (.inl (e _ _ h n))
  · exact .inl (.inr ⟨o, e _ _ h n⟩)
  · exact .inr h
theorem But.free (e : But r H H') (hr : ∃ o, H r = some o) {l : Addr} (h : H' l = none) (hr' : ∃ o, H' r = some o) : H l = none := by
  cases q : H l with
  | none => rfl
  | some o =>
    by_cases z : l = r
    · subst z
      obtain ⟨o, ho⟩ := hr'
      rw [h] at ho
      cases ho
    · rw [e l o q z] at h
      cases h
/-- what never changes stays -/
def immO : HO → Bool
  | .tup _ => true
  | .ins _ _ _ => true
  | .frz _ _ => true
  | .own _ => true
  | _ => false
def Imm (H H' : Hp) : Prop := ∀ b o, H b = some o → immO o = true → H' b = some o
theorem Imm.refl : Imm H H := fun _ _ h _ => h
theorem Imm.trans (a : Imm H H1) (b : Imm H1 H2) : Imm H H2 := fun c o h n => b c o (a c o h n) n
theorem _root_.L2.Same.imm (a : Same H H1) : Imm H H1 := fun c o h _ => a c o h
theorem But.imm (a : But r H H1) (h : H r = some o) (n : immO o = false) : Imm H H1 := fun c u hc hu => a c u hc fun e => by
  subst e
  rw [h] at hc
  cases hc
  rw [n] at hu
  cases hu
theorem Imm.mut (a : Imm H H1) (h : H1 p = some o) (n : immO o = false) : Imm H (upd H1 p o') := fun c u hc hu => by
  have h1 := a c u hc hu
  rw [upd_ne (fun e => by
    subst e
    rw [h] at h1
    cases h1
    rw [n] at hu
    cases hu)]
  exact h1
theorem Imm.new (a : Imm H H1) (h : H1 p = none) : Imm H (upd H1 p o') := fun c u hc hu => by
  rw [upd_ne (ne_of_none (a c u hc hu) h)]
  exact a c u hc hu
theorem Imm.seqT (e : Imm H H') (h : SqT K H a xs) : SqT K H' a xs := by
  rcases h with (h | ⟨o, h⟩) | h
  · exact .inl (.inl (e _ _ h rfl))
  · exact .inl (.inr ⟨o, e _ _ h rfl⟩)
  · exact .inr h
theorem sizeLine_of {n : Nat} (h : n ≤ 1000000) : n < sizeLine := Nat.lt_of_le_of_lt h (by decide)
/-- a comprehension whose turns change nothing that stands: what it makes, turn by turn -/
theorem lc_rel {J : It} {n : Nat} {G : Hp → Prop} {Y : Nat → Hp → V → Hp → Prop} (w : Walk J n G Y) {g : TG} {tt : TT} {te : TE} {vs : List Nat} {σ : St} {D : Addr} {Qd : Hp → Prop} (hn : n ≤ 1000000) (hD : H1 D = none)
    (Rl : Nat → Option V → Hp → Prop) (mono : ∀ i z H H', Imm H H' → Rl i z H → Rl i z H') (hG : ∀ H, Same H1 H → G H)
    (hs : ∀ i x H H', i < n → Same H1 H → Y i H x H' → ∀ (R : V → Hp → Prop) (R0 : Hp → Prop), (∀ y H4, Rl i (some y) H4 → Same H H4 → R y H4) → (∀ H3, Rl i none H3 → Same H H3 → R0 H3) →
      g x (wipe σ vs) H' fun σ2 H2 => wipe σ2 vs = wipe σ vs ∧ tt σ2 H2 fun b H3 => if b = true then te σ2 H3 R else R0 H3)
    (hd : ∀ H (zs : List (Option V)), Same H1 H → zs.length = n → (∀ i z, zs[i]? = some z → Rl i z H) → H D = some (.lst (zs.filterMap id)) → Qd H) :
    ∃ W : Nat → Nat → Hp → Prop, (∃ m, W 0 m (upd H1 D (.lst []))) ∧ ∀ i m H, W i m H →
      (J.stop i H ∧ Qd H) ∨ (J.go i H ∧ ∃ Nx : Hp → Prop, (∀ H', Nx H' → ∃ m', m' < m ∧ W (i + 1) m' H') ∧ ∀ x H', J.yld i H x H' → g x (wipe σ vs) H' fun σ2 H2 => wipe σ2 vs = wipe σ vs ∧ tt σ2 H2 fun b H3 =>
        if b = true then te σ2 H3 fun y H4 => ∃ acc, H4 D = some (.lst acc) ∧ acc.length < sizeLine ∧ Nx (upd H4 D (.lst (acc ++ [y]))) else Nx H3) := by
  have fl : ∀ zs : List (Option V), (zs.filterMap id).length ≤ zs.length := fun zs => List.length_filterMap_le _ _
  have get_app : ∀ (zs : List (Option V)) (z : Option V) (j : Nat) (y : Option V), (zs ++ [z])[j]? = some y → zs[j]? = some y ∨ (j = zs.length ∧ y = z) := fun zs z j y h => by
    by_cases hj : j < zs.length
    · rw [List.getElem?_append_left hj] at h
      exact .inl h
    · rw [List.getElem?_append_right (by omega)] at h
      have hj2 : j - zs.length = 0 := by
        cases e : j - zs.length with
        | zero => rfl
        | succ k => rw [e] at h; simp at h
      rw [hj2] at h
      exact .inr ⟨by omega, (Option.some.inj h).symm⟩
  refine lc_it w (fun i H => ∃ zs : List (Option V), zs.length = i ∧ Same H1 H ∧ (∀ j z, zs[j]? = some z → Rl j z H) ∧ H D = some (.lst (zs.filterMap id)))
    ⟨[], rfl, same_new hD, fun j z h => by simp at h, upd_same⟩ (fun i H _ ⟨_, _, s, _⟩ => hG H s) ?_ (fun H ⟨zs, l, s, r, e⟩ => hd H zs s l r e)
  rintro i x H H' hi ⟨zs, l, s, r, e⟩ hy
  refine hs i x H H' hi s hy _ _ (fun y H4 hr s4 => ?_) (fun H3 hr s3 => ?_)
  · refine ⟨zs.filterMap id, s4 _ _ e, sizeLine_of (by have := fl zs; omega), zs ++ [some y], by rw [List.length_append, l]; rfl, same_mut (s.trans s4) hD, fun j z h => ?_, ?_⟩
    · have im : Imm H (upd H4 D (.lst (zs.filterMap id ++ [y]))) := s4.imm.mut (s4 _ _ e) rfl
      have im4 : Imm H4 (upd H4 D (.lst (zs.filterMap id ++ [y]))) := Imm.refl.mut (s4 _ _ e) rfl
      rcases get_app zs _ j z h with h | ⟨rfl, rfl⟩
      · exact mono j z _ _ im (r j z h)
      · rw [l]
        exact mono i _ _ _ im4 hr
    · rw [upd_same, List.filterMap_append]
      rfl
  · refine ⟨zs ++ [none], by rw [List.length_append, l]; rfl, s.trans s3, fun j z h => ?_, ?_⟩
    · rcases get_app zs _ j z h with h | ⟨rfl, rfl⟩
      · exact mono j z _ _ s3.imm (r j z h)
      · rw [l]
        exact hr
    · rw [s3 _ _ e, List.filterMap_append]
      simp
/-- .. of values that a function tells -/
theorem lc_fn {J : It} {n : Nat} {G : Hp → Prop} {Y : Nat → Hp → V → Hp → Prop} (w : Walk J n G Y) {g : TG} {tt : TT} {te : TE} {vs : List Nat} {σ : St} {D : Addr} {Qd : Hp → Prop} (hn : n ≤ 1000000) (hD : H1 D = none)
    (f : Nat → Option V) (hG : ∀ H, Same H1 H → G H)
    (hs : ∀ i x H H', i < n → Same H1 H → Y i H x H' → ∀ (R : V → Hp → Prop) (R0 : Hp → Prop), (∀ y H4, f i = some y → Same H H4 → R y H4) → (∀ H3, f i = none → Same H H3 → R0 H3) →
      g x (wipe σ vs) H' fun σ2 H2 => wipe σ2 vs = wipe σ vs ∧ tt σ2 H2 fun b H3 => if b = true then te σ2 H3 R else R0 H3)
    (hd : ∀ H, Same H1 H → H D = some (.lst ((List.range n).filterMap f)) → Qd H) :
    ∃ W : Nat → Nat → Hp → Prop, (∃ m, W 0 m (upd H1 D (.lst []))) ∧ ∀ i m H, W i m H →
      (J.stop i H ∧ Qd H) ∨ (J.go i H ∧ ∃ Nx : Hp → Prop, (∀ H', Nx H' → ∃ m', m' < m ∧ W (i + 1) m' H') ∧ ∀ x H', J.yld i H x H' → g x (wipe σ vs) H' fun σ2 H2 => wipe σ2 vs = wipe σ vs ∧ tt σ2 H2 fun b H3 =>
        if b = true then te σ2 H3 fun y H4 => ∃ acc, H4 D = some (.lst acc) ∧ acc.length < sizeLine ∧ Nx (upd H4 D (.lst (acc ++ [y]))) else Nx H3) := by
  refine lc_rel w hn hD (fun i z _ => f i = z) (fun _ _ _ _ _ h => h) hG hs fun H zs s l r e => hd H s ?_
  have ez : zs = (List.range n).map f := by
    apply List.ext_getElem?
    intro i
    rw [List.getElem?_map]
    cases h : zs[i]? with
    | none =>
      rw [List.getElem?_eq_none_iff] at h
      rw [List.getElem?_eq_none (by rw [List.length_range]; omega)]
      rfl
    | some z =>
      have hi := (List.getElem?_eq_some_iff.mp h).1
      rw [List.getElem?_range (by omega)]
      exact (congrArg some (r i z h)).symm
  rw [e, ez, List.filterMap_map]
  rfl
/-- .. without a test -/
theorem lc_map {J : It} {n : Nat} {G : Hp → Prop} {Y : Nat → Hp → V → Hp → Prop} (w : Walk J n G Y) {g : TG} {te : TE} {vs : List Nat} {σ : St} {D : Addr} {Qd : Hp → Prop} (hn : n ≤ 1000000) (hD : H1 D = none)
    (f : Nat → V) (hG : ∀ H, Same H1 H → G H)
    (hs : ∀ i x H H', i < n → Same H1 H → Y i H x H' → ∀ R : V → Hp → Prop, (∀ H4, Same H H4 → R (f i) H4) → g x (wipe σ vs) H' fun σ2 H2 => wipe σ2 vs = wipe σ vs ∧ te σ2 H2 R)
    (hd : ∀ H, Same H1 H → H D = some (.lst ((List.range n).map f)) → Qd H) (hg : ∀ x σ H (A B : St → Hp → Prop), (∀ σ2 H2, A σ2 H2 → B σ2 H2) → g x σ H A → g x σ H B) :
    ∃ W : Nat → Nat → Hp → Prop, (∃ m, W 0 m (upd H1 D (.lst []))) ∧ ∀ i m H, W i m H →
      (J.stop i H ∧ Qd H) ∨ (J.go i H ∧ ∃ Nx : Hp → Prop, (∀ H', Nx H' → ∃ m', m' < m ∧ W (i + 1) m' H') ∧ ∀ x H', J.yld i H x H' → g x (wipe σ vs) H' fun σ2 H2 => wipe σ2 vs = wipe σ vs ∧ tYes σ2 H2 fun b H3 =>
        if b = true then te σ2 H3 fun y H4 => ∃ acc, H4 D = some (.lst acc) ∧ acc.length < sizeLine ∧ Nx (upd H4 D (.lst (acc ++ [y]))) else Nx H3) := by
  refine lc_fn w hn hD (fun i => some (f i)) hG (fun i x H H' hi s hy R R0 r1 r0 => hg _ _ _ _ _ (fun σ2 H2 h => ⟨h.1, ?_⟩) (hs i x H H' hi s hy R fun H4 s4 => r1 _ _ rfl s4)) (fun H s e => hd H s (by rw [e, List.filterMap_eq_map']))
  show (if true = true then te σ2 H2 R else R0 H2)
  rw [if_pos rfl]
  exact h.2
theorem gName_mono {k : Nat} : ∀ (x : V) (σ : St) (H : Hp) (A B : St → Hp → Prop), (∀ σ2 H2, A σ2 H2 → B σ2 H2) → gName k x σ H A → gName k x σ H B := fun _ _ _ _ _ h a => h _ _ a
theorem range_get {α : Type} (l : List α) : (List.range l.length).filterMap (fun i => l[i]?) = l := by
  induction l with
  | nil => rfl
  | cons x r ih =>
    rw [List.length_cons, List.range_succ_eq_map, List.filterMap_cons]
    show x :: _ = _
    rw [List.filterMap_map]
    exact congrArg (x :: ·) ih
theorem range_map {α β : Type} (l : List α) (f : α → β) (g : Nat → β) (h : ∀ i x, l[i]? = some x → g i = f x) : (List.range l.length).map g = l.map f := by
  apply List.ext_getElem?
  intro i
  rw [List.getElem?_map, List.getElem?_map]
  cases e : l[i]? with
  | none =>
    rw [List.getElem?_eq_none_iff] at e
    rw [List.getElem?_eq_none (by rw [List.length_range]; omega)]
    rfl
  | some x =>
    rw [List.getElem?_range (List.getElem?_eq_some_iff.mp e).1]
    exact congrArg some (h i x e)
theorem range_fm {α β : Type} (l : List α) (f : α → Option β) (g : Nat → Option β) (h : ∀ i x, l[i]? = some x → g i = f x) : (List.range l.length).filterMap g = l.filterMap f := by
  have e : (List.range l.length).map g = l.map f := range_map l f g h
  have e1 : (List.range l.length).filterMap g = ((List.range l.length).map g).filterMap id := by rw [List.filterMap_map]; rfl
  have e2 : l.filterMap f = (l.map f).filterMap id := by rw [List.filterMap_map]; rfl
  rw [e1, e2, e]
end
end My
namespace My
open PySem PySem.Spec PyProof.Rows L2
/-! ### enumerate(tuple): by the library's Draws -/
def IteT (K : PySem.W.Frag) (a : Addr) : It :=
  ⟨fun i H => ∃ (xs : List V) (x : V), SqT K H a xs ∧ xs[i]? = some x,
   fun i H v H' => ∃ T x, v = .ref T ∧ H T = none ∧ H' = upd H T (.tup [.int (i : Nat), x]) ∧ ∀ xs, SqT K H a xs → xs[i]? = some x,
   fun i H => ∃ xs : List V, SqT K H a xs ∧ xs.length = i⟩
theorem turn_enumT {P : Program} {w : World} {K : PySem.W.Frag} {elts : List Expr} {kk : Nat} {tpos : Pos} (a e it : Addr) (hei : e ≠ it) (hea : e ≠ a) (hai : a ≠ it) :
    Turn P w K (.Tuple elts kk tpos) (IteT K a) [e, it] e (fun i h => (∃ old, IsEnum h e it ((i : Nat) : Int) old) ∧ h.IsTupleIter it a i) where
  mem := by simp
  obj := fun i h st b hb => by
    obtain ⟨⟨old, he⟩, ⟨o, ho, hc, hd⟩⟩ := st
    rcases (by simpa using hb : b = e ∨ b = it) with rfl | rfl
    · exact ⟨_, he, fun v q => nomatch q⟩
    · exact ⟨o, ho, fun v q => by rw [hd] at q; cases q⟩
  keep := fun i h h' st k => by
    obtain ⟨⟨old, he⟩, hi⟩ := st
    exact ⟨⟨old, k e (by simp) _ he⟩, hi.at fun o q => k it (by simp) o q⟩
  item := by
    intro X hP hw hK hc i pins s σ H E I hf st hg
    subst hP hw hK
    obtain ⟨⟨old, he⟩, hit⟩ := st
    obtain ⟨xs, x, hq, hx⟩ := hg
    obtain ⟨its, rv, p, hz⟩ := I.tuple hq
    obtain ⟨u, hu, ru⟩ := rv.get hx
    have lt_e : e < s.heap.objs.size := Heap.lt_size he
    have lt_i : it < s.heap.objs.size := by
      obtain ⟨_, q, _⟩ := hit
      exact Heap.lt_size q
    have hlt : i < its.toArray.size := by
      have := (List.getElem?_eq_some_iff.mp hu).1
      simpa using this
    have D : Draws X.prog X.w X.A.in1 it [it, a] its.toArray.size (fun i v => its.toArray[i]? = some v) (fun i h => h.IsTupleIter it a i ∧ h.IsTuple a its.toArray) :=
      Draws.tuple (show X.A.in1.handled = none from I.ok.hd hc) it a hai its.toArray
    refine wpAny_pyNext_enum_itemD D he ⟨hit, p⟩ hlt hei (by simp [hei, hea]) fun x' h' tk hx' ho hst' hT hsz hk => ?_
    obtain rfl : x' = u := by
      have e1 : its.toArray[i]? = some u := by simpa using hu
      exact Option.some.inj (hx'.symm.trans e1)
    refine ⟨_, rfl, wpAny_letOwnedTupleGo_enum (s := { s with heap := h', toks := tk + 1 }) ho fun h'' he' sb => ?_⟩
    have hT2 := (sb.2 _ (Nat.ne_of_gt lt_e)).trans hT
    have new : ObjOk X.prog X.w (upd H s.heap.objs.size (.tup [.int (i : Nat), x])) h'' s.heap.objs.size (.tup [.int (i : Nat), x]) :=
      ⟨by show 2 ≤ sizeLine; decide, [.int i tk, x'], .cons ⟨_, rfl⟩ (.cons ru .nil), ⟨_, hT2, rfl, _, rfl⟩⟩
    have I1 : Inv X pins σ (upd H s.heap.objs.size (.tup [.int (i : Nat), x])) { s with heap := h'', toks := tk + 1 } :=
      I.turnedNew (ch := [e, it]) (fun b ob hb q => (sb.2 b (fun z => hb (by simp [z]))).trans (hk b ob (fun z => hb (by simp [z])) (fun z => hb (by simp [z])) q)) hf (Nat.le_refl _) new
    refine ⟨.ref s.heap.objs.size, _, I1, rfl, ⟨_, x, rfl, I.hok.fresh (Nat.le_refl _), rfl, fun ys hy => by rw [I.tuple_inj hy hq]; exact hx⟩, ⟨⟨x', ?_⟩, ?_⟩, fun b hb => ?_⟩
    · have e1 : ((i + 1 : Nat) : Int) = (i : Int) + 1 := by omega
      rw [e1]
      exact he'
    · exact hst'.1.at fun o q => (sb.2 it (Ne.symm hei)).trans q
    · have lt_b : b < s.heap.objs.size := by
        rcases (by simpa using hb : b = e ∨ b = it) with z | z
        · rw [z]; exact lt_e
        · rw [z]; exact lt_i
      rw [upd_ne (Nat.ne_of_lt lt_b)]
      exact (hf b hb).1
  done := by
    intro X hP hw hK hc i pins s σ H E I hf st hg
    subst hP hw hK
    obtain ⟨⟨old, he⟩, hit⟩ := st
    obtain ⟨xs, hq, hx⟩ := hg
    obtain ⟨its, rv, p, hz⟩ := I.tuple hq
    obtain ⟨f0, f1, f2, f3, f4, f5⟩ := hf it (by simp)
    have hl := rv.length
    obtain rfl : i = its.toArray.size := by rw [← hx, hl, List.size_toArray]
    have D : Draws X.prog X.w X.A.in1 it [it, a] its.toArray.size (fun i v => its.toArray[i]? = some v) (fun i h => h.IsTupleIter it a i ∧ h.IsTuple a its.toArray) :=
      Draws.tuple (show X.A.in1.handled = none from I.ok.hd hc) it a hai its.toArray
    exact wpAny_pyNext_enum_endD D he ⟨hit, p⟩ fun h' eb => ⟨rfl, I.turned (t' := s.toks) (fun b o hb q => eb b o hb q) f0 f1 f3 f4 f5⟩
  self := fun A i s Q E st h => let ⟨⟨_, he⟩, _⟩ := st; wpAny_pyIter_enum he h
set_option maxHeartbeats 1000000 in
/-- enumerate(v), whatever v begins with -/
theorem meets_en1 {v : Value} {o : Obj} {H : Heap → Prop} (B : Begins v o H) :
    Meets (Builtin.«enumerate.__new__» ⟨[.type "enumerate", v], []⟩) (fun _ R s => H s.heap ∧
      R (.ok (.ret (.ref (s.heap.push o).objs.size))) { s with heap := (s.heap.push o).push { cls := .type "enumerate", data := .fields #[.none, .bool false, .ref s.heap.objs.size, rawInt 0, .none, .none] } }) :=
  .of_wp fun prog w A R s h => by
    obtain ⟨hp, g, d, tk, os⟩ := s
    obtain ⟨h1, h⟩ := h
    have hs := sub_enumerate
    have q1 : ∀ {A' : Around} {E : Value → Shared → Prop} {Q : Value → Shared → Prop}, Q (.ref hp.objs.size) ⟨hp.push o, g, d, tk, os⟩ → wpAny (model prog w) A' (pyIter v) Q E ⟨hp, g, d, tk, os⟩ :=
      fun q => B.iter prog w _ _ ⟨hp, g, d, tk, os⟩ _ h1 q
    wp_walk using q1
    refine wpAny_stack_any fun st => wpAny_pure ?_
    split
    · rename_i c _ _ _ _ _
      cases (c == Value.type "enumerate") <;> (wp_walk using q1; exact ⟨_, rfl, h⟩)
    · wp_walk using q1
      exact ⟨_, rfl, h⟩
theorem call_en1 {prog : Program} {w : World} {A : Around} {E : Value → Shared → Prop} {s : Shared} {v : Value} {o : Obj} {H : Heap → Prop} {Q : Value → Shared → Prop} (B : Begins v o H) (h1 : H s.heap)
    (h : ∀ h', IsEnum h' (s.heap.objs.size + 1) s.heap.objs.size 0 .none → h'.get? s.heap.objs.size = some o →
      (∀ b o, s.heap.get? b = some o → h'.get? b = some o) → Q (.ref (s.heap.objs.size + 1)) { s with heap := h' }) :
    wpAny (model prog w) A (call (.type "enumerate") [v]) Q E s := by
  refine callType_new F.called_enumerate (by decide) (F.typeCall_enumerate_1 _) (F.newCall_enumerate_1 _) (fun obj => F.args_object_init_2 obj _) F.entry_enumerate_new (meets_en1 B) ⟨h1, ?_⟩
  have hz : (s.heap.push o).objs.size = s.heap.objs.size + 1 := Heap.size_push ..
  show _ ∧ _
  rw [hz]
  have he : IsEnum ((s.heap.push o).push { cls := .type "enumerate", data := .fields #[.none, .bool false, .ref s.heap.objs.size, rawInt 0, .none, .none] }) (s.heap.objs.size + 1) s.heap.objs.size 0 .none := by
    have q := Heap.get?_push_size (s.heap.push o) (o := { cls := .type "enumerate", data := .fields #[.none, .bool false, .ref s.heap.objs.size, rawInt 0, .none, .none] }) rfl
    rw [hz] at q
    exact q
  exact ⟨⟨_, he, rfl⟩, h _ he (Heap.get?_push_of_some _ (Heap.get?_push_size _ B.free)) fun b o x => Heap.get?_push_of_some _ (Heap.get?_push_of_some _ x)⟩
def iEnumT (K : PySem.W.Frag) (ta : TA) : TI := fun σ H R => ta σ H fun vs H1 => ∃ a xs, vs = [.ref a] ∧ SqT K H1 a xs ∧ R (IteT K a) H1
theorem pi_enumT {X : Cx} {e : Expr} {ta : TA} {p pos tpos : Pos} {elts : List Expr} {kk : Nat} (hg : Gl X "enumerate") (hm : X.mg "enumerate" = none) (ha : PA X [e] ta) (hs : starEach [e] X.env = [(false, eval e X.env)] := by rfl) :
    PI X (.Tuple elts kk tpos) (.Call (.Name "enumerate" p) [e] [] pos) (iEnumT X.K ta) := by
  refine ⟨fun pins s σ H R I h => ?_⟩
  refine Call_ (ld_blt I hg hm boot_enumerate (PyProof.Rows.callWith_type1 (thn (ha.run pos pins s σ H _ I h) fun us s1 ⟨vs, H1, I1, r1, q1⟩ => ?_) hs rfl))
  obtain ⟨a, xs, ex, hq, q⟩ := q1
  subst ex
  cases r1 with
  | cons r rr =>
    cases rr
    cases r
    obtain ⟨its, rv, p', hz⟩ := I1.tuple hq
    have lt_a : a < s1.heap.objs.size := by
      obtain ⟨o1, ho1, _⟩ := id p'
      exact Heap.lt_size ho1
    refine call_en1 (begins_tuple a its.toArray) (show s1.heap.IsTuple a its.toArray from p') fun h' he hit hk => wpAny_pyIter_enum he ?_
    have I2 : Inv X pins σ H1 { s1 with heap := h' } := I1.kept (t' := s1.toks) hk
    refine ⟨s1.heap.objs.size + 1, [s1.heap.objs.size + 1, s1.heap.objs.size], _, _, H1, rfl, I2, turn_enumT a (s1.heap.objs.size + 1) s1.heap.objs.size (Nat.succ_ne_self _) (fun z => absurd lt_a (by rw [← z]; exact Nat.not_lt_of_le (Nat.le_succ _))) (Nat.ne_of_lt lt_a), ⟨⟨.none, he⟩, ⟨_, hit, rfl, rfl⟩⟩, fun b hb => ?_, q⟩
    have hle : s1.heap.objs.size ≤ b := by
      rcases (by simpa using hb : b = s1.heap.objs.size + 1 ∨ b = s1.heap.objs.size) with z | z
      · rw [z]; exact Nat.le_add_right _ _
      · rw [z]; exact Nat.le_refl _
    exact I1.fpOk hle (I1.hok.fresh hle)
theorem walk_enumT {K : PySem.W.Frag} {a : Addr} {xs : List V} : Walk (IteT K a) xs.length (fun H => SqT K H a xs) (YPair (fun i => some (.int (i : Nat))) (fun i => xs[i]?)) := by
  refine ⟨fun i _ hi q => ⟨xs, xs[i], q, by simp [hi]⟩, fun _ q => ⟨xs, q, rfl⟩, fun i H v H' _ q y => ?_⟩
  obtain ⟨T, x, h1, h2, h3, h4⟩ := y
  exact ⟨T, .int (i : Nat), x, h1, h2, h3, rfl, h4 xs q⟩
theorem walk_zipT {K : PySem.W.Frag} {a b : Addr} {xs ys : List V} {n : Nat} (hn : n = min xs.length ys.length) : Walk (RZ.ItzT K a b) n (fun H => SqT K H a xs ∧ SqT K H b ys) (YPair (fun i => xs[i]?) (fun i => ys[i]?)) := by
  subst hn
  refine ⟨fun i _ hi q => ?_, fun _ q => ⟨xs, ys, q.1, q.2, by omega⟩, fun i H v H' _ q y => ?_⟩
  · exact ⟨xs, ys, xs[i], ys[i], q.1, q.2, List.getElem?_eq_getElem (by omega), List.getElem?_eq_getElem (by omega)⟩
  · obtain ⟨T, x, z, h1, h2, h3, h4, h5⟩ := y
    exact ⟨T, x, z, h1, h2, h3, h4 xs q.1, h5 ys q.2⟩
/-- the class of a tuple -/
theorem ty_tup {K : PySem.W.Frag} {H : Hp} {a : Addr} {xs : List V} (h : SqT K H a xs) : TyX K H (.ref a) (.type "tuple") := by
  rcases h with (h | ⟨u, h⟩) | ⟨o, its, n, hk, hc, _⟩
  · exact .base (.tup h)
  · exact .fTuple h
  · exact .kTuple hk hc
end My
namespace My
open PySem L2
section
variable {K : PySem.W.Frag} {H H' : Hp} {a b : Addr}
/-! ### data that stands: what == asks -/
theorem dpAll_ints : ∀ ns : List Int, DpAll K H (ns.map V.int) (ns.map PyData.int)
  | [] => .nil
  | n :: r => .cons (.int n) (dpAll_ints r)
theorem dpAll_strs : ∀ ws : List Str, DpAll K H (ws.map V.str) (ws.map PyData.str)
  | [] => .nil
  | x :: r => .cons (.str x) (dpAll_strs r)
theorem dp_tInts {ns : List Int} (h : SqT K H a (ns.map V.int)) : Dp K H (.ref a) (.tuple (ns.map PyData.int)) := .tup h (dpAll_ints ns)
theorem dp_lInts {ns : List Int} (h : SqL K H a (ns.map V.int)) : Dp K H (.ref a) (.list (ns.map PyData.int)) := .lst h (dpAll_ints ns)
theorem dp_tStrs {ws : List Str} (h : SqT K H a (ws.map V.str)) : Dp K H (.ref a) (.tuple (ws.map PyData.str)) := .tup h (dpAll_strs ws)
theorem dp_lStrs {ws : List Str} (h : SqL K H a (ws.map V.str)) : Dp K H (.ref a) (.list (ws.map PyData.str)) := .lst h (dpAll_strs ws)
theorem dp_nil (h : SqT K H a []) : Dp K H (.ref a) (.tuple []) := .tup h .nil
theorem can_ints : ∀ ns : List Int, PyData.canLayAll0 (ns.map PyData.int) = true
  | [] => rfl
  | _ :: r => can_ints r
theorem dep_ints : ∀ ns : List Int, PyData.depthAll (ns.map PyData.int) = 0
  | [] => rfl
  | _ :: r => by
    show max 0 (PyData.depthAll (r.map PyData.int)) = 0
    rw [dep_ints r]
    rfl
theorem sh_tInts (ns : List Int) : SeqAt.shaped (.tuple (ns.map PyData.int)) = true := by
  show (PyData.canLayAll0 (ns.map PyData.int) && decide (PyData.depthAll (ns.map PyData.int) + 1 ≤ 64)) = true
  rw [can_ints, dep_ints]
  rfl
theorem sh_lInts (ns : List Int) : SeqAt.shaped (.list (ns.map PyData.int)) = true := by
  show (PyData.canLayAll0 (ns.map PyData.int) && decide (PyData.depthAll (ns.map PyData.int) + 1 ≤ 64)) = true
  rw [can_ints, dep_ints]
  rfl
theorem can_strs : ∀ ws : List Str, (∀ x ∈ ws, PyData.strOk x = true) → PyData.canLayAll0 (ws.map PyData.str) = true
  | [], _ => rfl
  | x :: r, h => by
    show (PyData.strOk x && PyData.canLayAll0 (r.map PyData.str)) = true
    rw [h x (List.mem_cons_self ..), can_strs r fun y hy => h y (List.mem_cons_of_mem _ hy)]
    rfl
theorem dep_strs : ∀ ws : List Str, PyData.depthAll (ws.map PyData.str) = 0
  | [] => rfl
  | _ :: r => by
    show max 0 (PyData.depthAll (r.map PyData.str)) = 0
    rw [dep_strs r]
    rfl
theorem sh_tStrs (ws : List Str) (h : ∀ x ∈ ws, PyData.strOk x = true) : SeqAt.shaped (.tuple (ws.map PyData.str)) = true := by
  show (PyData.canLayAll0 (ws.map PyData.str) && decide (PyData.depthAll (ws.map PyData.str) + 1 ≤ 64)) = true
  rw [can_strs ws h, dep_strs]
  rfl
theorem sh_lStrs (ws : List Str) (h : ∀ x ∈ ws, PyData.strOk x = true) : SeqAt.shaped (.list (ws.map PyData.str)) = true := by
  show (PyData.canLayAll0 (ws.map PyData.str) && decide (PyData.depthAll (ws.map PyData.str) + 1 ≤ 64)) = true
  rw [can_strs ws h, dep_strs]
  rfl
theorem eqv_ints : ∀ ns ms : List Int, PyData.eqvAll (ns.map PyData.int) (ms.map PyData.int) = decide (ns = ms)
  | [], [] => rfl
  | [], _ :: _ => rfl
  | _ :: _, [] => rfl
  | n :: r, m :: q => by
    show ((n == m) && PyData.eqvAll (r.map PyData.int) (q.map PyData.int)) = _
    rw [eqv_ints r q]
    by_cases e : n = m
    · subst e
      by_cases e2 : r = q
      · subst e2
        simp
      · rw [decide_eq_false e2, decide_eq_false (fun z => e2 (List.cons.inj z).2), Bool.and_false]
    · rw [decide_eq_false (fun z => e (List.cons.inj z).1), beq_eq_false_iff_ne.mpr e, Bool.false_and]
theorem eqv_strs : ∀ ns ms : List Str, PyData.eqvAll (ns.map PyData.str) (ms.map PyData.str) = decide (ns = ms)
  | [], [] => rfl
  | [], _ :: _ => rfl
  | _ :: _, [] => rfl
  | n :: r, m :: q => by
    show ((n == m) && PyData.eqvAll (r.map PyData.str) (q.map PyData.str)) = _
    rw [eqv_strs r q]
    by_cases e : n = m
    · subst e
      by_cases e2 : r = q
      · subst e2
        simp
      · rw [decide_eq_false e2, decide_eq_false (fun z => e2 (List.cons.inj z).2), Bool.and_false]
    · rw [decide_eq_false (fun z => e (List.cons.inj z).1), beq_eq_false_iff_ne.mpr e, Bool.false_and]
end
end My
namespace My
open PySem PySem.Spec PyProof.Rows L2
/-! ### max(xs, default=d) -/
def maxOr (d : Int) : List Int → Int
  | [] => d
  | x :: r => r.foldl max x
def rMaxD (K : PySem.W.Frag) : List V → List V → Hp → VK → Prop := fun vs zs H Q => ∃ (a : Addr) (ns : List Int) (d : Int), vs = [.ref a] ∧ zs = [.int d] ∧ SqL K H a (ns.map V.int) ∧ Q (.int (maxOr d ns)) H
theorem cr_maxD {X : Cx} (hc : X.calm = true) (hu : X.A.units + 64 < cLine) : CallRK X (.builtin "max") [Str.ofString "default"] (rMaxD X.K) := by
  intro pins s σ H vs zs us ws Q I r rz h
  obtain ⟨a, ns, d, rfl, rfl, hs, q⟩ := h
  obtain rfl := Vals.ref1 r
  obtain ⟨w1, rfl, t, rfl⟩ := vals1 rz
  obtain ⟨its, rv, hl, hz⟩ := I.list hs
  obtain ⟨as, hr⟩ := Dp.readsAll I (ns.map PyData.int) _ its (dpAll_ints ns) rv
  have al : PySem.W.AlikeAll (ns.map PyData.int) := by
    constructor
    · intro x hx y hy
      obtain ⟨i, _, rfl⟩ := List.mem_map.mp hx
      obtain ⟨j, _, rfl⟩ := List.mem_map.mp hy
      rfl
    · intro x hx
      obtain ⟨i, _, rfl⟩ := List.mem_map.mp hx
      intro z
      cases z
  refine PySem.W.max_list_default (I.ok.hd hc) hl.isList (by simpa using hr) al (by rw [dep_ints]; omega) (fun e h' tk hk => ?_) (fun y ys i v h' tk bs e hv hR hk => ?_)
  · have e' : ns = [] := List.map_eq_nil_iff.mp e
    subst e'
    exact ⟨.int d, H, I.kept hk, ⟨_, rfl⟩, q⟩
  · cases ns with
    | nil => cases e
    | cons n r =>
      obtain ⟨rfl, rfl⟩ := List.cons.inj e
      rw [PySem.W.maxD_ints] at hR
      cases hR with
      | int j t => exact ⟨.int _, H, I.kept hk, ⟨_, rfl⟩, q⟩
theorem maxOr_ge {d : Int} : ∀ {ns : List Int} {y : Int}, y ∈ ns → y ≤ maxOr d ns
  | x :: r, y, h => by
    have key : ∀ (r : List Int) (x y : Int), (y = x ∨ y ∈ r) → y ≤ r.foldl max x := by
      intro r
      induction r with
      | nil =>
        intro x y h
        rcases h with rfl | h
        · exact Int.le_refl _
        · cases h
      | cons z r ih =>
        intro x y h
        show y ≤ r.foldl max (max x z)
        rcases h with rfl | h
        · exact Int.le_trans (Int.le_max_left _ _) (ih _ _ (.inl rfl))
        · rcases List.mem_cons.mp h with rfl | h
          · exact Int.le_trans (Int.le_max_right _ _) (ih _ _ (.inl rfl))
          · exact ih _ _ (.inr h)
    exact key r x y (List.mem_cons.mp h)
theorem maxOr_mem {d : Int} : ∀ {ns : List Int}, ns ≠ [] → maxOr d ns ∈ ns
  | [], h => absurd rfl h
  | x :: r, _ => by
    have key : ∀ (r : List Int) (x : Int), r.foldl max x = x ∨ r.foldl max x ∈ r := by
      intro r
      induction r with
      | nil => exact fun x => .inl rfl
      | cons z r ih =>
        intro x
        show r.foldl max (max x z) = x ∨ r.foldl max (max x z) ∈ z :: r
        rcases ih (max x z) with e | e
        · rw [e]
          rcases Int.le_total x z with h | h
          · rw [Int.max_eq_right h]
            exact .inr (List.mem_cons_self ..)
          · rw [Int.max_eq_left h]
            exact .inl rfl
        · exact .inr (List.mem_cons_of_mem _ e)
    rcases key r x with e | e
    · show r.foldl max x ∈ x :: r
      rw [e]
      exact List.mem_cons_self ..
    · exact List.mem_cons_of_mem _ e
end My
namespace My
open PySem PySem.Spec PyProof.Rows L2
/-! ### rules with the written part told (for blocks of comprehensions) -/
section
variable {X : Cx} {K : PySem.W.Frag}
theorem ix_listK (h : X.K = K) : IxR X (rIxL K) := by
  subst h
  exact ix_list
theorem ix_tupK (h : X.K = K) : IxR X (rIxT K) := by
  subst h
  exact ix_tup
theorem ix_seqK (h : X.K = K) : IxR X (rIx K) := by
  subst h
  exact ix_seq
theorem op_in_seqK (h : X.K = K) : OpR X (compareOp .In) (rIn K false) := by
  subst h
  exact op_in_seq
theorem op_notIn_seqK (h : X.K = K) : OpR X (compareOp .NotIn) (rIn K true) := by
  subst h
  exact op_notIn_seq
theorem op_eqDK (h : X.K = K) (hu : X.A.units + 64 < cLine) : OpR X (compareOp .Eq) (rEqD K) := by
  subst h
  exact op_eqD hu
theorem op_neDK (h : X.K = K) (hu : X.A.units + 64 < cLine) : OpR X (compareOp .NotEq) (rNeD K) := by
  subst h
  exact op_neD hu
theorem call_len_seqK (h : X.K = K) : CallR X (.builtin "len") (fun xs H Q => ∃ p ys, xs = [.ref p] ∧ (SqL K H p ys ∨ SqT K H p ys) ∧ Q (.int ys.length) H) := by
  subst h
  exact call_len_seq
theorem call_list_ofK (h : X.K = K) : CallR X (.type "list") (fun xs H Q => ∃ p ys, xs = [.ref p] ∧ (SqL K H p ys ∨ SqT K H p ys) ∧ ∀ l, H l = none → Q (.ref l) (upd H l (.lst ys))) := by
  subst h
  exact call_list_of
theorem call_tuple_ofK (h : X.K = K) : CallR X (.type "tuple") (fun xs H Q => ∃ p ys, xs = [.ref p] ∧ ((SqL K H p ys ∧ ∀ l, H l = none → Q (.ref l) (upd H l (.tup ys))) ∨ (SqT K H p ys ∧ Q (.ref p) H))) := by
  subst h
  exact call_tuple_of
theorem sl_listK (h : X.K = K) : SlR X (rSlL K) := by
  subst h
  exact sl_list
theorem sl_tupAK (h : X.K = K) : SlR X (rSlA K) := by
  subst h
  exact sl_tupA
theorem cr_allK (h : X.K = K) (hc : X.calm = true) : CallR X (.builtin "all") (rAll K) := by
  subst h
  exact cr_all hc
theorem cr_anyK (h : X.K = K) (hc : X.calm = true) : CallR X (.builtin "any") (rAny K) := by
  subst h
  exact cr_any hc
theorem pe_fldK {ta : TE} {e : Expr} {f : Str} {pos : Pos} (h : X.K = K) (he : PE X e ta) (hb : attributeBase e f X.env (eval e X.env) = eval e X.env) : PE X (.Attribute e f pos) (tFld K ta f) := by
  subst h
  exact pe_fld he hb
end
theorem op_catAK {X : Cx} {K : PySem.W.Frag} (h : X.K = K) : OpR X (binaryOp .Add) (rCatA K) := by
  subst h
  exact op_catA
theorem tYes_of {te : TE} {σ : L2.St} {H : Hp} {R : VK} {R0 : Hp → Prop} (h : te σ H R) : tYes σ H fun b H3 => if b = true then te σ H3 R else R0 H3 := by
  show (if true = true then te σ H R else R0 H)
  rw [if_pos rfl]
  exact h
/-! ### enumerate of a list or a tuple -/
def iEnumA (K : PySem.W.Frag) (ta : TA) : TI := fun σ H R => ta σ H fun vs H1 => ∃ a xs, vs = [.ref a] ∧ ∃ H0, Same H0 H1 ∧ (SqL K H0 a xs ∨ SqT K H0 a xs) ∧
  ∀ (J : It) (G : Hp → Prop), Walk J xs.length G (YPair (fun i => some (.int (i : Nat))) (fun i => xs[i]?)) → (∀ H', Same H0 H' → G H') → R J H1
theorem pi_enumA {X : Cx} {e : Expr} {ta : TA} {p pos tpos : Pos} {elts : List Expr} {kk : Nat} (hg : Gl X "enumerate") (hm : X.mg "enumerate" = none) (ha : PA X [e] ta) (hs : starEach [e] X.env = [(false, eval e X.env)] := by rfl) :
    PI X (.Tuple elts kk tpos) (.Call (.Name "enumerate" p) [e] [] pos) (iEnumA X.K ta) := by
  refine ⟨fun pins s σ H R I h => ?_⟩
  refine Call_ (ld_blt I hg hm boot_enumerate (PyProof.Rows.callWith_type1 (thn (ha.run pos pins s σ H _ I h) fun us s1 ⟨vs, H1, I1, r1, q1⟩ => ?_) hs rfl))
  obtain ⟨a, xs, ex, q⟩ := q1
  subst ex
  cases r1 with
  | cons r rr =>
    cases rr
    cases r
    have fr : ∀ b, b ∈ [s1.heap.objs.size + 1, s1.heap.objs.size] → FpOk X pins H1 b := fun b hb => by
      have hle : s1.heap.objs.size ≤ b := by
        rcases (by simpa using hb : b = s1.heap.objs.size + 1 ∨ b = s1.heap.objs.size) with z | z
        · rw [z]; exact Nat.le_add_right _ _
        · rw [z]; exact Nat.le_refl _
      exact I1.fpOk hle (I1.hok.fresh hle)
    obtain ⟨H0, s0, hq0, q0⟩ := q
    rcases hq0 with hq0 | hq0
    · have hq := s0.seq hq0
      have q := q0 _ _ (walk_enum (K := X.K) (a := a) (xs := xs)) fun H' s' => s'.seq hq0
      obtain ⟨its, rv, p', hz⟩ := I1.list hq
      refine call_enumerate_list p'.isList fun h' he hit hsz hk => wpAny_pyIter_enum he ?_
      have I2 : Inv X pins σ H1 { s1 with heap := h' } := I1.kept (t' := s1.toks) hk
      exact ⟨s1.heap.objs.size + 1, [s1.heap.objs.size + 1, s1.heap.objs.size], _, _, H1, rfl, I2, turn_enum a (s1.heap.objs.size + 1) s1.heap.objs.size, ⟨⟨.none, he⟩, hit, Nat.succ_ne_self _⟩, fr, q⟩
    · have hq := s0.seqT hq0
      have q := q0 _ _ (walk_enumT (K := X.K) (a := a) (xs := xs)) fun H' s' => s'.seqT hq0
      obtain ⟨its, rv, p', hz⟩ := I1.tuple hq
      have lt_a : a < s1.heap.objs.size := by
        obtain ⟨o1, ho1, _⟩ := id p'
        exact Heap.lt_size ho1
      refine call_en1 (begins_tuple a its.toArray) (show s1.heap.IsTuple a its.toArray from p') fun h' he hit hk => wpAny_pyIter_enum he ?_
      have I2 : Inv X pins σ H1 { s1 with heap := h' } := I1.kept (t' := s1.toks) hk
      exact ⟨s1.heap.objs.size + 1, [s1.heap.objs.size + 1, s1.heap.objs.size], _, _, H1, rfl, I2, turn_enumT a (s1.heap.objs.size + 1) s1.heap.objs.size (Nat.succ_ne_self _) (fun z => absurd lt_a (by rw [← z]; exact Nat.not_lt_of_le (Nat.le_succ _))) (Nat.ne_of_lt lt_a), ⟨⟨.none, he⟩, ⟨_, hit, rfl, rfl⟩⟩, fr, q⟩
end My
namespace My
open PySem PySem.Spec PyProof.Rows L2
/-! ### set(t) of a tuple of ints, kept as an object -/
theorem nodup_len {α : Type} [DecidableEq α] {ks ns : List α} (h1 : ks.Nodup) (h2 : ns.Nodup) (h : ∀ k, k ∈ ks ↔ k ∈ ns) : ks.length = ns.length :=
  ((List.perm_ext_iff_of_nodup h1 h2).mpr h).length_eq
def rSetTI (K : PySem.W.Frag) (w : World) : List V → Hp → VK → Prop := fun xs H Q => ∃ (l : Addr) (ns : List Int), xs = [.ref l] ∧ SqT K H l (ns.map V.int) ∧ ns.length ≤ 1000 ∧
  ∀ (p : Addr) (ks : List Int), H p = none → ks.Nodup → (∀ k, k ∈ ks ↔ k ∈ ns) → Q (.ref p) (upd H p (SetO w p (fun j => decide (j ∈ ns)) ks.length))
section
variable {X : Cx}
theorem call_setTI (hc : X.calm = true) : CallR X (.type "set") (rSetTI X.K X.w) := by
  intro pins s σ H xs us Q I r h
  obtain ⟨l, ns, rfl, hq, hl, q⟩ := h
  obtain rfl := Vals.ref1 r
  obtain ⟨its, rv, pt, hz⟩ := I.tuple hq
  refine call_set_tupI ns (I.ok.hd hc) (show s.heap.IsTuple l its.toArray from pt) (ints_of_vals rv) (by unfold scanBound; omega) fun h' tk c R hcn k => ?_
  have hn : H s.heap.objs.size = none := I.hok.fresh (Nat.le_refl _)
  obtain ⟨ks, h1, h2, h3⟩ : ∃ ks : List Int, ks.Nodup ∧ (∀ k, k ∈ ks ↔ k ∈ ns) ∧ ks.length = c := by
    obtain ⟨o, es, ep, t, _, _, _, _, nd, hm, _, _, hn, _⟩ := R
    refine ⟨es.toList.map keyOf, nd, fun k => ?_, ?_⟩
    · rw [← hm k, decide_eq_true_eq]
    · rw [List.length_map, Array.length_toList, hn]
  subst h3
  exact ⟨.ref s.heap.objs.size, _, I.laid (t' := tk) k (Nat.le_refl _) (setO_new R), rfl, q _ ks hn h1 h2⟩
/-- len(s) of a set of ints -/
def rLenSO (w : World) : List V → Hp → VK → Prop := fun xs H Q => ∃ (a : Addr) (S : Int → Bool) (n : Nat), xs = [.ref a] ∧ H a = some (SetO w a S n) ∧ n ≤ 4000 ∧ Q (.int n) H
theorem call_lenSO : CallR X (.builtin "len") (rLenSO X.w) := by
  intro pins s σ H xs us Q I r h
  obtain ⟨a, S, n, rfl, ha, hl, q⟩ := h
  obtain rfl := Vals.ref1 r
  obtain ⟨o, es, ep, t, ho, hex, hd, _, _, _, _, hf, hn, _⟩ := setO_get I ha
  exact call_len_set ho hex hd hf (by rw [hn]; omega) ⟨.int n, H, I.tok _, ⟨_, by rw [hn]⟩, q⟩
theorem call_setTIK {K : PySem.W.Frag} {w : World} (h : X.K = K) (h2 : X.w = w) (hc : X.calm = true) : CallR X (.type "set") (rSetTI K w) := by
  subst h h2
  exact call_setTI hc
end
end My
namespace My
open PySem L2
section
variable {P : Program} {w : World} {K : PySem.W.Frag} {mg : Str → Option Value} {base : Heap}
section
local macro_rules | `(tactic| walk_at "sl") => `(tactic| first | assumption | exact SqL.of upd_same | exact SqL.of (by assumption) | (with_reducible refine sql_upd ?_ ?_; (walk_at "sl"); (first | assumption | exact Ne.symm (by assumption))))
local macro_rules | `(tactic| walk_at "st") => `(tactic| first | assumption | exact SqT.of upd_same | exact SqT.of (by assumption))
local macro_rules | `(tactic| walk_at "sc") => `(tactic| first | rfl | assumption | (show (0 : Int) < _; first | assumption | decide | omega) | exact Or.inl ⟨by omega, by omega⟩ | exact Or.inr ⟨by omega, by omega⟩ | exact ⟨by decide, by decide⟩ | exact ⟨by decide, by decide, by decide⟩)
local macro_rules | `(tactic| walk_at "g1") => `(tactic| first
  | refine ⟨(_ : V), rfl, ?_⟩
  | refine ⟨(_ : Bool), rfl, ?_⟩
  | refine ⟨(_ : Int), (_ : Int), rfl, rfl, ?_⟩
  | refine ⟨(_ : Int), rfl, ?_⟩
  | refine ⟨(_ : Str), rfl, ?_⟩
  | refine ⟨(_ : Addr), (_ : List V), rfl, Or.inl (by walk_at "sl"), ?_⟩
  | refine ⟨(_ : Addr), (_ : List V), rfl, Or.inr (by walk_at "st"), ?_⟩
  | refine ⟨(_ : Addr), (_ : List V), (_ : Int), (_ : V), rfl, rfl, (by walk_at "sl"), (by first | rfl | assumption), ?_⟩
  | refine ⟨(_ : Addr), (_ : List V), (_ : Int), (_ : V), rfl, rfl, (by walk_at "st"), (by first | rfl | assumption), ?_⟩
  | refine ⟨(_ : Addr), (_ : List V), (_ : Int), (_ : Nat), rfl, rfl, upd_same, rfl, ?_⟩
  | refine ⟨(_ : Addr), (_ : List V), (_ : Int), (_ : Nat), rfl, rfl, (by assumption), rfl, ?_⟩
  | refine Or.inl ⟨(_ : Int), rfl, ?_⟩
  | refine And.intro (by walk_at "sc") ?_
  | refine iteT ?_
  | refine iteF ?_)
def letters : Str := "abcdefghijklmnopqrstuvwxyz"
def isWord (t : Str) : Bool := (decide ((1 : Int) ≤ t.length) && decide ((t.length : Int) ≤ 8)) && t.cps.toList.all fun c => decide (c ∈ letters.cps.toList)
def spIsWord : Sp := fun vs H Q _ => ∃ t : Str, vs = [.str t] ∧ t.length ≤ 1000 ∧ ∀ H', Same H H' → Q (.bl (isWord t)) H'
theorem ok_is_word (T : Top K mg) : FnOk P w K mg base CX0 1 T.a_is_word T.fd_is_word ["text"] spIsWord := by
  refine T.F_is_word.ok sc_is_word (fun vs H Q E h => ?_) (fun cdv A outer s H vs Q E hr h => ?_)
  · obtain ⟨t, rfl, _⟩ := h
    rfl
  · obtain ⟨t, rfl, hl, k⟩ := h
    have hu := hu_of hr
    refine ⟨_, (pss_cons (ps_if (PW.pt (pw_or (pt_not (pt_val (pe_callB call_isi (by rfl) T.m_isinstance (by decide +kernel) (pa_cons (pv 0) (pa_cons (pe_bltn (v := .ty "str") (by rfl) T.m_str (by decide +kernel) rfl) pa_nil))))) (pw_or1 (pt_not (pt_chain op_le op_le pe_int (pe_callB call_len (by rfl) T.m_len (by decide +kernel) (pa_cons (pv 0) pa_nil)) (pe_glob rfl T.g_LONGEST_WORD T.r_LONGEST_WORD)))))) (pss_one (ps_ret pe_bl)) pss_nil)
      (pss_one (ps_ret (pe_callB (cr_all rfl) (by rfl) T.m_all (by decide +kernel) (pa_cons (pe_lc (own := [("letter", 1)]) (g := gName 1) (tt := tYes) rfl sc_is_word.nd (pi_str (pv 0)) (blkOk_by (N := N_is_word) (sc := defScope s_is_word) (by decide +kernel)) (fun _ _ _ _ _ => (pg_name (i := 1) sc_is_word.nd rfl (.inl rfl))) (fun _ _ _ _ _ => pts_nil) (fun _ _ _ _ _ => (pe_cmpR op_in_sign (pv 1) (pe_glob rfl T.g_LETTERS T.r_LETTERS) rfl))) pa_nil))))), ?_⟩
    repeat walk_at "g1"
    refine ⟨.str t, .ty "str", .type "str", .type "str", true, rfl, .ty _, .base (.str t), kit_ty (by decide +kernel), ?_⟩
    repeat walk_at "g1"
    refine ⟨_, _, rfl, ⟨by have := sizeLine_of (show t.length ≤ 1000000 by omega); omega, rfl⟩, ?_⟩
    have e1 : ∀ h : ¬ decide ((1 : Int) ≤ t.length) = true, isWord t = false := fun h => by
      unfold isWord
      rw [Bool.eq_false_iff.mpr h]
      rfl
    have e2 : ∀ h : ¬ decide ((t.length : Int) ≤ 8) = true, isWord t = false := fun h => by
      unfold isWord
      rw [Bool.eq_false_iff.mpr h, Bool.and_false]
      rfl
    repeat walk_at "g1"
    refine ite2 (fun h1 => ?_) (fun h1 => ?_)
    · repeat walk_at "g1"
      refine ite2 (fun h2 => ?_) (fun h2 => ?_)
      · have h2' : ¬ decide ((t.length : Int) ≤ 8) = true := by
          intro z
          rw [z] at h2
          exact absurd h2 (by decide)
        show Q (.bl false) H
        rw [← e2 h2']
        exact k H (Same.refl H)
      · have h2' : decide ((t.length : Int) ≤ 8) = true := by
          cases z : decide ((t.length : Int) ≤ 8) with
          | true => rfl
          | false => rw [z] at h2; exact absurd rfl h2
        refine ⟨.str t, rfl, t, rfl, fun D hD => lc_map walk_str (by show t.length ≤ _; omega) hD (fun i => V.bl (decide (t.cps.toList[i]?.getD 0 ∈ letters.cps.toList))) (fun _ _ => trivial) (fun i x H1 H2 hi s1 hy R r => ?_) (fun H1 s1 hd => ?_) gName_mono⟩
        · obtain ⟨rfl, c, hc, rfl⟩ := hy
          refine ⟨rfl, ?_⟩
          refine ⟨_, rfl, c, letters, rfl, rfl, ?_⟩
          have q := r _ (Same.refl _)
          rw [Array.getElem?_toList, hc] at q
          exact q
        · have el : (List.range t.cps.size).map (fun i => V.bl (decide (t.cps.toList[i]?.getD 0 ∈ letters.cps.toList))) = (t.cps.toList.map fun c => decide (c ∈ letters.cps.toList)).map V.bl := by
            rw [List.map_map]
            refine range_map t.cps.toList _ _ fun i x h => ?_
            rw [h]
            rfl
          refine ⟨D, _, rfl, SqL.of (by rw [hd, el]), ?_⟩
          have ew : isWord t = (t.cps.toList.map fun c => decide (c ∈ letters.cps.toList)).all id := by
            unfold isWord
            rw [h1, h2', List.all_map]
            rfl
          rw [← ew]
          exact k H1 s1
    · repeat walk_at "g1"
      show Q (.bl false) H
      rw [← e1 h1]
      exact k H (Same.refl H)
end
section
local macro_rules | `(tactic| walk_at "sl") => `(tactic| first | assumption | exact SqL.of upd_same | exact SqL.of (by assumption) | (with_reducible refine sql_upd ?_ ?_; (walk_at "sl"); (first | assumption | exact Ne.symm (by assumption))))
local macro_rules | `(tactic| walk_at "st") => `(tactic| first | assumption | exact SqT.of upd_same | exact SqT.of (by assumption))
local macro_rules | `(tactic| walk_at "sc") => `(tactic| first | rfl | assumption | (show (0 : Int) < _; first | assumption | decide | omega) | exact Or.inl ⟨by omega, by omega⟩ | exact Or.inr ⟨by omega, by omega⟩ | exact ⟨by decide, by decide⟩ | exact ⟨by decide, by decide, by decide⟩)
local macro_rules | `(tactic| walk_at "g1") => `(tactic| first
  | refine ⟨(_ : V), rfl, ?_⟩
  | refine ⟨(_ : Bool), rfl, ?_⟩
  | refine ⟨(_ : Int), (_ : Int), rfl, rfl, ?_⟩
  | refine ⟨(_ : Int), rfl, ?_⟩
  | refine ⟨(_ : Str), rfl, ?_⟩
  | refine ⟨(_ : Addr), (_ : List V), rfl, Or.inl (by walk_at "sl"), ?_⟩
  | refine ⟨(_ : Addr), (_ : List V), rfl, Or.inr (by walk_at "st"), ?_⟩
  | refine ⟨(_ : Addr), (_ : List V), (_ : Int), (_ : V), rfl, rfl, (by walk_at "sl"), (by first | rfl | assumption), ?_⟩
  | refine ⟨(_ : Addr), (_ : List V), (_ : Int), (_ : V), rfl, rfl, (by walk_at "st"), (by first | rfl | assumption), ?_⟩
  | refine ⟨(_ : Addr), (_ : List V), (_ : Int), (_ : Nat), rfl, rfl, upd_same, rfl, ?_⟩
  | refine ⟨(_ : Addr), (_ : List V), (_ : Int), (_ : Nat), rfl, rfl, (by assumption), rfl, ?_⟩
  | refine Or.inl ⟨(_ : Int), rfl, ?_⟩
  | refine And.intro (by walk_at "sc") ?_
  | refine iteT ?_
  | refine iteF ?_)
/-! ### numbers -/
def isNum (n a b : Int) : Bool := decide (a ≤ n) && decide (n ≤ b)
def spIsNumber : Sp := fun vs H Q _ => ∃ n a b : Int, vs = [.int n, .int a, .int b] ∧ Q (.bl (isNum n a b)) H
theorem ok_is_number (T : Top K mg) : FnOk P w K mg base CX0 1 T.a_is_number T.fd_is_number ["number", "least", "greatest"] spIsNumber := by
  refine T.F_is_number.ok sc_is_number (fun vs H Q E h => ?_) (fun cdv A outer s H vs Q E hr h => ?_)
  · obtain ⟨n, a, b, rfl, _⟩ := h
    rfl
  · obtain ⟨n, a, b, rfl, k⟩ := h
    have hu := hu_of hr
    refine ⟨_, (pss_cons (ps_if (PW.pt (pw_or (pt_val (pe_callB call_isi (by rfl) T.m_isinstance (by decide +kernel) (pa_cons (pv 0) (pa_cons (pe_bltn (v := .ty "bool") (by rfl) T.m_bool (by decide +kernel) rfl) pa_nil)))) (pw_or1 (pt_not (pt_val (pe_callB call_isi (by rfl) T.m_isinstance (by decide +kernel) (pa_cons (pv 0) (pa_cons (pe_bltn (v := .ty "int") (by rfl) T.m_int (by decide +kernel) rfl) pa_nil)))))))) (pss_one (ps_ret pe_bl)) pss_nil)
      (pss_one (ps_ret (pe_chain op_le op_le (pv 1) (pv 0) (pv 2))))), ?_⟩
    repeat walk_at "g1"
    refine ⟨.int n, .ty "bool", .type "int", .type "bool", false, rfl, .ty _, .base (.int n), kit_ty (by decide +kernel), ?_⟩
    repeat walk_at "g1"
    refine ⟨.int n, .ty "int", .type "int", .type "int", true, rfl, .ty _, .base (.int n), kit_ty (by decide +kernel), ?_⟩
    repeat walk_at "g1"
    refine ite2 (fun h1 => ?_) (fun h1 => ?_)
    · repeat walk_at "g1"
      have e : isNum n a b = decide (n ≤ b) := by unfold isNum; rw [h1, Bool.true_and]
      rw [e] at k
      exact k
    · have e : isNum n a b = false := by unfold isNum; rw [Bool.eq_false_iff.mpr h1, Bool.false_and]
      rw [e] at k
      exact k
/-! ### the books of a card -/
def asc (bs : List Int) : Bool := (bs.zip (bs.drop 1)).all fun p => decide (p.1 < p.2)
def isBooks (bs : List Int) : Bool := decide (bs.length ≤ 6) && bs.all (fun b => isNum b 1 999) && asc bs
def spAreBooks (K : PySem.W.Frag) : Sp := fun vs H Q _ => ∃ (a : Addr) (bs : List Int), vs = [.ref a] ∧ SqT K H a (bs.map V.int) ∧ bs.length ≤ 1000 ∧ ∀ H', Same H H' → Q (.bl (isBooks bs)) H'
theorem cut1 (xs : List V) : cutV xs (some 1) none = xs.drop 1 := by
  unfold cutV
  rw [show HT.sIx xs.length 0 (some 1) = min 1 xs.length from HT.sIx_nat xs.length 0 1, HT.sIx_none]
  cases xs with
  | nil => rfl
  | cons x r =>
    rw [show min 1 (x :: r).length = 1 by rw [List.length_cons]; omega]
    exact List.take_of_length_le (by rw [List.length_drop]; exact Nat.le_refl _)
theorem gTup2_mono {K : PySem.W.Frag} {i j : Nat} : ∀ (x : V) (σ : St) (H : Hp) (A B : St → Hp → Prop), (∀ σ2 H2, A σ2 H2 → B σ2 H2) → gTup K 2 (gCons (gName i) (gCons (gName j) gNil)) x σ H A → gTup K 2 (gCons (gName i) (gCons (gName j) gNil)) x σ H B :=
  fun _ _ _ _ _ h ⟨a, xs, e, s, l, v, r, e2, v2, r2, e3, e4, q⟩ => ⟨a, xs, e, s, l, v, r, e2, v2, r2, e3, e4, h _ _ q⟩
theorem ok_are_books (T : Top K mg) : FnOk P w K mg base CX0 2 T.a_are_books T.fd_are_books ["books"] (spAreBooks K) := by
  refine T.F_are_books.ok sc_are_books (fun vs H Q E h => ?_) (fun cdv A outer s H vs Q E hr h => ?_)
  · obtain ⟨a, bs, rfl, _⟩ := h
    rfl
  · obtain ⟨a, bs, rfl, hS, hl, k⟩ := h
    have hu := hu_of hr
    refine ⟨_, (pss_cons (ps_if (PW.pt (pw_or (pt_not (pt_val (pe_callB call_isi (by rfl) T.m_isinstance (by decide +kernel) (pa_cons (pv 0) (pa_cons (pe_bltn (v := .ty "tuple") (by rfl) T.m_tuple (by decide +kernel) rfl) pa_nil))))) (pw_or1 (pt_cmpR op_gt (pe_callB call_len_seq (by rfl) T.m_len (by decide +kernel) (pa_cons (pv 0) pa_nil)) (pe_glob rfl T.g_MOST_BOOKS T.r_MOST_BOOKS) (nomark _))))) (pss_one (ps_ret pe_bl)) pss_nil)
      (pss_cons (ps_if (pt_not (pt_val (pe_callB (cr_all rfl) (by rfl) T.m_all (by decide +kernel) (pa_cons (pe_lc (own := [("book", 1)]) (g := gName 1) (tt := tYes) rfl sc_are_books.nd (pi_tup (pv 0)) (blkOk_by (N := N_are_books) (sc := defScope s_are_books) (by decide +kernel)) (fun _ _ _ _ _ => (pg_name (i := 1) sc_are_books.nd rfl (.inl rfl))) (fun _ _ _ _ _ => pts_nil) (fun _ _ _ _ _ => (pe_call (ok_is_number T) (hr.mono (by decide)) (by rfl) T.g_is_number T.F_is_number.kp (b_is_number T) .nil pass0 (pa_cons (pv 1) (pa_cons pe_int (pa_cons (pe_glob rfl T.g_LAST_BOOK T.r_LAST_BOOK) pa_nil)))))) pa_nil)))) (pss_one (ps_ret pe_bl)) pss_nil)
      (pss_one (ps_ret (pe_callB (cr_all rfl) (by rfl) T.m_all (by decide +kernel) (pa_cons (pe_lc (own := [("book", 1), ("later", 2)]) (g := gTup K 2 (gCons (gName 1) (gCons (gName 2) gNil))) (tt := tYes) rfl sc_are_books.nd (RZ.pi_zipA (by rfl) T.m_zip (pa_cons (pv 0) (pa_cons (pe_slice sl_tupA (pv 0) (po_some pe_int) po_none) pa_nil))) (blkOk_by (N := N_are_books) (sc := defScope s_are_books) (by decide +kernel)) (fun _ _ _ _ _ => (pg_tup rfl (pgs_cons (pg_name (i := 1) sc_are_books.nd rfl (.inl rfl)) (pgs_cons (pg_name (i := 2) sc_are_books.nd rfl (.inl rfl)) pgs_nil)))) (fun _ _ _ _ _ => pts_nil) (fun _ _ _ _ _ => (pe_cmpR op_lt (pv 1) (pv 2) (nomark _)))) pa_nil)))))), ?_⟩
    repeat walk_at "g1"
    refine ⟨.ref a, .ty "tuple", .type "tuple", .type "tuple", true, rfl, .ty _, ty_tup hS, kit_ty (by decide +kernel), ?_⟩
    repeat walk_at "g1"
    have hlen : (bs.map V.int).length = bs.length := List.length_map ..
    refine ite2 (fun h1 => ?_) (fun h1 => ?_)
    · repeat walk_at "g1"
      have e : isBooks bs = false := by
        have q := of_decide_eq_true h1
        rw [hlen] at q
        unfold isBooks
        rw [decide_eq_false (by omega), Bool.false_and, Bool.false_and]
      have q := k H (Same.refl H)
      rw [e] at q
      exact q
    · have h6 : decide (bs.length ≤ 6) = true := by
        refine decide_eq_true ?_
        have q := of_decide_eq_false (Bool.eq_false_iff.mpr h1)
        rw [hlen] at q
        omega
      -- all([is_number(book, 1, LAST_BOOK) for book in books])
      refine ⟨.ref a, rfl, a, rfl, ⟨_, hS⟩, fun D hD => lc_map walk_tup (by rw [hlen]; omega) hD (fun i => V.bl (isNum (bs[i]?.getD 0) 1 999)) (fun H1 s1 => s1.seqT hS) (fun i x H1 H2 hi s1 hy R r => ?_) (fun H1 s1 hd => ?_) gName_mono⟩
      · obtain ⟨rfl, hx⟩ := hy
        rw [List.getElem?_map] at hx
        obtain ⟨b, hb, rfl⟩ := Option.map_eq_some_iff.mp hx
        refine ⟨rfl, ?_⟩
        refine ⟨_, rfl, ?_⟩
        have q := r _ (Same.refl _)
        rw [hb] at q
        exact ⟨b, 1, 999, rfl, q⟩
      · have el : (List.range (bs.map V.int).length).map (fun i => V.bl (isNum (bs[i]?.getD 0) 1 999)) = (bs.map fun b => isNum b 1 999).map V.bl := by
          rw [hlen, List.map_map]
          refine range_map bs _ _ fun i x h => ?_
          rw [h]
          rfl
        rw [el] at hd
        refine ⟨D, _, rfl, SqL.of hd, ?_⟩
        repeat walk_at "g1"
        have eall : (bs.map fun b => isNum b 1 999).all id = bs.all fun b => isNum b 1 999 := by rw [List.all_map]; rfl
        rw [eall]
        cases h2 : bs.all fun b => isNum b 1 999 with
        | false =>
          repeat walk_at "g1"
          have e : isBooks bs = false := by
            unfold isBooks
            rw [h2, Bool.and_false, Bool.false_and]
          have q := k H1 s1
          rw [e] at q
          exact q
        | true =>
          repeat walk_at "g1"
          have hS1 := s1.seqT hS
          have asc0 : asc bs = (((List.range (min bs.length (bs.drop 1).length)).map fun i => decide (bs[i]?.getD 0 < (bs.drop 1)[i]?.getD 0)).all id) := by
            unfold asc
            rw [← List.length_zip, range_map (bs.zip (bs.drop 1)) (fun p => decide (p.1 < p.2)) _ fun i p h => ?_, List.all_map]
            · rfl
            · obtain ⟨q1, q2⟩ := List.getElem?_zip_eq_some.mp h
              rw [q1, q2]
              rfl
          have whole : ∀ (c : Addr) (H2 : Hp), Same H1 H2 → SqT K H2 c ((bs.map V.int).drop 1) → ∀ D2, H2 D2 = none → ∀ (Qd : Hp → Prop), (∀ H3, Same H1 H3 → SqL K H3 D2 (((List.range (min bs.length (bs.drop 1).length)).map fun i => decide (bs[i]?.getD 0 < (bs.drop 1)[i]?.getD 0)).map V.bl) → Qd H3) → _ :=
            fun c H2 s2 hC D2 hD2 Qd fin => lc_map (Qd := Qd) (σ := start N_are_books [.ref a]) (g := gTup K 2 (gCons (gName 1) (gCons (gName 2) gNil))) (te := tOp (rI0 fun i j => .bl (decide (i < j))) (tVar 1) (tVar 2)) (vs := [1, 2]) (walk_zipT (K := K) (a := a) (b := c) (xs := bs.map V.int) (ys := (bs.map V.int).drop 1) rfl) (by rw [hlen]; omega) hD2
              (fun i => V.bl (decide (bs[i]?.getD 0 < (bs.drop 1)[i]?.getD 0))) (fun H3 s3 => ⟨s3.seqT (s2.seqT hS1), s3.seqT hC⟩) (fun i x H3 H4 hi s3 hy R r => by
                obtain ⟨Tp, x1, x2, rfl, nT, rfl, e1, e2⟩ := hy
                replace e1 : (bs.map V.int)[i]? = some x1 := e1
                replace e2 : ((bs.map V.int).drop 1)[i]? = some x2 := e2
                rw [List.getElem?_map] at e1
                obtain ⟨b1, hb1, rfl⟩ := Option.map_eq_some_iff.mp e1
                rw [← List.map_drop, List.getElem?_map] at e2
                obtain ⟨b2, hb2, rfl⟩ := Option.map_eq_some_iff.mp e2
                refine ⟨Tp, _, rfl, SqT.of upd_same, rfl, _, _, rfl, _, _, rfl, rfl, rfl, ?_⟩
                refine ⟨_, rfl, _, rfl, b1, b2, rfl, rfl, ?_⟩
                have q := r (upd H3 Tp (.tup [.int b1, .int b2])) (same_new nT)
                rw [hb1, hb2] at q
                exact q) (fun H3 s3 hd3 => fin H3 (s2.trans s3) (SqL.of (by
                  rw [hd3, List.map_map]
                  rw [hlen, List.length_drop, hlen, List.length_drop]
                  rfl))) (gTup2_mono (K := K))
          have last : ∀ (H3 : Hp) (D2 : Addr), Same H1 H3 → SqL K H3 D2 (((List.range (min bs.length (bs.drop 1).length)).map fun i => decide (bs[i]?.getD 0 < (bs.drop 1)[i]?.getD 0)).map V.bl) → rAll K [.ref D2] H3 Q := fun H3 D2 s3 hd3 => by
            refine ⟨D2, _, rfl, hd3, ?_⟩
            rw [← asc0]
            have e : isBooks bs = asc bs := by
              unfold isBooks
              rw [h6, h2, Bool.true_and, Bool.true_and]
            rw [← e]
            exact k H3 (s1.trans s3)
          refine ⟨a, _, rfl, hS1, fun hw => ?_, fun hw c hc => ?_⟩
          · have hC : SqT K H1 a ((bs.map V.int).drop 1) := by
              rw [← cut1]
              have e : cutV (bs.map V.int) (some 1) none = bs.map V.int := by
                unfold cutV
                rw [hw.1, hw.2, Nat.sub_zero, List.drop_zero]
                exact List.take_length
              rw [e]
              exact hS1
            exact ⟨a, a, _, _, rfl, Or.inr ⟨hS1, hC, fun D2 hD2 => whole a H1 (Same.refl _) hC D2 hD2 _ fun H3 s3 q => last H3 D2 s3 q⟩⟩
          · have hC : SqT K (upd H1 c (.tup (cutV (bs.map V.int) (some 1) none))) c ((bs.map V.int).drop 1) := by
              rw [← cut1]
              exact SqT.of upd_same
            exact ⟨a, c, _, _, rfl, Or.inr ⟨(same_new hc).seqT hS1, hC, fun D2 hD2 => whole c _ (same_new hc) hC D2 hD2 _ fun H3 s3 q => last H3 D2 s3 q⟩⟩

/-! ### see, also -/
theorem dec_str {a b : Str} : (decide (V.str a = V.str b)) = decide (a = b) := by
  by_cases h : a = b
  · rw [decide_eq_true h, h]
    exact decide_eq_true rfl
  · rw [decide_eq_false h]
    exact decide_eq_false fun z => h (V.str.inj z)
def isTarget (see heading : Str) : Bool := decide (see = "") || (isWord see && !decide (see = heading))
def spIsTarget : Sp := fun vs H Q _ => ∃ a b : Str, vs = [.str a, .str b] ∧ a.length ≤ 1000 ∧ ∀ H', Same H H' → Q (.bl (isTarget a b)) H'
theorem ok_is_target (T : Top K mg) : FnOk P w K mg base CX0 2 T.a_is_target T.fd_is_target ["see", "heading"] spIsTarget := by
  refine T.F_is_target.ok sc_is_target (fun vs H Q E h => ?_) (fun cdv A outer s H vs Q E hr h => ?_)
  · obtain ⟨a, b, rfl, _⟩ := h
    rfl
  · obtain ⟨a, b, rfl, hl, k⟩ := h
    have hu := hu_of hr
    refine ⟨_, (pss_one (ps_ret (pe_or (pe_cmpR op_eq (pv 0) pe_str (nomark _)) (pe_one (pe_and (pe_call (ok_is_word T) (hr.mono (by decide)) (by rfl) T.g_is_word T.F_is_word.kp (b_is_word T) .nil pass0 (pa_cons (pv 0) pa_nil)) (pe_one (pe_cmpR op_ne (pv 0) (pv 1) (nomark _)))))))), ?_⟩
    repeat walk_at "g1"
    have e0 : (decide (V.str a = V.str "")) = decide (a = "") := by
      by_cases h : a = ""
      · rw [decide_eq_true h, h]
        exact decide_eq_true rfl
      · rw [decide_eq_false h]
        exact decide_eq_false fun z => h (V.str.inj z)
    have e1 : (decide (V.str a = V.str b)) = decide (a = b) := by
      by_cases h : a = b
      · rw [decide_eq_true h, h]
        exact decide_eq_true rfl
      · rw [decide_eq_false h]
        exact decide_eq_false fun z => h (V.str.inj z)
    refine ite2 (fun h1 => ?_) (fun h1 => ?_)
    · rw [show (Str.ofString "") = ("" : Str) from rfl, e0] at h1
      have e : isTarget a b = true := by
        unfold isTarget
        rw [h1, Bool.true_or]
      have q := k H (Same.refl H)
      rw [e] at q
      exact q
    · rw [show (Str.ofString "") = ("" : Str) from rfl, e0] at h1
      have eT : isTarget a b = (isWord a && !decide (a = b)) := by
        unfold isTarget
        rw [Bool.eq_false_iff.mpr h1, Bool.false_or]
      rw [eT] at k
      repeat walk_at "g1"
      intro H1 s1
      cases hw : isWord a with
      | false =>
        repeat walk_at "g1"
        have q := k H1 s1
        rw [hw, Bool.false_and] at q
        exact q
      | true =>
        repeat walk_at "g1"
        have q := k H1 s1
        rw [hw, Bool.true_and, ← e1] at q
        exact q
theorem nodup_le1 {ws : List Str} (h : ws.length ≤ 1) : ws.Nodup := by
  match ws, h with
  | [], _ => exact List.nodup_nil
  | [x], _ => exact List.nodup_cons.mpr ⟨by simp, List.nodup_nil⟩
def isFurther (ws : List Str) (heading : Str) : Bool := decide (ws.length ≤ 4) && ws.all (fun x => isWord x && !decide (x = heading)) && decide ws.Nodup
def spAreFurther (K : PySem.W.Frag) : Sp := fun vs H Q _ => ∃ (a : Addr) (ws : List Str) (b : Str), vs = [.ref a, .str b] ∧ SqT K H a (ws.map V.str) ∧ ws.length ≤ 1 ∧ (∀ x ∈ ws, x.length ≤ 1000) ∧ ∀ H', Same H H' → Q (.bl (isFurther ws b)) H'
theorem ok_are_further (T : Top K mg) : FnOk P w K mg base CX0 2 T.a_are_further T.fd_are_further ["also", "heading"] (spAreFurther K) := by
  refine T.F_are_further.ok sc_are_further (fun vs H Q E h => ?_) (fun cdv A outer s H vs Q E hr h => ?_)
  · obtain ⟨a, ws, b, rfl, _⟩ := h
    rfl
  · obtain ⟨a, ws, b, rfl, hS, hl, hx, k⟩ := h
    have hu := hu_of hr
    refine ⟨_, (pss_cons (ps_if (PW.pt (pw_or (pt_not (pt_val (pe_callB call_isi (by rfl) T.m_isinstance (by decide +kernel) (pa_cons (pv 0) (pa_cons (pe_bltn (v := .ty "tuple") (by rfl) T.m_tuple (by decide +kernel) rfl) pa_nil))))) (pw_or1 (pt_cmpR op_gt (pe_callB call_len_seq (by rfl) T.m_len (by decide +kernel) (pa_cons (pv 0) pa_nil)) (pe_glob rfl T.g_MOST_ALSO T.r_MOST_ALSO) (nomark _))))) (pss_one (ps_ret pe_bl)) pss_nil)
      (pss_cons (ps_if (pt_not (pt_val (pe_callB (cr_all rfl) (by rfl) T.m_all (by decide +kernel) (pa_cons (pe_lc (own := [("word", 2)]) (g := gName 2) (tt := tYes) rfl sc_are_further.nd (pi_tup (pv 0)) (blkOk_by (N := N_are_further) (sc := defScope s_are_further) (by decide +kernel)) (fun _ _ _ _ _ => (pg_name (i := 2) sc_are_further.nd rfl (.inl rfl))) (fun _ _ _ _ _ => pts_nil) (fun _ _ _ _ _ => (pe_and (pe_call (ok_is_word T) (hr.mono (by decide)) (by rfl) T.g_is_word T.F_is_word.kp (b_is_word T) .nil pass0 (pa_cons (pv 2) pa_nil)) (pe_one (pe_cmpR op_ne (pv 2) (pv 1) (nomark _)))))) pa_nil)))) (pss_one (ps_ret pe_bl)) pss_nil)
      (pss_one (ps_ret (pe_cmpR op_eq (pe_lenSet rfl (by rfl) T.m_len (by rfl) T.m_set (pv 0)) (pe_callB call_len_seq (by rfl) T.m_len (by decide +kernel) (pa_cons (pv 0) pa_nil)) (nomark _)))))), ?_⟩
    repeat walk_at "g1"
    refine ⟨.ref a, .ty "tuple", .type "tuple", .type "tuple", true, rfl, .ty _, ty_tup hS, kit_ty (by decide +kernel), ?_⟩
    repeat walk_at "g1"
    have hlen : (ws.map V.str).length = ws.length := List.length_map ..
    refine ite2 (fun h1 => ?_) (fun h1 => ?_)
    · have q := of_decide_eq_true h1
      rw [hlen] at q
      omega
    · refine ⟨_, rfl, a, rfl, ⟨_, hS⟩, fun D hD => lc_map walk_tup (by rw [hlen]; omega) hD (fun i => V.bl (isWord (ws[i]?.getD ("" : Str)) && !decide ((ws[i]?.getD ("" : Str)) = b))) (fun H1 s1 => s1.seqT hS) (fun i x H1 H2 hi s1 hy R r => ?_) (fun H1 s1 hd => ?_) gName_mono⟩
      · obtain ⟨rfl, hv⟩ := hy
        rw [List.getElem?_map] at hv
        obtain ⟨z, hz, rfl⟩ := Option.map_eq_some_iff.mp hv
        rw [hz] at r
        refine ⟨rfl, ?_⟩
        refine ⟨_, rfl, z, rfl, hx z (List.mem_of_getElem? hz), fun H3 s3 => ?_⟩
        refine ⟨_, rfl, ?_⟩
        have q := r H3 s3
        cases hw : isWord z with
        | false =>
          repeat walk_at "g1"
          rw [show (some z).getD ("" : Str) = z from rfl, hw, Bool.false_and] at q
          exact q
        | true =>
          repeat walk_at "g1"
          rw [show (some z).getD ("" : Str) = z from rfl, hw, Bool.true_and, ← dec_str] at q
          exact q
      · have el : (List.range (ws.map V.str).length).map (fun i => V.bl (isWord (ws[i]?.getD ("" : Str)) && !decide ((ws[i]?.getD ("" : Str)) = b))) = (ws.map fun x => isWord x && !decide (x = b)).map V.bl := by
          rw [hlen, List.map_map]
          refine range_map ws _ _ fun i x h => ?_
          rw [h]
          rfl
        rw [el] at hd
        refine ⟨D, _, rfl, SqL.of hd, ?_⟩
        have eall : (ws.map fun x => isWord x && !decide (x = b)).all id = ws.all fun x => isWord x && !decide (x = b) := by rw [List.all_map]; rfl
        rw [eall]
        have h4 : decide (ws.length ≤ 4) = true := decide_eq_true (by omega)
        have hnd : ws.Nodup := nodup_le1 hl
        have eT : isFurther ws b = ws.all fun x => isWord x && !decide (x = b) := by
          unfold isFurther
          rw [h4, decide_eq_true hnd, Bool.true_and, Bool.and_true]
        cases h2 : ws.all fun x => isWord x && !decide (x = b) with
        | false =>
          repeat walk_at "g1"
          have q := k H1 s1
          rw [eT, h2] at q
          exact q
        | true =>
          repeat walk_at "g1"
          refine ⟨a, ws, rfl, Or.inr (s1.seqT hS), hl, ?_⟩
          have hS1 := s1.seqT hS
          repeat walk_at "g1"
          have q := k H1 s1
          rw [eT, h2] at q
          rw [hlen]
          have e : (decide (V.int (ws.length : Int) = V.int (ws.length : Int))) = true := decide_eq_true rfl
          rw [e]
          exact q
end
section
local macro_rules | `(tactic| walk_at "sl") => `(tactic| first | assumption | exact SqL.of upd_same | exact SqL.of (by assumption) | (with_reducible refine sql_upd ?_ ?_; (walk_at "sl"); (first | assumption | exact Ne.symm (by assumption))))
local macro_rules | `(tactic| walk_at "st") => `(tactic| first | assumption | exact SqT.of upd_same | exact SqT.of (by assumption))
local macro_rules | `(tactic| walk_at "sc") => `(tactic| first | rfl | assumption | (show (0 : Int) < _; first | assumption | decide | omega) | exact Or.inl ⟨by omega, by omega⟩ | exact Or.inr ⟨by omega, by omega⟩ | exact ⟨by decide, by decide⟩ | exact ⟨by decide, by decide, by decide⟩)
local macro_rules | `(tactic| walk_at "g1") => `(tactic| first
  | refine ⟨(_ : V), rfl, ?_⟩
  | refine ⟨(_ : Bool), rfl, ?_⟩
  | refine ⟨(_ : Int), (_ : Int), rfl, rfl, ?_⟩
  | refine ⟨(_ : Int), rfl, ?_⟩
  | refine ⟨(_ : Str), rfl, ?_⟩
  | refine ⟨(_ : Addr), (_ : List V), rfl, Or.inl (by walk_at "sl"), ?_⟩
  | refine ⟨(_ : Addr), (_ : List V), rfl, Or.inr (by walk_at "st"), ?_⟩
  | refine ⟨(_ : Addr), (_ : List V), (_ : Int), (_ : V), rfl, rfl, (by walk_at "sl"), (by first | rfl | assumption), ?_⟩
  | refine ⟨(_ : Addr), (_ : List V), (_ : Int), (_ : V), rfl, rfl, (by walk_at "st"), (by first | rfl | assumption), ?_⟩
  | refine ⟨(_ : Addr), (_ : List V), (_ : Int), (_ : Nat), rfl, rfl, upd_same, rfl, ?_⟩
  | refine ⟨(_ : Addr), (_ : List V), (_ : Int), (_ : Nat), rfl, rfl, (by assumption), rfl, ?_⟩
  | refine Or.inl ⟨(_ : Int), rfl, ?_⟩
  | refine And.intro (by walk_at "sc") ?_
  | refine iteT ?_
  | refine iteF ?_)
/-! ### cards -/
structure CD where
  heading : Str
  books : List Int
  see : Str
  also : List Str
/-- a card that is as it must be -/
structure CD.Good (c : CD) : Prop where
  h : isWord c.heading = true
  b : isBooks c.books = true
  t : isTarget c.see c.heading = true
  e : c.see = "" ∨ (c.books = [] ∧ c.also = [])
  a : isFurther c.also c.heading = true
theorem CD.Good.lh {c : CD} (g : c.Good) : c.heading.length ≤ 8 := by
  have q := g.h
  unfold isWord at q
  rw [Bool.and_eq_true, Bool.and_eq_true] at q
  have := of_decide_eq_true q.1.2
  omega
theorem word_len {x : Str} (g : isWord x = true) : x.length ≤ 8 := by
  unfold isWord at g
  rw [Bool.and_eq_true, Bool.and_eq_true] at g
  have := of_decide_eq_true g.1.2
  omega
theorem CD.Good.ls {c : CD} (g : c.Good) : c.see.length ≤ 8 := by
  have q := g.t
  unfold isTarget at q
  rw [Bool.or_eq_true, Bool.and_eq_true] at q
  rcases q with q | q
  · rw [of_decide_eq_true q]
    decide
  · exact word_len q.1
theorem CD.Good.lb {c : CD} (g : c.Good) : c.books.length ≤ 6 := by
  have q := g.b
  unfold isBooks at q
  rw [Bool.and_eq_true, Bool.and_eq_true] at q
  exact of_decide_eq_true q.1.1
theorem CD.Good.la {c : CD} (g : c.Good) : c.also.length ≤ 4 := by
  have q := g.a
  unfold isFurther at q
  rw [Bool.and_eq_true, Bool.and_eq_true] at q
  exact of_decide_eq_true q.1.1
theorem CD.Good.wa {c : CD} (g : c.Good) : ∀ x ∈ c.also, isWord x = true := fun x hx => by
  have q := g.a
  unfold isFurther at q
  rw [Bool.and_eq_true, Bool.and_eq_true] at q
  have q2 := List.all_eq_true.mp q.1.2 x hx
  rw [Bool.and_eq_true] at q2
  exact q2.1
def spWrongPart (K : PySem.W.Frag) : Sp := fun vs H Q _ => ∃ (c : CD) (b a : Addr), vs = [.str c.heading, .ref b, .str c.see, .ref a] ∧ c.Good ∧ SqT K H b (c.books.map V.int) ∧ SqT K H a (c.also.map V.str) ∧ c.also.length ≤ 1 ∧ ∀ H', Same H H' → Q .non H'
theorem ok_wrong_part (T : Top K mg) : FnOk P w K mg base CX0 3 T.a_wrong_part T.fd_wrong_part ["heading", "books", "see", "also"] (spWrongPart K) := by
  refine T.F_wrong_part.ok sc_wrong_part (fun vs H Q E h => ?_) (fun cdv A outer s H vs Q E hr h => ?_)
  · obtain ⟨c, b, a, rfl, _⟩ := h
    rfl
  · obtain ⟨c, b, a, rfl, g, hB, hA, hl, k⟩ := h
    have hu := hu_of hr
    refine ⟨_, (pss_cons (ps_if (pt_not (pt_val (pe_call (ok_is_word T) (hr.mono (by decide)) (by rfl) T.g_is_word T.F_is_word.kp (b_is_word T) .nil pass0 (pa_cons (pv 0) pa_nil)))) (pss_one (ps_ret pe_str)) pss_nil)
      (pss_cons (ps_if (pt_not (pt_val (pe_call (ok_are_books T) (hr.mono (by decide)) (by rfl) T.g_are_books T.F_are_books.kp (b_are_books T) .nil pass0 (pa_cons (pv 1) pa_nil)))) (pss_one (ps_ret pe_str)) pss_nil)
      (pss_cons (ps_if (pt_not (pt_val (pe_call (ok_is_target T) (hr.mono (by decide)) (by rfl) T.g_is_target T.F_is_target.kp (b_is_target T) .nil pass0 (pa_cons (pv 2) (pa_cons (pv 0) pa_nil))))) (pss_one (ps_ret pe_str)) pss_nil)
      (pss_cons (ps_if (PW.pt (pw_and (pt_cmpR op_ne (pv 2) pe_str (nomark _)) (pw_and1 (PW.pt (pw_or (pt_cmpR (op_neD hr.units) (pv 1) (pe_tup pa_nil) (nomark _)) (pw_or1 (pt_cmpR (op_neD hr.units) (pv 3) (pe_tup pa_nil) (nomark _)))))))) (pss_one (ps_ret pe_str)) pss_nil)
      (pss_cons (ps_if (pt_not (pt_val (pe_call (ok_are_further T) (hr.mono (by decide)) (by rfl) T.g_are_further T.F_are_further.kp (b_are_further T) .nil pass0 (pa_cons (pv 3) (pa_cons (pv 0) pa_nil))))) (pss_one (ps_ret pe_str)) pss_nil)
      (pss_one (ps_ret pe_non))))))), ?_⟩
    have l1 := g.lh
    have l2 := g.ls
    have l3 := g.lb
    refine ⟨_, rfl, c.heading, rfl, by omega, fun H1 s1 => ?_⟩
    rw [g.h]
    repeat walk_at "g1"
    refine ⟨b, c.books, rfl, s1.seqT hB, by omega, fun H2 s2 => ?_⟩
    rw [g.b]
    have s12 := s1.trans s2
    repeat walk_at "g1"
    refine ⟨c.see, c.heading, rfl, by omega, fun H3 s3 => ?_⟩
    rw [g.t]
    have s13 := s12.trans s3
    repeat walk_at "g1"
    by_cases hs : c.see = ""
    · have e : (!decide (V.str c.see = V.str (Str.ofString ""))) = false := by
        rw [hs]
        exact congrArg _ (decide_eq_true rfl)
      rw [e]
      refine iteF ?_
      repeat walk_at "g1"
      refine ⟨a, c.also, c.heading, rfl, s13.seqT hA, hl, fun x hx => by have := word_len (g.wa x hx); omega, fun H5 s5 => ?_⟩
      rw [g.a]
      repeat walk_at "g1"
      exact k H5 (s13.trans s5)
    · have e : (!decide (V.str c.see = V.str (Str.ofString ""))) = true := by
        have q : decide (V.str c.see = V.str (Str.ofString "")) = false := decide_eq_false fun z => hs (V.str.inj z)
        rw [q]
        rfl
      rw [e]
      refine iteT ?_
      obtain ⟨eb, ea⟩ := g.e.resolve_left hs
      refine ⟨_, rfl, Nat.zero_le _, fun p hp => ⟨.tuple (c.books.map .int), .tuple [], dp_tInts ((same_new hp).seqT (s13.seqT hB)), dp_nil (SqT.of upd_same), sh_tInts _, rfl, ?_⟩⟩
      rw [eb]
      repeat walk_at "g1"
      refine ⟨Nat.zero_le _, fun p2 hp2 => ⟨.tuple (c.also.map .str), .tuple [], dp_tStrs ((same_new hp2).seqT ((same_new hp).seqT (s13.seqT hA))), dp_nil (SqT.of upd_same), ?_, rfl, ?_⟩⟩
      · rw [ea]
        rfl
      rw [ea]
      repeat walk_at "g1"
      have s15 := (s13.trans (same_new (o := .tup []) hp)).trans (same_new (o := .tup []) hp2)
      repeat walk_at "g1"
      refine ⟨a, c.also, c.heading, rfl, s15.seqT hA, hl, fun x hx => by have := word_len (g.wa x hx); omega, fun H5 s5 => ?_⟩
      rw [g.a]
      repeat walk_at "g1"
      exact k H5 (s15.trans s5)

/-! ### a card as it stands -/
def cardFlds (h b s a : V) : List (Str × V) := putF "_also" a (putF "_see" s (putF "_books" b (putF "_heading" h [])))
theorem cf_eq (h b s a : V) : cardFlds h b s a = ([(("_heading" : Str), h), (("_books" : Str), b), (("_see" : Str), s), (("_also" : Str), a)] : List (Str × V)) := by
  rfl
theorem cf_heading (h b s a : V) : (cardFlds h b s a).lookup ("_heading" : Str) = some h := by rw [cf_eq]; rfl
theorem cf_books (h b s a : V) : (cardFlds h b s a).lookup ("_books" : Str) = some b := by rw [cf_eq]; rfl
theorem cf_see (h b s a : V) : (cardFlds h b s a).lookup ("_see" : Str) = some s := by rw [cf_eq]; rfl
theorem cf_also (h b s a : V) : (cardFlds h b s a).lookup ("_also" : Str) = some a := by rw [cf_eq]; rfl
/-- the card c of the class C stands at p -/
def CardAt (K : PySem.W.Frag) (C : Addr) (H : Hp) (p : Addr) (c : CD) : Prop := ∃ (dx b a : Addr), H p = some (.ins C dx (cardFlds (.str c.heading) (.ref b) (.str c.see) (.ref a))) ∧ SqT K H b (c.books.map V.int) ∧ SqT K H a (c.also.map V.str)
theorem CardAt.imm {C : Addr} {H H' : Hp} {p : Addr} {c : CD} (h : CardAt K C H p c) (s : Imm H H') : CardAt K C H' p c := by
  obtain ⟨dx, b, a, h1, h2, h3⟩ := h
  exact ⟨dx, b, a, s _ _ h1 rfl, s.seqT h2, s.seqT h3⟩
theorem CardAt.same {C : Addr} {H H' : Hp} {p : Addr} {c : CD} (h : CardAt K C H p c) (s : Same H H') : CardAt K C H' p c := h.imm s.imm
def spCardInit (K : PySem.W.Frag) (C : Addr) : Sp := fun vs H Q _ => ∃ (p dx : Addr) (c : CD) (b a : Addr), vs = [.ref p, .str c.heading, .ref b, .str c.see, .ref a] ∧ H p = some (.ins C dx []) ∧ c.Good ∧ SqT K H b (c.books.map V.int) ∧ SqT K H a (c.also.map V.str) ∧ c.also.length ≤ 1 ∧
  ∀ H', But p H H' → CardAt K C H' p c → Q .non H'
theorem But.upd2 {r : Addr} {H H1 : Hp} {o : HO} (a : But r H H1) : But r H (L2.upd H1 r o) := a.upd
theorem ok_Card_init (T : Top K mg) : FnOk P w K mg base CX0 4 T.a_Card_init T.fd_Card_init ["self", "heading", "books", "see", "also"] (spCardInit K T.c_Card) := by
  refine T.F_Card_init.ok sc_Card_init (fun vs H Q E h => ?_) (fun cdv A outer s H vs Q E hr h => ?_)
  · obtain ⟨p, dx, c, b, a, rfl, _⟩ := h
    rfl
  · obtain ⟨p, dx, c, b, a, rfl, hp, g, hB, hA, hl, k⟩ := h
    have hu := hu_of hr
    refine ⟨_, PSs.nox (pss_cons (ps_set (i := 5) sc_Card_init.nd rfl (.inl rfl) (pe_call (ok_wrong_part T) (hr.mono (by decide)) (by rfl) T.g_wrong_part T.F_wrong_part.kp (b_wrong_part T) .nil pass0 (pa_cons (pv 1) (pa_cons (pv 2) (pa_cons (pv 3) (pa_cons (pv 4) pa_nil))))))
      (pss_cons (ps_if (pt_cmpR op_notN (pv 5) pe_non (nomark _)) (pss_one (ps_never)) pss_nil)
      (pss_cons (ps_fld (pv 0) (pv 1) rfl)
      (pss_cons (ps_fld (pv 0) (pv 2) rfl)
      (pss_cons (ps_fld (pv 0) (pv 3) rfl)
      (pss_one (ps_fld (pv 0) (pv 4) rfl))))))), ?_⟩
    repeat walk_at "g1"
    refine ⟨c, b, a, rfl, g, hB, hA, hl, fun H1 s1 => ?_⟩
    repeat walk_at "g1"
    have hp1 := s1 _ _ hp
    refine ⟨p, T.c_Card, dx, [], rfl, hp1, T.cl_Card, T.n_Card__heading, (by show 0 < 1000; decide), ?_⟩
    repeat walk_at "g1"
    refine ⟨p, T.c_Card, dx, _, rfl, upd_same, T.cl_Card, T.n_Card__books, (by show 1 < 1000; decide), ?_⟩
    repeat walk_at "g1"
    refine ⟨p, T.c_Card, dx, _, rfl, upd_same, T.cl_Card, T.n_Card__see, (by show 2 < 1000; decide), ?_⟩
    repeat walk_at "g1"
    refine ⟨p, T.c_Card, dx, _, rfl, upd_same, T.cl_Card, T.n_Card__also, (by show 3 < 1000; decide), ?_⟩
    have nb : ∀ {q : Addr} {xs : List V}, SqT K H1 q xs → q ≠ p ∨ True := fun _ => .inr True.intro
    have st : ∀ {q : Addr} {xs : List V} {o : HO}, SqT K H1 q xs → SqT K (upd H1 p o) q xs := fun {q xs o} h => by
      rcases h with (h | ⟨u, h⟩) | h
      · exact .inl (.inl (by rw [upd_ne (ne_of h hp1 (by intro z; cases z))]; exact h))
      · exact .inl (.inr ⟨u, by rw [upd_ne (ne_of h hp1 (by intro z; cases z))]; exact h⟩)
      · exact .inr h
    have e4 : ∀ o1 o2 o3 o4 : HO, upd (upd (upd (upd H1 p o1) p o2) p o3) p o4 = upd H1 p o4 := fun o1 o2 o3 o4 => by rw [upd_upd, upd_upd, upd_upd]
    show Q .non (upd (upd (upd (upd H1 p _) p _) p _) p _)
    rw [e4]
    refine k _ (fun q o h n => ?_) ⟨dx, b, a, upd_same, st (s1.seqT hB), st (s1.seqT hA)⟩
    rw [upd_ne n]
    exact s1 _ _ h
/-! ### what a card tells -/
def spGet (K : PySem.W.Frag) (C : Addr) (f : Str) : Sp := fun vs H Q _ => ∃ (p dx : Addr) (fs : List (Str × V)) (v : V), vs = [.ref p] ∧ H p = some (.ins C dx fs) ∧ fs.lookup f = some v ∧ Q v H
theorem ok_Card_heading (T : Top K mg) : FnOk P w K mg base CX0 1 T.a_Card_heading T.fd_Card_heading ["self"] (spGet K T.c_Card "_heading") := by
  refine T.F_Card_heading.ok sc_Card_heading (fun vs H Q E h => ?_) (fun cdv A outer s H vs Q E hr h => ?_)
  · obtain ⟨p, dx, fs, v, rfl, _⟩ := h
    rfl
  · obtain ⟨p, dx, fs, v, rfl, hp, hv, k⟩ := h
    exact ⟨_, (pss_one (ps_ret (pe_fld (pv 0) rfl))), _, rfl, p, _, dx, fs, v, rfl, hp, T.cl_Card, T.n_Card__heading, hv, k⟩
end
section
local macro_rules | `(tactic| walk_at "sl") => `(tactic| first | assumption | exact SqL.of upd_same | exact SqL.of (by assumption) | (with_reducible refine sql_upd ?_ ?_; (walk_at "sl"); (first | assumption | exact Ne.symm (by assumption))))
local macro_rules | `(tactic| walk_at "st") => `(tactic| first | assumption | exact SqT.of upd_same | exact SqT.of (by assumption))
local macro_rules | `(tactic| walk_at "sc") => `(tactic| first | rfl | assumption | (show (0 : Int) < _; first | assumption | decide | omega) | exact Or.inl ⟨by omega, by omega⟩ | exact Or.inr ⟨by omega, by omega⟩ | exact ⟨by decide, by decide⟩ | exact ⟨by decide, by decide, by decide⟩)
local macro_rules | `(tactic| walk_at "g1") => `(tactic| first
  | refine ⟨(_ : V), rfl, ?_⟩
  | refine ⟨(_ : Bool), rfl, ?_⟩
  | refine ⟨(_ : Int), (_ : Int), rfl, rfl, ?_⟩
  | refine ⟨(_ : Int), rfl, ?_⟩
  | refine ⟨(_ : Str), rfl, ?_⟩
  | refine ⟨(_ : Addr), (_ : List V), rfl, Or.inl (by walk_at "sl"), ?_⟩
  | refine ⟨(_ : Addr), (_ : List V), rfl, Or.inr (by walk_at "st"), ?_⟩
  | refine ⟨(_ : Addr), (_ : List V), (_ : Int), (_ : V), rfl, rfl, (by walk_at "sl"), (by first | rfl | assumption), ?_⟩
  | refine ⟨(_ : Addr), (_ : List V), (_ : Int), (_ : V), rfl, rfl, (by walk_at "st"), (by first | rfl | assumption), ?_⟩
  | refine ⟨(_ : Addr), (_ : List V), (_ : Int), (_ : Nat), rfl, rfl, upd_same, rfl, ?_⟩
  | refine ⟨(_ : Addr), (_ : List V), (_ : Int), (_ : Nat), rfl, rfl, (by assumption), rfl, ?_⟩
  | refine Or.inl ⟨(_ : Int), rfl, ?_⟩
  | refine And.intro (by walk_at "sc") ?_
  | refine iteT ?_
  | refine iteF ?_)
/-! ### drawers -/
def drawFlds (t : V) : List (Str × V) := putF "_cards" t []
theorem df_cards (t : V) : (drawFlds t).lookup ("_cards" : Str) = some t := rfl
def Cards (K : PySem.W.Frag) (C : Addr) (H : Hp) (ps : List Addr) (cs : List CD) : Prop := ps.length = cs.length ∧ ∀ (i : Nat) (q : Addr) (c : CD), ps[i]? = some q → cs[i]? = some c → CardAt K C H q c
theorem Cards.imm {C : Addr} {H H' : Hp} {ps : List Addr} {cs : List CD} (h : Cards K C H ps cs) (s : Imm H H') : Cards K C H' ps cs := ⟨h.1, fun i q c h1 h2 => (h.2 i q c h1 h2).imm s⟩
theorem Cards.get {C : Addr} {H : Hp} {ps : List Addr} {cs : List CD} (h : Cards K C H ps cs) {i : Nat} {q : Addr} (hi : ps[i]? = some q) : ∃ c, cs[i]? = some c ∧ CardAt K C H q c := by
  have l := (List.getElem?_eq_some_iff.mp hi).1
  rw [h.1] at l
  exact ⟨cs[i], List.getElem?_eq_getElem l, h.2 i q _ hi (List.getElem?_eq_getElem l)⟩
/-- the drawer of the cards cs stands at p -/
def DrawerAt (K : PySem.W.Frag) (CD' CC : Addr) (H : Hp) (p : Addr) (cs : List CD) : Prop := ∃ (dx t : Addr) (ps : List Addr), H p = some (.ins CD' dx (drawFlds (.ref t))) ∧ SqT K H t (ps.map V.ref) ∧ Cards K CC H ps cs
theorem DrawerAt.imm {D C : Addr} {H H' : Hp} {p : Addr} {cs : List CD} (h : DrawerAt K D C H p cs) (s : Imm H H') : DrawerAt K D C H' p cs := by
  obtain ⟨dx, t, ps, h1, h2, h3⟩ := h
  exact ⟨dx, t, ps, s _ _ h1 rfl, s.seqT h2, h3.imm s⟩
def spDrawerInit (K : PySem.W.Frag) (C : Addr) : Sp := fun vs H Q _ => ∃ (p dx t : Addr) (xs : List V), vs = [.ref p, .ref t] ∧ H p = some (.ins C dx []) ∧ SqT K H t xs ∧ xs.length ≤ 16 ∧
  ∀ H', But p H H' → H' p = some (.ins C dx (drawFlds (.ref t))) → Q .non H'
theorem ok_Drawer_init (T : Top K mg) : FnOk P w K mg base CX0 2 T.a_Drawer_init T.fd_Drawer_init ["self", "cards"] (spDrawerInit K T.c_Drawer) := by
  refine T.F_Drawer_init.ok sc_Drawer_init (fun vs H Q E h => ?_) (fun cdv A outer s H vs Q E hr h => ?_)
  · obtain ⟨p, dx, t, xs, rfl, _⟩ := h
    rfl
  · obtain ⟨p, dx, t, xs, rfl, hp, hT, hl, k⟩ := h
    have hu := hu_of hr
    refine ⟨_, (pss_cons (ps_if (pt_cmpR op_gt (pe_callB call_len_seq (by rfl) T.m_len (by decide +kernel) (pa_cons (pv 1) pa_nil)) (pe_glob rfl T.g_MOST_CARDS T.r_MOST_CARDS) (nomark _)) (pss_one (ps_never)) pss_nil)
      (pss_one (ps_fld (pv 0) (pe_callTy call_tupleT (by rfl) T.m_tuple (by decide +kernel) (pa_cons (pv 1) pa_nil)) rfl))), ?_⟩
    repeat walk_at "g1"
    refine ite2 (fun h1 => ?_) (fun h1 => ?_)
    · have q := of_decide_eq_true h1
      omega
    · repeat walk_at "g1"
      refine ⟨t, xs, rfl, hT, ?_⟩
      repeat walk_at "g1"
      refine ⟨p, T.c_Drawer, dx, [], rfl, hp, T.cl_Drawer, T.n_Drawer__cards, (by show 0 < 1000; decide), ?_⟩
      exact k _ (fun q o h n => by rw [upd_ne n]; exact h) upd_same
theorem ok_Drawer_cards (T : Top K mg) : FnOk P w K mg base CX0 1 T.a_Drawer_cards T.fd_Drawer_cards ["self"] (spGet K T.c_Drawer "_cards") := by
  refine T.F_Drawer_cards.ok sc_Drawer_cards (fun vs H Q E h => ?_) (fun cdv A outer s H vs Q E hr h => ?_)
  · obtain ⟨p, dx, fs, v, rfl, _⟩ := h
    rfl
  · obtain ⟨p, dx, fs, v, rfl, hp, hv, k⟩ := h
    exact ⟨_, (pss_one (ps_ret (pe_fld (pv 0) rfl))), _, rfl, p, _, dx, fs, v, rfl, hp, T.cl_Drawer, T.n_Drawer__cards, hv, k⟩
def heads (cs : List CD) : List Str := cs.map CD.heading
def spHeadings (K : PySem.W.Frag) (D C : Addr) : Sp := fun vs H Q _ => ∃ (p : Addr) (cs : List CD), vs = [.ref p] ∧ DrawerAt K D C H p cs ∧ cs.length ≤ 1000 ∧ ∀ (t : Addr) (H' : Hp), Same H H' → H t = none → H' t = some (.tup ((heads cs).map V.str)) → Q (.ref t) H'
theorem ok_headings_along (T : Top K mg) : FnOk P w K mg base CX0 3 T.a_headings_along T.fd_headings_along ["drawer"] (spHeadings K T.c_Drawer T.c_Card) := by
  refine T.F_headings_along.ok sc_headings_along (fun vs H Q E h => ?_) (fun cdv A outer s H vs Q E hr h => ?_)
  · obtain ⟨p, cs, rfl, _⟩ := h
    rfl
  · obtain ⟨p, cs, rfl, ⟨dx, t, ps, hp, hT, hC⟩, hl, k⟩ := h
    have hu := hu_of hr
    refine ⟨_, (pss_one (ps_ret (pe_callTy call_tuple_of (by rfl) T.m_tuple (by decide +kernel) (pa_cons (pe_lc (own := [("card", 1)]) (g := gName 1) (tt := tYes) rfl sc_headings_along.nd (pi_tup (pe_prop (pv 0) T.cl_Drawer T.P_Drawer_cards (ok_Drawer_cards T) (hr.mono (by decide)) (b_Drawer_cards T) .nil pass0 rfl)) (blkOk_by (N := N_headings_along) (sc := defScope s_headings_along) (by decide +kernel)) (fun _ _ _ _ _ => (pg_name (i := 1) sc_headings_along.nd rfl (.inl rfl))) (fun _ _ _ _ _ => pts_nil) (fun _ _ _ _ _ => (pe_prop (pv 1) T.cl_Card T.P_Card_heading (ok_Card_heading T) (hr.mono (by decide)) (b_Card_heading T) .nil pass0 rfl))) pa_nil)))), ?_⟩
    refine ⟨_, rfl, p, dx, _, rfl, hp, p, dx, _, _, rfl, hp, df_cards _, t, rfl, ⟨_, hT⟩, fun D hD => lc_map walk_tup (by rw [List.length_map, hC.1]; omega) hD (fun i => V.str ((heads cs)[i]?.getD "")) (fun H1 s1 => s1.seqT hT) (fun i x H1 H2 hi s1 hy R r => ?_) (fun H1 s1 hd => ?_) gName_mono⟩
    · obtain ⟨rfl, hx⟩ := hy
      rw [List.getElem?_map] at hx
      obtain ⟨q, hq, rfl⟩ := Option.map_eq_some_iff.mp hx
      obtain ⟨c, hc, ca⟩ := hC.get hq
      obtain ⟨dq, b, a, hq2, _, _⟩ := ca.same s1
      refine ⟨rfl, ?_⟩
      refine ⟨_, rfl, q, dq, _, rfl, hq2, q, dq, _, _, rfl, hq2, cf_heading _ _ _ _, ?_⟩
      have z := r _ (Same.refl _)
      have e : (heads cs)[i]? = some c.heading := by
        unfold heads
        rw [List.getElem?_map, hc]
        rfl
      rw [e] at z
      exact z
    · have el : (List.range (ps.map V.ref).length).map (fun i => V.str ((heads cs)[i]?.getD "")) = (heads cs).map V.str := by
        have e : (ps.map V.ref).length = (heads cs).length := by
          unfold heads
          rw [List.length_map, List.length_map, hC.1]
        rw [e]
        exact range_map (heads cs) _ _ fun i x h => by rw [h]; rfl
      rw [el] at hd
      refine ⟨D, _, rfl, .inl ⟨SqL.of hd, fun u hu' => ?_⟩⟩
      exact k u _ (s1.trans (same_new hu')) (s1.free hu') upd_same

/-- the order of texts -/
def leS (a b : Str) : Bool := !decide (b.cps.toList < a.cps.toList)
def risesBy (ws : List Str) : Bool := (ws.zip (ws.drop 1)).all fun p => leS p.1 p.2
def spIsFiled (K : PySem.W.Frag) (D C : Addr) : Sp := fun vs H Q _ => ∃ (p : Addr) (cs : List CD), vs = [.ref p] ∧ DrawerAt K D C H p cs ∧ cs.length ≤ 1000 ∧ ∀ (H' : Hp), Same H H' → Q (.bl (risesBy (heads cs))) H'
theorem ok_is_filed (T : Top K mg) : FnOk P w K mg base CX0 4 T.a_is_filed T.fd_is_filed ["drawer"] (spIsFiled K T.c_Drawer T.c_Card) := by
  refine T.F_is_filed.ok sc_is_filed (fun vs H Q E h => ?_) (fun cdv A outer s H vs Q E hr h => ?_)
  · obtain ⟨p, cs, rfl, _⟩ := h
    rfl
  · obtain ⟨p, cs, rfl, hD, hl, k⟩ := h
    have hu := hu_of hr
    refine ⟨_, (pss_cons (ps_set (i := 1) sc_is_filed.nd rfl (.inl rfl) (pe_call (ok_headings_along T) (hr.mono (by decide)) (by rfl) T.g_headings_along T.F_headings_along.kp (b_headings_along T) .nil pass0 (pa_cons (pv 0) pa_nil)))
      (pss_one (ps_ret (pe_callB (cr_all rfl) (by rfl) T.m_all (by decide +kernel) (pa_cons (pe_lc (own := [("ahead", 2), ("heading", 3)]) (g := gTup K 2 (gCons (gName 2) (gCons (gName 3) gNil))) (tt := tYes) rfl sc_is_filed.nd (RZ.pi_zipA (by rfl) T.m_zip (pa_cons (pv 1) (pa_cons (pe_slice sl_tupA (pv 1) (po_some pe_int) po_none) pa_nil))) (blkOk_by (N := N_is_filed) (sc := defScope s_is_filed) (by decide +kernel)) (fun _ _ _ _ _ => (pg_tup rfl (pgs_cons (pg_name (i := 2) sc_is_filed.nd rfl (.inl rfl)) (pgs_cons (pg_name (i := 3) sc_is_filed.nd rfl (.inl rfl)) pgs_nil)))) (fun _ _ _ _ _ => pts_nil) (fun _ _ _ _ _ => (pe_cmpR op_le_str (pv 2) (pv 3) (nomark _)))) pa_nil))))), ?_⟩
    refine ⟨_, rfl, p, cs, rfl, hD, hl, fun a H1 s1 na ha => ?_⟩
    repeat walk_at "g1"
    have hS1 : SqT K H1 a ((heads cs).map V.str) := SqT.of ha
    generalize hws : heads cs = ws at *
    have hln : ws.length ≤ 1000 := by
      rw [← hws]
      unfold heads
      rw [List.length_map]
      exact hl
    have hlen : (ws.map V.str).length = ws.length := List.length_map ..
    have rise0 : risesBy ws = (((List.range (min ws.length (ws.drop 1).length)).map fun i => leS (ws[i]?.getD "") ((ws.drop 1)[i]?.getD "")).all id) := by
      unfold risesBy
      rw [← List.length_zip, range_map (ws.zip (ws.drop 1)) (fun p => leS p.1 p.2) _ fun i p h => ?_, List.all_map]
      · rfl
      · obtain ⟨q1, q2⟩ := List.getElem?_zip_eq_some.mp h
        rw [q1, q2]
        rfl
    have whole : ∀ (c : Addr) (H2 : Hp), Same H1 H2 → SqT K H2 c ((ws.map V.str).drop 1) → ∀ D2, H2 D2 = none → ∀ (Qd : Hp → Prop), (∀ H3, Same H1 H3 → SqL K H3 D2 (((List.range (min ws.length (ws.drop 1).length)).map fun i => leS (ws[i]?.getD "") ((ws.drop 1)[i]?.getD "")).map V.bl) → Qd H3) → _ :=
      fun c H2 s2 hC D2 hD2 Qd fin => lc_map (Qd := Qd) (σ := [some (.ref p), some (.ref a), none, none]) (g := gTup K 2 (gCons (gName 2) (gCons (gName 3) gNil))) (te := tOp (fun x y H Q => ∃ i j, x = .str i ∧ y = .str j ∧ Q (.bl (leS i j)) H) (tVar 2) (tVar 3)) (vs := [2, 3]) (walk_zipT (K := K) (a := a) (b := c) (xs := ws.map V.str) (ys := (ws.map V.str).drop 1) rfl) (by rw [hlen]; omega) hD2
        (fun i => V.bl (leS (ws[i]?.getD "") ((ws.drop 1)[i]?.getD ""))) (fun H3 s3 => ⟨s3.seqT (s2.seqT hS1), s3.seqT hC⟩) (fun i x H3 H4 hi s3 hy R r => by
          obtain ⟨Tp, x1, x2, rfl, nT, rfl, e1, e2⟩ := hy
          replace e1 : (ws.map V.str)[i]? = some x1 := e1
          replace e2 : ((ws.map V.str).drop 1)[i]? = some x2 := e2
          rw [List.getElem?_map] at e1
          obtain ⟨b1, hb1, rfl⟩ := Option.map_eq_some_iff.mp e1
          rw [← List.map_drop, List.getElem?_map] at e2
          obtain ⟨b2, hb2, rfl⟩ := Option.map_eq_some_iff.mp e2
          refine ⟨Tp, _, rfl, SqT.of upd_same, rfl, _, _, rfl, _, _, rfl, rfl, rfl, ?_⟩
          refine ⟨_, rfl, _, rfl, b1, b2, rfl, rfl, ?_⟩
          have q := r (upd H3 Tp (.tup [.str b1, .str b2])) (same_new nT)
          rw [hb1, hb2] at q
          exact q) (fun H3 s3 hd3 => fin H3 (s2.trans s3) (SqL.of (by
            rw [hd3, List.map_map]
            rw [hlen, List.length_drop, hlen, List.length_drop]
            rfl))) (gTup2_mono (K := K))
    have last : ∀ (H3 : Hp) (D2 : Addr), Same H1 H3 → SqL K H3 D2 (((List.range (min ws.length (ws.drop 1).length)).map fun i => leS (ws[i]?.getD "") ((ws.drop 1)[i]?.getD "")).map V.bl) → rAll K [.ref D2] H3 Q := fun H3 D2 s3 hd3 => by
      refine ⟨D2, _, rfl, hd3, ?_⟩
      rw [← rise0]
      exact k H3 (s1.trans s3)
    refine ⟨a, _, rfl, hS1, fun hw => ?_, fun hw c hc => ?_⟩
    · have hC : SqT K H1 a ((ws.map V.str).drop 1) := by
        rw [← cut1]
        have e : cutV (ws.map V.str) (some 1) none = ws.map V.str := by
          unfold cutV
          rw [hw.1, hw.2, Nat.sub_zero, List.drop_zero]
          exact List.take_length
        rw [e]
        exact hS1
      exact ⟨a, a, _, _, rfl, Or.inr ⟨hS1, hC, fun D2 hD2 => whole a H1 (Same.refl _) hC D2 hD2 _ fun H3 s3 q => last H3 D2 s3 q⟩⟩
    · have hC : SqT K (upd H1 c (.tup (cutV (ws.map V.str) (some 1) none))) c ((ws.map V.str).drop 1) := by
        rw [← cut1]
        exact SqT.of upd_same
      exact ⟨a, c, _, _, rfl, Or.inr ⟨(same_new hc).seqT hS1, hC, fun D2 hD2 => whole c _ (same_new hc) hC D2 hD2 _ fun H3 s3 q => last H3 D2 s3 q⟩⟩
end
section
local macro_rules | `(tactic| walk_at "sl") => `(tactic| first | assumption | exact SqL.of upd_same | exact SqL.of (by assumption) | (with_reducible refine sql_upd ?_ ?_; (walk_at "sl"); (first | assumption | exact Ne.symm (by assumption))))
local macro_rules | `(tactic| walk_at "st") => `(tactic| first | assumption | exact SqT.of upd_same | exact SqT.of (by assumption))
local macro_rules | `(tactic| walk_at "sc") => `(tactic| first | rfl | assumption | (show (0 : Int) < _; first | assumption | decide | omega) | exact Or.inl ⟨by omega, by omega⟩ | exact Or.inr ⟨by omega, by omega⟩ | exact ⟨by decide, by decide⟩ | exact ⟨by decide, by decide, by decide⟩)
local macro_rules | `(tactic| walk_at "g1") => `(tactic| first
  | refine ⟨(_ : V), rfl, ?_⟩
  | refine ⟨(_ : Bool), rfl, ?_⟩
  | refine ⟨(_ : Int), (_ : Int), rfl, rfl, ?_⟩
  | refine ⟨(_ : Int), rfl, ?_⟩
  | refine ⟨(_ : Str), rfl, ?_⟩
  | refine ⟨(_ : Addr), (_ : List V), rfl, Or.inl (by walk_at "sl"), ?_⟩
  | refine ⟨(_ : Addr), (_ : List V), rfl, Or.inr (by walk_at "st"), ?_⟩
  | refine ⟨(_ : Addr), (_ : List V), (_ : Int), (_ : V), rfl, rfl, (by walk_at "sl"), (by first | rfl | assumption), ?_⟩
  | refine ⟨(_ : Addr), (_ : List V), (_ : Int), (_ : V), rfl, rfl, (by walk_at "st"), (by first | rfl | assumption), ?_⟩
  | refine ⟨(_ : Addr), (_ : List V), (_ : Int), (_ : Nat), rfl, rfl, upd_same, rfl, ?_⟩
  | refine ⟨(_ : Addr), (_ : List V), (_ : Int), (_ : Nat), rfl, rfl, (by assumption), rfl, ?_⟩
  | refine Or.inl ⟨(_ : Int), rfl, ?_⟩
  | refine And.intro (by walk_at "sc") ?_
  | refine iteT ?_
  | refine iteF ?_)
/-! ### rising rows -/
/-- the greatest length of a rising row that ends at each place -/
def lens (ws : List Str) : Nat → List Int
  | 0 => []
  | i + 1 => lens ws i ++ [maxOr 0 ((List.range i).filterMap fun j => if leS (ws[j]?.getD "") (ws[i]?.getD "") then (lens ws i)[j]? else none) + 1]
theorem lens_len (ws : List Str) : ∀ i, (lens ws i).length = i
  | 0 => rfl
  | i + 1 => by
    unfold lens
    rw [List.length_append, lens_len ws i]
    rfl
def mostRising (ws : List Str) : Int := maxOr 0 (lens ws ws.length)
def spMost (K : PySem.W.Frag) : Sp := fun vs H Q _ => ∃ (a : Addr) (ws : List Str), vs = [.ref a] ∧ (SqT K H a (ws.map V.str) ∨ SqL K H a (ws.map V.str)) ∧ ws.length ≤ 1000 ∧ ∀ H', Same H H' → Q (.int (mostRising ws)) H'
theorem ok_most_in_order (T : Top K mg) : FnOk P w K mg base CX0 1 T.a_most_in_order T.fd_most_in_order ["row"] (spMost K) := by
  refine T.F_most_in_order.ok sc_most_in_order (fun vs H Q E h => ?_) (fun cdv A outer s H vs Q E hr h => ?_)
  · obtain ⟨a, ws, rfl, _⟩ := h
    rfl
  · obtain ⟨a, ws, rfl, hS, hl, k⟩ := h
    have hu := hu_of hr
    refine ⟨_, (pss_cons (ps_set (i := 1) sc_most_in_order.nd rfl (.inr rfl) (pe_lst pa_nil))
      (pss_cons (ps_for PassesOwn.never rfl (pi_enumA (by rfl) T.m_enumerate (pa_cons (pv 0) pa_nil)) (pg_tup rfl (pgs_cons (pg_name (i := 2) sc_most_in_order.nd rfl (.inl rfl)) (pgs_cons (pg_name (i := 3) sc_most_in_order.nd rfl (.inr rfl)) pgs_nil)))
        (pss_cons (ps_setLc (i := 4) (own := [("before", 5)]) (g := gName 5) rfl sc_most_in_order.nd rfl rfl (sw_true rfl rfl rfl (by decide +kernel)) (pi_range1 (by rfl) T.m_range (pa_cons (pv 2) pa_nil)) (blkOk_by (N := N_most_in_order) (sc := defScope s_most_in_order) (by decide +kernel)) (fun _ _ _ _ _ => (pg_name (i := 5) sc_most_in_order.nd rfl (.inl rfl))) (fun _ _ _ _ _ => (pts_one (pt_cmpR op_le_str (pe_ix (ix_seqK (K := K) rfl) (pv 0) (pv 5) (fun _ _ => rfl)) (pv 3) (nomark _)))) (fun _ _ _ _ _ => (pe_ix (ix_listK (K := K) rfl) (pv 1) (pv 5) (fun _ _ => rfl))))
        (pss_one (ps_expr (pe_bm PySem.F.plainAttrs_list PySem.F.slot_list_append PySem.F.type_list_append mt_append (pv 1) (pa_cons (pe_op op_add (pe_callBK (cr_maxD rfl hr.units) (by rfl) T.m_max (by decide +kernel) (pa_cons (pv 4) pa_nil) (pk_cons pe_int pk_nil)) pe_int) pa_nil))))))
      (pss_one (ps_ret (pe_callBK (cr_maxD rfl hr.units) (by rfl) T.m_max (by decide +kernel) (pa_cons (pv 1) pa_nil) (pk_cons pe_int pk_nil)))))), ?_⟩
    refine ⟨Nat.zero_le _, fun l hl' => ?_⟩
    have hlen : (ws.map V.str).length = ws.length := List.length_map ..
    have s0 : Same H (upd H l (.lst [])) := same_new hl'
    have hIx : ∀ (H' : Hp) (j : Nat) (x : Str) (R : VK), Same H H' → ws[j]? = some x → R (.str x) H' → rIx K (.ref a) (.int (0 + (j : Int))) H' R := fun H' j x R s' hj q => by
      have e : atI (ws.map V.str) (0 + (j : Int)) = some (.str x) := by
        rw [Int.zero_add]
        exact atI_nat (by rw [List.getElem?_map, hj]; rfl)
      rcases hS with h | h
      · exact Or.inr (Or.inl ⟨a, _, _, _, rfl, rfl, s'.seqT h, e, q⟩)
      · exact Or.inl ⟨a, _, _, _, rfl, rfl, s'.seq h, e, q⟩
    refine ⟨_, rfl, a, _, rfl, H, s0, hS.symm, fun J G wk hG => for_it wk (fun i σ H1 => ∃ y2 y3 y4, σ = [some (.ref a), some (.ref l), y2, y3, y4, none] ∧ Same H H1 ∧ H1 l = some (.lst ((lens ws i).map V.int))) ⟨none, none, none, rfl, s0, upd_same⟩ (fun i σ H1 _ ⟨_, _, _, _, s1, _⟩ => hG H1 s1) (fun i x σ H1 H2 hi hP hy => ?_) (fun σ H1 hP => ?_)⟩
    · obtain ⟨y2, y3, y4, rfl, s1, el⟩ := hP
      obtain ⟨Tp, x1, x2, rfl, nT, rfl, ex1, ex2⟩ := hy
      rw [hlen] at hi
      obtain rfl : x1 = .int (i : Nat) := (Option.some.inj ex1).symm
      replace ex2 : (ws.map V.str)[i]? = some x2 := ex2
      rw [List.getElem?_map] at ex2
      obtain ⟨z, hz, rfl⟩ := Option.map_eq_some_iff.mp ex2
      refine ⟨Tp, _, rfl, SqT.of upd_same, rfl, _, _, rfl, _, _, rfl, rfl, ?_⟩
      have el2 : (upd H1 Tp (.tup [.int (i : Nat), .str z])) l = some (.lst ((lens ws i).map V.int)) := kp el nT
      have s2 := s1.trans (same_new (o := .tup [.int (i : Nat), .str z]) nT)
      have hll := lens_len ws i
      refine ⟨_, rfl, i, rfl, by omega, by omega, fun D hD => lc_fn (walk_range (n := i)) (by omega) hD (fun j => (if leS (ws[j]?.getD "") z then (lens ws i)[j]? else none).map V.int) (fun _ _ => trivial) (fun j x H3 H4 hj s3 hy R R0 r1 r0 => ?_) (fun H3 s3 hd => ?_)⟩
      · obtain ⟨rfl, rfl⟩ := hy
        have hjw : j < ws.length := by omega
        refine ⟨rfl, ?_⟩
        refine ⟨_, rfl, _, rfl, hIx _ j ws[j] _ (s2.trans s3) (List.getElem?_eq_getElem hjw) ?_⟩
        refine ⟨_, rfl, _, _, rfl, rfl, ?_⟩
        rw [List.getElem?_eq_getElem hjw] at r1 r0
        have hg : (lens ws i)[j]? = some (lens ws i)[j] := List.getElem?_eq_getElem (by omega)
        refine ⟨_, rfl, ite2 (fun hle => ?_) (fun hle => ?_)⟩
        · refine ⟨_, rfl, _, rfl, l, _, _, _, rfl, rfl, SqL.of (s3 _ _ el2), (by rw [Int.zero_add]; exact atI_nat (by rw [List.getElem?_map, hg]; rfl)), ?_⟩
          refine r1 _ _ ?_ (Same.refl _)
          show Option.map V.int (if leS ws[j] z = true then _ else _) = _
          rw [if_pos (show leS ws[j] z = true from hle), hg]
          rfl
        · refine r0 _ ?_ (Same.refl _)
          show Option.map V.int (if leS ws[j] z = true then _ else _) = _
          rw [if_neg (show ¬ leS ws[j] z = true from hle)]
          rfl
      · have hd2 : H3 D = some (.lst (((List.range i).filterMap fun j => if leS (ws[j]?.getD "") (ws[i]?.getD "") then (lens ws i)[j]? else none).map V.int)) := by
          rw [hd, hz]
          congr 2
          rw [List.map_filterMap]
          rfl
        have el3 := s3 _ _ el2
        refine ⟨_, rfl, .inl ⟨rfl, _, SqL.of el3⟩, ?_⟩
        refine ⟨_, rfl, D, _, 0, rfl, rfl, SqL.of hd2, ?_⟩
        refine ⟨_, _, rfl, rfl, ?_⟩
        refine ⟨l, _, _, rfl, rfl, el3, sizeLine_of (by rw [List.length_map, hll]; omega), ?_⟩
        refine ⟨_, _, _, rfl, same_mut (s2.trans s3) hl', ?_⟩
        rw [upd_same]
        show some (HO.lst ((lens ws i).map V.int ++ [V.int _])) = some (HO.lst ((lens ws i ++ [_]).map V.int))
        rw [List.map_append]
        rfl
    · obtain ⟨y2, y3, y4, rfl, s1, el⟩ := hP
      rw [hlen] at el
      refine ⟨_, rfl, l, _, 0, rfl, rfl, SqL.of el, ?_⟩
      exact k H1 s1
end
section
local macro_rules | `(tactic| walk_at "sl") => `(tactic| first | assumption | exact SqL.of upd_same | exact SqL.of (by assumption) | (with_reducible refine sql_upd ?_ ?_; (walk_at "sl"); (first | assumption | exact Ne.symm (by assumption))))
local macro_rules | `(tactic| walk_at "st") => `(tactic| first | assumption | exact SqT.of upd_same | exact SqT.of (by assumption))
local macro_rules | `(tactic| walk_at "sc") => `(tactic| first | rfl | assumption | (show (0 : Int) < _; first | assumption | decide | omega) | exact Or.inl ⟨by omega, by omega⟩ | exact Or.inr ⟨by omega, by omega⟩ | exact ⟨by decide, by decide⟩ | exact ⟨by decide, by decide, by decide⟩)
local macro_rules | `(tactic| walk_at "g1") => `(tactic| first
  | refine ⟨(_ : V), rfl, ?_⟩
  | refine ⟨(_ : Bool), rfl, ?_⟩
  | refine ⟨(_ : Int), (_ : Int), rfl, rfl, ?_⟩
  | refine ⟨(_ : Int), rfl, ?_⟩
  | refine ⟨(_ : Str), rfl, ?_⟩
  | refine ⟨(_ : Addr), (_ : List V), rfl, Or.inl (by walk_at "sl"), ?_⟩
  | refine ⟨(_ : Addr), (_ : List V), rfl, Or.inr (by walk_at "st"), ?_⟩
  | refine ⟨(_ : Addr), (_ : List V), (_ : Int), (_ : V), rfl, rfl, (by walk_at "sl"), (by first | rfl | assumption), ?_⟩
  | refine ⟨(_ : Addr), (_ : List V), (_ : Int), (_ : V), rfl, rfl, (by walk_at "st"), (by first | rfl | assumption), ?_⟩
  | refine ⟨(_ : Addr), (_ : List V), (_ : Int), (_ : Nat), rfl, rfl, upd_same, rfl, ?_⟩
  | refine ⟨(_ : Addr), (_ : List V), (_ : Int), (_ : Nat), rfl, rfl, (by assumption), rfl, ?_⟩
  | refine Or.inl ⟨(_ : Int), rfl, ?_⟩
  | refine And.intro (by walk_at "sc") ?_
  | refine iteT ?_
  | refine iteF ?_)
/-! ### which cards are out of order -/
structure OS where
  left : Int
  last : Str
  out : List Int
def oStep (ws : List Str) (s : OS) (i : Nat) : OS :=
  if mostRising ((ws.drop (i + 1)).filter fun x => leS s.last x) = s.left then { s with out := s.out ++ [(i : Int)] } else { left := s.left - 1, last := ws[i]?.getD "", out := s.out }
def oRun (ws : List Str) (i : Nat) : OS := (List.range i).foldl (oStep ws) ⟨mostRising ws, "", []⟩
theorem oRun_succ (ws : List Str) (i : Nat) : oRun ws (i + 1) = oStep ws (oRun ws i) i := by
  unfold oRun
  rw [List.range_succ, List.foldl_append]
  rfl
theorem oRun_len (ws : List Str) : ∀ i, (oRun ws i).out.length ≤ i
  | 0 => Nat.le_refl _
  | i + 1 => by
    rw [oRun_succ]
    have ih := oRun_len ws i
    unfold oStep
    split
    · show ((oRun ws i).out ++ [(i : Int)]).length ≤ _
      rw [List.length_append]
      exact Nat.succ_le_succ ih
    · exact Nat.le_succ_of_le ih
def outOf (ws : List Str) : List Int := (oRun ws ws.length).out
theorem cutN (xs : List V) (i : Nat) (h : i < xs.length) : cutV xs (some ((i : Int) + 1)) none = xs.drop (i + 1) := by
  unfold cutV
  have e : HT.sIx xs.length 0 (some ((i : Int) + 1)) = min (i + 1) xs.length := HT.sIx_nat xs.length 0 (i + 1)
  rw [e, HT.sIx_none, Nat.min_eq_left (by omega)]
  exact List.take_of_length_le (by rw [List.length_drop]; exact Nat.le_refl _)
def spOut (K : PySem.W.Frag) (D C : Addr) : Sp := fun vs H Q _ => ∃ (p : Addr) (cs : List CD), vs = [.ref p] ∧ DrawerAt K D C H p cs ∧ cs.length ≤ 1000 ∧ ∀ (t : Addr) (H' : Hp), Same H H' → H t = none → H' t = some (.tup ((outOf (heads cs)).map V.int)) → Q (.ref t) H'
theorem ok_out_of_order (T : Top K mg) : FnOk P w K mg base CX0 4 T.a_out_of_order T.fd_out_of_order ["drawer"] (spOut K T.c_Drawer T.c_Card) := by
  refine T.F_out_of_order.ok sc_out_of_order (fun vs H Q E h => ?_) (fun cdv A outer s H vs Q E hr h => ?_)
  · obtain ⟨p, cs, rfl, _⟩ := h
    rfl
  · obtain ⟨p, cs, rfl, hD, hl, k⟩ := h
    have hu := hu_of hr
    refine ⟨_, (pss_cons (ps_set (i := 1) sc_out_of_order.nd rfl (.inl rfl) (pe_call (ok_headings_along T) (hr.mono (by decide)) (by rfl) T.g_headings_along T.F_headings_along.kp (b_headings_along T) .nil pass0 (pa_cons (pv 0) pa_nil)))
      (pss_cons (ps_set (i := 2) sc_out_of_order.nd rfl (.inl rfl) (pe_call (ok_most_in_order T) (hr.mono (by decide)) (by rfl) T.g_most_in_order T.F_most_in_order.kp (b_most_in_order T) .nil pass0 (pa_cons (pv 1) pa_nil)))
      (pss_cons (ps_set (i := 3) sc_out_of_order.nd rfl (.inr rfl) pe_str)
      (pss_cons (ps_set (i := 4) sc_out_of_order.nd rfl (.inl rfl) (pe_lst pa_nil))
      (pss_cons (ps_for PassesOwn.never rfl (pi_enumT (by rfl) T.m_enumerate (pa_cons (pv 1) pa_nil)) (pg_tup rfl (pgs_cons (pg_name (i := 5) sc_out_of_order.nd rfl (.inl rfl)) (pgs_cons (pg_name (i := 6) sc_out_of_order.nd rfl (.inl rfl)) pgs_nil)))
        (pss_cons (ps_setLc (i := 7) (own := [("later", 8)]) (g := gName 8) rfl sc_out_of_order.nd rfl rfl (sw_true rfl rfl rfl (by decide +kernel)) (pi_tup (pe_slice sl_tupA (pv 1) (po_some (pe_op op_add (pv 5) pe_int)) po_none)) (blkOk_by (N := N_out_of_order) (sc := defScope s_out_of_order) (by decide +kernel)) (fun _ _ _ _ _ => (pg_name (i := 8) sc_out_of_order.nd rfl (.inl rfl))) (fun _ _ _ _ _ => (pts_one (pt_cmpR op_ge_str (pv 8) (pv 3) (nomark _)))) (fun _ _ _ _ _ => (pv 8)))
        (pss_one (ps_if (pt_cmpR op_eq (pe_call (ok_most_in_order T) (hr.mono (by decide)) (by rfl) T.g_most_in_order T.F_most_in_order.kp (b_most_in_order T) .nil pass0 (pa_cons (pv 7) pa_nil)) (pv 2) (nomark _)) (pss_one (ps_expr (pe_bm PySem.F.plainAttrs_list PySem.F.slot_list_append PySem.F.type_list_append mt_append (pv 4) (pa_cons (pv 5) pa_nil)))) (pss_cons (ps_aug (i := 2) sc_out_of_order.nd rfl (.inl rfl) pe_int ip_sub)
          (pss_one (ps_set (i := 3) sc_out_of_order.nd rfl (.inr rfl) (pv 6))))))))
      (pss_one (ps_ret (pe_callTy call_tuple_of (by rfl) T.m_tuple (by decide +kernel) (pa_cons (pv 4) pa_nil))))))))), ?_⟩
    refine ⟨_, rfl, p, cs, rfl, hD, hl, fun a H1 s1 na ha => ?_⟩
    have hS1 : SqT K H1 a ((heads cs).map V.str) := SqT.of ha
    generalize hws : heads cs = ws at *
    have hln : ws.length ≤ 1000 := by
      rw [← hws]
      unfold heads
      rw [List.length_map]
      exact hl
    have hlen : (ws.map V.str).length = ws.length := List.length_map ..
    repeat walk_at "g1"
    refine ⟨a, ws, rfl, .inl hS1, hln, fun H2 s2 => ?_⟩
    repeat walk_at "g1"
    refine ⟨Nat.zero_le _, fun l hl' => ?_⟩
    have s02 := s1.trans s2
    have nl : H l = none := s02.free hl'
    have nl1 : H1 l = none := s2.free hl'
    have s3 : Same H1 (upd H2 l (.lst [])) := s2.trans (same_new hl')
    refine ⟨_, rfl, a, _, rfl, s3.seqT hS1, for_it walk_enumT (fun i σ H4 => ∃ y5 y6 y7, σ = [some (.ref p), some (.ref a), some (.int (oRun ws i).left), some (.str (oRun ws i).last), some (.ref l), y5, y6, y7, none] ∧ Same H1 H4 ∧ H4 l = some (.lst ((oRun ws i).out.map V.int)))
      ⟨none, none, none, rfl, s3, upd_same⟩ (fun i σ H4 _ ⟨_, _, _, _, s4, _⟩ => s4.seqT hS1) (fun i x σ H4 H5 hi hP hy => ?_) (fun σ H4 hP => ?_)⟩
    · obtain ⟨y5, y6, y7, rfl, s4, el⟩ := hP
      obtain ⟨Tp, x1, x2, rfl, nT, rfl, ex1, ex2⟩ := hy
      rw [hlen] at hi
      obtain rfl : x1 = .int (i : Nat) := (Option.some.inj ex1).symm
      replace ex2 : (ws.map V.str)[i]? = some x2 := ex2
      rw [List.getElem?_map] at ex2
      obtain ⟨z, hz, rfl⟩ := Option.map_eq_some_iff.mp ex2
      refine ⟨Tp, _, rfl, SqT.of upd_same, rfl, _, _, rfl, _, _, rfl, rfl, ?_⟩
      have el5 : (upd H4 Tp (.tup [.int (i : Nat), .str z])) l = some (.lst ((oRun ws i).out.map V.int)) := kp el nT
      have s5 := s4.trans (same_new (o := .tup [.int (i : Nat), .str z]) nT)
      refine ⟨_, rfl, _, rfl, _, _, rfl, rfl, _, rfl, a, _, rfl, s5.seqT hS1, fun hw => ?_, fun hw c hc => ?_⟩
      · exfalso
        have e : HT.sIx (ws.map V.str).length 0 (some ((i : Int) + 1)) = min (i + 1) (ws.map V.str).length := HT.sIx_nat _ 0 (i + 1)
        have e2 := e.symm.trans hw.1
        rw [hlen] at e2
        omega
      · have hcut : cutV (ws.map V.str) (some ((i : Int) + 1)) none = (ws.drop (i + 1)).map V.str := by
          rw [cutN _ _ (by rw [hlen]; exact hi), List.map_drop]
        generalize hbv : ws.drop (i + 1) = bv at *
        have hbl : bv.length ≤ 1000 := by
          rw [← hbv, List.length_drop]
          omega
        have hC0 : SqT K (upd (upd H4 Tp (.tup [.int (i : Nat), .str z])) c (.tup (cutV (ws.map V.str) (some ((i : Int) + 1)) none))) c (bv.map V.str) := by
          rw [← hcut]
          exact SqT.of upd_same
        have s6 := s5.trans (same_new (o := .tup (cutV (ws.map V.str) (some ((i : Int) + 1)) none)) hc)
        have el6 : (upd (upd H4 Tp (.tup [.int (i : Nat), .str z])) c (.tup (cutV (ws.map V.str) (some ((i : Int) + 1)) none))) l = some (.lst ((oRun ws i).out.map V.int)) := kp el5 hc
        refine ⟨c, rfl, ⟨_, hC0⟩, fun D hD => lc_fn (walk_tup (xs := bv.map V.str)) (by rw [List.length_map]; omega) hD (fun j => match bv[j]? with | some x => if leS (oRun ws i).last x then some (.str x) else none | none => none) (fun H7 s7 => s7.seqT hC0) (fun j x H7 H8 hj s7 hy R R0 r1 r0 => ?_) (fun H7 s7 hd => ?_)⟩
        · obtain ⟨rfl, hx⟩ := hy
          rw [List.getElem?_map] at hx
          obtain ⟨b, hb, rfl⟩ := Option.map_eq_some_iff.mp hx
          rw [hb] at r1 r0
          refine ⟨rfl, ?_⟩
          refine ⟨_, rfl, _, rfl, _, _, rfl, rfl, _, rfl, ite2 (fun hle => ?_) (fun hle => ?_)⟩
          · refine ⟨_, rfl, r1 _ _ ?_ (Same.refl _)⟩
            show (if leS (oRun ws i).last b = true then _ else _) = _
            rw [if_pos (show leS (oRun ws i).last b = true from hle)]
          · refine r0 _ ?_ (Same.refl _)
            show (if leS (oRun ws i).last b = true then _ else _) = _
            rw [if_neg (show ¬ leS (oRun ws i).last b = true from hle)]
        · have hd2 : H7 D = some (.lst ((bv.filter fun x => leS (oRun ws i).last x).map V.str)) := by
            rw [hd, List.length_map, range_fm bv (fun x => if leS (oRun ws i).last x then some (V.str x) else none) _ fun j x h => by rw [h]]
            congr 2
            rw [← List.filterMap_eq_filter, List.map_filterMap]
            congr 1
            funext x
            by_cases h : leS (oRun ws i).last x = true
            · rw [if_pos h, Option.guard]
              simp [h]
            · rw [if_neg h, Option.guard]
              simp [h]
          have s8 := s6.trans s7
          refine ⟨_, rfl, D, _, rfl, .inr (SqL.of hd2), Nat.le_trans (List.length_filter_le _ _) hbl, fun H9 s9 => ?_⟩
          have s10 := s8.trans s9
          have el9 := s9 _ _ (s7 _ _ el6)
          refine ⟨_, rfl, rfl, _, rfl, ?_⟩
          have hrun := oRun_succ ws i
          unfold oStep at hrun
          rw [hbv] at hrun
          refine ite2 (fun he => ?_) (fun he => ?_)
          · have he' : mostRising (bv.filter fun x => leS (oRun ws i).last x) = (oRun ws i).left := V.int.inj (of_decide_eq_true he)
            rw [if_pos he'] at hrun
            refine ⟨_, rfl, .inl ⟨rfl, _, SqL.of el9⟩, _, rfl, l, _, _, rfl, rfl, el9, sizeLine_of (by rw [List.length_map]; have := oRun_len ws i; omega), ?_⟩
            refine ⟨some (.int (i : Nat)), some (.str z), some (.ref D), ?_, same_mut s10 nl1, ?_⟩
            · rw [hrun]
              rfl
            · rw [upd_same, hrun]
              show some (HO.lst ((oRun ws i).out.map V.int ++ [V.int _])) = some (HO.lst (((oRun ws i).out ++ [_]).map V.int))
              rw [List.map_append]
              rfl
          · have he' : ¬ mostRising (bv.filter fun x => leS (oRun ws i).last x) = (oRun ws i).left := fun z => he (decide_eq_true (congrArg V.int z))
            rw [if_neg he'] at hrun
            refine ⟨_, rfl, _, _, rfl, rfl, _, rfl, ?_⟩
            refine ⟨some (.int (i : Nat)), some (.str z), some (.ref D), ?_, s10, ?_⟩
            · rw [hrun, hz]
              rfl
            · rw [hrun]
              exact el9
    · obtain ⟨y5, y6, y7, rfl, s4, el⟩ := hP
      rw [hlen] at el
      refine ⟨_, rfl, l, _, rfl, .inl ⟨SqL.of el, fun u hu' => ?_⟩⟩
      exact k u _ ((s1.trans s4).trans (same_new hu')) ((s1.trans s4).free hu') upd_same
end
section
local macro_rules | `(tactic| walk_at "sl") => `(tactic| first | assumption | exact SqL.of upd_same | exact SqL.of (by assumption) | (with_reducible refine sql_upd ?_ ?_; (walk_at "sl"); (first | assumption | exact Ne.symm (by assumption))))
local macro_rules | `(tactic| walk_at "st") => `(tactic| first | assumption | exact SqT.of upd_same | exact SqT.of (by assumption))
local macro_rules | `(tactic| walk_at "sc") => `(tactic| first | rfl | assumption | (show (0 : Int) < _; first | assumption | decide | omega) | exact Or.inl ⟨by omega, by omega⟩ | exact Or.inr ⟨by omega, by omega⟩ | exact ⟨by decide, by decide⟩ | exact ⟨by decide, by decide, by decide⟩)
local macro_rules | `(tactic| walk_at "g1") => `(tactic| first
  | refine ⟨(_ : V), rfl, ?_⟩
  | refine ⟨(_ : Bool), rfl, ?_⟩
  | refine ⟨(_ : Int), (_ : Int), rfl, rfl, ?_⟩
  | refine ⟨(_ : Int), rfl, ?_⟩
  | refine ⟨(_ : Str), rfl, ?_⟩
  | refine ⟨(_ : Addr), (_ : List V), rfl, Or.inl (by walk_at "sl"), ?_⟩
  | refine ⟨(_ : Addr), (_ : List V), rfl, Or.inr (by walk_at "st"), ?_⟩
  | refine ⟨(_ : Addr), (_ : List V), (_ : Int), (_ : V), rfl, rfl, (by walk_at "sl"), (by first | rfl | assumption), ?_⟩
  | refine ⟨(_ : Addr), (_ : List V), (_ : Int), (_ : V), rfl, rfl, (by walk_at "st"), (by first | rfl | assumption), ?_⟩
  | refine ⟨(_ : Addr), (_ : List V), (_ : Int), (_ : Nat), rfl, rfl, upd_same, rfl, ?_⟩
  | refine ⟨(_ : Addr), (_ : List V), (_ : Int), (_ : Nat), rfl, rfl, (by assumption), rfl, ?_⟩
  | refine ⟨(_ : Addr), (_ : Addr), (_ : Addr), (_ : List (Str × V)), (_ : V), rfl, (by assumption), (by assumption), (by assumption), (by first | assumption | rfl), ?_⟩
  | refine Or.inl ⟨(_ : Int), rfl, ?_⟩
  | refine And.intro (by walk_at "sc") ?_
  | refine iteT ?_
  | refine iteF ?_)
/-! ### places; a drawer without some cards -/
def spCheckPlace : Sp := fun vs H Q _ => ∃ n i : Int, vs = [.int n, .int i] ∧ 0 ≤ i ∧ i < n ∧ Q .non H
theorem ok_check_place (T : Top K mg) : FnOk P w K mg base CX0 2 T.a_check_place T.fd_check_place ["many", "place"] spCheckPlace := by
  refine T.F_check_place.ok sc_check_place (fun vs H Q E h => ?_) (fun cdv A outer s H vs Q E hr h => ?_)
  · obtain ⟨n, i, rfl, _⟩ := h
    rfl
  · obtain ⟨n, i, rfl, h0, h1, k⟩ := h
    have hu := hu_of hr
    refine ⟨_, (pss_one (ps_if (pt_not (pt_val (pe_call (ok_is_number T) (hr.mono (by decide)) (by rfl) T.g_is_number T.F_is_number.kp (b_is_number T) .nil pass0 (pa_cons (pv 1) (pa_cons pe_int (pa_cons (pe_op op_sub (pv 0) pe_int) pa_nil)))))) (pss_one (ps_never)) pss_nil)), ?_⟩
    repeat walk_at "g1"
    refine ⟨_, _, _, rfl, ?_⟩
    have e : isNum i 0 (n - 1) = true := by
      unfold isNum
      rw [decide_eq_true h0, decide_eq_true (by omega)]
      rfl
    rw [e]
    repeat walk_at "g1"
    exact k
/-- the cards but those of some places -/
def lessAt {α : Type} (cs : List α) (ns : List Int) : List α := (List.range cs.length).filterMap fun (i : Nat) => if ((i : Int) ∈ ns) then none else cs[i]?
theorem lessAt_map {α β : Type} (f : α → β) (cs : List α) (ns : List Int) : lessAt (cs.map f) ns = (lessAt cs ns).map f := by
  unfold lessAt
  rw [List.length_map, List.map_filterMap]
  congr 1
  funext i
  rw [List.getElem?_map]
  split <;> rfl
theorem lessAt_sub {α : Type} {cs : List α} {ns : List Int} {x : α} (h : x ∈ lessAt cs ns) : x ∈ cs := by
  unfold lessAt at h
  obtain ⟨i, _, e⟩ := List.mem_filterMap.mp h
  split at e
  · cases e
  · exact List.mem_of_getElem? e
theorem lessAt_len {α : Type} (cs : List α) (ns : List Int) : (lessAt cs ns).length ≤ cs.length := by
  unfold lessAt
  have q := List.length_filterMap_le (fun (i : Nat) => if ((i : Int) ∈ ns) then none else cs[i]?) (List.range cs.length)
  rw [List.length_range] at q
  exact q
theorem Cards.zip {C : Addr} {H : Hp} {ps : List Addr} {cs : List CD} (h : Cards K C H ps cs) : ps = (ps.zip cs).map Prod.fst ∧ cs = (ps.zip cs).map Prod.snd ∧ ∀ z ∈ ps.zip cs, CardAt K C H z.1 z.2 := by
  refine ⟨(List.map_fst_zip (Nat.le_of_eq h.1)).symm, (List.map_snd_zip (Nat.le_of_eq h.1.symm)).symm, fun z hz => ?_⟩
  obtain ⟨i, hi⟩ := List.getElem?_of_mem hz
  obtain ⟨h1, h2⟩ := List.getElem?_zip_eq_some.mp hi
  exact h.2 i _ _ h1 h2
theorem Cards.of_zip {C : Addr} {H : Hp} {zs : List (Addr × CD)} (h : ∀ z ∈ zs, CardAt K C H z.1 z.2) : Cards K C H (zs.map Prod.fst) (zs.map Prod.snd) := by
  refine ⟨by rw [List.length_map, List.length_map], fun i q c h1 h2 => ?_⟩
  rw [List.getElem?_map] at h1 h2
  obtain ⟨z, hz, rfl⟩ := Option.map_eq_some_iff.mp h1
  rw [hz] at h2
  cases h2
  exact h z (List.mem_of_getElem? hz)
theorem Cards.less {C : Addr} {H : Hp} {ps : List Addr} {cs : List CD} (h : Cards K C H ps cs) (ns : List Int) : Cards K C H (lessAt ps ns) (lessAt cs ns) := by
  obtain ⟨e1, e2, h3⟩ := h.zip
  rw [e1]
  generalize hz : ps.zip cs = zs at *
  rw [e2, lessAt_map, lessAt_map]
  exact Cards.of_zip fun z hz' => h3 z (lessAt_sub hz')
theorem inV_int {i : Int} : ∀ ns : List Int, inV (.int i) (ns.map V.int) = decide (i ∈ ns)
  | [] => rfl
  | n :: r => by
    show (eqV (.int n) (.int i) || inV (.int i) (r.map V.int)) = _
    rw [inV_int r]
    show ((n == i) || _) = _
    by_cases e : n = i
    · subst e
      simp
    · have e2 : (n == i) = false := beq_eq_false_iff_ne.mpr e
      rw [e2, Bool.false_or]
      by_cases e3 : i ∈ r
      · rw [decide_eq_true e3, decide_eq_true (List.mem_cons_of_mem _ e3)]
      · rw [decide_eq_false e3, decide_eq_false fun z => (List.mem_cons.mp z).elim (fun z => e z.symm) e3]
theorem flat_ints : ∀ ns : List Int, (ns.map V.int).all flatV = true
  | [] => rfl
  | _ :: r => flat_ints r
def spWithout (K : PySem.W.Frag) (D C : Addr) : Sp := fun vs H Q _ => ∃ (p t : Addr) (cs : List CD) (ns : List Int), vs = [.ref p, .ref t] ∧ DrawerAt K D C H p cs ∧ cs.length ≤ 16 ∧ SqT K H t (ns.map V.int) ∧ ns.length ≤ 1000 ∧ ns.Nodup ∧ (∀ i ∈ ns, 0 ≤ i ∧ i < (cs.length : Int)) ∧
  ∀ (q : Addr) (H' : Hp), Same H H' → DrawerAt K D C H' q (lessAt cs ns) → Q (.ref q) H'
theorem ok_Drawer_without (T : Top K mg) : FnOk P w K mg base CX0 4 T.a_Drawer_without T.fd_Drawer_without ["self", "places"] (spWithout K T.c_Drawer T.c_Card) := by
  refine T.F_Drawer_without.ok sc_Drawer_without (fun vs H Q E h => ?_) (fun cdv A outer s H vs Q E hr h => ?_)
  · obtain ⟨p, t, cs, ns, rfl, _⟩ := h
    rfl
  · obtain ⟨p, t, cs, ns, rfl, ⟨dx, tc, ps, hp, hT, hC⟩, hl, hN, hnl, hnd, hin, k⟩ := h
    have hu := hu_of hr
    refine ⟨_, (pss_cons (ps_for PassesOwn.never rfl (pi_tup (pv 1)) (pg_name (i := 2) sc_Drawer_without.nd rfl (.inl rfl))
        (pss_one (ps_expr (pe_call (ok_check_place T) (hr.mono (by decide)) (by rfl) T.g_check_place T.F_check_place.kp (b_check_place T) .nil pass0 (pa_cons (pe_callB call_len_seq (by rfl) T.m_len (by decide +kernel) (pa_cons (pe_fld (pv 0) rfl) pa_nil)) (pa_cons (pv 2) pa_nil))))))
      (pss_cons (ps_if (pt_cmpR op_lt (pe_callB call_lenSO (by rfl) T.m_len (by decide +kernel) (pa_cons (pe_callTy (call_setTI rfl) (by rfl) T.m_set (by decide +kernel) (pa_cons (pv 1) pa_nil)) pa_nil)) (pe_callB call_len_seq (by rfl) T.m_len (by decide +kernel) (pa_cons (pv 1) pa_nil)) (nomark _)) (pss_one (ps_never)) pss_nil)
      (pss_one (ps_ret (pe_make T.Mk_Drawer (ok_Drawer_init T) (hr.mono (by decide)) (by rfl) T.g_Drawer (b_Drawer_init T) .nil pass0 (pa_cons (pe_callTy call_tuple_of (by rfl) T.m_tuple (by decide +kernel) (pa_cons (pe_lc (own := [("place", 2), ("card", 3)]) (g := gTup K 2 (gCons (gName 2) (gCons (gName 3) gNil))) rfl sc_Drawer_without.nd (pi_enumT (by rfl) T.m_enumerate (pa_cons (pe_fld (pv 0) rfl) pa_nil)) (blkOk_by (N := N_Drawer_without) (sc := defScope s_Drawer_without) (by decide +kernel)) (fun _ _ _ _ _ => (pg_tup rfl (pgs_cons (pg_name (i := 2) sc_Drawer_without.nd rfl (.inl rfl)) (pgs_cons (pg_name (i := 3) sc_Drawer_without.nd rfl (.inl rfl)) pgs_nil)))) (fun _ _ _ _ _ => (pts_one (pt_cmpR (op_notIn_seqK (K := K) rfl) (pv 2) (pv 1) rfl))) (fun _ _ _ _ _ => (pv 3))) pa_nil)) pa_nil)))))), ?_⟩
    have hlen : (ns.map V.int).length = ns.length := List.length_map ..
    refine ⟨_, rfl, t, rfl, ⟨_, hN⟩, for_tup (K := K) (a := t) (xs := ns.map V.int) (fun i σ H1 => H1 = H ∧ ∃ y, σ = [some (.ref p), some (.ref t), y, none]) ⟨rfl, none, rfl⟩ (fun i σ H1 _ h => by rw [h.1]; exact hN) (fun i x σ H1 hx hP => ?_) (fun σ H1 hP => ?_)⟩
    · obtain ⟨rfl, y, rfl⟩ := hP
      rw [List.getElem?_map] at hx
      obtain ⟨n, hn, rfl⟩ := Option.map_eq_some_iff.mp hx
      obtain ⟨h0, h1⟩ := hin n (List.mem_of_getElem? hn)
      have hcl := T.cl_Drawer
      have hna := T.n_Drawer__cards
      have hdf := df_cards (.ref tc)
      repeat walk_at "g1"
      refine ⟨((ps.map V.ref).length : Nat), n, rfl, h0, by rw [List.length_map, hC.1]; exact h1, ?_⟩
      exact ⟨rfl, _, rfl⟩
    · obtain ⟨rfl, y, rfl⟩ := hP
      have hcl := T.cl_Drawer
      have hna := T.n_Drawer__cards
      have hdf := df_cards (.ref tc)
      repeat walk_at "g1"
      refine ⟨t, ns, rfl, hN, hnl, fun sp ks hsp hk1 hk2 => ?_⟩
      have hkl := nodup_len hk1 hnd hk2
      refine ⟨sp, _, _, rfl, upd_same, by rw [hkl]; omega, ?_⟩
      have sS := same_new (o := SetO w sp (fun j => decide (j ∈ ns)) ks.length) hsp
      have hN2 := sS.seqT hN
      repeat walk_at "g1"
      refine ite2 (fun h1 => ?_) (fun h1 => ?_)
      · have q := of_decide_eq_true h1
        rw [hlen, hkl] at q
        omega
      · have hp2 := sS _ _ hp
        refine ⟨_, rfl, p, _, dx, _, _, rfl, hp2, hcl, hna, hdf, tc, _, rfl, sS.seqT hT, fun D hD => lc_fn (walk_enumT (xs := ps.map V.ref)) (by rw [List.length_map, hC.1]; omega) hD (fun i => if ((i : Int) ∈ ns) then none else (ps[i]?).map V.ref) (fun H4 s4 => s4.seqT (sS.seqT hT)) (fun i x H4 H5 hi s4 hy R R0 r1 r0 => ?_) (fun H4 s4 hd => ?_)⟩
        · obtain ⟨Tp, x1, x2, rfl, nT, rfl, e1, e2⟩ := hy
          obtain rfl : x1 = .int (i : Nat) := (Option.some.inj e1).symm
          replace e2 : (ps.map V.ref)[i]? = some x2 := e2
          rw [List.getElem?_map] at e2
          obtain ⟨q, hq, rfl⟩ := Option.map_eq_some_iff.mp e2
          refine ⟨Tp, _, rfl, SqT.of upd_same, rfl, _, _, rfl, _, _, rfl, rfl, rfl, ?_⟩
          have s5 := same_new (o := .tup [.int (i : Nat), .ref q]) nT
          have hN4 := s5.seqT (s4.seqT hN2)
          refine ⟨_, rfl, _, rfl, t, _, rfl, .inr hN4, rfl, flat_ints ns, ?_⟩
          rw [inV_int]
          refine ⟨_, rfl, ?_⟩
          by_cases hm : ((i : Nat) : Int) ∈ ns
          · rw [decide_eq_true hm]
            refine iteF ?_
            exact r0 _ (if_pos hm) s5
          · rw [decide_eq_false hm]
            refine iteT ?_
            refine ⟨_, rfl, r1 _ _ ?_ s5⟩
            rw [if_neg hm, hq]
            rfl
        · have el : (List.range (ps.map V.ref).length).filterMap (fun (i : Nat) => if ((i : Int) ∈ ns) then none else (ps[i]?).map V.ref) = (lessAt ps ns).map V.ref := by
            rw [← lessAt_map]
            unfold lessAt
            congr 1
            funext i
            rw [List.getElem?_map]
          rw [el] at hd
          refine ⟨D, _, rfl, .inl ⟨SqL.of hd, fun u hu' => ?_⟩⟩
          intro x dx2 hx hdx hne
          have s6 : Same H1 (upd H4 u (.tup ((lessAt ps ns).map V.ref))) := (sS.trans s4).trans (same_new hu')
          have s7 : Same (upd H4 u (.tup ((lessAt ps ns).map V.ref))) (upd (upd (upd H4 u (.tup ((lessAt ps ns).map V.ref))) dx2 (.own x)) x (.ins T.c_Drawer dx2 [])) := fun b o e => by
            rw [upd_ne (ne_of_none e hx), upd_ne (ne_of_none e hdx)]
            exact e
          refine ⟨x, dx2, u, _, rfl, upd_same, s7.seqT (SqT.of upd_same), by rw [List.length_map]; have := lessAt_len ps ns; rw [hC.1] at this; omega, fun H7 b7 h7 => ⟨rfl, ?_⟩⟩
          have s8 : Same (upd H4 u (.tup ((lessAt ps ns).map V.ref))) H7 := fun b o e => b7 b o (s7 b o e) (ne_of_none e hx)
          exact k x H7 (s6.trans s8) ⟨dx2, u, lessAt ps ns, h7, s8.seqT (SqT.of upd_same), (hC.less ns).imm (s6.trans s8).imm⟩
end
section
local macro_rules | `(tactic| walk_at "sl") => `(tactic| first | assumption | exact SqL.of upd_same | exact SqL.of (by assumption) | ((with_reducible apply sql_upd); (walk_at "sl"); (first | assumption | exact Ne.symm (by assumption))))
local macro_rules | `(tactic| walk_at "st") => `(tactic| first | assumption | exact SqT.of upd_same | exact SqT.of (by assumption))
local macro_rules | `(tactic| walk_at "sc") => `(tactic| first | rfl | assumption | (show (0 : Int) < _; first | assumption | decide | omega) | exact Or.inl ⟨by omega, by omega⟩ | exact Or.inr ⟨by omega, by omega⟩ | exact ⟨by decide, by decide⟩ | exact ⟨by decide, by decide, by decide⟩)
local macro_rules | `(tactic| walk_at "g1") => `(tactic| first
  | refine ⟨(_ : V), rfl, ?_⟩
  | refine ⟨(_ : Bool), rfl, ?_⟩
  | refine ⟨(_ : Int), (_ : Int), rfl, rfl, ?_⟩
  | refine ⟨(_ : Int), rfl, ?_⟩
  | refine ⟨(_ : Str), rfl, ?_⟩
  | refine ⟨(_ : Addr), (_ : List V), rfl, Or.inl (by walk_at "sl"), ?_⟩
  | refine ⟨(_ : Addr), (_ : List V), rfl, Or.inr (by walk_at "st"), ?_⟩
  | refine ⟨(_ : Addr), (_ : List V), (_ : Int), (_ : V), rfl, rfl, (by walk_at "sl"), (by first | rfl | assumption), ?_⟩
  | refine ⟨(_ : Addr), (_ : List V), (_ : Int), (_ : V), rfl, rfl, (by walk_at "st"), (by first | rfl | assumption), ?_⟩
  | refine ⟨(_ : Addr), (_ : List V), (_ : Int), (_ : Nat), rfl, rfl, upd_same, rfl, ?_⟩
  | refine ⟨(_ : Addr), (_ : List V), (_ : Int), (_ : Nat), rfl, rfl, (by assumption), rfl, ?_⟩
  | refine ⟨(_ : Addr), (_ : Addr), (_ : Addr), (_ : List (Str × V)), (_ : V), rfl, (by assumption), (by assumption), (by assumption), (by first | assumption | rfl), ?_⟩
  | refine Or.inl ⟨(_ : Int), rfl, ?_⟩
  | refine And.intro (by walk_at "sc") ?_
  | refine iteT ?_
  | refine iteF ?_)
/-- the script: never the row -/
def Scr (K : PySem.W.Frag) (H : Hp) (r sc : Addr) (xs : List V) : Prop := (SqL K H sc xs ∧ sc ≠ r) ∨ ∀ H' : Hp, SqL K H' sc xs
theorem Scr.upd {H : Hp} {r sc : Addr} {xs : List V} {o : HO} (h : Scr K H r sc xs) : Scr K (L2.upd H r o) r sc xs := h.imp (fun z => ⟨sql_upd z.1 z.2, z.2⟩) id
theorem Scr.sql {H : Hp} {r sc : Addr} {xs : List V} (h : Scr K H r sc xs) : SqL K H sc xs := h.elim (fun z => z.1) fun z => z H
theorem Scr.new {H : Hp} {r sc : Addr} {xs : List V} {o : HO} (h : SqL K H sc xs) (hr : H r = none) : Scr K (L2.upd H r o) r sc xs := by
  rcases h with (h | ⟨u, h⟩) | h
  · exact .inl ⟨sql_upd (.inl (.inl h)) (ne_of_none h hr), ne_of_none h hr⟩
  · exact .inl ⟨sql_upd (.inl (.inr ⟨u, h⟩)) (ne_of_none h hr), ne_of_none h hr⟩
  · exact .inr fun H' => .inr h
local macro_rules | `(tactic| walk_at "sl") => `(tactic| first | exact Scr.sql (by assumption) | exact Scr.sql (Scr.upd (by assumption)) | exact Scr.sql (Scr.upd (Scr.upd (by assumption))) | exact Scr.sql (Scr.upd (Scr.upd (Scr.upd (by assumption)))))
/-- the law's row: the script, how many were taken, the seed, what is left of a great cell -/
def RowAt (K : PySem.W.Frag) (H : Hp) (r sc : Addr) (ns : List Int) : Prop := ∃ (n1 : Nat) (n2 n3 : Int), H r = some (.lst [.ref sc, .int n1, .int n2, .int n3]) ∧ Scr K H r sc (ns.map V.int) ∧ 0 ≤ n2 ∧ n2 < 2147483647
theorem RowAt.same {H H' : Hp} {r sc : Addr} {ns : List Int} (h : RowAt K H r sc ns) (s : Same H H') : RowAt K H' r sc ns := by
  obtain ⟨n1, n2, n3, h1, h2, h3⟩ := h
  exact ⟨n1, n2, n3, s _ _ h1, h2.imp (fun z => ⟨s.seq z.1, z.2⟩) id, h3⟩
theorem RowAt.at {H : Hp} {r sc : Addr} {ns : List Int} (h : RowAt K H r sc ns) : ∃ o, H r = some o ∧ immO o = false := by
  obtain ⟨n1, n2, n3, h1, _⟩ := h
  exact ⟨_, h1, rfl⟩
theorem RowAt.new {H : Hp} {r sc D : Addr} {ns : List Int} (h : RowAt K H r sc ns) (hD : H D = none) : D ≠ r ∧ (sc ≠ D ∨ ∀ H' : Hp, SqL K H' sc (ns.map V.int)) := by
  obtain ⟨n1, n2, n3, h1, h2, _⟩ := h
  refine ⟨fun e => (by rw [e, h1] at hD; cases hD), ?_⟩
  rcases h2 with ⟨(h | ⟨u, h⟩) | h, _⟩ | h
  · exact .inl (ne_of_none h hD)
  · exact .inl (ne_of_none h hD)
  · exact .inr fun H' => .inr h
  · exact .inr h
theorem RowAt.mut {H : Hp} {r sc D : Addr} {ns : List Int} {o : HO} (h : RowAt K H r sc ns) (hD : D ≠ r ∧ (sc ≠ D ∨ ∀ H' : Hp, SqL K H' sc (ns.map V.int))) : RowAt K (upd H D o) r sc ns := by
  obtain ⟨n1, n2, n3, h1, h2, h3⟩ := h
  refine ⟨n1, n2, n3, kn h1 hD.1.symm, ?_, h3⟩
  rcases hD.2 with h | h
  · exact h2.imp (fun z => ⟨sql_upd z.1 h, z.2⟩) id
  · exact .inr h
def spTaken (K : PySem.W.Frag) : Sp := fun vs H Q _ => ∃ (r sc : Addr) (ns : List Int) (m : Int), vs = [.ref r, .int m] ∧ 0 < m ∧ m < 1000 ∧ RowAt K H r sc ns ∧ ∀ (i : Nat) (H' : Hp), (i : Int) < m → But r H H' → RowAt K H' r sc ns → Q (.int i) H'
theorem ok_llaw_taken (T : Top K mg) : FnOk P w K mg base CX0 1 T.a_llaw_taken T.fd_llaw_taken ["_law_row", "_law_many"] (spTaken K) := by
  refine T.F_llaw_taken.ok sc_llaw_taken (fun vs H Q E h => ?_) (fun cdv A outer s H vs Q E hr h => ?_)
  · obtain ⟨r, sc, ns, m, rfl, _⟩ := h
    rfl
  · obtain ⟨r, sc, ns, m, rfl, hm0, hm1, ⟨n1, n2, n3, hR, hX, h2, h3⟩, k⟩ := h
    have hu := hu_of hr
    have hdv : ∀ i : Int, CDivW i m := fun i => wide_div (b := 10) hm0 (by omega) (by decide) (by decide)
    have hin : ∀ x : Int, ∃ i : Nat, (i : Int) < m ∧ V.int (x % m) = V.int i := fun x => ⟨(x % m).toNat, by
      have h1 := Int.emod_nonneg x (Int.ne_of_gt hm0)
      have h2 := Int.emod_lt_of_pos x hm0
      omega, by
      have h1 := Int.emod_nonneg x (Int.ne_of_gt hm0)
      rw [Int.toNat_of_nonneg h1]⟩
    have hmd : ∀ x : Int, 0 ≤ x % 2147483647 ∧ x % 2147483647 < 2147483647 := fun x => ⟨Int.emod_nonneg x (by decide), Int.emod_lt_of_pos x (by decide)⟩
    refine ⟨_, (pss_cons (ps_if (pt_cmpR op_gt (pe_ix ix_list (pv 0) pe_int (fun _ _ => rfl)) pe_int (nomark _)) (pss_cons (ps_set (i := 2) sc_llaw_taken.nd rfl (.inl rfl) (pe_op op_mod (pe_callTy call_int1 (by rfl) T.m_int (by decide +kernel) (pa_cons (pe_ix ix_list (pv 0) pe_int (fun _ _ => rfl)) pa_nil)) (pv 1)))
        (pss_cons (ps_asg (pe_op op_fdivW (pe_ix ix_list (pv 0) pe_int (fun _ _ => rfl)) (pv 1)) (pg_sub (pv 0) pe_int set_list))
        (pss_one (ps_ret (pv 2))))) pss_nil)
      (pss_cons (ps_asg (pe_op op_add (pe_ix ix_list (pv 0) pe_int (fun _ _ => rfl)) pe_int) (pg_sub (pv 0) pe_int set_list))
      (pss_cons (ps_if (pt_cmpR op_gt (pe_ix ix_list (pv 0) pe_int (fun _ _ => rfl)) (pe_callB call_len_seq (by rfl) T.m_len (by decide +kernel) (pa_cons (pe_ix ix_list (pv 0) pe_int (fun _ _ => rfl)) pa_nil)) (nomark _)) (pss_cons (ps_asg (pe_op op_mod (pe_callTy call_int1 (by rfl) T.m_int (by decide +kernel) (pa_cons (pe_op op_add (pe_op op_mul (pe_ix ix_list (pv 0) pe_int (fun _ _ => rfl)) pe_int) pe_int) pa_nil)) pe_int) (pg_sub (pv 0) pe_int set_list))
        (pss_one (ps_ret (pe_op op_mod (pe_callTy call_int1 (by rfl) T.m_int (by decide +kernel) (pa_cons (pe_op op_fdiv (pe_ix ix_list (pv 0) pe_int (fun _ _ => rfl)) pe_int) pa_nil)) (pv 1))))) pss_nil)
      (pss_cons (ps_set (i := 3) sc_llaw_taken.nd rfl (.inl rfl) (pe_ix ix_list (pe_ix ix_list (pv 0) pe_int (fun _ _ => rfl)) (pe_op op_sub (pe_ix ix_list (pv 0) pe_int (fun _ _ => rfl)) pe_int) (fun _ _ => rfl)))
      (pss_cons (ps_asg (pe_op op_mod (pe_callTy call_int1 (by rfl) T.m_int (by decide +kernel) (pa_cons (pe_op op_add (pe_op op_add (pe_op op_mul (pe_ix ix_list (pv 0) pe_int (fun _ _ => rfl)) pe_int) (pv 3)) pe_int) pa_nil)) pe_int) (pg_sub (pv 0) pe_int set_list))
      (pss_cons (ps_asg (pe_ifExp (pt_cmpR op_ge (pv 3) (pe_op op_pow pe_int pe_int) (nomark _)) (pe_op op_fdivW (pv 3) (pv 1)) pe_int) (pg_sub (pv 0) pe_int set_list))
      (pss_one (ps_ret (pe_op op_mod (pe_callTy call_int1 (by rfl) T.m_int (by decide +kernel) (pa_cons (pv 3) pa_nil)) (pv 1)))))))))), ?_⟩
    have hd3 := hdv n3
    repeat walk_at "g1"
    refine ite2 (fun _ => ?_) (fun _ => ?_)
    · repeat walk_at "g1"
      obtain ⟨i, hi, e⟩ := hin n3
      show Q (V.int (n3 % m)) _
      rw [e]
      exact k i _ hi But.refl.upd ⟨n1, n2, _, upd_same, hX.upd, h2, h3⟩
    · repeat walk_at "g1"
      have hx := hmd (n2 * 48271 + 11)
      refine ite2 (fun _ => ?_) (fun hlt => ?_)
      · repeat walk_at "g1"
        obtain ⟨i, hi, e⟩ := hin ((n2 * 48271 + 11) % 2147483647 / 7)
        show Q (V.int ((n2 * 48271 + 11) % 2147483647 / 7 % m)) _
        rw [e]
        exact k i _ hi But.refl.upd.upd ⟨n1 + 1, _, n3, upd_same, hX.upd.upd, hx.1, hx.2⟩
      · have hlt' : ¬ ((((ns.map V.int).length : Nat) : Int) < (n1 : Int) + 1) := fun z => hlt (decide_eq_true z)
        rw [List.length_map] at hlt'
        have hn1 : n1 < ns.length := by omega
        have hat : atI (ns.map V.int) ((n1 : Int) + 1 - 1) = some (.int ns[n1]) := by
          rw [Int.add_sub_cancel]
          exact atI_nat (by rw [List.getElem?_map, List.getElem?_eq_getElem hn1]; rfl)
        have hx := hmd (n2 * 48271 + ns[n1] + 11)
        have hdc := hdv ns[n1]
        obtain ⟨i, hi, e⟩ := hin ns[n1]
        repeat walk_at "g1"
        refine ite2 (fun _ => ?_) (fun _ => ?_)
        all_goals
          repeat walk_at "g1"
          show Q (V.int (ns[n1] % m)) _
          rw [e]
          exact k i _ hi But.refl.upd.upd.upd ⟨n1 + 1, _, _, upd_same, hX.upd.upd.upd, hx.1, hx.2⟩

def spPick (K : PySem.W.Frag) : Sp := fun vs H Q _ => ∃ (r sc l : Addr) (ns : List Int) (xs : List V), vs = [.ref r, .ref l] ∧ RowAt K H r sc ns ∧ SqL K H l xs ∧ l ≠ r ∧ 0 < xs.length ∧ xs.length < 1000 ∧ ∀ (i : Nat) (x : V) (H' : Hp), xs[i]? = some x → But r H H' → RowAt K H' r sc ns → Q x H'
theorem ok_llaw_pick (T : Top K mg) : FnOk P w K mg base CX0 2 T.a_llaw_pick T.fd_llaw_pick ["_law_row", "_law_some"] (spPick K) := by
  refine T.F_llaw_pick.ok sc_llaw_pick (fun vs H Q E h => ?_) (fun cdv A outer s H vs Q E hr h => ?_)
  · obtain ⟨r, sc, l, ns, xs, rfl, _⟩ := h
    rfl
  · obtain ⟨r, sc, l, ns, xs, rfl, hR, hL, hne, h0, h1, k⟩ := h
    have hu := hu_of hr
    refine ⟨_, (pss_one (ps_ret (pe_ix ix_list (pv 1) (pe_call (ok_llaw_taken T) (hr.mono (by decide)) (by rfl) T.g_llaw_taken T.F_llaw_taken.kp (b_llaw_taken T) .nil pass0 (pa_cons (pv 0) (pa_cons (pe_callB call_len_seq (by rfl) T.m_len (by decide +kernel) (pa_cons (pv 1) pa_nil)) pa_nil))) (fun _ _ => rfl)))), ?_⟩
    repeat walk_at "g1"
    refine ⟨r, sc, ns, xs.length, rfl, by omega, by omega, hR, fun i H' hi hb hR' => ?_⟩
    have hi' : i < xs.length := by omega
    refine ⟨l, xs, i, xs[i], rfl, rfl, hb.seq hne hL, atI_nat (List.getElem?_eq_getElem hi'), ?_⟩
    exact k i _ H' (List.getElem?_eq_getElem hi') hb hR'
/-! ### the law's cards, its drawer -/
theorem kb_Card (T : Top K mg) : KBn K T.fd_Card_init ["self", "heading", "books", "see", "also"] 2 ["books", "see", "also"] (fun us ws => us ++ ws) (fun vs zs => vs ++ zs) := by
  obtain ⟨its, h⟩ := T.F_Card_init.kbindsD (ps := ["self", "heading", "books", "see", "also"]) 2 ["books", "see", "also"] (fun us _ ws => us ++ ws) (by simp) (fun r1 r2 r3 => r1.append r3)
    (fun T kV doc pm an cdv ct us its ws l1 l2 l3 => match us, its, ws, l1, l2, l3 with | [_, _], [_, _, _], [_, _, _], _, _, _ => ⟨_, rfl, rfl⟩)
  exact h
/-- the tuple of a card's parts -/
def ItemAt (K : PySem.W.Frag) (H : Hp) (v : V) (c : CD) : Prop := ∃ (t b a : Addr), v = .ref t ∧ SqT K H t [.str c.heading, .ref b, .str c.see, .ref a] ∧ SqT K H b (c.books.map V.int) ∧ SqT K H a (c.also.map V.str)
theorem ItemAt.imm {H H' : Hp} {v : V} {c : CD} (h : ItemAt K H v c) (s : Imm H H') : ItemAt K H' v c := by
  obtain ⟨t, b, a, e, h1, h2, h3⟩ := h
  exact ⟨t, b, a, e, s.seqT h1, s.seqT h2, s.seqT h3⟩
def Items (K : PySem.W.Frag) (H : Hp) (xs : List V) (cs : List CD) : Prop := xs.length = cs.length ∧ ∀ (i : Nat) (v : V) (c : CD), xs[i]? = some v → cs[i]? = some c → ItemAt K H v c
theorem Items.imm {H H' : Hp} {xs : List V} {cs : List CD} (h : Items K H xs cs) (s : Imm H H') : Items K H' xs cs := ⟨h.1, fun i v c h1 h2 => (h.2 i v c h1 h2).imm s⟩
theorem cards_of {C : Addr} {H : Hp} : ∀ (zs : List (Option V)) (cs : List CD), zs.length = cs.length → (∀ (i : Nat) (z : Option V), zs[i]? = some z → ∃ c q, cs[i]? = some c ∧ z = some (V.ref q) ∧ CardAt K C H q c) → ∃ ps : List Addr, zs.filterMap id = ps.map V.ref ∧ Cards K C H ps cs
  | [], [], _, _ => ⟨[], rfl, rfl, fun i q c h _ => by simp at h⟩
  | [], _ :: _, h, _ => by simp at h
  | _ :: _, [], h, _ => by simp at h
  | z :: zs, c :: cs, h, f => by
    obtain ⟨c0, q, h1, rfl, h2⟩ := f 0 z rfl
    obtain rfl : c = c0 := Option.some.inj h1
    obtain ⟨ps, e, l, g⟩ := cards_of zs cs (by simpa using h) fun i z hz => f (i + 1) z hz
    refine ⟨q :: ps, by rw [List.filterMap_cons]; show V.ref q :: zs.filterMap id = _; rw [e]; rfl, by rw [List.length_cons, List.length_cons, l], fun i q' c' h3 h4 => ?_⟩
    cases i with
    | zero =>
      cases h3
      cases h4
      exact h2
    | succ i => exact g i q' c' h3 h4
def spLawDrawer (K : PySem.W.Frag) (D C : Addr) : Sp := fun vs H Q _ => ∃ (l : Addr) (xs : List V) (cs : List CD), vs = [.ref l] ∧ SqL K H l xs ∧ Items K H xs cs ∧ (∀ c ∈ cs, c.Good ∧ c.also.length ≤ 1) ∧ cs.length ≤ 16 ∧ ∀ (q : Addr) (H' : Hp), Same H H' → DrawerAt K D C H' q cs → Q (.ref q) H'
theorem ok_llaw_drawer (T : Top K mg) : FnOk P w K mg base CX0 6 T.a_llaw_drawer T.fd_llaw_drawer ["_law_some"] (spLawDrawer K T.c_Drawer T.c_Card) := by
  refine T.F_llaw_drawer.ok sc_llaw_drawer (fun vs H Q E h => ?_) (fun cdv A outer s H vs Q E hr h => ?_)
  · obtain ⟨l, xs, cs, rfl, _⟩ := h
    rfl
  · obtain ⟨l, xs, cs, rfl, hL, hI, hg, hn, k⟩ := h
    have hu := hu_of hr
    refine ⟨_, (pss_one (ps_ret (pe_make T.Mk_Drawer (ok_Drawer_init T) (hr.mono (by decide)) (by rfl) T.g_Drawer (b_Drawer_init T) .nil pass0 (pa_cons (pe_callTy call_tuple_of (by rfl) T.m_tuple (by decide +kernel) (pa_cons (pe_lc (own := [("_law_one", 1)]) (g := gName 1) (tt := tYes) rfl sc_llaw_drawer.nd (pi_list (pv 0)) (blkOk_by (N := N_llaw_drawer) (sc := defScope s_llaw_drawer) (by decide +kernel)) (fun _ _ _ _ _ => (pg_name (i := 1) sc_llaw_drawer.nd rfl (.inl rfl))) (fun _ _ _ _ _ => pts_nil) (fun _ _ _ _ _ => (pe_makeN T.Mk_Card (ok_Card_init T) (hr.mono (by decide)) (by rfl) T.g_Card (kb_Card T) pass0 (pa_cons (pe_ix (ix_tupK (K := K) rfl) (pv 1) pe_int (fun _ _ => rfl)) pa_nil) (pk_cons (pe_ix (ix_tupK (K := K) rfl) (pv 1) pe_int (fun _ _ => rfl)) (pk_cons (pe_ix (ix_tupK (K := K) rfl) (pv 1) pe_int (fun _ _ => rfl)) (pk_cons (pe_ix (ix_tupK (K := K) rfl) (pv 1) pe_int (fun _ _ => rfl)) pk_nil)))))) pa_nil)) pa_nil)))), ?_⟩
    refine ⟨_, rfl, l, rfl, ⟨_, hL⟩, fun D hD => lc_rel (walk_list (xs := xs)) (by rw [hI.1]; omega) hD (fun i z H1 => ∃ c q, cs[i]? = some c ∧ z = some (V.ref q) ∧ CardAt K T.c_Card H1 q c) (fun i z H1 H2 s ⟨c, q, h1, h2, h3⟩ => ⟨c, q, h1, h2, h3.imm s⟩) (fun H1 s1 => s1.seq hL) (fun i x H1 H2 hi s1 hy R R0 r1 r0 => ?_) (fun H1 zs s1 hzl hz hd => ?_)⟩
    · obtain ⟨rfl, hx⟩ := hy
      have hic : i < cs.length := by rw [← hI.1]; exact hi
      have hcg := hg cs[i] (List.getElem_mem hic)
      obtain ⟨t, b, a, rfl, hT, hB, hA⟩ := (hI.2 i x cs[i] hx (List.getElem?_eq_getElem hic)).imm s1.imm
      refine ⟨rfl, tYes_of ?_⟩
      refine ⟨_, rfl, t, _, _, _, rfl, rfl, hT, rfl, ?_⟩
      refine ⟨_, rfl, t, _, _, _, rfl, rfl, hT, rfl, ?_⟩
      refine ⟨_, rfl, t, _, _, _, rfl, rfl, hT, rfl, ?_⟩
      refine ⟨_, rfl, t, _, _, _, rfl, rfl, hT, rfl, rfl, rfl, fun q dx hq hdx hne => ?_⟩
      have s2 : ∀ {H' : Hp}, Same H' (upd (upd H' dx (.own q)) q (.ins T.c_Card dx [])) ∨ True := .inr True.intro
      have sN : Same H2 (upd (upd H2 dx (.own q)) q (.ins T.c_Card dx [])) := fun b o e => by
        rw [upd_ne (ne_of_none e hq), upd_ne (ne_of_none e hdx)]
        exact e
      refine ⟨q, dx, cs[i], b, a, rfl, upd_same, hcg.1, sN.seqT hB, sN.seqT hA, hcg.2, fun H3 b3 c3 => ⟨rfl, ?_⟩⟩
      exact r1 _ H3 ⟨cs[i], q, List.getElem?_eq_getElem hic, rfl, c3⟩ fun b o e => b3 b o (sN b o e) (ne_of_none e hq)
    · obtain ⟨ps, e, hC⟩ := cards_of zs cs (by rw [hzl, hI.1]) hz
      rw [e] at hd
      refine ⟨D, _, rfl, .inl ⟨SqL.of hd, fun u hu' => ?_⟩⟩
      intro x dx hx hdx hne
      have s6 : Same H (upd H1 u (.tup (ps.map V.ref))) := s1.trans (same_new hu')
      have s7 : Same (upd H1 u (.tup (ps.map V.ref))) (upd (upd (upd H1 u (.tup (ps.map V.ref))) dx (.own x)) x (.ins T.c_Drawer dx [])) := fun b o e => by
        rw [upd_ne (ne_of_none e hx), upd_ne (ne_of_none e hdx)]
        exact e
      refine ⟨x, dx, u, _, rfl, upd_same, s7.seqT (SqT.of upd_same), by rw [List.length_map, hC.1]; exact hn, fun H7 b7 h7 => ⟨rfl, ?_⟩⟩
      have s8 : Same (upd H1 u (.tup (ps.map V.ref))) H7 := fun b o e => b7 b o (s7 b o e) (ne_of_none e hx)
      exact k x H7 (s6.trans s8) ⟨dx, u, ps, h7, s8.seqT (SqT.of upd_same), hC.imm ((same_new hu').trans s8).imm⟩
end
section
local macro_rules | `(tactic| walk_at "sl") => `(tactic| first | assumption | exact SqL.of upd_same | exact SqL.of (by assumption) | ((with_reducible apply sql_upd); (walk_at "sl"); (first | assumption | exact Ne.symm (by assumption))))
local macro_rules | `(tactic| walk_at "st") => `(tactic| first | assumption | exact SqT.of upd_same | exact SqT.of (by assumption))
local macro_rules | `(tactic| walk_at "sc") => `(tactic| first | rfl | assumption | (show (0 : Int) < _; first | assumption | decide | omega) | exact Or.inl ⟨by omega, by omega⟩ | exact Or.inr ⟨by omega, by omega⟩ | exact ⟨by decide, by decide⟩ | exact ⟨by decide, by decide, by decide⟩)
local macro_rules | `(tactic| walk_at "g1") => `(tactic| first
  | refine ⟨(_ : V), rfl, ?_⟩
  | refine ⟨(_ : Bool), rfl, ?_⟩
  | refine ⟨(_ : Int), (_ : Int), rfl, rfl, ?_⟩
  | refine ⟨(_ : Int), rfl, ?_⟩
  | refine ⟨(_ : Str), rfl, ?_⟩
  | refine ⟨(_ : Addr), (_ : List V), rfl, Or.inl (by walk_at "sl"), ?_⟩
  | refine ⟨(_ : Addr), (_ : List V), rfl, Or.inr (by walk_at "st"), ?_⟩
  | refine ⟨(_ : Addr), (_ : List V), (_ : Int), (_ : V), rfl, rfl, (by walk_at "sl"), (by first | rfl | assumption), ?_⟩
  | refine ⟨(_ : Addr), (_ : List V), (_ : Int), (_ : V), rfl, rfl, (by walk_at "st"), (by first | rfl | assumption), ?_⟩
  | refine ⟨(_ : Addr), (_ : List V), (_ : Int), (_ : Nat), rfl, rfl, upd_same, rfl, ?_⟩
  | refine ⟨(_ : Addr), (_ : List V), (_ : Int), (_ : Nat), rfl, rfl, (by assumption), rfl, ?_⟩
  | refine ⟨(_ : Addr), (_ : Addr), (_ : Addr), (_ : List (Str × V)), (_ : V), rfl, (by assumption), (by assumption), (by assumption), (by first | assumption | rfl), ?_⟩
  | refine Or.inl ⟨(_ : Int), rfl, ?_⟩
  | refine And.intro (by walk_at "sc") ?_
  | refine iteT ?_
  | refine iteF ?_)
def spLess (K : PySem.W.Frag) : Sp := fun vs H Q _ => ∃ (l t : Addr) (xs : List V) (ns : List Int), vs = [.ref l, .ref t] ∧ SqL K H l xs ∧ SqT K H t (ns.map V.int) ∧ xs.length ≤ 1000 ∧ ∀ (D : Addr) (H' : Hp), Same H H' → H D = none → H' D = some (.lst (lessAt xs ns)) → Q (.ref D) H'
theorem ok_llaw_less (T : Top K mg) : FnOk P w K mg base CX0 1 T.a_llaw_less T.fd_llaw_less ["_law_some", "_law_places"] (spLess K) := by
  refine T.F_llaw_less.ok sc_llaw_less (fun vs H Q E h => ?_) (fun cdv A outer s H vs Q E hr h => ?_)
  · obtain ⟨l, t, xs, ns, rfl, _⟩ := h
    rfl
  · obtain ⟨l, t, xs, ns, rfl, hL, hT, hn, k⟩ := h
    have hu := hu_of hr
    refine ⟨_, (pss_one (ps_ret (pe_lc (own := [("_law_k", 2)]) (g := gName 2) rfl sc_llaw_less.nd (pi_range1 (by rfl) T.m_range (pa_cons (pe_callB call_len_seq (by rfl) T.m_len (by decide +kernel) (pa_cons (pv 0) pa_nil)) pa_nil)) (blkOk_by (N := N_llaw_less) (sc := defScope s_llaw_less) (by decide +kernel)) (fun _ _ _ _ _ => (pg_name (i := 2) sc_llaw_less.nd rfl (.inl rfl))) (fun _ _ _ _ _ => (pts_one (pt_cmpR (op_notIn_seqK (K := K) rfl) (pv 2) (pv 1) rfl))) (fun _ _ _ _ _ => (pe_ix (ix_listK (K := K) rfl) (pv 0) (pv 2) (fun _ _ => rfl)))))), ?_⟩
    refine ⟨_, rfl, l, xs, rfl, .inl hL, xs.length, rfl, by omega, by omega, fun D hD => lc_fn (walk_range (n := xs.length)) (by omega) hD (fun (i : Nat) => if ((i : Int) ∈ ns) then none else xs[i]?) (fun _ _ => trivial) (fun i x H3 H4 hi s3 hy R R0 r1 r0 => ?_) (fun H3 s3 hd => ?_)⟩
    · obtain ⟨rfl, rfl⟩ := hy
      refine ⟨rfl, ?_⟩
      refine ⟨_, rfl, _, rfl, t, _, rfl, .inr (s3.seqT hT), rfl, flat_ints ns, ?_⟩
      rw [inV_int, Int.zero_add]
      refine ⟨_, rfl, ?_⟩
      by_cases hm : ((i : Nat) : Int) ∈ ns
      · rw [decide_eq_true hm]
        refine iteF ?_
        exact r0 _ (if_pos hm) (Same.refl _)
      · rw [decide_eq_false hm]
        refine iteT ?_
        have hat : atI xs (0 + (i : Int)) = some xs[i] := by
          rw [Int.zero_add]
          exact atI_nat (List.getElem?_eq_getElem hi)
        refine ⟨_, rfl, _, rfl, l, _, _, _, rfl, rfl, s3.seq hL, hat, r1 _ _ ?_ (Same.refl _)⟩
        rw [if_neg hm, List.getElem?_eq_getElem hi]
    · exact k D H3 s3 hD hd
/-! ### all ascending tuples, shorter ones first -/
def ext (many : Nat) (one : List Int) : List (List Int) := (List.range many).filterMap fun (k : Nat) => if one = [] ∨ one.getLastD 0 < (k : Int) then some (one ++ [(k : Int)]) else none
def level (many : Nat) : Nat → List (List Int)
  | 0 => [[]]
  | j + 1 => (level many j).flatMap (ext many)
def setsUp (many : Nat) : Nat → List (List Int)
  | 0 => [[]]
  | j + 1 => setsUp many j ++ level many (j + 1)
/-- tuples of ints, each at its place -/
def Tups (K : PySem.W.Frag) (H : Hp) (vs : List V) (nss : List (List Int)) : Prop := vs.length = nss.length ∧ ∀ (i : Nat) (v : V) (ns : List Int), vs[i]? = some v → nss[i]? = some ns → ∃ t : Addr, v = .ref t ∧ SqT K H t (ns.map V.int)
theorem Tups.imm {H H' : Hp} {vs : List V} {nss : List (List Int)} (h : Tups K H vs nss) (s : Imm H H') : Tups K H' vs nss := ⟨h.1, fun i v ns h1 h2 => by
  obtain ⟨t, e, h3⟩ := h.2 i v ns h1 h2
  exact ⟨t, e, s.seqT h3⟩⟩
theorem Tups.nil {H : Hp} : Tups K H [] [] := ⟨rfl, fun i v ns h _ => by simp at h⟩
theorem Tups.cons {H : Hp} {t : Addr} {ns : List Int} {vs : List V} {nss : List (List Int)} (h0 : SqT K H t (ns.map V.int)) (h : Tups K H vs nss) : Tups K H (.ref t :: vs) (ns :: nss) := by
  refine ⟨by rw [List.length_cons, List.length_cons, h.1], fun i v ms h1 h2 => ?_⟩
  cases i with
  | zero =>
    cases h1
    cases h2
    exact ⟨t, rfl, h0⟩
  | succ i => exact h.2 i v ms h1 h2
theorem Tups.app {H : Hp} : ∀ {vs ws : List V} {nss mss : List (List Int)}, Tups K H vs nss → Tups K H ws mss → Tups K H (vs ++ ws) (nss ++ mss)
  | [], ws, [], mss, _, h => h
  | [], _, _ :: _, _, h, _ => by have := h.1; simp at this
  | _ :: _, _, [], _, h, _ => by have := h.1; simp at this
  | v :: vs, ws, ns :: nss, mss, h1, h2 => by
    obtain ⟨t, rfl, h3⟩ := h1.2 0 v ns rfl rfl
    exact Tups.cons h3 (Tups.app (vs := vs) ⟨by have := h1.1; simpa using this, fun i v ns h4 h5 => h1.2 (i + 1) v ns h4 h5⟩ h2)
/-- what a comprehension with a test has made -/
theorem tups_of {H : Hp} {α : Type} (f : α → Option (List Int)) : ∀ (zs : List (Option V)) (xs : List α), zs.length = xs.length → (∀ (i : Nat) (z : Option V) (x : α), zs[i]? = some z → xs[i]? = some x → (z = none ∧ f x = none) ∨ ∃ t ns, z = some (.ref t) ∧ f x = some ns ∧ SqT K H t (ns.map V.int)) → Tups K H (zs.filterMap id) (xs.filterMap f)
  | [], [], _, _ => Tups.nil
  | [], _ :: _, h, _ => by simp at h
  | _ :: _, [], h, _ => by simp at h
  | z :: zs, x :: xs, h, g => by
    have ih := tups_of f zs xs (by simpa using h) fun i z x h1 h2 => g (i + 1) z x h1 h2
    rcases g 0 z x rfl rfl with ⟨rfl, e⟩ | ⟨t, ns, rfl, e, s⟩
    · rw [List.filterMap_cons, List.filterMap_cons, e]
      exact ih
    · rw [List.filterMap_cons, List.filterMap_cons, e]
      exact Tups.cons s ih
theorem ext_len (many : Nat) (one : List Int) : (ext many one).length ≤ many := by
  unfold ext
  have q := List.length_filterMap_le (fun (k : Nat) => if one = [] ∨ one.getLastD 0 < (k : Int) then some (one ++ [(k : Int)]) else none) (List.range many)
  rw [List.length_range] at q
  exact q
def spSets (K : PySem.W.Frag) : Sp := fun vs H Q _ => ∃ (many most : Nat), vs = [.int many, .int most] ∧ many ≤ 8 ∧ most ≤ many ∧ ∀ (l : Addr) (xs : List V) (H' : Hp), Same H H' → H l = none → H' l = some (.lst xs) → Tups K H' xs (setsUp many most) → Q (.ref l) H'
theorem level_small : ∀ m : Fin 9, ∀ j : Fin 9, (level m.val j.val).length ≤ 100 ∧ (setsUp m.val j.val).length ≤ 1000 := by decide +kernel
theorem lev_le {m j : Nat} (hm : m ≤ 8) (hj : j ≤ 8) : (level m j).length ≤ 100 ∧ (setsUp m j).length ≤ 1000 := level_small ⟨m, by omega⟩ ⟨j, by omega⟩
theorem level_mem_len (many : Nat) : ∀ (j : Nat) (one : List Int), one ∈ level many j → one.length = j
  | 0, one, h => by
    rw [List.mem_singleton.mp h]
    rfl
  | j + 1, one, h => by
    obtain ⟨o, ho, h2⟩ := List.mem_flatMap.mp h
    unfold ext at h2
    obtain ⟨k, _, e⟩ := List.mem_filterMap.mp h2
    split at e
    · cases e
      rw [List.length_append, level_mem_len many j o ho]
      rfl
    · cases e
theorem take_flat_len {α β : Type} (f : α → List β) (l : List α) (i : Nat) : ((l.take i).flatMap f).length ≤ (l.flatMap f).length := by
  have e : l.flatMap f = (l.take i).flatMap f ++ (l.drop i).flatMap f := by
    rw [← List.flatMap_append, List.take_append_drop]
  rw [e, List.length_append]
  exact Nat.le_add_right _ _
theorem getLast_at {ns : List Int} (h : ns ≠ []) : atI (ns.map V.int) (-1) = some (.int (ns.getLastD 0)) := by
  have e : ns.map V.int = (ns.dropLast.map V.int) ++ [.int (ns.getLast h)] := by
    rw [← List.map_singleton, ← List.map_append, List.dropLast_concat_getLast]
  rw [e, atI_last]
  congr 2
  cases ns with
  | nil => exact absurd rfl h
  | cons x r => exact (List.getLastD_cons ..).symm ▸ List.getLast_eq_getLastD h

theorem ok_llaw_sets (T : Top K mg) : FnOk P w K mg base CX0 1 T.a_llaw_sets T.fd_llaw_sets ["_law_many", "_law_most"] (spSets K) := by
  refine T.F_llaw_sets.ok sc_llaw_sets (fun vs H Q E h => ?_) (fun cdv A outer s H vs Q E hr h => ?_)
  · obtain ⟨many, most, rfl, _⟩ := h
    rfl
  · obtain ⟨many, most, rfl, hm, hmm, k⟩ := h
    have hu := hu_of hr
    refine ⟨_, (pss_cons (ps_par (i := 2) (j := 3) (by rfl) sc_llaw_sets.nd rfl rfl (by decide) rfl rfl (pa_cons (pe_lst (pa_cons (pe_tup pa_nil) pa_nil)) (pa_cons (pe_lst (pa_cons (pe_tup pa_nil) pa_nil)) pa_nil)) (by rfl))
      (pss_cons (ps_for PassesOwn.never rfl (pi_range1 (by rfl) T.m_range (pa_cons (pv 1) pa_nil)) (pg_name (i := 4) sc_llaw_sets.nd rfl (.inl rfl))
        (pss_cons (ps_set (i := 5) sc_llaw_sets.nd rfl (.inl rfl) (pe_lst pa_nil))
        (pss_cons (ps_for PassesOwn.never rfl (pi_list (pv 3)) (pg_name (i := 6) sc_llaw_sets.nd rfl (.inr rfl))
          (pss_one (ps_set (i := 5) sc_llaw_sets.nd rfl (.inl rfl) (pe_op op_cat (pv 5) (pe_lc (own := [("_law_k", 7)]) (g := gName 7) rfl sc_llaw_sets.nd (pi_range1 (by rfl) T.m_range (pa_cons (pv 0) pa_nil)) (blkOk_by (N := N_llaw_sets) (sc := defScope s_llaw_sets) (by decide +kernel)) (fun _ _ _ _ _ => (pg_name (i := 7) sc_llaw_sets.nd rfl (.inl rfl))) (fun _ _ _ _ _ => (pts_one (PW.pt (pw_or (pt_cmpR (op_eqDK (K := K) rfl hr.units) (pv 6) (pe_tup pa_nil) (nomark _)) (pw_or1 (pt_cmpR op_gt (pv 7) (pe_ix (ix_tupK (K := K) rfl) (pv 6) (pe_un un_neg pe_int) (fun _ _ => rfl)) (nomark _))))))) (fun _ _ _ _ _ => (pe_op (op_catAK (K := K) rfl) (pv 6) (pe_tup (pa_cons (pv 7) pa_nil)))))))))
        (pss_one (ps_par (i := 2) (j := 3) (by rfl) sc_llaw_sets.nd rfl rfl (by decide) rfl rfl (pa_cons (pe_op op_cat (pv 2) (pv 5)) (pa_cons (pv 5) pa_nil)) (by rfl))))))
      (pss_one (ps_ret (pv 2))))), ?_⟩
    refine ⟨Nat.zero_le _, fun p1 hp1 => ⟨by show 1 ≤ sizeLine; decide, fun l1 hl1 => ⟨Nat.zero_le _, fun p2 hp2 => ⟨by show 1 ≤ sizeLine; decide, fun l2 hl2 => ⟨_, _, rfl, ?_⟩⟩⟩⟩⟩
    have s1 := same_new (o := .tup []) hp1
    have s2 := s1.trans (same_new (o := .lst [.ref p1]) hl1)
    have s3 := s2.trans (same_new (o := .tup []) hp2)
    have s4 := s3.trans (same_new (o := .lst [.ref p2]) hl2)
    have f1 : H l1 = none := s1.free hl1
    have f2 : H l2 = none := s3.free hl2
    generalize hH4 : upd (upd (upd (upd H p1 (.tup [])) l1 (.lst [.ref p1])) p2 (.tup [])) l2 (.lst [.ref p2]) = H4 at *
    have e1 : H4 l1 = some (.lst [.ref p1]) := by
      rw [← hH4]
      exact kp (kp upd_same hp2) hl2
    have e2 : H4 l2 = some (.lst [.ref p2]) := by
      rw [← hH4]
      exact upd_same
    have t1 : SqT K H4 p1 (([] : List Int).map V.int) := by
      rw [← hH4]
      exact SqT.of (kp (kp (kp upd_same hl1) hp2) hl2)
    have t2 : SqT K H4 p2 (([] : List Int).map V.int) := by
      rw [← hH4]
      exact SqT.of (kp upd_same hl2)
    refine ⟨_, rfl, most, rfl, by omega, by omega, for_range (n := most) (fun j σ H5 => ∃ (lf ll : Addr) (xf xl : List V) (y4 y5 y6 : Option V), σ = [some (.int (many : Nat)), some (.int (most : Nat)), some (.ref lf), some (.ref ll), y4, y5, y6, none] ∧ Same H H5 ∧ H lf = none ∧ H5 lf = some (.lst xf) ∧ H5 ll = some (.lst xl) ∧ Tups K H5 xf (setsUp many j) ∧ Tups K H5 xl (level many j))
      ⟨l1, l2, _, _, none, none, none, rfl, s4, f1, e1, e2, Tups.cons t1 Tups.nil, Tups.cons t2 Tups.nil⟩ (fun j σ H5 hj hP => ?_) (fun σ H5 hP => ?_)⟩
    · obtain ⟨lf, ll, xf, xl, y4, y5, y6, rfl, s5, ff, ef, el, tf, tl⟩ := hP
      refine ⟨Nat.zero_le _, fun lo hlo => ?_⟩
      have s6 := s5.trans (same_new (o := .lst []) hlo)
      have s56 : Same H5 (upd H5 lo (.lst [])) := same_new hlo
      refine ⟨_, rfl, ll, rfl, ⟨_, SqL.of (s56 _ _ el)⟩, for_list (K := K) (a := ll) (xs := xl) (fun i σ H7 => ∃ (lo : Addr) (xo : List V) (y4 y6 : Option V), σ = [some (.int (many : Nat)), some (.int (most : Nat)), some (.ref lf), some (.ref ll), y4, some (.ref lo), y6, none] ∧ Same H5 H7 ∧ H7 lo = some (.lst xo) ∧ Tups K H7 xo (((level many j).take i).flatMap (ext many)))
        ⟨lo, [], _, _, rfl, s56, upd_same, Tups.nil⟩ (fun i σ H7 _ ⟨_, _, _, _, _, s7, _⟩ => SqL.of (s7 _ _ el)) (fun i x σ H7 hi hP => ?_) (fun σ H7 hP => ?_)⟩
      · obtain ⟨lo, xo, y4, y6, rfl, s7, eo, to⟩ := hP
        have hil : i < (level many j).length := by
          rw [← tl.1]
          exact (List.getElem?_eq_some_iff.mp hi).1
        obtain ⟨t, rfl, ht⟩ := tl.2 i x _ hi (List.getElem?_eq_getElem hil)
        have hol : (level many j)[i].length = j := level_mem_len many j _ (List.getElem_mem hil)
        generalize hone : (level many j)[i] = one at *
        have htk : (level many j).take (i + 1) = (level many j).take i ++ [one] := by
          rw [List.take_add_one, List.getElem?_eq_getElem hil, hone]
          rfl
        have ht7 := s7.seqT ht
        refine ⟨_, rfl, _, rfl, many, rfl, by omega, by omega, fun D hD => lc_rel (walk_range (n := many)) (by omega) hD (fun (k : Nat) z H8 => (z = none ∧ (if one = [] ∨ one.getLastD 0 < (k : Int) then some (one ++ [(k : Int)]) else none) = none) ∨ ∃ t ns, z = some (.ref t) ∧ (if one = [] ∨ one.getLastD 0 < (k : Int) then some (one ++ [(k : Int)]) else none) = some ns ∧ SqT K H8 t (ns.map V.int))
          (fun k z H8 H9 sm h => h.imp id fun ⟨t, ns, h1, h2, h3⟩ => ⟨t, ns, h1, h2, sm.seqT h3⟩) (fun _ _ => trivial) (fun k x H8 H9 hk s8 hy R R0 r1 r0 => ?_) (fun H8 zs s8 hzl hz hd => ?_)⟩
        · obtain ⟨rfl, hxe⟩ := hy
          obtain rfl : x = .int (k : Int) := hxe.trans (congrArg V.int (Int.zero_add _))
          have ht8 := s8.seqT ht7
          refine ⟨rfl, ?_⟩
          -- one == ()
          refine ⟨_, rfl, Nat.zero_le _, fun p hp => ⟨.tuple (one.map .int), .tuple [], dp_tInts ((same_new hp).seqT ht8), dp_nil (SqT.of upd_same), sh_tInts _, rfl, ?_⟩⟩
          have sp : Same H9 (upd H9 p (.tup [])) := same_new hp
          have eq0 : PyData.eqv (.tuple (one.map .int)) (.tuple []) = decide (one = []) := eqv_ints one []
          rw [eq0]
          refine ⟨_, rfl, ?_⟩
          have mk : ∀ H10, Same H9 H10 → (one = [] ∨ one.getLastD 0 < (k : Int)) → tOp (rCatA K) (tVar 6) (tTup (tCons (tVar 7) tNil)) ([some (.int (many : Nat)), some (.int (most : Nat)), some (.ref lf), some (.ref ll), y4, some (.ref lo), some (.ref t), some (.int (k : Int))]) H10 R := fun H10 s10 hor => by
            refine ⟨_, rfl, _, rfl, by show 1 ≤ sizeLine; decide, fun p2 hp2 => ?_⟩
            have s11 : Same H10 (upd H10 p2 (.tup [.int (k : Int)])) := same_new hp2
            have hif : (if one = [] ∨ one.getLastD 0 < (k : Int) then some (one ++ [(k : Int)]) else none) = some (one ++ [(k : Int)]) := if_pos hor
            refine ⟨t, p2, _, _, rfl, rfl, s11.seqT (s10.seqT ht8), SqT.of upd_same, ?_, fun e => ?_, fun _ e => ?_, fun h1 h2 p3 hp3 => ?_⟩
            · rw [List.length_map, hol]
              exact Nat.le_of_lt (sizeLine_of (by show j + 1 ≤ 1000000; omega))
            · have e' : one = [] := List.map_eq_nil_iff.mp e
              refine r1 _ _ (.inr ⟨p2, _, rfl, hif, ?_⟩) (s10.trans s11)
              rw [e']
              exact SqT.of upd_same
            · cases e
            · refine r1 _ _ (.inr ⟨p3, _, rfl, hif, ?_⟩) ((s10.trans s11).trans (same_new hp3))
              rw [List.map_append]
              exact SqT.of upd_same
          by_cases h0 : one = []
          · rw [decide_eq_true h0]
            refine iteT ?_
            refine iteT ?_
            exact mk _ sp (.inl h0)
          · rw [decide_eq_false h0]
            refine iteF ?_
            refine ⟨_, rfl, _, rfl, _, rfl, t, _, _, _, rfl, rfl, sp.seqT ht8, getLast_at h0, _, _, rfl, rfl, _, rfl, ite2 (fun hlt => ?_) (fun hlt => ?_)⟩
            · exact mk _ sp (.inr (of_decide_eq_true hlt))
            · refine r0 _ (.inl ⟨rfl, if_neg fun h => h.elim h0 fun h => hlt (decide_eq_true h)⟩) sp
        · have tz : Tups K H8 (zs.filterMap id) (ext many one) := tups_of _ zs (List.range many) (by rw [hzl, List.length_range]) fun k z x h1 h2 => by
            have hk : k < many := by
              have := (List.getElem?_eq_some_iff.mp h2).1
              rwa [List.length_range] at this
            rw [List.getElem?_range hk] at h2
            cases h2
            exact hz k z h1
          have eo8 := s8 _ _ eo
          have lx : xo.length ≤ 100 := by
            rw [to.1]
            exact Nat.le_trans (take_flat_len _ _ i) (lev_le (j := j + 1) hm (by omega)).1
          have lz : (zs.filterMap id).length ≤ many := by
            rw [tz.1]
            exact ext_len many one
          refine ⟨lo, D, _, _, rfl, rfl, eo8, hd, Nat.le_of_lt (sizeLine_of (by omega)), fun p hp => ?_⟩
          have s9 := s8.trans (same_new (o := .lst (xo ++ zs.filterMap id)) hp)
          refine ⟨p, _, _, _, rfl, s7.trans s9, upd_same, ?_⟩
          rw [htk, List.flatMap_append]
          have e1 : [one].flatMap (ext many) = ext many one := by
            show ext many one ++ [] = _
            rw [List.append_nil]
          rw [e1]
          exact (to.imm s9.imm).app (tz.imm (same_new hp).imm)
      · obtain ⟨lo, xo, y4, y6, rfl, s7, eo, to⟩ := hP
        rw [tl.1, List.take_length] at to
        have ef7 := s7 _ _ ef
        have l1 : xf.length ≤ 1000 := by
          rw [tf.1]
          exact (lev_le (j := j) hm (by omega)).2
        have l2 : xo.length ≤ 100 := by
          rw [to.1]
          exact (lev_le (j := j + 1) hm (by omega)).1
        refine ⟨_, rfl, _, rfl, lf, lo, _, _, rfl, rfl, ef7, eo, Nat.le_of_lt (sizeLine_of (by omega)), fun p hp => ?_⟩
        have s9 : Same H7 (upd H7 p (.lst (xf ++ xo))) := same_new hp
        refine ⟨_, rfl, _, _, rfl, p, lo, xf ++ xo, xo, _, _, _, rfl, (s5.trans s7).trans s9, (s5.trans s7).free hp, upd_same, s9 _ _ eo, ?_, to.imm s9.imm⟩
        exact (tf.imm (s7.trans s9).imm).app (to.imm s9.imm)
    · obtain ⟨lf, ll, xf, xl, y4, y5, y6, rfl, s5, ff, ef, el, tf, tl⟩ := hP
      exact ⟨_, rfl, k lf xf H5 s5 ff ef tf⟩
end
section
local macro_rules | `(tactic| walk_at "sl") => `(tactic| first | assumption | exact SqL.of upd_same | exact SqL.of (by assumption) | ((with_reducible apply sql_upd); (walk_at "sl"); (first | assumption | exact Ne.symm (by assumption))))
local macro_rules | `(tactic| walk_at "st") => `(tactic| first | assumption | exact SqT.of upd_same | exact SqT.of (by assumption))
local macro_rules | `(tactic| walk_at "sc") => `(tactic| first | rfl | assumption | (show (0 : Int) < _; first | assumption | decide | omega) | exact Or.inl ⟨by omega, by omega⟩ | exact Or.inr ⟨by omega, by omega⟩ | exact ⟨by decide, by decide⟩ | exact ⟨by decide, by decide, by decide⟩)
local macro_rules | `(tactic| walk_at "g1") => `(tactic| first
  | refine ⟨(_ : V), rfl, ?_⟩
  | refine ⟨(_ : Bool), rfl, ?_⟩
  | refine ⟨(_ : Int), (_ : Int), rfl, rfl, ?_⟩
  | refine ⟨(_ : Int), rfl, ?_⟩
  | refine ⟨(_ : Str), rfl, ?_⟩
  | refine ⟨(_ : Addr), (_ : List V), rfl, Or.inl (by walk_at "sl"), ?_⟩
  | refine ⟨(_ : Addr), (_ : List V), rfl, Or.inr (by walk_at "st"), ?_⟩
  | refine ⟨(_ : Addr), (_ : List V), (_ : Int), (_ : V), rfl, rfl, (by walk_at "sl"), (by first | rfl | assumption), ?_⟩
  | refine ⟨(_ : Addr), (_ : List V), (_ : Int), (_ : V), rfl, rfl, (by walk_at "st"), (by first | rfl | assumption), ?_⟩
  | refine ⟨(_ : Addr), (_ : List V), (_ : Int), (_ : Nat), rfl, rfl, upd_same, rfl, ?_⟩
  | refine ⟨(_ : Addr), (_ : List V), (_ : Int), (_ : Nat), rfl, rfl, (by assumption), rfl, ?_⟩
  | refine ⟨(_ : Addr), (_ : Addr), (_ : Addr), (_ : List (Str × V)), (_ : V), rfl, (by assumption), (by assumption), (by assumption), (by first | assumption | rfl), ?_⟩
  | refine Or.inl ⟨(_ : Int), rfl, ?_⟩
  | refine And.intro (by walk_at "sc") ?_
  | refine iteT ?_
  | refine iteF ?_)
/-! ### the order of texts -/
theorem leS_iff {a b : Str} : leS a b = true ↔ a.cps.toList ≤ b.cps.toList := by
  unfold leS
  rw [Bool.not_eq_true', decide_eq_false_iff_not]
  exact Iff.rfl
theorem leS_refl (a : Str) : leS a a = true := leS_iff.mpr (List.le_refl _)
theorem leS_trans {a b c : Str} (h1 : leS a b = true) (h2 : leS b c = true) : leS a c = true := leS_iff.mpr (List.le_trans (leS_iff.mp h1) (leS_iff.mp h2))
theorem leS_bot (a : Str) : leS "" a = true := leS_iff.mpr (by
  show ¬ (a.cps.toList < [])
  exact List.not_lt_nil _)
/-! ### rising rows -/
def Ris (l : List Str) : Prop := l.Pairwise fun a b => leS a b = true
def IsM (l : List Str) (m : Int) : Prop := (∃ s : List Str, s.Sublist l ∧ Ris s ∧ (s.length : Int) = m) ∧ ∀ s : List Str, s.Sublist l → Ris s → (s.length : Int) ≤ m
theorem IsM.uniq {l : List Str} {m m' : Int} (h : IsM l m) (h' : IsM l m') : m = m' := by
  obtain ⟨⟨s, h1, h2, h3⟩, h4⟩ := h
  obtain ⟨⟨s', h1', h2', h3'⟩, h4'⟩ := h'
  have a := h4' s h1 h2
  have b := h4 s' h1' h2'
  omega
theorem sub_last {s : List Str} {y : Str} {r : List Str} (h : (s ++ [y]).Sublist r) : ∃ j, j < r.length ∧ r[j]? = some y ∧ s.Sublist (r.take j) := by
  obtain ⟨r1, r2, rfl, h1, h2⟩ := List.append_sublist_iff.mp h
  have hy : y ∈ r2 := List.singleton_sublist.mp h2
  obtain ⟨a, b, rfl⟩ := List.append_of_mem hy
  refine ⟨(r1 ++ a).length, ?_, ?_, ?_⟩
  · simp only [List.length_append, List.length_cons]
    omega
  · rw [← List.append_assoc, List.getElem?_append_right (Nat.le_refl _), Nat.sub_self]
    rfl
  · rw [← List.append_assoc, List.take_append_of_le_length (Nat.le_refl _), List.take_length]
    exact List.sublist_append_of_sublist_left h1
theorem lens_get (ws : List Str) : ∀ (i j : Nat), j < i → (lens ws i)[j]? = some (maxOr 0 ((List.range j).filterMap fun k => if leS (ws[k]?.getD "") (ws[j]?.getD "") then (lens ws j)[k]? else none) + 1)
  | 0, _, h => absurd h (Nat.not_lt_zero _)
  | i + 1, j, h => by
    show (lens ws i ++ [maxOr 0 ((List.range i).filterMap fun k => if leS (ws[k]?.getD "") (ws[i]?.getD "") then (lens ws i)[k]? else none) + 1])[j]? = _
    by_cases e : j < i
    · rw [List.getElem?_append_left (by rw [lens_len]; exact e)]
      exact lens_get ws i j e
    · have e2 : j = i := by omega
      subst e2
      rw [List.getElem?_append_right (by rw [lens_len]; exact Nat.le_refl _), lens_len, Nat.sub_self]
      rfl
/-- the greatest length of a row that ends at j -/
def lenAt (ws : List Str) (j : Nat) : Int := maxOr 0 ((List.range j).filterMap fun k => if leS (ws[k]?.getD "") (ws[j]?.getD "") then (lens ws j)[k]? else none) + 1
theorem lens_at (ws : List Str) {i j : Nat} (h : j < i) : (lens ws i)[j]? = some (lenAt ws j) := lens_get ws i j h
theorem lenAt_pos (ws : List Str) (j : Nat) : 1 ≤ lenAt ws j := by
  induction j using Nat.strongRecOn with
  | ind j ih =>
    unfold lenAt
    generalize hx : ((List.range j).filterMap fun k => if leS (ws[k]?.getD "") (ws[j]?.getD "") then (lens ws j)[k]? else none) = xs
    cases xs with
    | nil => decide
    | cons x r =>
      have hm : x ∈ x :: r := List.mem_cons_self ..
      have hg := maxOr_ge (d := 0) hm
      rw [← hx] at hm
      obtain ⟨k, hk, e⟩ := List.mem_filterMap.mp hm
      have hkj := List.mem_range.mp hk
      split at e
      · rw [lens_at ws hkj] at e
        have := ih k hkj
        have e2 := Option.some.inj e
        omega
      · cases e
theorem lenAt_rows (ws : List Str) (j : Nat) (hj : j < ws.length) : (∃ s : List Str, s.Sublist (ws.take j) ∧ Ris (s ++ [ws[j]]) ∧ ((s.length : Int) + 1 = lenAt ws j)) ∧ ∀ s : List Str, s.Sublist (ws.take j) → Ris (s ++ [ws[j]]) → (s.length : Int) + 1 ≤ lenAt ws j := by
  induction j using Nat.strongRecOn with
  | ind j ih =>
    have hwj : (ws[j]?.getD "") = ws[j] := by rw [List.getElem?_eq_getElem hj]; rfl
    constructor
    · generalize hx : ((List.range j).filterMap fun k => if leS (ws[k]?.getD "") (ws[j]?.getD "") then (lens ws j)[k]? else none) = xs
      have hl : lenAt ws j = maxOr 0 xs + 1 := by unfold lenAt; rw [hx]
      cases xs with
      | nil => exact ⟨[], List.nil_sublist _, List.pairwise_singleton _ _, by rw [hl]; rfl⟩
      | cons x r =>
        have hm := maxOr_mem (d := 0) (List.cons_ne_nil x r)
        rw [← hx] at hm
        obtain ⟨k, hk, e⟩ := List.mem_filterMap.mp hm
        rw [hx] at e
        have hkj := List.mem_range.mp hk
        have hkl : k < ws.length := by omega
        split at e
        · rename_i hle
          rw [hwj, List.getElem?_eq_getElem hkl] at hle
          rw [lens_at ws hkj] at e
          obtain ⟨⟨s, h1, h2, h3⟩, _⟩ := ih k hkj hkl
          refine ⟨s ++ [ws[k]], ?_, ?_, ?_⟩
          · have e1 : (ws.take j).take (k + 1) = ws.take k ++ [ws[k]] := by
              rw [List.take_take, Nat.min_eq_left (by omega), List.take_add_one, List.getElem?_eq_getElem hkl]
              rfl
            have q := List.Sublist.append h1 (List.Sublist.refl [ws[k]])
            rw [← e1] at q
            exact q.trans (List.take_sublist _ _)
          · refine List.pairwise_append.mpr ⟨h2, List.pairwise_singleton _ _, fun a ha b hb => ?_⟩
            rw [List.mem_singleton.mp hb]
            rcases List.mem_append.mp ha with ha | ha
            · exact leS_trans ((List.pairwise_append.mp h2).2.2 a ha ws[k] (List.mem_singleton.mpr rfl)) hle
            · rw [List.mem_singleton.mp ha]
              exact hle
          · rw [List.length_append, hl, ← Option.some.inj e, ← h3]
            show ((s.length + 1 : Nat) : Int) + 1 = _
            omega
        · cases e
    · intro s hs hr
      rcases List.eq_nil_or_concat s with rfl | ⟨s', y, rfl⟩
      · have := lenAt_pos ws j
        simpa using this
      · rw [List.concat_eq_append] at hs hr ⊢
        obtain ⟨k, hk, hy, hs'⟩ := sub_last hs
        rw [List.length_take] at hk
        have hkj : k < j := by omega
        have hkl : k < ws.length := by omega
        rw [List.getElem?_take_of_lt hkj, List.getElem?_eq_getElem hkl] at hy
        obtain rfl := Option.some.inj hy
        rw [List.take_take, Nat.min_eq_left (by omega)] at hs'
        have h2 := (List.pairwise_append.mp hr)
        have q := (ih k hkj hkl).2 s' hs' h2.1
        have hle := h2.2.2 ws[k] (List.mem_append_right _ (List.mem_singleton.mpr rfl)) ws[j] (List.mem_singleton.mpr rfl)
        have hmem : lenAt ws k ∈ ((List.range j).filterMap fun k => if leS (ws[k]?.getD "") (ws[j]?.getD "") then (lens ws j)[k]? else none) := by
          refine List.mem_filterMap.mpr ⟨k, List.mem_range.mpr hkj, ?_⟩
          rw [hwj, List.getElem?_eq_getElem hkl]
          show (if leS ws[k] ws[j] = true then _ else _) = _
          rw [if_pos hle, lens_at ws hkj]
        have g := maxOr_ge (d := 0) hmem
        have e : lenAt ws j = maxOr 0 _ + 1 := rfl
        rw [List.length_append]
        show ((s'.length + 1 : Nat) : Int) + 1 ≤ _
        rw [e]
        omega
theorem most_spec (ws : List Str) : IsM ws (mostRising ws) := by
  unfold mostRising
  constructor
  · cases hx : lens ws ws.length with
    | nil => exact ⟨[], List.nil_sublist _, List.Pairwise.nil, rfl⟩
    | cons x r =>
      have hm := maxOr_mem (d := 0) (List.cons_ne_nil x r)
      rw [← hx] at hm ⊢
      obtain ⟨j, hj⟩ := List.getElem?_of_mem hm
      have hjl : j < ws.length := by
        have := (List.getElem?_eq_some_iff.mp hj).1
        rwa [lens_len] at this
      rw [lens_at ws hjl] at hj
      obtain ⟨⟨s, h1, h2, h3⟩, _⟩ := lenAt_rows ws j hjl
      refine ⟨s ++ [ws[j]], ?_, h2, ?_⟩
      · have e1 : ws.take (j + 1) = ws.take j ++ [ws[j]] := by
          rw [List.take_add_one, List.getElem?_eq_getElem hjl]
          rfl
        have q := List.Sublist.append h1 (List.Sublist.refl [ws[j]])
        rw [← e1] at q
        exact q.trans (List.take_sublist _ _)
      · rw [List.length_append, ← Option.some.inj hj, ← h3]
        rfl
  · intro s hs hr
    rcases List.eq_nil_or_concat s with rfl | ⟨s', y, rfl⟩
    · cases hx : lens ws ws.length with
      | nil => exact Int.le_refl _
      | cons x r =>
        have hm := maxOr_mem (d := 0) (List.cons_ne_nil x r)
        rw [← hx] at hm ⊢
        obtain ⟨j, hj⟩ := List.getElem?_of_mem hm
        have hjl : j < ws.length := by
          have := (List.getElem?_eq_some_iff.mp hj).1
          rwa [lens_len] at this
        rw [lens_at ws hjl] at hj
        have := lenAt_pos ws j
        rw [← Option.some.inj hj]
        show (0 : Int) ≤ _
        omega
    · rw [List.concat_eq_append] at hs hr ⊢
      obtain ⟨j, hj, hy, hs'⟩ := sub_last hs
      rw [List.getElem?_eq_getElem hj] at hy
      obtain rfl := Option.some.inj hy
      have q := (lenAt_rows ws j hj).2 s' hs' hr
      have g := maxOr_ge (d := 0) (List.mem_of_getElem? (lens_at ws hj))
      rw [List.length_append]
      show ((s'.length + 1 : Nat) : Int) ≤ _
      omega
end
section
local macro_rules | `(tactic| walk_at "sl") => `(tactic| first | assumption | exact SqL.of upd_same | exact SqL.of (by assumption) | ((with_reducible apply sql_upd); (walk_at "sl"); (first | assumption | exact Ne.symm (by assumption))))
local macro_rules | `(tactic| walk_at "st") => `(tactic| first | assumption | exact SqT.of upd_same | exact SqT.of (by assumption))
local macro_rules | `(tactic| walk_at "sc") => `(tactic| first | rfl | assumption | (show (0 : Int) < _; first | assumption | decide | omega) | exact Or.inl ⟨by omega, by omega⟩ | exact Or.inr ⟨by omega, by omega⟩ | exact ⟨by decide, by decide⟩ | exact ⟨by decide, by decide, by decide⟩)
local macro_rules | `(tactic| walk_at "g1") => `(tactic| first
  | refine ⟨(_ : V), rfl, ?_⟩
  | refine ⟨(_ : Bool), rfl, ?_⟩
  | refine ⟨(_ : Int), (_ : Int), rfl, rfl, ?_⟩
  | refine ⟨(_ : Int), rfl, ?_⟩
  | refine ⟨(_ : Str), rfl, ?_⟩
  | refine ⟨(_ : Addr), (_ : List V), rfl, Or.inl (by walk_at "sl"), ?_⟩
  | refine ⟨(_ : Addr), (_ : List V), rfl, Or.inr (by walk_at "st"), ?_⟩
  | refine ⟨(_ : Addr), (_ : List V), (_ : Int), (_ : V), rfl, rfl, (by walk_at "sl"), (by first | rfl | assumption), ?_⟩
  | refine ⟨(_ : Addr), (_ : List V), (_ : Int), (_ : V), rfl, rfl, (by walk_at "st"), (by first | rfl | assumption), ?_⟩
  | refine ⟨(_ : Addr), (_ : List V), (_ : Int), (_ : Nat), rfl, rfl, upd_same, rfl, ?_⟩
  | refine ⟨(_ : Addr), (_ : List V), (_ : Int), (_ : Nat), rfl, rfl, (by assumption), rfl, ?_⟩
  | refine ⟨(_ : Addr), (_ : Addr), (_ : Addr), (_ : List (Str × V)), (_ : V), rfl, (by assumption), (by assumption), (by assumption), (by first | assumption | rfl), ?_⟩
  | refine Or.inl ⟨(_ : Int), rfl, ?_⟩
  | refine And.intro (by walk_at "sc") ?_
  | refine iteT ?_
  | refine iteF ?_)
/-! ### which cards go: by marks -/
theorem IsM.cons {x : Str} {l : List Str} {a b : Int} (h1 : IsM l a) (h2 : IsM (l.filter fun y => leS x y) b) : IsM (x :: l) (max a (1 + b)) := by
  constructor
  · rcases Int.le_total a (1 + b) with h | h
    · rw [Int.max_eq_right h]
      obtain ⟨⟨s, p1, p2, p3⟩, _⟩ := h2
      refine ⟨x :: s, (p1.trans List.filter_sublist).cons_cons x, List.pairwise_cons.mpr ⟨fun y hy => ?_, p2⟩, ?_⟩
      · exact (List.mem_filter.mp (p1.subset hy)).2
      · rw [List.length_cons, ← p3]
        omega
    · rw [Int.max_eq_left h]
      obtain ⟨⟨s, p1, p2, p3⟩, _⟩ := h1
      exact ⟨s, p1.cons x, p2, p3⟩
  · intro s hs hr
    cases hs with
    | cons _ h => exact Int.le_trans (h1.2 s h hr) (Int.le_max_left _ _)
    | cons_cons _ h =>
      rename_i s'
      have hr' := List.pairwise_cons.mp hr
      have hsub : s'.Sublist (l.filter fun y => leS x y) := by
        have e : s'.filter (fun y => leS x y) = s' := List.filter_eq_self.mpr fun y hy => hr'.1 y hy
        rw [← e]
        exact h.filter _
      have q := h2.2 s' hsub hr'.2
      rw [List.length_cons]
      exact Int.le_trans (by omega) (Int.le_max_right a (1 + b))
abbrev M (l : List Str) : Int := mostRising l
theorem M_cons (x : Str) (l : List Str) : M (x :: l) = max (M l) (1 + M (l.filter fun y => leS x y)) := (most_spec _).uniq ((most_spec l).cons (most_spec _))
theorem M_nil : M [] = 0 := rfl
theorem M_sub {s l : List Str} (h : s.Sublist l) : M s ≤ M l := by
  obtain ⟨⟨t, p1, p2, p3⟩, _⟩ := most_spec s
  show mostRising s ≤ _
  rw [← p3]
  exact (most_spec l).2 t (p1.trans h) p2
/-- the marks of those that go -/
def marks (left : Int) (last : Str) : List Str → List Bool
  | [] => []
  | x :: r => if M (r.filter fun y => leS last y) = left then true :: marks left last r else false :: marks (left - 1) x r
def keep : List Bool → List Str → List Str
  | b :: m, x :: r => if b then keep m r else x :: keep m r
  | _, _ => []
def idx (i : Nat) : List Bool → List Int
  | [] => []
  | b :: m => if b then (i : Int) :: idx (i + 1) m else idx (i + 1) m
theorem keep_sub : ∀ (m : List Bool) (l : List Str), (keep m l).Sublist l
  | [], _ => List.nil_sublist _
  | _ :: _, [] => List.nil_sublist _
  | true :: m, x :: r => (keep_sub m r).cons x
  | false :: m, x :: r => (keep_sub m r).cons_cons x
theorem keep_idx_len : ∀ (m : List Bool) (l : List Str) (i : Nat), m.length = l.length → (keep m l).length + (idx i m).length = l.length
  | [], [], _, _ => rfl
  | [], _ :: _, _, h => by simp at h
  | _ :: _, [], _, h => by simp at h
  | true :: m, x :: r, i, h => by
    have q := keep_idx_len m r (i + 1) (by simpa using h)
    show (keep m r).length + ((idx (i + 1) m).length + 1) = r.length + 1
    omega
  | false :: m, x :: r, i, h => by
    have q := keep_idx_len m r (i + 1) (by simpa using h)
    show (keep m r).length + 1 + (idx (i + 1) m).length = r.length + 1
    omega
theorem idx_ge : ∀ (m : List Bool) (i : Nat) (z : Int), z ∈ idx i m → (i : Int) ≤ z ∧ z < (i : Int) + m.length
  | [], _, _, h => by cases h
  | true :: m, i, z, h => by
    have h' : z ∈ (i : Int) :: idx (i + 1) m := h
    rw [List.length_cons]
    rcases List.mem_cons.mp h' with rfl | h'
    · omega
    · have := idx_ge m (i + 1) z h'
      omega
  | false :: m, i, z, h => by
    have h' : z ∈ idx (i + 1) m := h
    have := idx_ge m (i + 1) z h'
    rw [List.length_cons]
    omega
theorem idx_asc : ∀ (m : List Bool) (i : Nat), (idx i m).Pairwise (· < ·)
  | [], _ => List.Pairwise.nil
  | true :: m, i => List.pairwise_cons.mpr ⟨fun z hz => by have := idx_ge m (i + 1) z hz; omega, idx_asc m (i + 1)⟩
  | false :: m, i => idx_asc m (i + 1)
/-- what is kept may stand behind last -/
def Fit (last : Str) (left : Int) (s : List Str) : Prop := Ris s ∧ (∀ y ∈ s, leS last y = true) ∧ (s.length : Int) = left
theorem fit_M {last : Str} {left : Int} {s l : List Str} (h : Fit last left s) (hs : s.Sublist l) : left ≤ M (l.filter fun y => leS last y) := by
  obtain ⟨h1, h2, h3⟩ := h
  rw [← h3]
  refine (most_spec _).2 s ?_ h1
  have e : s.filter (fun y => leS last y) = s := List.filter_eq_self.mpr h2
  rw [← e]
  exact hs.filter _
theorem marks_best : ∀ (l : List Str) (last : Str) (left : Int), left = M (l.filter fun y => leS last y) →
    (marks left last l).length = l.length ∧ Fit last left (keep (marks left last l) l) ∧
    ∀ (m : List Bool), m.length = l.length → Fit last left (keep m l) → ∀ i : Nat, idx i (marks left last l) = idx i m ∨ idx i (marks left last l) < idx i m
  | [], last, left, h => by
    refine ⟨rfl, ⟨List.Pairwise.nil, (fun y hy => nomatch hy), ?_⟩, fun m hm _ i => ?_⟩
    · rw [h]
      rfl
    · rw [List.length_eq_zero_iff.mp hm]
      exact .inl rfl
  | x :: r, last, left, h => by
    have hfe : ∀ z : Str, leS last z = true → (r.filter fun y => leS last y).filter (fun y => leS z y) = r.filter fun y => leS z y := fun z hz => by
      rw [List.filter_filter]
      refine List.filter_congr fun y _ => ?_
      cases h1 : leS z y with
      | false => rfl
      | true => rw [leS_trans hz h1]; rfl
    by_cases hc : M (r.filter fun y => leS last y) = left
    · have e : marks left last (x :: r) = true :: marks left last r := if_pos hc
      rw [e]
      obtain ⟨i1, i2, i3⟩ := marks_best r last left hc.symm
      refine ⟨by rw [List.length_cons, List.length_cons, i1], i2, fun m hm hf i => ?_⟩
      cases m with
      | nil => simp at hm
      | cons b m =>
        have hm' : m.length = r.length := by simpa using hm
        cases b with
        | true =>
          have hf' : Fit last left (keep m r) := hf
          show (i : Int) :: idx (i + 1) (marks left last r) = (i : Int) :: idx (i + 1) m ∨ (i : Int) :: idx (i + 1) (marks left last r) < (i : Int) :: idx (i + 1) m
          rcases i3 m hm' hf' (i + 1) with q | q
          · exact .inl (by rw [q])
          · exact .inr (List.cons_lt_cons_iff.mpr (.inr ⟨rfl, q⟩))
        | false =>
          refine .inr ?_
          show (i : Int) :: idx (i + 1) (marks left last r) < idx (i + 1) m
          have c1 := keep_idx_len (marks left last r) r (i + 1) i1
          have c2 := keep_idx_len (false :: m) (x :: r) i (by rw [List.length_cons, List.length_cons, hm'])
          have l1 := i2.2.2
          have l2 := hf.2.2
          have c2' : (keep (false :: m) (x :: r)).length + (idx (i + 1) m).length = r.length + 1 := c2
          cases hx : idx (i + 1) m with
          | nil =>
            rw [hx] at c2'
            simp only [List.length_nil] at c2'
            omega
          | cons z t =>
            have hz := (idx_ge m (i + 1) z (by rw [hx]; exact List.mem_cons_self ..)).1
            exact List.cons_lt_cons_iff.mpr (.inl (by omega))
    · have e : marks left last (x :: r) = false :: marks (left - 1) x r := if_neg hc
      rw [e]
      have hle : leS last x = true := by
        cases q : leS last x with
        | true => rfl
        | false =>
          rw [List.filter_cons_of_neg (by rw [q]; decide)] at h
          exact absurd h.symm hc
      rw [List.filter_cons_of_pos hle, M_cons, hfe x hle] at h
      have hx : left - 1 = M (r.filter fun y => leS x y) := by
        have mx := Int.max_def (M (r.filter fun y => leS last y)) (1 + M (r.filter fun y => leS x y))
        rw [mx] at h
        split at h <;> omega
      have hlt : M (r.filter fun y => leS last y) < left := by
        have mx := Int.le_max_left (M (r.filter fun y => leS last y)) (1 + M (r.filter fun y => leS x y))
        rw [← h] at mx
        omega
      obtain ⟨i1, i2, i3⟩ := marks_best r x (left - 1) hx
      refine ⟨by rw [List.length_cons, List.length_cons, i1], ⟨List.pairwise_cons.mpr ⟨i2.2.1, i2.1⟩, fun y hy => ?_, ?_⟩, fun m hm hf i => ?_⟩
      · rcases List.mem_cons.mp (show y ∈ x :: keep (marks (left - 1) x r) r from hy) with rfl | hy
        · exact hle
        · exact leS_trans hle (i2.2.1 y hy)
      · show ((keep (marks (left - 1) x r) r).length + 1 : Nat) = left
        have := i2.2.2
        omega
      · cases m with
        | nil => simp at hm
        | cons b m =>
          have hm' : m.length = r.length := by simpa using hm
          cases b with
          | true =>
            exfalso
            have hf' : Fit last left (keep m r) := hf
            have q := fit_M hf' (keep_sub m r)
            omega
          | false =>
            have hf' : Fit last left (x :: keep m r) := hf
            have hp := List.pairwise_cons.mp hf'.1
            have hl := hf'.2.2
            rw [List.length_cons] at hl
            exact i3 m hm' ⟨hp.2, hp.1, by omega⟩ (i + 1)
/-- the run's end by marks -/
theorem run_marks (ws : List Str) : ∀ (d i : Nat), i + d = ws.length → outOf ws = (oRun ws i).out ++ idx i (marks (oRun ws i).left (oRun ws i).last (ws.drop i))
  | 0, i, h => by
    have e : i = ws.length := by omega
    subst e
    rw [List.drop_length]
    show outOf ws = _ ++ []
    rw [List.append_nil]
    rfl
  | d + 1, i, h => by
    have hi : i < ws.length := by omega
    rw [run_marks ws d (i + 1) (by omega), oRun_succ]
    rw [List.drop_eq_getElem_cons hi]
    unfold oStep
    by_cases hc : mostRising ((ws.drop (i + 1)).filter fun x => leS (oRun ws i).last x) = (oRun ws i).left
    · rw [if_pos hc]
      have e : marks (oRun ws i).left (oRun ws i).last (ws[i] :: ws.drop (i + 1)) = true :: marks (oRun ws i).left (oRun ws i).last (ws.drop (i + 1)) := if_pos hc
      rw [e]
      show ((oRun ws i).out ++ [(i : Int)]) ++ _ = (oRun ws i).out ++ ((i : Int) :: _)
      rw [List.append_assoc]
      rfl
    · rw [if_neg hc]
      have e : marks (oRun ws i).left (oRun ws i).last (ws[i] :: ws.drop (i + 1)) = false :: marks ((oRun ws i).left - 1) ws[i] (ws.drop (i + 1)) := if_neg hc
      rw [e, List.getElem?_eq_getElem hi]
      rfl
theorem out_marks (ws : List Str) : outOf ws = idx 0 (marks (M ws) "" ws) := run_marks ws ws.length 0 (Nat.zero_add _)
theorem filter_bot (ws : List Str) : ws.filter (fun y => leS "" y) = ws := List.filter_eq_self.mpr fun y _ => leS_bot y
end
section
local macro_rules | `(tactic| walk_at "sl") => `(tactic| first | assumption | exact SqL.of upd_same | exact SqL.of (by assumption) | ((with_reducible apply sql_upd); (walk_at "sl"); (first | assumption | exact Ne.symm (by assumption))))
local macro_rules | `(tactic| walk_at "st") => `(tactic| first | assumption | exact SqT.of upd_same | exact SqT.of (by assumption))
local macro_rules | `(tactic| walk_at "sc") => `(tactic| first | rfl | assumption | (show (0 : Int) < _; first | assumption | decide | omega) | exact Or.inl ⟨by omega, by omega⟩ | exact Or.inr ⟨by omega, by omega⟩ | exact ⟨by decide, by decide⟩ | exact ⟨by decide, by decide, by decide⟩)
local macro_rules | `(tactic| walk_at "g1") => `(tactic| first
  | refine ⟨(_ : V), rfl, ?_⟩
  | refine ⟨(_ : Bool), rfl, ?_⟩
  | refine ⟨(_ : Int), (_ : Int), rfl, rfl, ?_⟩
  | refine ⟨(_ : Int), rfl, ?_⟩
  | refine ⟨(_ : Str), rfl, ?_⟩
  | refine ⟨(_ : Addr), (_ : List V), rfl, Or.inl (by walk_at "sl"), ?_⟩
  | refine ⟨(_ : Addr), (_ : List V), rfl, Or.inr (by walk_at "st"), ?_⟩
  | refine ⟨(_ : Addr), (_ : List V), (_ : Int), (_ : V), rfl, rfl, (by walk_at "sl"), (by first | rfl | assumption), ?_⟩
  | refine ⟨(_ : Addr), (_ : List V), (_ : Int), (_ : V), rfl, rfl, (by walk_at "st"), (by first | rfl | assumption), ?_⟩
  | refine ⟨(_ : Addr), (_ : List V), (_ : Int), (_ : Nat), rfl, rfl, upd_same, rfl, ?_⟩
  | refine ⟨(_ : Addr), (_ : List V), (_ : Int), (_ : Nat), rfl, rfl, (by assumption), rfl, ?_⟩
  | refine ⟨(_ : Addr), (_ : Addr), (_ : Addr), (_ : List (Str × V)), (_ : V), rfl, (by assumption), (by assumption), (by assumption), (by first | assumption | rfl), ?_⟩
  | refine Or.inl ⟨(_ : Int), rfl, ?_⟩
  | refine And.intro (by walk_at "sc") ?_
  | refine iteT ?_
  | refine iteF ?_)
/-! ### marks and places -/
theorem less_from : ∀ (m : List Bool) (l : List Str) (i : Nat), m.length = l.length → (List.range l.length).filterMap (fun (k : Nat) => if (((k + i : Nat) : Int) ∈ idx i m) then none else l[k]?) = keep m l
  | [], [], _, _ => rfl
  | [], _ :: _, _, h => by simp at h
  | _ :: _, [], _, h => by simp at h
  | b :: m, x :: r, i, h => by
    have h' : m.length = r.length := by simpa using h
    have ih := less_from m r (i + 1) h'
    have mem0 : ((i : Nat) : Int) ∈ idx i (b :: m) ↔ b = true := by
      cases b with
      | true => exact ⟨fun _ => rfl, fun _ => List.mem_cons_self ..⟩
      | false => exact ⟨fun z => by have := (idx_ge m (i + 1) _ z).1; omega, fun z => by cases z⟩
    have memS : ∀ k : Nat, (((k + 1 + i : Nat) : Int) ∈ idx i (b :: m)) ↔ (((k + (i + 1) : Nat) : Int) ∈ idx (i + 1) m) := fun k => by
      have e : ((k + 1 + i : Nat) : Int) = ((k + (i + 1) : Nat) : Int) := by omega
      rw [e]
      cases b with
      | true => exact ⟨fun z => by
          rcases List.mem_cons.mp (show _ ∈ (i : Int) :: idx (i + 1) m from z) with z | z
          · omega
          · exact z, fun z => List.mem_cons_of_mem _ z⟩
      | false => exact Iff.rfl
    rw [List.length_cons, List.range_succ_eq_map, List.filterMap_cons, List.filterMap_map]
    have tail : (List.range r.length).filterMap ((fun (k : Nat) => if (((k + i : Nat) : Int) ∈ idx i (b :: m)) then none else (x :: r)[k]?) ∘ Nat.succ) = keep m r := by
      rw [← ih]
      congr 1
      funext k
      show (if (((k + 1 + i : Nat) : Int) ∈ idx i (b :: m)) then none else r[k]?) = _
      by_cases q : (((k + (i + 1) : Nat) : Int) ∈ idx (i + 1) m)
      · rw [if_pos q, if_pos ((memS k).mpr q)]
      · rw [if_neg q, if_neg fun z => q ((memS k).mp z)]
    rw [tail]
    have e0 : ((0 + i : Nat) : Int) = (i : Int) := by omega
    cases b with
    | true =>
      have q : ((0 + i : Nat) : Int) ∈ idx i (true :: m) := by rw [e0]; exact mem0.mpr rfl
      rw [if_pos q]
      rfl
    | false =>
      have q : ¬ ((0 + i : Nat) : Int) ∈ idx i (false :: m) := by
        rw [e0]
        intro z
        exact absurd (mem0.mp z) (by decide)
      rw [if_neg q]
      rfl
theorem less_idx {m : List Bool} {l : List Str} (h : m.length = l.length) : lessAt l (idx 0 m) = keep m l := less_from m l 0 h
theorem asc_mask : ∀ (n i : Nat) (p : List Int), p.Pairwise (· < ·) → (∀ z ∈ p, (i : Int) ≤ z ∧ z < (i : Int) + n) → ∃ m : List Bool, m.length = n ∧ idx i m = p
  | 0, i, [], _, _ => ⟨[], rfl, rfl⟩
  | 0, i, z :: p, _, h => by
    have := h z (List.mem_cons_self ..)
    omega
  | n + 1, i, [], _, _ => by
    obtain ⟨m, h1, h2⟩ := asc_mask n (i + 1) [] List.Pairwise.nil (fun z hz => nomatch hz)
    exact ⟨false :: m, by rw [List.length_cons, h1], h2⟩
  | n + 1, i, z :: p, hp, h => by
    have hz := h z (List.mem_cons_self ..)
    have hp' := List.pairwise_cons.mp hp
    by_cases e : z = (i : Int)
    · obtain ⟨m, h1, h2⟩ := asc_mask n (i + 1) p hp'.2 fun y hy => by
        have a := h y (List.mem_cons_of_mem _ hy)
        have b := hp'.1 y hy
        omega
      refine ⟨true :: m, by rw [List.length_cons, h1], ?_⟩
      show (i : Int) :: idx (i + 1) m = _
      rw [h2, e]
    · obtain ⟨m, h1, h2⟩ := asc_mask n (i + 1) (z :: p) hp fun y hy => by
        have a := h y hy
        rcases List.mem_cons.mp hy with rfl | hy'
        · omega
        · have b := hp'.1 y hy'
          omega
      exact ⟨false :: m, by rw [List.length_cons, h1], h2⟩
/-! ### all ascending tuples -/
def Asc (n : Nat) (p : List Int) : Prop := p.Pairwise (· < ·) ∧ ∀ z ∈ p, 0 ≤ z ∧ z < (n : Int)
theorem asc_app {n : Nat} {o : List Int} {k : Int} : Asc n (o ++ [k]) ↔ Asc n o ∧ (o = [] ∨ o.getLastD 0 < k) ∧ 0 ≤ k ∧ k < n := by
  have last_mem : o ≠ [] → o.getLastD 0 ∈ o := fun h => by
    rcases List.eq_nil_or_concat o with rfl | ⟨o', y, rfl⟩
    · exact absurd rfl h
    · rw [List.concat_eq_append]
      have e : (o' ++ [y]).getLastD 0 = y := by simp
      rw [e]
      exact List.mem_append_right _ (List.mem_singleton.mpr rfl)
  constructor
  · rintro ⟨h1, h2⟩
    have q := List.pairwise_append.mp h1
    refine ⟨⟨q.1, fun z hz => h2 z (List.mem_append_left _ hz)⟩, ?_, h2 k (List.mem_append_right _ (List.mem_singleton.mpr rfl))⟩
    by_cases e : o = []
    · exact .inl e
    · exact .inr (q.2.2 _ (last_mem e) k (List.mem_singleton.mpr rfl))
  · rintro ⟨⟨h1, h2⟩, h3, h4⟩
    refine ⟨List.pairwise_append.mpr ⟨h1, List.pairwise_singleton _ _, fun a ha b hb => ?_⟩, fun z hz => ?_⟩
    · rw [List.mem_singleton.mp hb]
      rcases h3 with rfl | h3
      · cases ha
      · rcases List.eq_nil_or_concat o with rfl | ⟨o', y, rfl⟩
        · cases ha
        · rw [List.concat_eq_append] at ha h1 h3
          have e : (o' ++ [y]).getLastD 0 = y := by simp
          rw [e] at h3
          rcases List.mem_append.mp ha with ha | ha
          · have := (List.pairwise_append.mp h1).2.2 a ha y (List.mem_singleton.mpr rfl)
            omega
          · rw [List.mem_singleton.mp ha]
            exact h3
    · rcases List.mem_append.mp hz with hz | hz
      · exact h2 z hz
      · rw [List.mem_singleton.mp hz]
        exact h4
theorem mem_ext {n : Nat} {o p : List Int} : p ∈ ext n o ↔ ∃ k : Nat, k < n ∧ (o = [] ∨ o.getLastD 0 < (k : Int)) ∧ p = o ++ [(k : Int)] := by
  unfold ext
  rw [List.mem_filterMap]
  constructor
  · rintro ⟨k, hk, e⟩
    split at e
    · rename_i h
      exact ⟨k, List.mem_range.mp hk, h, (Option.some.inj e).symm⟩
    · cases e
  · rintro ⟨k, hk, h, rfl⟩
    exact ⟨k, List.mem_range.mpr hk, if_pos h⟩
theorem mem_level {n : Nat} : ∀ (j : Nat) (p : List Int), p ∈ level n j ↔ p.length = j ∧ Asc n p
  | 0, p => by
    constructor
    · intro h
      rw [List.mem_singleton.mp h]
      exact ⟨rfl, List.Pairwise.nil, fun z hz => nomatch hz⟩
    · rintro ⟨h, _⟩
      rw [List.length_eq_zero_iff.mp h]
      exact List.mem_singleton.mpr rfl
  | j + 1, p => by
    constructor
    · intro h
      obtain ⟨o, ho, h2⟩ := List.mem_flatMap.mp h
      obtain ⟨k, hk, hor, rfl⟩ := mem_ext.mp h2
      obtain ⟨l1, l2⟩ := (mem_level j o).mp ho
      exact ⟨by rw [List.length_append, l1]; rfl, asc_app.mpr ⟨l2, hor, by omega, by omega⟩⟩
    · rintro ⟨h, ha⟩
      rcases List.eq_nil_or_concat p with rfl | ⟨o, y, rfl⟩
      · simp at h
      · rw [List.concat_eq_append] at h ha ⊢
        obtain ⟨h1, h2, h3, h4⟩ := asc_app.mp ha
        refine List.mem_flatMap.mpr ⟨o, (mem_level j o).mpr ⟨by simpa using h, h1⟩, mem_ext.mpr ⟨y.toNat, by omega, ?_, ?_⟩⟩
        · rw [Int.toNat_of_nonneg h3]
          exact h2
        · rw [Int.toNat_of_nonneg h3]
theorem lt_app : ∀ {a b x y : List Int}, a < b → a.length = b.length → a ++ x < b ++ y
  | [], [], _, _, h, _ => absurd h (List.lt_irrefl _)
  | [], _ :: _, _, _, _, h => by simp at h
  | _ :: _, [], _, _, _, h => by simp at h
  | p :: a, q :: b, x, y, h, hl => by
    rcases List.cons_lt_cons_iff.mp h with h | ⟨e, h⟩
    · exact List.cons_lt_cons_iff.mpr (.inl h)
    · exact List.cons_lt_cons_iff.mpr (.inr ⟨e, lt_app h (by simpa using hl)⟩)
theorem lt_app1 : ∀ {a : List Int} {k k' : Int}, k < k' → a ++ [k] < a ++ [k']
  | [], _, _, h => List.cons_lt_cons_iff.mpr (.inl h)
  | _ :: a, _, _, h => List.cons_lt_cons_iff.mpr (.inr ⟨rfl, lt_app1 (a := a) h⟩)
theorem level_sorted (n : Nat) : ∀ j, (level n j).Pairwise (· < ·)
  | 0 => List.pairwise_singleton _ _
  | j + 1 => by
    show ((level n j).flatMap (ext n)).Pairwise (· < ·)
    refine List.pairwise_flatMap.mpr ⟨fun o _ => ?_, ?_⟩
    · unfold ext
      refine List.pairwise_filterMap.mpr (List.pairwise_lt_range.imp fun {a b} hab c hc d hd => ?_)
      split at hc
      · split at hd
        · cases hc
          cases hd
          exact lt_app1 (by omega)
        · cases hd
      · cases hc
    · have ls := level_sorted n j
      refine List.Pairwise.imp_of_mem ?_ ls
      intro a b ha hb hab c hc d hd
      obtain ⟨k, _, _, rfl⟩ := mem_ext.mp hc
      obtain ⟨k', _, _, rfl⟩ := mem_ext.mp hd
      exact lt_app hab (by rw [((mem_level j a).mp ha).1, ((mem_level j b).mp hb).1])
theorem sets_split (n : Nat) : ∀ j, ∃ e : List (List Int), setsUp n j = e ++ level n j ∧ ∀ p ∈ e, p.length < j
  | 0 => ⟨[], rfl, fun p hp => nomatch hp⟩
  | j + 1 => by
    obtain ⟨e, h1, h2⟩ := sets_split n j
    refine ⟨e ++ level n j, by rw [← h1]; rfl, fun p hp => ?_⟩
    rcases List.mem_append.mp hp with hp | hp
    · exact Nat.lt_succ_of_lt (h2 p hp)
    · rw [((mem_level j p).mp hp).1]
      exact Nat.lt_succ_self _
/-! ### the first good tuple -/
theorem out_good (ws : List Str) : Asc ws.length (outOf ws) ∧ Ris (lessAt ws (outOf ws)) ∧ ((outOf ws).length : Int) = ws.length - M ws := by
  obtain ⟨h1, h2, _⟩ := marks_best ws "" (M ws) (by rw [filter_bot])
  rw [out_marks]
  refine ⟨⟨idx_asc _ 0, fun z hz => ?_⟩, ?_, ?_⟩
  · have := idx_ge _ 0 z hz
    rw [h1] at this
    omega
  · rw [less_idx h1]
    exact h2.1
  · have := keep_idx_len _ ws 0 h1
    have := h2.2.2
    omega
theorem out_least {ws : List Str} {p : List Int} (ha : Asc ws.length p) (hr : Ris (lessAt ws p)) (hl : (p.length : Int) = ws.length - M ws) : outOf ws = p ∨ outOf ws < p := by
  obtain ⟨m, e1, rfl⟩ := asc_mask ws.length 0 p ha.1 fun z hz => by have := ha.2 z hz; omega
  obtain ⟨h1, h2, h3⟩ := marks_best ws "" (M ws) (by rw [filter_bot])
  rw [less_idx e1] at hr
  rw [out_marks]
  refine h3 m e1 ⟨hr, fun y _ => leS_bot y, ?_⟩ 0
  have := keep_idx_len m ws 0 e1
  omega
theorem first_good (ws : List Str) (due : Nat) (hd : (due : Int) = ws.length - M ws) (ok : List Int → Bool) (hok : ∀ p, Asc ws.length p → (ok p = true ↔ Ris (lessAt ws p))) : ∃ rest, (setsUp ws.length due).filter (fun p => decide (p.length = due) && ok p) = outOf ws :: rest := by
  obtain ⟨e, h1, h2⟩ := sets_split ws.length due
  obtain ⟨g1, g2, g3⟩ := out_good ws
  have hlen : (outOf ws).length = due := by omega
  rw [h1, List.filter_append]
  have e0 : e.filter (fun p => decide (p.length = due) && ok p) = [] := List.filter_eq_nil_iff.mpr fun p hp => by
    rw [decide_eq_false (Nat.ne_of_lt (h2 p hp)), Bool.false_and]
    decide
  rw [e0, List.nil_append]
  have hmem : outOf ws ∈ (level ws.length due).filter (fun p => decide (p.length = due) && ok p) := by
    refine List.mem_filter.mpr ⟨(mem_level due _).mpr ⟨hlen, g1⟩, ?_⟩
    rw [decide_eq_true hlen, (hok _ g1).mpr g2]
    rfl
  cases hx : (level ws.length due).filter (fun p => decide (p.length = due) && ok p) with
  | nil =>
    rw [hx] at hmem
    cases hmem
  | cons q rest =>
    refine ⟨rest, ?_⟩
    have hq : q ∈ (level ws.length due).filter (fun p => decide (p.length = due) && ok p) := by
      rw [hx]
      exact List.mem_cons_self ..
    obtain ⟨q1, q2⟩ := List.mem_filter.mp hq
    obtain ⟨l1, l2⟩ := (mem_level due q).mp q1
    rw [decide_eq_true l1, Bool.true_and] at q2
    have least := out_least l2 ((hok q l2).mp q2) (by omega)
    rcases least with r | r
    · rw [r]
    · rw [hx] at hmem
      rcases List.mem_cons.mp hmem with r2 | r2
      · rw [r2]
      · have srt : (q :: rest).Pairwise (· < ·) := by
          rw [← hx]
          exact (level_sorted ws.length due).filter _
        have lt := (List.pairwise_cons.mp srt).1 _ r2
        exact absurd (List.lt_trans lt r) (List.lt_irrefl _)
end
section
local macro_rules | `(tactic| walk_at "sl") => `(tactic| first | assumption | exact SqL.of upd_same | exact SqL.of (by assumption) | ((with_reducible apply sql_upd); (walk_at "sl"); (first | assumption | exact Ne.symm (by assumption))))
local macro_rules | `(tactic| walk_at "st") => `(tactic| first | assumption | exact SqT.of upd_same | exact SqT.of (by assumption))
local macro_rules | `(tactic| walk_at "sc") => `(tactic| first | rfl | assumption | (show (0 : Int) < _; first | assumption | decide | omega) | exact Or.inl ⟨by omega, by omega⟩ | exact Or.inr ⟨by omega, by omega⟩ | exact ⟨by decide, by decide⟩ | exact ⟨by decide, by decide, by decide⟩)
local macro_rules | `(tactic| walk_at "g1") => `(tactic| first
  | refine ⟨(_ : V), rfl, ?_⟩
  | refine ⟨(_ : Bool), rfl, ?_⟩
  | refine ⟨(_ : Int), (_ : Int), rfl, rfl, ?_⟩
  | refine ⟨(_ : Int), rfl, ?_⟩
  | refine ⟨(_ : Str), rfl, ?_⟩
  | refine ⟨(_ : Addr), (_ : List V), rfl, Or.inl (by walk_at "sl"), ?_⟩
  | refine ⟨(_ : Addr), (_ : List V), rfl, Or.inr (by walk_at "st"), ?_⟩
  | refine ⟨(_ : Addr), (_ : List V), (_ : Int), (_ : V), rfl, rfl, (by walk_at "sl"), (by first | rfl | assumption), ?_⟩
  | refine ⟨(_ : Addr), (_ : List V), (_ : Int), (_ : V), rfl, rfl, (by walk_at "st"), (by first | rfl | assumption), ?_⟩
  | refine ⟨(_ : Addr), (_ : List V), (_ : Int), (_ : Nat), rfl, rfl, upd_same, rfl, ?_⟩
  | refine ⟨(_ : Addr), (_ : List V), (_ : Int), (_ : Nat), rfl, rfl, (by assumption), rfl, ?_⟩
  | refine ⟨(_ : Addr), (_ : Addr), (_ : Addr), (_ : List (Str × V)), (_ : V), rfl, (by assumption), (by assumption), (by assumption), (by first | assumption | rfl), ?_⟩
  | refine Or.inl ⟨(_ : Int), rfl, ?_⟩
  | refine And.intro (by walk_at "sc") ?_
  | refine iteT ?_
  | refine iteF ?_)
def words5 : List Str := ["ant", "bee", "cat", "dog", "elk"]
/-! ### rising texts: next to next is enough -/
theorem leS_anti {a b : Str} (h1 : leS a b = true) (h2 : leS b a = true) : a = b := by
  have e := List.le_antisymm (leS_iff.mp h1) (leS_iff.mp h2)
  cases a
  cases b
  exact congrArg Str.mk (Array.toList_inj.mp e)
def adj : Str → List Str → Bool
  | _, [] => true
  | x, y :: r => leS x y && adj y r
theorem adj_ris : ∀ (x : Str) (r : List Str), adj x r = true ↔ Ris (x :: r)
  | x, [] => ⟨fun _ => List.pairwise_singleton _ _, fun _ => rfl⟩
  | x, y :: r => by
    show (leS x y && adj y r) = true ↔ _
    rw [Bool.and_eq_true, adj_ris y r]
    constructor
    · rintro ⟨h1, h2⟩
      refine List.pairwise_cons.mpr ⟨fun z hz => ?_, h2⟩
      rcases List.mem_cons.mp hz with rfl | hz
      · exact h1
      · exact leS_trans h1 ((List.pairwise_cons.mp h2).1 z hz)
    · intro h
      have q := List.pairwise_cons.mp h
      exact ⟨q.1 y (List.mem_cons_self ..), q.2⟩
theorem rises_adj : ∀ (x : Str) (r : List Str), risesBy (x :: r) = adj x r
  | x, [] => rfl
  | x, y :: r => by
    show (leS x y && risesBy (y :: r)) = (leS x y && adj y r)
    rw [rises_adj y r]
theorem rises_iff (l : List Str) : risesBy l = true ↔ Ris l := by
  cases l with
  | nil => exact ⟨fun _ => List.Pairwise.nil, fun _ => rfl⟩
  | cons x r => rw [rises_adj, adj_ris]
theorem lt_eq : ∀ a b : List Nat, PySem.Spec.ltCps a b = decide (a < b)
  | [], [] => rfl
  | [], y :: b => (decide_eq_true (List.nil_lt_cons y b)).symm
  | x :: a, [] => (decide_eq_false (List.not_lt_nil _)).symm
  | x :: a, y :: b => by
    show (decide (x < y) || x == y && PySem.Spec.ltCps a b) = _
    rw [lt_eq a b]
    by_cases h : x < y
    · rw [decide_eq_true h, Bool.true_or]
      exact (decide_eq_true (List.cons_lt_cons_iff.mpr (.inl h))).symm
    · rw [decide_eq_false h, Bool.false_or]
      by_cases e : x = y
      · subst e
        rw [beq_self_eq_true, Bool.true_and]
        by_cases h2 : a < b
        · rw [decide_eq_true h2, decide_eq_true (List.cons_lt_cons_iff.mpr (.inr ⟨rfl, h2⟩))]
        · rw [decide_eq_false h2, decide_eq_false (fun z => (List.cons_lt_cons_iff.mp z).elim h fun q => h2 q.2)]
      · rw [beq_eq_false_iff_ne.mpr e, Bool.false_and, decide_eq_false (fun z => (List.cons_lt_cons_iff.mp z).elim h fun q => e q.1)]
theorem rising_adj : ∀ (x : Str) (r : List Str), PyProof.Rows.risingS x r = true → adj x r = true
  | x, [], _ => rfl
  | x, y :: r, h => by
    have h' : (!PySem.Spec.ltCps y.cps.toList x.cps.toList && PyProof.Rows.risingS y r) = true := h
    rw [lt_eq, Bool.and_eq_true] at h'
    show (leS x y && adj y r) = true
    rw [Bool.and_eq_true]
    exact ⟨h'.1, rising_adj y r h'.2⟩
theorem sortedS_ris {l : List Str} (h : PyProof.Rows.sortedS l = true) : Ris l := by
  cases l with
  | nil => exact List.Pairwise.nil
  | cons x r => exact (adj_ris x r).mp (rising_adj x r h)
theorem sorted_iff {l ys : List Str} (hp : ys.Perm l) (hs : PyProof.Rows.sortedS ys = true) : decide (l = ys) = risesBy l := by
  have hy := sortedS_ris hs
  by_cases h : Ris l
  · have e : l = ys := List.Perm.eq_of_pairwise (fun a b _ _ h1 h2 => leS_anti h1 h2) h hy hp.symm
    rw [decide_eq_true e, (rises_iff l).mpr h]
  · have e : l ≠ ys := fun e => h (by rw [e]; exact hy)
    rw [decide_eq_false e]
    cases q : risesBy l with
    | false => rfl
    | true => exact absurd ((rises_iff l).mp q) h
theorem less_item {α β : Type} {xs : List α} {ys : List β} (hl : xs.length = ys.length) {Φ : α → β → Prop} (h : ∀ (j : Nat) (x : α) (y : β), xs[j]? = some x → ys[j]? = some y → Φ x y) (p : List Int) :
    (lessAt xs p).length = (lessAt ys p).length ∧ ∀ (j : Nat) (x : α), (lessAt xs p)[j]? = some x → ∃ y, (lessAt ys p)[j]? = some y ∧ Φ x y := by
  have e1 : xs = (xs.zip ys).map Prod.fst := (List.map_fst_zip (by omega)).symm
  have e2 : ys = (xs.zip ys).map Prod.snd := (List.map_snd_zip (by omega)).symm
  have f1 : lessAt xs p = (lessAt (xs.zip ys) p).map Prod.fst := by
    rw [← lessAt_map, ← e1]
  have f2 : lessAt ys p = (lessAt (xs.zip ys) p).map Prod.snd := by
    rw [← lessAt_map, ← e2]
  refine ⟨by rw [f1, f2, List.length_map, List.length_map], fun j x hx => ?_⟩
  rw [f1, List.getElem?_map] at hx
  obtain ⟨z, hz, rfl⟩ := Option.map_eq_some_iff.mp hx
  refine ⟨z.2, by rw [f2, List.getElem?_map, hz]; rfl, ?_⟩
  have hm := lessAt_sub (List.mem_of_getElem? hz)
  obtain ⟨i, hi, e⟩ := List.mem_iff_getElem.mp hm
  have hi' := hi
  rw [List.length_zip] at hi'
  have g : (xs.zip ys)[i] = (xs[i]'(by omega), ys[i]'(by omega)) := List.getElem_zip
  rw [g] at e
  rw [← e]
  exact h i _ _ (List.getElem?_eq_getElem (by omega)) (List.getElem?_eq_getElem (by omega))
theorem asc_eq {as bs : List Int} (h1 : as.Pairwise (· < ·)) (h2 : bs.Pairwise (· < ·)) (h : ∀ k, k ∈ as ↔ k ∈ bs) : as = bs := by
  have n1 : as.Nodup := h1.imp fun h e => by omega
  have n2 : bs.Nodup := h2.imp fun h e => by omega
  refine List.Perm.eq_of_pairwise (le := (· < ·)) (fun a b _ _ h1 h2 => by omega) h1 h2 ((List.perm_ext_iff_of_nodup n1 n2).mpr h)
theorem words_ok {l : List Str} (h : ∀ x ∈ l, x ∈ words5) : ∀ x ∈ l, PyData.strOk x = true := fun x hx => by
  have q : ∀ x ∈ words5, PyData.strOk x = true := by decide +kernel
  exact q x (h x hx)
theorem rI0_to {f : Int → Int → V} {i j : Int} {v : V} {H : Hp} {Q : VK} (e : f i j = v) (q : Q v H) : rI0 f (.int i) (.int j) H Q := ⟨i, j, rfl, rfl, by rw [e]; exact q⟩
theorem rNe_to {x y : V} {b : Bool} {H : Hp} {Q : VK} (s : scal x y = true) (e : (!decide (x = y)) = b) (q : Q (.bl b) H) : rNe x y H Q := ⟨s, by rw [e]; exact q⟩
theorem rEq_to {x y : V} {b : Bool} {H : Hp} {Q : VK} (s : scal x y = true) (e : decide (x = y) = b) (q : Q (.bl b) H) : rEq x y H Q := ⟨s, by rw [e]; exact q⟩
theorem rEqD_to {x y : V} {d1 d2 : PyData} {b : Bool} {H : Hp} {Q : VK} (h1 : Dp K H x d1) (h2 : Dp K H y d2) (s1 : SeqAt.shaped d1 = true) (s2 : SeqAt.shaped d2 = true) (e : d1.eqv d2 = b) (q : Q (.bl b) H) : rEqD K x y H Q := ⟨d1, d2, h1, h2, s1, s2, by rw [e]; exact q⟩
theorem rNeD_to {x y : V} {d1 d2 : PyData} {b : Bool} {H : Hp} {Q : VK} (h1 : Dp K H x d1) (h2 : Dp K H y d2) (s1 : SeqAt.shaped d1 = true) (s2 : SeqAt.shaped d2 = true) (e : (!d1.eqv d2) = b) (q : Q (.bl b) H) : rNeD K x y H Q := ⟨d1, d2, h1, h2, s1, s2, by rw [e]; exact q⟩
end
section
local macro_rules | `(tactic| walk_at "sl") => `(tactic| first | assumption | exact SqL.of upd_same | exact SqL.of (by assumption) | ((with_reducible apply sql_upd); (walk_at "sl"); (first | assumption | exact Ne.symm (by assumption))))
local macro_rules | `(tactic| walk_at "st") => `(tactic| first | assumption | exact SqT.of upd_same | exact SqT.of (by assumption))
local macro_rules | `(tactic| walk_at "sc") => `(tactic| first | rfl | assumption | (show (0 : Int) < _; first | assumption | decide | omega) | exact Or.inl ⟨by omega, by omega⟩ | exact Or.inr ⟨by omega, by omega⟩ | exact ⟨by decide, by decide⟩ | exact ⟨by decide, by decide, by decide⟩)
local macro_rules | `(tactic| walk_at "g1") => `(tactic| first
  | refine ⟨(_ : V), rfl, ?_⟩
  | refine ⟨(_ : Bool), rfl, ?_⟩
  | refine ⟨(_ : Int), (_ : Int), rfl, rfl, ?_⟩
  | refine ⟨(_ : Int), rfl, ?_⟩
  | refine ⟨(_ : Str), rfl, ?_⟩
  | refine ⟨(_ : Addr), (_ : List V), rfl, Or.inl (by walk_at "sl"), ?_⟩
  | refine ⟨(_ : Addr), (_ : List V), rfl, Or.inr (by walk_at "st"), ?_⟩
  | refine ⟨(_ : Addr), (_ : List V), (_ : Int), (_ : V), rfl, rfl, (by walk_at "sl"), (by first | rfl | assumption), ?_⟩
  | refine ⟨(_ : Addr), (_ : List V), (_ : Int), (_ : V), rfl, rfl, (by walk_at "st"), (by first | rfl | assumption), ?_⟩
  | refine ⟨(_ : Addr), (_ : List V), (_ : Int), (_ : Nat), rfl, rfl, upd_same, rfl, ?_⟩
  | refine ⟨(_ : Addr), (_ : List V), (_ : Int), (_ : Nat), rfl, rfl, (by assumption), rfl, ?_⟩
  | refine ⟨(_ : Addr), (_ : Addr), (_ : Addr), (_ : List (Str × V)), (_ : V), rfl, (by assumption), (by assumption), (by assumption), (by first | assumption | rfl), ?_⟩
  | refine Or.inl ⟨(_ : Int), rfl, ?_⟩
  | refine And.intro (by walk_at "sc") ?_
  | refine iteT ?_
  | refine iteF ?_)
def spLaw (K : PySem.W.Frag) : Sp := fun vs H Q _ => ∃ (a : Addr) (ns : List Int), vs = [.ref a] ∧ SqL K H a (ns.map V.int) ∧ ns.length ≤ 63 ∧ ∀ H', Q (.bl true) H'
def plainCard (h : Str) : CD := ⟨h, [], "", []⟩
theorem plain_good : ∀ h ∈ words5, (plainCard h).Good := by
  intro h hh
  have hw : isWord h = true := by
    have q : ∀ x ∈ words5, isWord x = true := by decide +kernel
    exact q h hh
  exact ⟨hw, by show isBooks [] = true; decide, by show isTarget "" h = true; unfold isTarget; rw [decide_eq_true rfl, Bool.true_or], .inl rfl, by show isFurther [] h = true; rfl⟩
theorem max0 {fm : List Int} {m : Int} (h0 : ∀ y ∈ fm, 0 ≤ y) (hm : m ∈ (0 : Int) :: fm) (hge : ∀ y, y ∈ (0 : Int) :: fm → y ≤ m) : m = maxOr 0 fm := by
  cases fm with
  | nil => exact List.mem_singleton.mp hm
  | cons x r =>
    have h1 := maxOr_mem (d := 0) (List.cons_ne_nil x r)
    have h2 := hge _ (List.mem_cons_of_mem _ h1)
    rcases List.mem_cons.mp hm with rfl | hm
    · have := h0 _ h1
      omega
    · have := maxOr_ge (d := 0) hm
      omega
theorem sets_len {n j : Nat} (p : List Int) (hm : p ∈ setsUp n j) : p.length ≤ j := by
  obtain ⟨e, h1, h2⟩ := sets_split n j
  rw [h1] at hm
  rcases List.mem_append.mp hm with hm | hm
  · exact Nat.le_of_lt (h2 _ hm)
  · exact Nat.le_of_eq ((mem_level _ _).mp hm).1
theorem ok_law (T : Top K mg) : FnOk P w K mg base CX0 7 T.a_law T.fd_law ["_law_script"] (spLaw K) := by
  refine T.F_law.ok sc_law (fun vs H Q E h => ?_) (fun cdv A outer s H vs Q E hr h => ?_)
  · obtain ⟨a, ns, rfl, _⟩ := h
    rfl
  · obtain ⟨a, ns, rfl, hS, hl, k⟩ := h
    have hu := hu_of hr
    refine ⟨_, (pss_cons (ps_set (i := 1) sc_law.nd rfl (.inr rfl) (pe_lst (pa_cons (pv 0) (pa_cons pe_int (pa_cons pe_int (pa_cons pe_int pa_nil))))))
      (pss_cons (ps_set (i := 2) sc_law.nd rfl (.inr rfl) (pe_slice sl_list (pe_lst (pa_cons pe_str (pa_cons pe_str (pa_cons pe_str (pa_cons pe_str (pa_cons pe_str pa_nil)))))) po_none (po_some (pe_op op_add pe_int (pe_call (ok_llaw_taken T) (hr.mono (by decide)) (by rfl) T.g_llaw_taken T.F_llaw_taken.kp (b_llaw_taken T) .nil pass0 (pa_cons (pv 1) (pa_cons pe_int pa_nil)))))))
      (pss_cons (ps_set (i := 4) sc_law.nd rfl (.inr rfl) (pe_lc (own := [("_law_k", 3)]) (g := gName 3) (tt := tYes) rfl sc_law.nd (pi_range1 (by rfl) T.m_range (pa_cons (pe_call (ok_llaw_taken T) (hr.mono (by decide)) (by rfl) T.g_llaw_taken T.F_llaw_taken.kp (b_llaw_taken T) .nil pass0 (pa_cons (pv 1) (pa_cons pe_int pa_nil))) pa_nil)) (blkOk_by (N := N_law) (sc := defScope s_law) (by decide +kernel)) (fun _ _ _ _ _ => (pg_name (i := 3) sc_law.nd rfl (.inl rfl))) (fun _ _ _ _ _ => pts_nil) (fun _ _ _ _ _ => (pe_tup (pa_cons (pe_call (ok_llaw_pick T) (hr.mono (by decide)) (by rfl) T.g_llaw_pick T.F_llaw_pick.kp (b_llaw_pick T) .nil pass0 (pa_cons (pv 1) (pa_cons (pv 2) pa_nil))) (pa_cons (pe_tup pa_nil) (pa_cons pe_str (pa_cons (pe_tup pa_nil) pa_nil))))))))
      (pss_cons (ps_set (i := 5) sc_law.nd rfl (.inr rfl) (pe_lst pa_nil))
      (pss_cons (ps_for PassesOwn.never rfl (pi_range1 (by rfl) T.m_range (pa_cons (pe_callB call_len_seq (by rfl) T.m_len (by decide +kernel) (pa_cons (pv 4) pa_nil)) pa_nil)) (pg_name (i := 3) sc_law.nd rfl (.inr rfl))
        (pss_one (ps_expr (pe_bm PySem.F.plainAttrs_list PySem.F.slot_list_append PySem.F.type_list_append mt_append (pv 5) (pa_cons (pe_op op_add pe_int (pe_callB (cr_max rfl) (by rfl) T.m_max (by decide +kernel) (pa_cons (pe_op op_cat (pe_lst (pa_cons pe_int pa_nil)) (pe_lc (own := [("_law_j", 12)]) (g := gName 12) rfl sc_law.nd (pi_range1 (by rfl) T.m_range (pa_cons (pv 3) pa_nil)) (blkOk_by (N := N_law) (sc := defScope s_law) (by decide +kernel)) (fun _ _ _ _ _ => (pg_name (i := 12) sc_law.nd rfl (.inl rfl))) (fun _ _ _ _ _ => (pts_one (pt_cmpR op_le_str (pe_ix (ix_tupK (K := K) rfl) (pe_ix (ix_listK (K := K) rfl) (pv 4) (pv 12) (fun _ _ => rfl)) pe_int (fun _ _ => rfl)) (pe_ix (ix_tupK (K := K) rfl) (pe_ix (ix_listK (K := K) rfl) (pv 4) (pv 3) (fun _ _ => rfl)) pe_int (fun _ _ => rfl)) (nomark _)))) (fun _ _ _ _ _ => (pe_ix (ix_listK (K := K) rfl) (pv 5) (pv 12) (fun _ _ => rfl))))) pa_nil))) pa_nil)))))
      (pss_cons (ps_set (i := 6) sc_law.nd rfl (.inl rfl) (pe_op op_sub (pe_callB call_len_seq (by rfl) T.m_len (by decide +kernel) (pa_cons (pv 4) pa_nil)) (pe_callB (cr_max rfl) (by rfl) T.m_max (by decide +kernel) (pa_cons (pe_op op_cat (pe_lst (pa_cons pe_int pa_nil)) (pv 5)) pa_nil))))
      (pss_cons (ps_set (i := 7) sc_law.nd rfl (.inl rfl) (pe_call (ok_out_of_order T) (hr.mono (by decide)) (by rfl) T.g_out_of_order T.F_out_of_order.kp (b_out_of_order T) .nil pass0 (pa_cons (pe_call (ok_llaw_drawer T) (hr.mono (by decide)) (by rfl) T.g_llaw_drawer T.F_llaw_drawer.kp (b_llaw_drawer T) .nil pass0 (pa_cons (pv 4) pa_nil)) pa_nil)))
      (pss_cons (ps_if (PW.pt (pw_or (pt_cmpR op_ne (pe_callB call_len_seq (by rfl) T.m_len (by decide +kernel) (pa_cons (pv 7) pa_nil)) (pv 6) (nomark _)) (pw_or1 (pt_cmpR (op_neD hr.units) (pv 7) (pe_callTy call_tuple_of (by rfl) T.m_tuple (by decide +kernel) (pa_cons (pe_callB (cr_sortedSet rfl) (by rfl) T.m_sorted (by decide +kernel) (pa_cons (pe_callTy (call_setTI rfl) (by rfl) T.m_set (by decide +kernel) (pa_cons (pv 7) pa_nil)) pa_nil)) pa_nil)) (nomark _))))) (pss_one (ps_ret pe_bl)) pss_nil)
      (pss_cons (ps_set (i := 8) sc_law.nd rfl (.inl rfl) (pe_lst pa_nil))
      (pss_cons (ps_for PassesOwn.never rfl (pi_list (pe_call (ok_llaw_sets T) (hr.mono (by decide)) (by rfl) T.g_llaw_sets T.F_llaw_sets.kp (b_llaw_sets T) .nil pass0 (pa_cons (pe_callB call_len_seq (by rfl) T.m_len (by decide +kernel) (pa_cons (pv 4) pa_nil)) (pa_cons (pv 6) pa_nil)))) (pg_name (i := 9) sc_law.nd rfl (.inl rfl))
        (pss_cons (ps_setLc (i := 10) (own := [("_law_one", 11)]) (g := gName 11) (tt := tYes) rfl sc_law.nd rfl rfl (sw_true rfl rfl rfl (by decide +kernel)) (pi_list (pe_call (ok_llaw_less T) (hr.mono (by decide)) (by rfl) T.g_llaw_less T.F_llaw_less.kp (b_llaw_less T) .nil pass0 (pa_cons (pv 4) (pa_cons (pv 9) pa_nil)))) (blkOk_by (N := N_law) (sc := defScope s_law) (by decide +kernel)) (fun _ _ _ _ _ => (pg_name (i := 11) sc_law.nd rfl (.inl rfl))) (fun _ _ _ _ _ => pts_nil) (fun _ _ _ _ _ => (pe_ix (ix_tupK (K := K) rfl) (pv 11) pe_int (fun _ _ => rfl))))
        (pss_one (ps_if (PW.pt (pw_and (pt_cmpR op_eq (pe_callB call_len_seq (by rfl) T.m_len (by decide +kernel) (pa_cons (pv 9) pa_nil)) (pv 6) (nomark _)) (pw_and1 (pt_cmpR (op_eqD hr.units) (pv 10) (pe_callB cr_sortedS (by rfl) T.m_sorted (by decide +kernel) (pa_cons (pv 10) pa_nil)) (nomark _))))) (pss_one (ps_expr (pe_bm PySem.F.plainAttrs_list PySem.F.slot_list_append PySem.F.type_list_append mt_append (pv 8) (pa_cons (pv 9) pa_nil)))) pss_nil))))
      (pss_one (ps_ret (pe_and (pe_cmpR (op_eqD hr.units) (pv 7) (pe_ix ix_list (pv 8) pe_int (fun _ _ => rfl)) (nomark _)) (pe_one (pe_call (ok_is_filed T) (hr.mono (by decide)) (by rfl) T.g_is_filed T.F_is_filed.kp (b_is_filed T) .nil pass0 (pa_cons (pe_meth (pe_call (ok_llaw_drawer T) (hr.mono (by decide)) (by rfl) T.g_llaw_drawer T.F_llaw_drawer.kp (b_llaw_drawer T) .nil pass0 (pa_cons (pv 4) pa_nil)) T.cl_Drawer T.M_Drawer_without (ok_Drawer_without T) (hr.mono (by decide)) (b_Drawer_without T) .nil pass0 (pa_cons (pv 7) pa_nil)) pa_nil)))))))))))))))), ?_⟩
    refine ⟨_, rfl, by show 4 ≤ sizeLine; decide, fun rw hrw => ?_⟩
    have R1 : RowAt K (upd H rw (.lst [.ref a, .int 0, .int 0, .int 0])) rw a ns := ⟨0, 0, 0, upd_same, Scr.new hS hrw, by decide, by decide⟩
    generalize upd H rw (.lst [.ref a, .int 0, .int 0, .int 0]) = H1 at *
    refine ⟨by show 5 ≤ sizeLine; decide, fun l5 hl5 => ?_⟩
    have R2 : RowAt K (upd H1 l5 (.lst (words5.map V.str))) rw a ns := R1.same (same_new hl5)
    have e5 : (upd H1 l5 (.lst (words5.map V.str))) l5 = some (.lst (words5.map V.str)) := upd_same
    have hrl : l5 ≠ rw := (R1.new hl5).1
    show tNoPart _ (upd H1 l5 (.lst (words5.map V.str))) _
    generalize upd H1 l5 (.lst (words5.map V.str)) = H2 at *
    refine ⟨_, rfl, rw, a, ns, 4, rfl, by decide, by decide, R2, fun n2 H3 hn2 b3 R3 => ?_⟩
    refine ⟨_, _, rfl, rfl, ?_⟩
    refine ⟨_, rfl, l5, words5.map V.str, rfl, b3.seq hrl (SqL.of e5), fun nl hnl => ?_⟩
    have hcut : cutV (words5.map V.str) none (some (2 + (n2 : Int))) = (words5.take (2 + n2)).map V.str := by
      have : n2 = 0 ∨ n2 = 1 ∨ n2 = 2 ∨ n2 = 3 := by omega
      rcases this with rfl | rfl | rfl | rfl <;> rfl
    rw [hcut]
    have hnl5 : ((words5.take (2 + n2)).map V.str).length = 2 + n2 := by
      rw [List.length_map, List.length_take]
      have : words5.length = 5 := rfl
      omega
    generalize hnm : words5.take (2 + n2) = nm at *
    have nm5 : ∀ x ∈ nm, x ∈ words5 := fun x hx => by
      rw [← hnm] at hx
      exact List.mem_of_mem_take hx
    have R4 : RowAt K (upd H3 nl (.lst (nm.map V.str))) rw a ns := R3.same (same_new hnl)
    have hrn : nl ≠ rw := (R3.new hnl).1
    have e4 : (upd H3 nl (.lst (nm.map V.str))) nl = some (.lst (nm.map V.str)) := upd_same
    generalize upd H3 nl (.lst (nm.map V.str)) = H4 at *
    refine ⟨_, rfl, rw, a, ns, 8, rfl, by decide, by decide, R4, fun n8 H5 hn8 b5 R5 => ?_⟩
    have e5 : H5 nl = some (.lst (nm.map V.str)) := b5 _ _ e4 hrn
    refine ⟨_, rfl, by omega, by omega, fun D hD => ?_⟩
    have hDr := R5.new hD
    have hDn : D ≠ nl := fun e => by
      rw [e, e5] at hD
      cases hD
    refine lc_it (walk_range (n := n8)) (fun i H6 => RowAt K H6 rw a ns ∧ H6 nl = some (.lst (nm.map V.str)) ∧ ∃ (hs : List Str) (xs : List V), hs.length = i ∧ (∀ h ∈ hs, h ∈ words5) ∧ H6 D = some (.lst xs) ∧ Items K H6 xs (hs.map plainCard))
      ⟨R5.same (same_new hD), kp e5 hD, [], [], rfl, (fun h (hh : h ∈ ([] : List Str)) => nomatch hh), upd_same, ⟨rfl, fun i v c h _ => by simp at h⟩⟩ (fun _ _ _ _ => trivial) (fun i x H6 H7 hi hP hy => ?_) (fun H6 hP => ?_)
    · obtain ⟨R6, e6, hs, xs, hl6, h56, d6, I6⟩ := hP
      obtain ⟨rfl, rfl⟩ := hy
      refine ⟨rfl, tYes_of ?_⟩
      refine ⟨_, rfl, _, rfl, rw, a, nl, ns, nm.map V.str, rfl, R6, SqL.of e6, hrn, by omega, by omega, fun j x H8 hj b8 R8 => ?_⟩
      obtain ⟨rwo, hrwo, imo⟩ := R6.at
      rw [List.getElem?_map] at hj
      obtain ⟨z, hz, rfl⟩ := Option.map_eq_some_iff.mp hj
      have hz5 := nm5 z (List.mem_of_getElem? hz)
      refine ⟨Nat.zero_le _, fun p1 hp1 => ?_⟩
      refine ⟨Nat.zero_le _, fun p2 hp2 => ?_⟩
      refine ⟨by show 4 ≤ sizeLine; decide, fun p3 hp3 => ?_⟩
      have s9 : Same H8 (upd H8 p1 (.tup [])) := same_new hp1
      have s10 := s9.trans (same_new (o := .tup []) hp2)
      have s11 := s10.trans (same_new (o := .tup [.str z, .ref p1, .str (Str.ofString ""), .ref p2]) hp3)
      have t1 := kp (kp (upd_same (H := H8) (a := p1) (o := .tup [])) hp2) hp3 (o' := .tup [.str z, .ref p1, .str (Str.ofString ""), .ref p2]) (o := .tup [])
      have t2 := kp (upd_same (H := upd H8 p1 (.tup [])) (a := p2) (o := .tup [])) hp3 (o' := .tup [.str z, .ref p1, .str (Str.ofString ""), .ref p2]) (o := .tup [])
      have t3 : (upd (upd (upd H8 p1 (.tup [])) p2 (.tup [])) p3 (.tup [.str z, .ref p1, .str (Str.ofString ""), .ref p2])) p3 = some (.tup [.str z, .ref p1, .str (Str.ofString ""), .ref p2]) := upd_same
      generalize upd (upd (upd H8 p1 (.tup [])) p2 (.tup [])) p3 (.tup [.str z, .ref p1, .str (Str.ofString ""), .ref p2]) = H9 at *
      have d8 : H8 D = some (.lst xs) := b8 _ _ d6 hDr.1
      have d9 := s11 _ _ d8
      have lxs : xs.length = i := by rw [I6.1, List.length_map, hl6]
      have im9 : Imm H7 H9 := (b8.imm hrwo imo).trans s11.imm
      have imD : Imm H9 (upd H9 D (.lst (xs ++ [.ref p3]))) := Imm.refl.mut d9 rfl
      refine ⟨xs, d9, sizeLine_of (by omega), (R8.same s11).mut hDr, kn (s11 _ _ (b8 _ _ e6 hrn)) hDn.symm, hs ++ [z], xs ++ [.ref p3], by rw [List.length_append, hl6]; rfl, fun h hh => ?_, upd_same, ?_⟩
      · rcases List.mem_append.mp hh with hh | hh
        · exact h56 h hh
        · rw [List.mem_singleton.mp hh]
          exact hz5
      · have I9 := I6.imm (im9.trans imD)
        refine ⟨by rw [List.length_append, List.map_append, List.length_append, I6.1]; rfl, fun m v c h1 h2 => ?_⟩
        rw [List.map_append] at h2
        by_cases hm : m < xs.length
        · rw [List.getElem?_append_left hm] at h1
          rw [List.getElem?_append_left (by rw [← I6.1]; exact hm)] at h2
          exact I9.2 m v c h1 h2
        · rw [List.getElem?_append_right (by omega)] at h1
          rw [List.getElem?_append_right (by rw [← I6.1]; omega), ← I6.1] at h2
          cases hq : m - xs.length with
          | zero =>
            rw [hq] at h1 h2
            cases h1
            cases h2
            exact ⟨p3, p1, p2, rfl, imD.seqT (SqT.of t3), imD.seqT (SqT.of t1), imD.seqT (SqT.of t2)⟩
          | succ q =>
            rw [hq] at h1
            simp at h1
    · obtain ⟨_, _, hs, xs, hln, h5, dD, I6⟩ := hP
      have lxs : xs.length = hs.length := by rw [I6.1, List.length_map]
      clear hDn hDr hD b5 R5 e5 R4 e4 hrn R3 b3 hnl hnl5 nm5 hcut R2 hrl hl5 R1 hrw
      have hl8 : hs.length ≤ 7 := by omega
      generalize hcs : hs.map plainCard = cs at *
      have hhd : heads cs = hs := by
        rw [← hcs]
        unfold heads
        rw [List.map_map]
        exact List.map_id _
      have hgood : ∀ c ∈ cs, c.Good ∧ c.also.length ≤ 1 := fun c hc => by
        rw [← hcs] at hc
        obtain ⟨h, hh, rfl⟩ := List.mem_map.mp hc
        exact ⟨plain_good h (h5 h hh), Nat.zero_le _⟩
      have lcs : cs.length = hs.length := by rw [← hcs, List.length_map]
      -- the cells of the list of cards
      have hItem : ∀ (j : Nat) (hj : j < hs.length), ∃ (t b c : Addr), xs[j]? = some (.ref t) ∧ ∀ H', Imm H6 H' → SqT K H' t [.str hs[j], .ref b, .str "", .ref c] := fun j hj => by
        have hj2 : j < xs.length := by omega
        have hcj : cs[j]? = some (plainCard hs[j]) := by
          rw [← hcs, List.getElem?_map, List.getElem?_eq_getElem hj]
          rfl
        obtain ⟨t, b, c, e, hT, _, _⟩ := I6.2 j _ _ (List.getElem?_eq_getElem hj2) hcj
        exact ⟨t, b, c, by rw [List.getElem?_eq_getElem hj2, e], fun H' im => im.seqT hT⟩
      refine ⟨Nat.zero_le _, fun lr hlr => ?_⟩
      refine ⟨_, rfl, D, xs, rfl, .inl (SqL.of (kp dD hlr)), _, rfl, by omega, by omega, for_range (n := xs.length) (fun i σ H7 => ∃ y3 y12, σ = [some (.ref a), some (.ref rw), some (.ref nl), y3, some (.ref D), some (.ref lr), none, none, none, none, none, none, y12] ∧ Same H6 H7 ∧ H7 lr = some (.lst ((lens hs i).map V.int)))
        ⟨none, none, rfl, same_new hlr, upd_same⟩ (fun i σ H7 hi hP => ?_) (fun σ H7 hP => ?_)⟩
      · obtain ⟨y3, y12, rfl, s7, el⟩ := hP
        have hih : i < hs.length := by omega
        refine ⟨_, rfl, .inl ⟨rfl, _, SqL.of el⟩, ?_⟩
        refine ⟨by show 1 ≤ sizeLine; decide, fun l0 hl0 => ?_⟩
        have s8 := s7.trans (same_new (o := .lst [.int 0]) hl0)
        have el8 : (upd H7 l0 (.lst [.int 0])) lr = some (.lst ((lens hs i).map V.int)) := kp el hl0
        have e08 : (upd H7 l0 (.lst [.int 0])) l0 = some (.lst [.int 0]) := upd_same
        have hll := lens_len hs i
        refine ⟨_, rfl, i, (by rw [Int.zero_add]), by omega, by omega, fun D2 hD2 => lc_fn (walk_range (n := i)) (by omega) hD2 (fun j => (if leS (hs[j]?.getD "") (hs[i]?.getD "") then (lens hs i)[j]? else none).map V.int) (fun _ _ => trivial) (fun j x H9 H10 hj s9 hy R R0 r1 r0 => ?_) (fun H9 s9 hd => ?_)⟩
        · obtain ⟨rfl, rfl⟩ := hy
          have hjh : j < hs.length := by omega
          obtain ⟨tj, bj, cj, hxj, hTj⟩ := hItem j hjh
          obtain ⟨ti, bi, ci, hxi, hTi⟩ := hItem i hih
          have im10 := (s8.trans s9).imm
          have hD10 := (s8.trans s9) _ _ dD
          rw [List.getElem?_eq_getElem hjh, List.getElem?_eq_getElem hih] at r1 r0
          have hg : (lens hs i)[j]? = some (lens hs i)[j] := List.getElem?_eq_getElem (by omega)
          refine ⟨rfl, ?_⟩
          refine ⟨_, rfl, _, rfl, D, xs, _, .ref tj, rfl, rfl, SqL.of hD10, (by rw [Int.zero_add]; exact atI_nat hxj), tj, _, 0, .str hs[j], rfl, rfl, hTj _ im10, rfl, ?_⟩
          refine ⟨_, rfl, _, rfl, D, xs, _, .ref ti, rfl, rfl, SqL.of hD10, (by rw [Int.zero_add]; exact atI_nat hxi), ti, _, 0, .str hs[i], rfl, rfl, hTi _ im10, rfl, ?_⟩
          refine ⟨_, _, rfl, rfl, ?_⟩
          refine ⟨_, rfl, ite2 (fun hle => ?_) (fun hle => ?_)⟩
          · refine ⟨_, rfl, _, rfl, lr, _, _, _, rfl, rfl, SqL.of (s9 _ _ el8), (by rw [Int.zero_add]; exact atI_nat (by rw [List.getElem?_map, hg]; rfl)), ?_⟩
            refine r1 _ _ ?_ (Same.refl _)
            show Option.map V.int (if leS hs[j] hs[i] = true then _ else _) = _
            rw [if_pos (show leS hs[j] hs[i] = true from hle), hg]
            rfl
          · refine r0 _ ?_ (Same.refl _)
            show Option.map V.int (if leS hs[j] hs[i] = true then _ else _) = _
            rw [if_neg (show ¬ leS hs[j] hs[i] = true from hle)]
            rfl
        · have hd2 : H9 D2 = some (.lst (((List.range i).filterMap fun j => if leS (hs[j]?.getD "") (hs[i]?.getD "") then (lens hs i)[j]? else none).map V.int)) := by
            rw [hd]
            congr 2
            rw [List.map_filterMap]
          have hpos : ∀ y ∈ (List.range i).filterMap fun j => if leS (hs[j]?.getD "") (hs[i]?.getD "") then (lens hs i)[j]? else none, 0 ≤ y := fun y hy => by
            obtain ⟨j, hj, e⟩ := List.mem_filterMap.mp hy
            split at e
            · rw [lens_at hs (List.mem_range.mp hj)] at e
              have := lenAt_pos hs j
              rw [← Option.some.inj e]
              omega
            · cases e
          have lfm : ((List.range i).filterMap fun j => if leS (hs[j]?.getD "") (hs[i]?.getD "") then (lens hs i)[j]? else none).length ≤ i := by
            have := List.length_filterMap_le (fun j => if leS (hs[j]?.getD "") (hs[i]?.getD "") then (lens hs i)[j]? else none) (List.range i)
            rw [List.length_range] at this
            exact this
          have hlen1 : lens hs (i + 1) = lens hs i ++ [maxOr 0 ((List.range i).filterMap fun j => if leS (hs[j]?.getD "") (hs[i]?.getD "") then (lens hs i)[j]? else none) + 1] := rfl
          generalize (List.range i).filterMap (fun j => if leS (hs[j]?.getD "") (hs[i]?.getD "") then (lens hs i)[j]? else none) = fm at *
          refine ⟨l0, D2, _, _, rfl, rfl, s9 _ _ e08, hd2, Nat.le_of_lt (sizeLine_of (by rw [List.length_map, List.length_singleton]; omega)), fun p hp => ?_⟩
          have s10 := (s8.trans s9).trans (same_new (o := .lst ([.int 0] ++ fm.map V.int)) hp)
          refine ⟨p, 0 :: fm, rfl, SqL.of upd_same, Nat.succ_pos _, fun m hm hge => ?_⟩
          have em : m = maxOr 0 fm := max0 hpos hm hge
          refine ⟨_, _, rfl, rfl, ?_⟩
          refine ⟨lr, _, _, rfl, rfl, kp (s9 _ _ el8) hp, sizeLine_of (by rw [List.length_map, hll]; omega), ?_⟩
          refine ⟨_, _, rfl, same_mut s10 hlr, ?_⟩
          rw [upd_same, hlen1, List.map_append, em]
          show some (HO.lst (_ ++ [V.int (1 + maxOr 0 fm)])) = some (HO.lst (_ ++ [V.int (maxOr 0 fm + 1)]))
          rw [Int.add_comm]
      · obtain ⟨y3, y12, rfl, s7, el⟩ := hP
        have dD7 := s7 _ _ dD
        have hll := lens_len hs xs.length
        refine ⟨_, rfl, D, xs, rfl, .inl (SqL.of dD7), ?_⟩
        refine ⟨by show 1 ≤ sizeLine; decide, fun l0 hl0 => ?_⟩
        refine ⟨_, rfl, l0, lr, _, _, rfl, rfl, upd_same, kp el hl0, Nat.le_of_lt (sizeLine_of (by rw [List.length_map, List.length_singleton]; omega)), fun p hp => ?_⟩
        have s8 := (s7.trans (same_new (o := .lst [.int 0]) hl0)).trans (same_new (o := .lst ([.int 0] ++ (lens hs xs.length).map V.int)) hp)
        refine ⟨p, 0 :: lens hs xs.length, rfl, SqL.of upd_same, Nat.succ_pos _, fun m hm hge => ?_⟩
        have em : m = M hs := by
          have q := max0 (fm := lens hs xs.length) (fun y hy => by
            obtain ⟨j, hj, e⟩ := List.mem_iff_getElem.mp hy
            have e2 := List.getElem?_eq_getElem hj
            rw [lens_at hs (by omega)] at e2
            have := lenAt_pos hs j
            rw [← e, ← Option.some.inj e2]
            omega) hm hge
          rw [lxs] at q
          exact q
        obtain ⟨g1, g2, g3⟩ := out_good hs
        have hdue : ((outOf hs).length : Int) = (xs.length : Int) - m := by rw [em, lxs, g3]
        refine rI0_to (v := .int ((outOf hs).length : Nat)) (congrArg V.int hdue.symm) ?_
        generalize upd (upd H7 l0 (.lst [.int 0])) p (.lst ([.int 0] ++ (lens hs xs.length).map V.int)) = H8 at *
        refine ⟨_, rfl, D, xs, cs, rfl, SqL.of (s8 _ _ dD), I6.imm s8.imm, hgood, by omega, fun q H9 s9 dq => ?_⟩
        refine ⟨q, cs, rfl, dq, by omega, fun t H10 s10 tn te => ?_⟩
        rw [hhd] at te
        have s69 := (s8.trans s9).trans s10
        have hT : SqT K H10 t ((outOf hs).map V.int) := SqT.of te
        have hM0 : 0 ≤ M hs := (most_spec hs).2 [] (List.nil_sublist _) List.Pairwise.nil
        have lout : (outOf hs).length ≤ 7 := by omega
        refine ⟨_, rfl, t, _, rfl, .inr hT, ?_⟩
        refine ⟨_, rfl, rNe_to (b := false) rfl (by rw [List.length_map, decide_eq_true rfl]; rfl) ?_⟩
        refine ⟨_, rfl, iteF ?_⟩
        refine ⟨_, rfl, _, rfl, t, outOf hs, rfl, hT, by omega, fun ps ks hps hnd hks => ?_⟩
        have lks : ks.length = (outOf hs).length := nodup_len hnd (g1.1.imp fun h e => by omega) hks
        refine ⟨ps, _, ks.length, rfl, upd_same, by omega, fun ns' p2 hpw hmem hlen hp2 => ?_⟩
        have ens : ns' = outOf hs := asc_eq hpw g1.1 fun k => by rw [hmem k, decide_eq_true_eq]
        subst ens
        refine ⟨p2, _, rfl, .inl ⟨SqL.of upd_same, fun l6 hl6 => ?_⟩⟩
        have s70 := ((same_new (o := SetO ((cxOf CX0 P w K mg base N_law (Str.ofString "law") (defScope s_law) T.a_law cdv A outer s H E).nox.w) ps (fun j => decide (j ∈ outOf hs)) ks.length) hps).trans (same_new (o := .lst ((outOf hs).map V.int)) hp2)).trans (same_new (o := .tup ((outOf hs).map V.int)) hl6)
        refine rNeD_to (b := false) (dp_tInts (s70.seqT hT)) (dp_tInts (SqT.of upd_same)) (sh_tInts _) (sh_tInts _) (by
          have q : PyData.eqv (.tuple ((outOf hs).map PyData.int)) (.tuple ((outOf hs).map PyData.int)) = decide (outOf hs = outOf hs) := eqv_ints _ _
          rw [q, decide_eq_true rfl]
          rfl) ?_
        refine ⟨_, rfl, iteF ?_⟩
        have s12 := s69.trans s70
        have hT12 := s70.seqT hT
        generalize upd (upd (upd H10 ps (SetO ((cxOf CX0 P w K mg base N_law (Str.ofString "law") (defScope s_law) T.a_law cdv A outer s H E).nox.w) ps (fun j => decide (j ∈ outOf hs)) ks.length)) p2 (.lst ((outOf hs).map V.int))) l6 (.tup ((outOf hs).map V.int)) = H12 at *
        refine ⟨Nat.zero_le _, fun lg hlg => ?_⟩
        have s13 := s12.trans (same_new (o := .lst []) hlg)
        have eg13 : (upd H12 lg (.lst [])) lg = some (.lst []) := upd_same
        have s1213 : Same H12 (upd H12 lg (.lst [])) := same_new hlg
        generalize upd H12 lg (.lst []) = H13 at *
        refine ⟨_, rfl, D, xs, rfl, .inl (SqL.of (s13 _ _ dD)), _, rfl, xs.length, (outOf hs).length, rfl, by omega, by omega, fun ls sx H14 s14 hls els tups => ?_⟩
        rw [lxs] at tups
        have hlsg : ls ≠ lg := fun e => by
          rw [e, eg13] at hls
          cases hls
        refine ⟨ls, rfl, ⟨_, SqL.of els⟩, for_list (K := K) (a := ls) (xs := sx) (fun i σ H15 => ∃ (y9 y10 y11 : Option V) (xg : List V), σ = [some (.ref a), some (.ref rw), some (.ref nl), y3, some (.ref D), some (.ref lr), some (.int ((outOf hs).length : Nat)), some (.ref t), some (.ref lg), y9, y10, y11, y12] ∧ Same H12 H15 ∧ Imm H14 H15 ∧ H15 ls = some (.lst sx) ∧ H15 lg = some (.lst xg) ∧ Tups K H15 xg (((setsUp hs.length (outOf hs).length).take i).filter fun p => decide (p.length = (outOf hs).length) && risesBy (lessAt hs p)))
          ⟨none, none, none, [], rfl, s1213.trans s14, Imm.refl, els, s14 _ _ eg13, Tups.nil⟩ (fun i σ H15 _ ⟨_, _, _, _, _, _, _, e, _⟩ => SqL.of e) (fun i x σ H15 hi hP => ?_) (fun σ H15 hP => ?_)⟩
        · obtain ⟨y9, y10, y11, xg, rfl, s15, i15, els15, eg15, tg⟩ := hP
          have hi2 : i < (setsUp hs.length (outOf hs).length).length := by
            rw [← tups.1]
            exact (List.getElem?_eq_some_iff.mp hi).1
          obtain ⟨tp, rfl, hTp⟩ := tups.2 i x _ hi (List.getElem?_eq_getElem hi2)
          have htk : (setsUp hs.length (outOf hs).length).take (i + 1) = (setsUp hs.length (outOf hs).length).take i ++ [(setsUp hs.length (outOf hs).length)[i]] := by
            rw [List.take_add_one, List.getElem?_eq_getElem hi2]
            rfl
          have hpl := sets_len _ (List.getElem_mem hi2)
          generalize (setsUp hs.length (outOf hs).length)[i] = p at *
          have s615 := s12.trans s15
          have hTp15 := i15.seqT hTp
          refine ⟨_, rfl, _, rfl, D, tp, xs, p, rfl, SqL.of (s615 _ _ dD), hTp15, by omega, fun D3 H16 s16 hD3 eD3 => ?_⟩
          have hit := less_item (xs := xs) (ys := hs) (by omega) (Φ := fun v h => ∃ tv bv cv : Addr, v = .ref tv ∧ ∀ H', Imm H6 H' → SqT K H' tv [.str h, .ref bv, .str "", .ref cv]) (fun j v h h1 h2 => by
            have hj := (List.getElem?_eq_some_iff.mp h2).1
            obtain ⟨tv, bv, cv, e1, e2⟩ := hItem j hj
            rw [h1] at e1
            rw [List.getElem?_eq_getElem hj] at h2
            obtain rfl := Option.some.inj h2
            exact ⟨tv, bv, cv, Option.some.inj e1, e2⟩) p
          refine ⟨D3, rfl, ⟨_, SqL.of eD3⟩, fun D4 hD4 => lc_map (walk_list (xs := lessAt xs p)) (by have := lessAt_len xs p; omega) hD4 (fun j => V.str ((lessAt hs p)[j]?.getD "")) (fun H17 s17 => SqL.of (s17 _ _ eD3)) (fun j v H17 H18 hj s17 hy R r => ?_) (fun H17 s17 hd => ?_) gName_mono⟩
          · obtain ⟨rfl, hv⟩ := hy
            obtain ⟨h, hh, tv, bv, cv, rfl, hTv⟩ := hit.2 j v hv
            refine ⟨rfl, ?_⟩
            refine ⟨_, rfl, tv, _, 0, .str h, rfl, rfl, hTv _ ((s615.trans s16).trans s17).imm, rfl, ?_⟩
            have z := r _ (Same.refl _)
            rw [hh] at z
            exact z
          · have el : (List.range (lessAt xs p).length).map (fun j => V.str ((lessAt hs p)[j]?.getD "")) = (lessAt hs p).map V.str := by
              rw [hit.1]
              exact range_map (lessAt hs p) _ _ fun i x h => by rw [h]; rfl
            rw [el] at hd
            have hlo : ∀ x ∈ lessAt hs p, x ∈ words5 := fun x hx => h5 x (lessAt_sub hx)
            have llo : (lessAt hs p).length ≤ 7 := Nat.le_trans (lessAt_len hs p) hl8
            have s1517 := s16.trans s17
            have iFin : ∀ {H' : Hp}, Same H17 H' → Same H15 H' := fun z => s1517.trans z
            refine ⟨_, rfl, tp, _, rfl, .inr (s1517.seqT hTp15), ?_⟩
            by_cases hpd : p.length = (outOf hs).length
            · refine ⟨_, rfl, rEq_to (b := true) rfl (decide_eq_true (by rw [List.length_map, hpd])) ?_⟩
              refine ⟨_, rfl, iteT ?_⟩
              refine ⟨_, rfl, _, rfl, D4, lessAt hs p, rfl, SqL.of hd, by omega, fun ys p5 hperm hsort hp5 => ?_⟩
              have s18 : Same H17 (upd H17 p5 (.lst (ys.map V.str))) := same_new hp5
              refine rEqD_to (b := risesBy (lessAt hs p)) (dp_lStrs (SqL.of (s18 _ _ hd))) (dp_lStrs (SqL.of upd_same)) (sh_lStrs _ (words_ok hlo)) (sh_lStrs _ (words_ok fun x hx => hlo x (hperm.mem_iff.mp hx))) (by
                have q : PyData.eqv (.list ((lessAt hs p).map PyData.str)) (.list (ys.map PyData.str)) = decide (lessAt hs p = ys) := eqv_strs _ _
                rw [q, sorted_iff hperm hsort]) ?_
              have s1518 := iFin s18
              refine ⟨_, rfl, ite2 (fun hr1 => ?_) (fun hr1 => ?_)⟩
              · refine ⟨_, rfl, .inl ⟨rfl, _, SqL.of (s1518 _ _ eg15)⟩, ?_⟩
                have lxg : xg.length ≤ 1000 := by
                  rw [tg.1]
                  refine Nat.le_trans (List.length_filter_le _ _) ?_
                  rw [List.length_take]
                  have := (lev_le (m := hs.length) (j := (outOf hs).length) (by omega) (by omega)).2
                  omega
                refine ⟨_, rfl, lg, _, _, rfl, rfl, s1518 _ _ eg15, sizeLine_of (by omega), ?_⟩
                have imx : Imm H15 (upd (upd H17 p5 (.lst (ys.map V.str))) lg (.lst (xg ++ [.ref tp]))) := s1518.imm.mut (s1518 _ _ eg15) rfl
                refine ⟨_, _, _, _, rfl, same_mut (s15.trans s1518) hlg, i15.trans imx, kn (s1518 _ _ els15) hlsg, upd_same, ?_⟩
                rw [htk, List.filter_append]
                have e1 : [p].filter (fun p => decide (p.length = (outOf hs).length) && risesBy (lessAt hs p)) = [p] := by
                  rw [List.filter_cons, decide_eq_true hpd, show risesBy (lessAt hs p) = true from hr1]
                  rfl
                rw [e1]
                exact (tg.imm imx).app (Tups.cons (imx.seqT hTp15) Tups.nil)
              · refine ⟨_, _, _, xg, rfl, s15.trans s1518, i15.trans s1518.imm, s1518 _ _ els15, s1518 _ _ eg15, ?_⟩
                rw [htk, List.filter_append]
                have e1 : [p].filter (fun p => decide (p.length = (outOf hs).length) && risesBy (lessAt hs p)) = [] := by
                  rw [List.filter_cons, decide_eq_true hpd, Bool.true_and, if_neg hr1]
                  rfl
                rw [e1, List.append_nil]
                exact tg.imm s1518.imm
            · refine ⟨_, rfl, rEq_to (b := false) rfl (decide_eq_false (fun z => hpd (by
                have z2 := V.int.inj z
                rw [List.length_map] at z2
                omega))) ?_⟩
              refine ⟨_, rfl, iteF ?_⟩
              refine iteF ?_
              refine ⟨_, _, _, xg, rfl, s15.trans s1517, i15.trans s1517.imm, s1517 _ _ els15, s1517 _ _ eg15, ?_⟩
              rw [htk, List.filter_append]
              have e1 : [p].filter (fun p => decide (p.length = (outOf hs).length) && risesBy (lessAt hs p)) = [] := by
                rw [List.filter_cons, decide_eq_false hpd, Bool.false_and]
                rfl
              rw [e1, List.append_nil]
              exact tg.imm s1517.imm
        · obtain ⟨y9, y10, y11, xg, rfl, s15, i15, els15, eg15, tg⟩ := hP
          rw [tups.1, List.take_length] at tg
          obtain ⟨rest, hrest⟩ := first_good hs (outOf hs).length g3 (fun p => risesBy (lessAt hs p)) (fun p _ => rises_iff _)
          rw [hrest] at tg
          obtain ⟨v0, xr, rfl⟩ : ∃ v0 xr, xg = v0 :: xr := by
            cases xg with
            | nil => have := tg.1; simp at this
            | cons v0 xr => exact ⟨v0, xr, rfl⟩
          obtain ⟨tp, rfl, hTp⟩ := tg.2 0 v0 _ rfl rfl
          have s615 := s12.trans s15
          refine ⟨_, rfl, _, rfl, lg, _, 0, .ref tp, rfl, rfl, SqL.of eg15, atI_nat (j := 0) rfl, ?_⟩
          refine rEqD_to (b := true) (dp_tInts (s15.seqT hT12)) (dp_tInts hTp) (sh_tInts _) (sh_tInts _) (by
            have q : PyData.eqv (.tuple ((outOf hs).map PyData.int)) (.tuple ((outOf hs).map PyData.int)) = decide (outOf hs = outOf hs) := eqv_ints _ _
            rw [q, decide_eq_true rfl]) ?_
          refine ⟨_, rfl, iteT ?_⟩
          refine ⟨_, rfl, D, xs, cs, rfl, SqL.of (s615 _ _ dD), I6.imm s615.imm, hgood, by omega, fun q2 H16 s16 dq2 => ?_⟩
          have dq3 := dq2
          obtain ⟨dx, tq, psq, hq, _, _⟩ := dq3
          refine ⟨q2, dx, _, rfl, hq, rfl, ?_⟩
          refine ⟨_, rfl, q2, t, cs, outOf hs, rfl, dq2, by omega, s16.seqT (s15.seqT hT12), by omega, g1.1.imp (fun h e => by omega), (fun z hz => by
            have := g1.2 z hz
            omega), fun q3 H17 s17 dq4 => ?_⟩
          have hle := lessAt_len cs (outOf hs)
          refine ⟨q3, _, rfl, dq4, by omega, fun H18 s18 => ?_⟩
          have e : heads (lessAt cs (outOf hs)) = lessAt hs (outOf hs) := by
            rw [← hhd]
            exact (lessAt_map CD.heading cs (outOf (heads cs))).symm
          rw [e, (rises_iff _).mpr g2]
          exact k H18
end
end
end My
namespace My
open PySem L2
theorem all_mk {l : PySem.W.OpenLaw} {w : World} {K : PySem.W.Frag} {h : Heap} {mg : Str → Option Value} {fa : Addr}
    {t_LETTERS : Tok} {t_LONGEST_WORD : Tok} {t_MOST_CARDS : Tok} {t_MOST_BOOKS : Tok} {t_LAST_BOOK : Tok} {t_MOST_ALSO : Tok} {f_is_word : Addr} {oc_is_word : Value} {od_is_word : Option Addr} {an_is_word : Option Addr} {sl_is_word : Array (Option Value)} {kV_is_word : Value} {dc_is_word : Value} {pm_is_word : Value} {cd_is_word : Value} {ct_is_word : Value} {f_is_number : Addr} {oc_is_number : Value} {od_is_number : Option Addr} {an_is_number : Option Addr} {sl_is_number : Array (Option Value)} {kV_is_number : Value} {dc_is_number : Value} {pm_is_number : Value} {cd_is_number : Value} {ct_is_number : Value} {f_check_place : Addr} {oc_check_place : Value} {od_check_place : Option Addr} {an_check_place : Option Addr} {sl_check_place : Array (Option Value)} {kV_check_place : Value} {dc_check_place : Value} {pm_check_place : Value} {cd_check_place : Value} {ct_check_place : Value} {f_Drawer_init : Addr} {oc_Drawer_init : Value} {od_Drawer_init : Option Addr} {an_Drawer_init : Option Addr} {sl_Drawer_init : Array (Option Value)} {kV_Drawer_init : Value} {dc_Drawer_init : Value} {pm_Drawer_init : Value} {cd_Drawer_init : Value} {ct_Drawer_init : Value} {f_Drawer_cards : Addr} {oc_Drawer_cards : Value} {od_Drawer_cards : Option Addr} {an_Drawer_cards : Option Addr} {sl_Drawer_cards : Array (Option Value)} {kV_Drawer_cards : Value} {dc_Drawer_cards : Value} {pm_Drawer_cards : Value} {cd_Drawer_cards : Value} {ct_Drawer_cards : Value} {f_Drawer_without : Addr} {oc_Drawer_without : Value} {od_Drawer_without : Option Addr} {an_Drawer_without : Option Addr} {sl_Drawer_without : Array (Option Value)} {kV_Drawer_without : Value} {dc_Drawer_without : Value} {pm_Drawer_without : Value} {cd_Drawer_without : Value} {ct_Drawer_without : Value} {f_headings_along : Addr} {oc_headings_along : Value} {od_headings_along : Option Addr} {an_headings_along : Option Addr} {sl_headings_along : Array (Option Value)} {kV_headings_along : Value} {dc_headings_along : Value} {pm_headings_along : Value} {cd_headings_along : Value} {ct_headings_along : Value} {f_is_filed : Addr} {oc_is_filed : Value} {od_is_filed : Option Addr} {an_is_filed : Option Addr} {sl_is_filed : Array (Option Value)} {kV_is_filed : Value} {dc_is_filed : Value} {pm_is_filed : Value} {cd_is_filed : Value} {ct_is_filed : Value} {f_most_in_order : Addr} {oc_most_in_order : Value} {od_most_in_order : Option Addr} {an_most_in_order : Option Addr} {sl_most_in_order : Array (Option Value)} {kV_most_in_order : Value} {dc_most_in_order : Value} {pm_most_in_order : Value} {cd_most_in_order : Value} {ct_most_in_order : Value} {f_out_of_order : Addr} {oc_out_of_order : Value} {od_out_of_order : Option Addr} {an_out_of_order : Option Addr} {sl_out_of_order : Array (Option Value)} {kV_out_of_order : Value} {dc_out_of_order : Value} {pm_out_of_order : Value} {cd_out_of_order : Value} {ct_out_of_order : Value} {f_are_books : Addr} {oc_are_books : Value} {od_are_books : Option Addr} {an_are_books : Option Addr} {sl_are_books : Array (Option Value)} {kV_are_books : Value} {dc_are_books : Value} {pm_are_books : Value} {cd_are_books : Value} {ct_are_books : Value} {f_is_target : Addr} {oc_is_target : Value} {od_is_target : Option Addr} {an_is_target : Option Addr} {sl_is_target : Array (Option Value)} {kV_is_target : Value} {dc_is_target : Value} {pm_is_target : Value} {cd_is_target : Value} {ct_is_target : Value} {f_are_further : Addr} {oc_are_further : Value} {od_are_further : Option Addr} {an_are_further : Option Addr} {sl_are_further : Array (Option Value)} {kV_are_further : Value} {dc_are_further : Value} {pm_are_further : Value} {cd_are_further : Value} {ct_are_further : Value} {f_wrong_part : Addr} {oc_wrong_part : Value} {od_wrong_part : Option Addr} {an_wrong_part : Option Addr} {sl_wrong_part : Array (Option Value)} {kV_wrong_part : Value} {dc_wrong_part : Value} {pm_wrong_part : Value} {cd_wrong_part : Value} {ct_wrong_part : Value} {f_Card_init : Addr} {de_Card_init_0 : Addr} {de_Card_init_2 : Addr} {oc_Card_init : Value} {od_Card_init : Option Addr} {an_Card_init : Option Addr} {sl_Card_init : Array (Option Value)} {kV_Card_init : Value} {dc_Card_init : Value} {pm_Card_init : Value} {cd_Card_init : Value} {ct_Card_init : Value} {dT_Card_init : Addr} {dc0_Card_init : Value} {dd_Card_init : Option Addr} {dn_Card_init : Nat} {ds_Card_init : Array (Option Value)} {du_Card_init_1 : Tok} {f_Card_heading : Addr} {oc_Card_heading : Value} {od_Card_heading : Option Addr} {an_Card_heading : Option Addr} {sl_Card_heading : Array (Option Value)} {kV_Card_heading : Value} {dc_Card_heading : Value} {pm_Card_heading : Value} {cd_Card_heading : Value} {ct_Card_heading : Value} {f_llaw_taken : Addr} {oc_llaw_taken : Value} {od_llaw_taken : Option Addr} {an_llaw_taken : Option Addr} {sl_llaw_taken : Array (Option Value)} {kV_llaw_taken : Value} {dc_llaw_taken : Value} {pm_llaw_taken : Value} {cd_llaw_taken : Value} {ct_llaw_taken : Value} {f_llaw_pick : Addr} {oc_llaw_pick : Value} {od_llaw_pick : Option Addr} {an_llaw_pick : Option Addr} {sl_llaw_pick : Array (Option Value)} {kV_llaw_pick : Value} {dc_llaw_pick : Value} {pm_llaw_pick : Value} {cd_llaw_pick : Value} {ct_llaw_pick : Value} {f_llaw_drawer : Addr} {oc_llaw_drawer : Value} {od_llaw_drawer : Option Addr} {an_llaw_drawer : Option Addr} {sl_llaw_drawer : Array (Option Value)} {kV_llaw_drawer : Value} {dc_llaw_drawer : Value} {pm_llaw_drawer : Value} {cd_llaw_drawer : Value} {ct_llaw_drawer : Value} {f_llaw_less : Addr} {oc_llaw_less : Value} {od_llaw_less : Option Addr} {an_llaw_less : Option Addr} {sl_llaw_less : Array (Option Value)} {kV_llaw_less : Value} {dc_llaw_less : Value} {pm_llaw_less : Value} {cd_llaw_less : Value} {ct_llaw_less : Value} {f_llaw_sets : Addr} {oc_llaw_sets : Value} {od_llaw_sets : Option Addr} {an_llaw_sets : Option Addr} {sl_llaw_sets : Array (Option Value)} {kV_llaw_sets : Value} {dc_llaw_sets : Value} {pm_llaw_sets : Value} {cd_llaw_sets : Value} {ct_llaw_sets : Value} {f_law : Addr} {oc_law : Value} {od_law : Option Addr} {an_law : Option Addr} {sl_law : Array (Option Value)} {kV_law : Value} {dc_law : Value} {pm_law : Value} {cd_law : Value} {ct_law : Value} {C_Drawer : Addr} {pr_Drawer_cards : Addr} {ps_Drawer_cards : List Value} {C_Card : Addr} {pr_Card_heading : Addr} {ps_Card_heading : List Value}
    (X : K.In h) (G : h.Ns mainGlobals mg) (hfa : mg "law" = some (.ref fa))
    (z_all : PySem.W.nsIn K mainGlobals "all" = some none)
    (z_bool : PySem.W.nsIn K mainGlobals "bool" = some none)
    (z_enumerate : PySem.W.nsIn K mainGlobals "enumerate" = some none)
    (z_int : PySem.W.nsIn K mainGlobals "int" = some none)
    (z_isinstance : PySem.W.nsIn K mainGlobals "isinstance" = some none)
    (z_len : PySem.W.nsIn K mainGlobals "len" = some none)
    (z_max : PySem.W.nsIn K mainGlobals "max" = some none)
    (z_range : PySem.W.nsIn K mainGlobals "range" = some none)
    (z_set : PySem.W.nsIn K mainGlobals "set" = some none)
    (z_sorted : PySem.W.nsIn K mainGlobals "sorted" = some none)
    (z_str : PySem.W.nsIn K mainGlobals "str" = some none)
    (z_tuple : PySem.W.nsIn K mainGlobals "tuple" = some none)
    (z_zip : PySem.W.nsIn K mainGlobals "zip" = some none)
    (zc_LETTERS : PySem.W.nsIn K mainGlobals "LETTERS" = some (some (.str "abcdefghijklmnopqrstuvwxyz" t_LETTERS)))
    (zc_LONGEST_WORD : PySem.W.nsIn K mainGlobals "LONGEST_WORD" = some (some (.int (8) t_LONGEST_WORD)))
    (zc_MOST_CARDS : PySem.W.nsIn K mainGlobals "MOST_CARDS" = some (some (.int (16) t_MOST_CARDS)))
    (zc_MOST_BOOKS : PySem.W.nsIn K mainGlobals "MOST_BOOKS" = some (some (.int (6) t_MOST_BOOKS)))
    (zc_LAST_BOOK : PySem.W.nsIn K mainGlobals "LAST_BOOK" = some (some (.int (999) t_LAST_BOOK)))
    (zc_MOST_ALSO : PySem.W.nsIn K mainGlobals "MOST_ALSO" = some (some (.int (4) t_MOST_ALSO)))
    (l_is_word : K.lookup f_is_word = some ⟨oc_is_word, od_is_word, .func (PySem.W.fnOf "is_word" "is_word" (defArgs s_is_word) (defBody s_is_word) (defScope s_is_word) .none kV_is_word dc_is_word pm_is_word an_is_word cd_is_word ct_is_word), sl_is_word⟩)
    (c_is_word : PySem.W.codeIn K cd_is_word "is_word" = true)
    (k_is_word : PySem.W.keepIn K (.ref f_is_word) = true)
    (n_is_word : PySem.W.nsIn K mainGlobals "is_word" = some (some (.ref f_is_word)))
    (l_is_number : K.lookup f_is_number = some ⟨oc_is_number, od_is_number, .func (PySem.W.fnOf "is_number" "is_number" (defArgs s_is_number) (defBody s_is_number) (defScope s_is_number) .none kV_is_number dc_is_number pm_is_number an_is_number cd_is_number ct_is_number), sl_is_number⟩)
    (c_is_number : PySem.W.codeIn K cd_is_number "is_number" = true)
    (k_is_number : PySem.W.keepIn K (.ref f_is_number) = true)
    (n_is_number : PySem.W.nsIn K mainGlobals "is_number" = some (some (.ref f_is_number)))
    (l_check_place : K.lookup f_check_place = some ⟨oc_check_place, od_check_place, .func (PySem.W.fnOf "check_place" "check_place" (defArgs s_check_place) (defBody s_check_place) (defScope s_check_place) .none kV_check_place dc_check_place pm_check_place an_check_place cd_check_place ct_check_place), sl_check_place⟩)
    (c_check_place : PySem.W.codeIn K cd_check_place "check_place" = true)
    (k_check_place : PySem.W.keepIn K (.ref f_check_place) = true)
    (n_check_place : PySem.W.nsIn K mainGlobals "check_place" = some (some (.ref f_check_place)))
    (l_Drawer_init : K.lookup f_Drawer_init = some ⟨oc_Drawer_init, od_Drawer_init, .func (PySem.W.fnOf "__init__" "Drawer.__init__" (defArgs s_Drawer_init) (defBody s_Drawer_init) (defScope s_Drawer_init) .none kV_Drawer_init dc_Drawer_init pm_Drawer_init an_Drawer_init cd_Drawer_init ct_Drawer_init), sl_Drawer_init⟩)
    (c_Drawer_init : PySem.W.codeIn K cd_Drawer_init "Drawer.__init__" = true)
    (k_Drawer_init : PySem.W.keepIn K (.ref f_Drawer_init) = true)
    (l_Drawer_cards : K.lookup f_Drawer_cards = some ⟨oc_Drawer_cards, od_Drawer_cards, .func (PySem.W.fnOf "cards" "Drawer.cards" (defArgs s_Drawer_cards) (defBody s_Drawer_cards) (defScope s_Drawer_cards) .none kV_Drawer_cards dc_Drawer_cards pm_Drawer_cards an_Drawer_cards cd_Drawer_cards ct_Drawer_cards), sl_Drawer_cards⟩)
    (c_Drawer_cards : PySem.W.codeIn K cd_Drawer_cards "Drawer.cards" = true)
    (k_Drawer_cards : PySem.W.keepIn K (.ref f_Drawer_cards) = true)
    (l_Drawer_without : K.lookup f_Drawer_without = some ⟨oc_Drawer_without, od_Drawer_without, .func (PySem.W.fnOf "without" "Drawer.without" (defArgs s_Drawer_without) (defBody s_Drawer_without) (defScope s_Drawer_without) .none kV_Drawer_without dc_Drawer_without pm_Drawer_without an_Drawer_without cd_Drawer_without ct_Drawer_without), sl_Drawer_without⟩)
    (c_Drawer_without : PySem.W.codeIn K cd_Drawer_without "Drawer.without" = true)
    (k_Drawer_without : PySem.W.keepIn K (.ref f_Drawer_without) = true)
    (l_headings_along : K.lookup f_headings_along = some ⟨oc_headings_along, od_headings_along, .func (PySem.W.fnOf "headings_along" "headings_along" (defArgs s_headings_along) (defBody s_headings_along) (defScope s_headings_along) .none kV_headings_along dc_headings_along pm_headings_along an_headings_along cd_headings_along ct_headings_along), sl_headings_along⟩)
    (c_headings_along : PySem.W.codeIn K cd_headings_along "headings_along" = true)
    (k_headings_along : PySem.W.keepIn K (.ref f_headings_along) = true)
    (n_headings_along : PySem.W.nsIn K mainGlobals "headings_along" = some (some (.ref f_headings_along)))
    (l_is_filed : K.lookup f_is_filed = some ⟨oc_is_filed, od_is_filed, .func (PySem.W.fnOf "is_filed" "is_filed" (defArgs s_is_filed) (defBody s_is_filed) (defScope s_is_filed) .none kV_is_filed dc_is_filed pm_is_filed an_is_filed cd_is_filed ct_is_filed), sl_is_filed⟩)
    (c_is_filed : PySem.W.codeIn K cd_is_filed "is_filed" = true)
    (k_is_filed : PySem.W.keepIn K (.ref f_is_filed) = true)
    (n_is_filed : PySem.W.nsIn K mainGlobals "is_filed" = some (some (.ref f_is_filed)))
    (l_most_in_order : K.lookup f_most_in_order = some ⟨oc_most_in_order, od_most_in_order, .func (PySem.W.fnOf "most_in_order" "most_in_order" (defArgs s_most_in_order) (defBody s_most_in_order) (defScope s_most_in_order) .none kV_most_in_order dc_most_in_order pm_most_in_order an_most_in_order cd_most_in_order ct_most_in_order), sl_most_in_order⟩)
    (c_most_in_order : PySem.W.codeIn K cd_most_in_order "most_in_order" = true)
    (k_most_in_order : PySem.W.keepIn K (.ref f_most_in_order) = true)
    (n_most_in_order : PySem.W.nsIn K mainGlobals "most_in_order" = some (some (.ref f_most_in_order)))
    (l_out_of_order : K.lookup f_out_of_order = some ⟨oc_out_of_order, od_out_of_order, .func (PySem.W.fnOf "out_of_order" "out_of_order" (defArgs s_out_of_order) (defBody s_out_of_order) (defScope s_out_of_order) .none kV_out_of_order dc_out_of_order pm_out_of_order an_out_of_order cd_out_of_order ct_out_of_order), sl_out_of_order⟩)
    (c_out_of_order : PySem.W.codeIn K cd_out_of_order "out_of_order" = true)
    (k_out_of_order : PySem.W.keepIn K (.ref f_out_of_order) = true)
    (n_out_of_order : PySem.W.nsIn K mainGlobals "out_of_order" = some (some (.ref f_out_of_order)))
    (l_are_books : K.lookup f_are_books = some ⟨oc_are_books, od_are_books, .func (PySem.W.fnOf "are_books" "are_books" (defArgs s_are_books) (defBody s_are_books) (defScope s_are_books) .none kV_are_books dc_are_books pm_are_books an_are_books cd_are_books ct_are_books), sl_are_books⟩)
    (c_are_books : PySem.W.codeIn K cd_are_books "are_books" = true)
    (k_are_books : PySem.W.keepIn K (.ref f_are_books) = true)
    (n_are_books : PySem.W.nsIn K mainGlobals "are_books" = some (some (.ref f_are_books)))
    (l_is_target : K.lookup f_is_target = some ⟨oc_is_target, od_is_target, .func (PySem.W.fnOf "is_target" "is_target" (defArgs s_is_target) (defBody s_is_target) (defScope s_is_target) .none kV_is_target dc_is_target pm_is_target an_is_target cd_is_target ct_is_target), sl_is_target⟩)
    (c_is_target : PySem.W.codeIn K cd_is_target "is_target" = true)
    (k_is_target : PySem.W.keepIn K (.ref f_is_target) = true)
    (n_is_target : PySem.W.nsIn K mainGlobals "is_target" = some (some (.ref f_is_target)))
    (l_are_further : K.lookup f_are_further = some ⟨oc_are_further, od_are_further, .func (PySem.W.fnOf "are_further" "are_further" (defArgs s_are_further) (defBody s_are_further) (defScope s_are_further) .none kV_are_further dc_are_further pm_are_further an_are_further cd_are_further ct_are_further), sl_are_further⟩)
    (c_are_further : PySem.W.codeIn K cd_are_further "are_further" = true)
    (k_are_further : PySem.W.keepIn K (.ref f_are_further) = true)
    (n_are_further : PySem.W.nsIn K mainGlobals "are_further" = some (some (.ref f_are_further)))
    (l_wrong_part : K.lookup f_wrong_part = some ⟨oc_wrong_part, od_wrong_part, .func (PySem.W.fnOf "wrong_part" "wrong_part" (defArgs s_wrong_part) (defBody s_wrong_part) (defScope s_wrong_part) .none kV_wrong_part dc_wrong_part pm_wrong_part an_wrong_part cd_wrong_part ct_wrong_part), sl_wrong_part⟩)
    (c_wrong_part : PySem.W.codeIn K cd_wrong_part "wrong_part" = true)
    (k_wrong_part : PySem.W.keepIn K (.ref f_wrong_part) = true)
    (n_wrong_part : PySem.W.nsIn K mainGlobals "wrong_part" = some (some (.ref f_wrong_part)))
    (l_Card_init : K.lookup f_Card_init = some ⟨oc_Card_init, od_Card_init, .func (PySem.W.fnOf "__init__" "Card.__init__" (defArgs s_Card_init) (defBody s_Card_init) (defScope s_Card_init) (.ref dT_Card_init) kV_Card_init dc_Card_init pm_Card_init an_Card_init cd_Card_init ct_Card_init), sl_Card_init⟩)
    (c_Card_init : PySem.W.codeIn K cd_Card_init "Card.__init__" = true)
    (k_Card_init : PySem.W.keepIn K (.ref f_Card_init) = true)
    (dk_Card_init : K.lookup dT_Card_init = some ⟨dc0_Card_init, dd_Card_init, .seq #[.ref de_Card_init_0, .str "" du_Card_init_1, .ref de_Card_init_2] dn_Card_init, ds_Card_init⟩)
    (l_Card_heading : K.lookup f_Card_heading = some ⟨oc_Card_heading, od_Card_heading, .func (PySem.W.fnOf "heading" "Card.heading" (defArgs s_Card_heading) (defBody s_Card_heading) (defScope s_Card_heading) .none kV_Card_heading dc_Card_heading pm_Card_heading an_Card_heading cd_Card_heading ct_Card_heading), sl_Card_heading⟩)
    (c_Card_heading : PySem.W.codeIn K cd_Card_heading "Card.heading" = true)
    (k_Card_heading : PySem.W.keepIn K (.ref f_Card_heading) = true)
    (l_llaw_taken : K.lookup f_llaw_taken = some ⟨oc_llaw_taken, od_llaw_taken, .func (PySem.W.fnOf "_law_taken" "_law_taken" (defArgs s_llaw_taken) (defBody s_llaw_taken) (defScope s_llaw_taken) .none kV_llaw_taken dc_llaw_taken pm_llaw_taken an_llaw_taken cd_llaw_taken ct_llaw_taken), sl_llaw_taken⟩)
    (c_llaw_taken : PySem.W.codeIn K cd_llaw_taken "_law_taken" = true)
    (k_llaw_taken : PySem.W.keepIn K (.ref f_llaw_taken) = true)
    (n_llaw_taken : PySem.W.nsIn K mainGlobals "_law_taken" = some (some (.ref f_llaw_taken)))
    (l_llaw_pick : K.lookup f_llaw_pick = some ⟨oc_llaw_pick, od_llaw_pick, .func (PySem.W.fnOf "_law_pick" "_law_pick" (defArgs s_llaw_pick) (defBody s_llaw_pick) (defScope s_llaw_pick) .none kV_llaw_pick dc_llaw_pick pm_llaw_pick an_llaw_pick cd_llaw_pick ct_llaw_pick), sl_llaw_pick⟩)
    (c_llaw_pick : PySem.W.codeIn K cd_llaw_pick "_law_pick" = true)
    (k_llaw_pick : PySem.W.keepIn K (.ref f_llaw_pick) = true)
    (n_llaw_pick : PySem.W.nsIn K mainGlobals "_law_pick" = some (some (.ref f_llaw_pick)))
    (l_llaw_drawer : K.lookup f_llaw_drawer = some ⟨oc_llaw_drawer, od_llaw_drawer, .func (PySem.W.fnOf "_law_drawer" "_law_drawer" (defArgs s_llaw_drawer) (defBody s_llaw_drawer) (defScope s_llaw_drawer) .none kV_llaw_drawer dc_llaw_drawer pm_llaw_drawer an_llaw_drawer cd_llaw_drawer ct_llaw_drawer), sl_llaw_drawer⟩)
    (c_llaw_drawer : PySem.W.codeIn K cd_llaw_drawer "_law_drawer" = true)
    (k_llaw_drawer : PySem.W.keepIn K (.ref f_llaw_drawer) = true)
    (n_llaw_drawer : PySem.W.nsIn K mainGlobals "_law_drawer" = some (some (.ref f_llaw_drawer)))
    (l_llaw_less : K.lookup f_llaw_less = some ⟨oc_llaw_less, od_llaw_less, .func (PySem.W.fnOf "_law_less" "_law_less" (defArgs s_llaw_less) (defBody s_llaw_less) (defScope s_llaw_less) .none kV_llaw_less dc_llaw_less pm_llaw_less an_llaw_less cd_llaw_less ct_llaw_less), sl_llaw_less⟩)
    (c_llaw_less : PySem.W.codeIn K cd_llaw_less "_law_less" = true)
    (k_llaw_less : PySem.W.keepIn K (.ref f_llaw_less) = true)
    (n_llaw_less : PySem.W.nsIn K mainGlobals "_law_less" = some (some (.ref f_llaw_less)))
    (l_llaw_sets : K.lookup f_llaw_sets = some ⟨oc_llaw_sets, od_llaw_sets, .func (PySem.W.fnOf "_law_sets" "_law_sets" (defArgs s_llaw_sets) (defBody s_llaw_sets) (defScope s_llaw_sets) .none kV_llaw_sets dc_llaw_sets pm_llaw_sets an_llaw_sets cd_llaw_sets ct_llaw_sets), sl_llaw_sets⟩)
    (c_llaw_sets : PySem.W.codeIn K cd_llaw_sets "_law_sets" = true)
    (k_llaw_sets : PySem.W.keepIn K (.ref f_llaw_sets) = true)
    (n_llaw_sets : PySem.W.nsIn K mainGlobals "_law_sets" = some (some (.ref f_llaw_sets)))
    (l_law : K.lookup f_law = some ⟨oc_law, od_law, .func (PySem.W.fnOf "law" "law" (defArgs s_law) (defBody s_law) (defScope s_law) .none kV_law dc_law pm_law an_law cd_law ct_law), sl_law⟩)
    (c_law : PySem.W.codeIn K cd_law "law" = true)
    (k_law : PySem.W.keepIn K (.ref f_law) = true)
    (n_law : PySem.W.nsIn K mainGlobals "law" = some (some (.ref f_law)))
    (n_Drawer : PySem.W.nsIn K mainGlobals "Drawer" = some (some (.ref C_Drawer)))
    (cg_Drawer : PySem.W.plainGet K C_Drawer Str.empty = true)
    (ch_Drawer : PySem.W.hasDictIn K C_Drawer = true)
    (cp_Drawer : PySem.W.plainOver K C_Drawer = true)
    (cs_Drawer : PySem.W.findIn K (.ref C_Drawer) "__setattr__" = some (some (.builtin "object.__setattr__")))
    (na_Drawer__cards : PySem.W.findIn K (.ref C_Drawer) "_cards" = some none)
    (mk1_Drawer : PySem.W.makesIn K C_Drawer = true)
    (mk2_Drawer : PySem.W.findIn K (.ref C_Drawer) "__init__" = some (some (.ref f_Drawer_init)))
    (mk3_Drawer : PySem.W.isFn K (.ref f_Drawer_init) = true)
    (mk4_Drawer : PySem.W.keepIn K (.ref C_Drawer) = true)
    (p1_Drawer_cards : PySem.W.findIn K (.ref C_Drawer) "cards" = some (some (.ref pr_Drawer_cards)))
    (p2_Drawer_cards : PySem.W.specialIn K (.ref pr_Drawer_cards) "__get__" = some (some (.builtin "property.__get__")))
    (p3_Drawer_cards : PySem.W.takesIn K (.ref pr_Drawer_cards) = some true)
    (p4_Drawer_cards : PySem.W.recIn K pr_Drawer_cards "property" = some (.ref f_Drawer_cards :: ps_Drawer_cards))
    (me1_Drawer_without : PySem.W.findIn K (.ref C_Drawer) "without" = some (some (.ref f_Drawer_without)))
    (me2_Drawer_without : PySem.W.isFn K (.ref f_Drawer_without) = true)
    (me3_Drawer_without : PySem.W.keepIn K (.ref f_Drawer_without) = true)
    (n_Card : PySem.W.nsIn K mainGlobals "Card" = some (some (.ref C_Card)))
    (cg_Card : PySem.W.plainGet K C_Card Str.empty = true)
    (ch_Card : PySem.W.hasDictIn K C_Card = true)
    (cp_Card : PySem.W.plainOver K C_Card = true)
    (cs_Card : PySem.W.findIn K (.ref C_Card) "__setattr__" = some (some (.builtin "object.__setattr__")))
    (na_Card__heading : PySem.W.findIn K (.ref C_Card) "_heading" = some none)
    (na_Card__books : PySem.W.findIn K (.ref C_Card) "_books" = some none)
    (na_Card__see : PySem.W.findIn K (.ref C_Card) "_see" = some none)
    (na_Card__also : PySem.W.findIn K (.ref C_Card) "_also" = some none)
    (mk1_Card : PySem.W.makesIn K C_Card = true)
    (mk2_Card : PySem.W.findIn K (.ref C_Card) "__init__" = some (some (.ref f_Card_init)))
    (mk3_Card : PySem.W.isFn K (.ref f_Card_init) = true)
    (mk4_Card : PySem.W.keepIn K (.ref C_Card) = true)
    (p1_Card_heading : PySem.W.findIn K (.ref C_Card) "heading" = some (some (.ref pr_Card_heading)))
    (p2_Card_heading : PySem.W.specialIn K (.ref pr_Card_heading) "__get__" = some (some (.builtin "property.__get__")))
    (p3_Card_heading : PySem.W.takesIn K (.ref pr_Card_heading) = some true)
    (p4_Card_heading : PySem.W.recIn K pr_Card_heading "property" = some (.ref f_Card_heading :: ps_Card_heading))
    : ∃ fd : FuncData, (∀ (s : Shared) (v : Value), BindsTo s fd ⟨[v], []⟩ [("_law_script", v)]) ∧ ∀ base : Heap, K.In base → base.Ns mainGlobals mg → FnOk l.prog w K mg base CX0 7 fa fd ["_law_script"] (spLaw K) := by
  have e : fa = f_law := by
    have z := hfa.symm.trans (PySem.W.mg_of X G n_law)
    cases z
    rfl
  have T : ∃ T : Top K mg, T.a_law = f_law ∧ T.fd_law = PySem.W.fnOf "law" "law" (defArgs s_law) (defBody s_law) (defScope s_law) .none kV_law dc_law pm_law an_law cd_law ct_law := ⟨{
    m_all := PySem.W.mg_none_of X G z_all
    m_bool := PySem.W.mg_none_of X G z_bool
    m_enumerate := PySem.W.mg_none_of X G z_enumerate
    m_int := PySem.W.mg_none_of X G z_int
    m_isinstance := PySem.W.mg_none_of X G z_isinstance
    m_len := PySem.W.mg_none_of X G z_len
    m_max := PySem.W.mg_none_of X G z_max
    m_range := PySem.W.mg_none_of X G z_range
    m_set := PySem.W.mg_none_of X G z_set
    m_sorted := PySem.W.mg_none_of X G z_sorted
    m_str := PySem.W.mg_none_of X G z_str
    m_tuple := PySem.W.mg_none_of X G z_tuple
    m_zip := PySem.W.mg_none_of X G z_zip
    v_LETTERS := .str "abcdefghijklmnopqrstuvwxyz" t_LETTERS
    g_LETTERS := PySem.W.mg_of X G zc_LETTERS
    r_LETTERS := ⟨_, rfl⟩
    v_LONGEST_WORD := .int (8) t_LONGEST_WORD
    g_LONGEST_WORD := PySem.W.mg_of X G zc_LONGEST_WORD
    r_LONGEST_WORD := ⟨_, rfl⟩
    v_MOST_CARDS := .int (16) t_MOST_CARDS
    g_MOST_CARDS := PySem.W.mg_of X G zc_MOST_CARDS
    r_MOST_CARDS := ⟨_, rfl⟩
    v_MOST_BOOKS := .int (6) t_MOST_BOOKS
    g_MOST_BOOKS := PySem.W.mg_of X G zc_MOST_BOOKS
    r_MOST_BOOKS := ⟨_, rfl⟩
    v_LAST_BOOK := .int (999) t_LAST_BOOK
    g_LAST_BOOK := PySem.W.mg_of X G zc_LAST_BOOK
    r_LAST_BOOK := ⟨_, rfl⟩
    v_MOST_ALSO := .int (4) t_MOST_ALSO
    g_MOST_ALSO := PySem.W.mg_of X G zc_MOST_ALSO
    r_MOST_ALSO := ⟨_, rfl⟩
    a_is_word := f_is_word
    fd_is_word := PySem.W.fnOf "is_word" "is_word" (defArgs s_is_word) (defBody s_is_word) (defScope s_is_word) .none kV_is_word dc_is_word pm_is_word an_is_word cd_is_word ct_is_word
    F_is_word := fun_mk (st := s_is_word) l_is_word c_is_word k_is_word
    g_is_word := PySem.W.mg_of X G n_is_word
    a_is_number := f_is_number
    fd_is_number := PySem.W.fnOf "is_number" "is_number" (defArgs s_is_number) (defBody s_is_number) (defScope s_is_number) .none kV_is_number dc_is_number pm_is_number an_is_number cd_is_number ct_is_number
    F_is_number := fun_mk (st := s_is_number) l_is_number c_is_number k_is_number
    g_is_number := PySem.W.mg_of X G n_is_number
    a_check_place := f_check_place
    fd_check_place := PySem.W.fnOf "check_place" "check_place" (defArgs s_check_place) (defBody s_check_place) (defScope s_check_place) .none kV_check_place dc_check_place pm_check_place an_check_place cd_check_place ct_check_place
    F_check_place := fun_mk (st := s_check_place) l_check_place c_check_place k_check_place
    g_check_place := PySem.W.mg_of X G n_check_place
    a_Drawer_init := f_Drawer_init
    fd_Drawer_init := PySem.W.fnOf "__init__" "Drawer.__init__" (defArgs s_Drawer_init) (defBody s_Drawer_init) (defScope s_Drawer_init) .none kV_Drawer_init dc_Drawer_init pm_Drawer_init an_Drawer_init cd_Drawer_init ct_Drawer_init
    F_Drawer_init := fun_mk (st := s_Drawer_init) l_Drawer_init c_Drawer_init k_Drawer_init
    a_Drawer_cards := f_Drawer_cards
    fd_Drawer_cards := PySem.W.fnOf "cards" "Drawer.cards" (defArgs s_Drawer_cards) (defBody s_Drawer_cards) (defScope s_Drawer_cards) .none kV_Drawer_cards dc_Drawer_cards pm_Drawer_cards an_Drawer_cards cd_Drawer_cards ct_Drawer_cards
    F_Drawer_cards := fun_mk (st := s_Drawer_cards) l_Drawer_cards c_Drawer_cards k_Drawer_cards
    a_Drawer_without := f_Drawer_without
    fd_Drawer_without := PySem.W.fnOf "without" "Drawer.without" (defArgs s_Drawer_without) (defBody s_Drawer_without) (defScope s_Drawer_without) .none kV_Drawer_without dc_Drawer_without pm_Drawer_without an_Drawer_without cd_Drawer_without ct_Drawer_without
    F_Drawer_without := fun_mk (st := s_Drawer_without) l_Drawer_without c_Drawer_without k_Drawer_without
    a_headings_along := f_headings_along
    fd_headings_along := PySem.W.fnOf "headings_along" "headings_along" (defArgs s_headings_along) (defBody s_headings_along) (defScope s_headings_along) .none kV_headings_along dc_headings_along pm_headings_along an_headings_along cd_headings_along ct_headings_along
    F_headings_along := fun_mk (st := s_headings_along) l_headings_along c_headings_along k_headings_along
    g_headings_along := PySem.W.mg_of X G n_headings_along
    a_is_filed := f_is_filed
    fd_is_filed := PySem.W.fnOf "is_filed" "is_filed" (defArgs s_is_filed) (defBody s_is_filed) (defScope s_is_filed) .none kV_is_filed dc_is_filed pm_is_filed an_is_filed cd_is_filed ct_is_filed
    F_is_filed := fun_mk (st := s_is_filed) l_is_filed c_is_filed k_is_filed
    g_is_filed := PySem.W.mg_of X G n_is_filed
    a_most_in_order := f_most_in_order
    fd_most_in_order := PySem.W.fnOf "most_in_order" "most_in_order" (defArgs s_most_in_order) (defBody s_most_in_order) (defScope s_most_in_order) .none kV_most_in_order dc_most_in_order pm_most_in_order an_most_in_order cd_most_in_order ct_most_in_order
    F_most_in_order := fun_mk (st := s_most_in_order) l_most_in_order c_most_in_order k_most_in_order
    g_most_in_order := PySem.W.mg_of X G n_most_in_order
    a_out_of_order := f_out_of_order
    fd_out_of_order := PySem.W.fnOf "out_of_order" "out_of_order" (defArgs s_out_of_order) (defBody s_out_of_order) (defScope s_out_of_order) .none kV_out_of_order dc_out_of_order pm_out_of_order an_out_of_order cd_out_of_order ct_out_of_order
    F_out_of_order := fun_mk (st := s_out_of_order) l_out_of_order c_out_of_order k_out_of_order
    g_out_of_order := PySem.W.mg_of X G n_out_of_order
    a_are_books := f_are_books
    fd_are_books := PySem.W.fnOf "are_books" "are_books" (defArgs s_are_books) (defBody s_are_books) (defScope s_are_books) .none kV_are_books dc_are_books pm_are_books an_are_books cd_are_books ct_are_books
    F_are_books := fun_mk (st := s_are_books) l_are_books c_are_books k_are_books
    g_are_books := PySem.W.mg_of X G n_are_books
    a_is_target := f_is_target
    fd_is_target := PySem.W.fnOf "is_target" "is_target" (defArgs s_is_target) (defBody s_is_target) (defScope s_is_target) .none kV_is_target dc_is_target pm_is_target an_is_target cd_is_target ct_is_target
    F_is_target := fun_mk (st := s_is_target) l_is_target c_is_target k_is_target
    g_is_target := PySem.W.mg_of X G n_is_target
    a_are_further := f_are_further
    fd_are_further := PySem.W.fnOf "are_further" "are_further" (defArgs s_are_further) (defBody s_are_further) (defScope s_are_further) .none kV_are_further dc_are_further pm_are_further an_are_further cd_are_further ct_are_further
    F_are_further := fun_mk (st := s_are_further) l_are_further c_are_further k_are_further
    g_are_further := PySem.W.mg_of X G n_are_further
    a_wrong_part := f_wrong_part
    fd_wrong_part := PySem.W.fnOf "wrong_part" "wrong_part" (defArgs s_wrong_part) (defBody s_wrong_part) (defScope s_wrong_part) .none kV_wrong_part dc_wrong_part pm_wrong_part an_wrong_part cd_wrong_part ct_wrong_part
    F_wrong_part := fun_mk (st := s_wrong_part) l_wrong_part c_wrong_part k_wrong_part
    g_wrong_part := PySem.W.mg_of X G n_wrong_part
    a_Card_init := f_Card_init
    e_Card_init_0 := de_Card_init_0
    e_Card_init_2 := de_Card_init_2
    fd_Card_init := PySem.W.fnOf "__init__" "Card.__init__" (defArgs s_Card_init) (defBody s_Card_init) (defScope s_Card_init) (.ref dT_Card_init) kV_Card_init dc_Card_init pm_Card_init an_Card_init cd_Card_init ct_Card_init
    F_Card_init := ⟨⟨_, _, _, _, _, _, _, _, _, _, rfl, l_Card_init, c_Card_init, .inr ⟨by simp, _, _, [.ref de_Card_init_0, .str "" du_Card_init_1, .ref de_Card_init_2], _, rfl, dk_Card_init, rfl, .cons rfl (.cons ⟨_, rfl⟩ (.cons rfl (.nil)))⟩, .inl rfl⟩, k_Card_init⟩
    a_Card_heading := f_Card_heading
    fd_Card_heading := PySem.W.fnOf "heading" "Card.heading" (defArgs s_Card_heading) (defBody s_Card_heading) (defScope s_Card_heading) .none kV_Card_heading dc_Card_heading pm_Card_heading an_Card_heading cd_Card_heading ct_Card_heading
    F_Card_heading := fun_mk (st := s_Card_heading) l_Card_heading c_Card_heading k_Card_heading
    a_llaw_taken := f_llaw_taken
    fd_llaw_taken := PySem.W.fnOf "_law_taken" "_law_taken" (defArgs s_llaw_taken) (defBody s_llaw_taken) (defScope s_llaw_taken) .none kV_llaw_taken dc_llaw_taken pm_llaw_taken an_llaw_taken cd_llaw_taken ct_llaw_taken
    F_llaw_taken := fun_mk (st := s_llaw_taken) l_llaw_taken c_llaw_taken k_llaw_taken
    g_llaw_taken := PySem.W.mg_of X G n_llaw_taken
    a_llaw_pick := f_llaw_pick
    fd_llaw_pick := PySem.W.fnOf "_law_pick" "_law_pick" (defArgs s_llaw_pick) (defBody s_llaw_pick) (defScope s_llaw_pick) .none kV_llaw_pick dc_llaw_pick pm_llaw_pick an_llaw_pick cd_llaw_pick ct_llaw_pick
    F_llaw_pick := fun_mk (st := s_llaw_pick) l_llaw_pick c_llaw_pick k_llaw_pick
    g_llaw_pick := PySem.W.mg_of X G n_llaw_pick
    a_llaw_drawer := f_llaw_drawer
    fd_llaw_drawer := PySem.W.fnOf "_law_drawer" "_law_drawer" (defArgs s_llaw_drawer) (defBody s_llaw_drawer) (defScope s_llaw_drawer) .none kV_llaw_drawer dc_llaw_drawer pm_llaw_drawer an_llaw_drawer cd_llaw_drawer ct_llaw_drawer
    F_llaw_drawer := fun_mk (st := s_llaw_drawer) l_llaw_drawer c_llaw_drawer k_llaw_drawer
    g_llaw_drawer := PySem.W.mg_of X G n_llaw_drawer
    a_llaw_less := f_llaw_less
    fd_llaw_less := PySem.W.fnOf "_law_less" "_law_less" (defArgs s_llaw_less) (defBody s_llaw_less) (defScope s_llaw_less) .none kV_llaw_less dc_llaw_less pm_llaw_less an_llaw_less cd_llaw_less ct_llaw_less
    F_llaw_less := fun_mk (st := s_llaw_less) l_llaw_less c_llaw_less k_llaw_less
    g_llaw_less := PySem.W.mg_of X G n_llaw_less
    a_llaw_sets := f_llaw_sets
    fd_llaw_sets := PySem.W.fnOf "_law_sets" "_law_sets" (defArgs s_llaw_sets) (defBody s_llaw_sets) (defScope s_llaw_sets) .none kV_llaw_sets dc_llaw_sets pm_llaw_sets an_llaw_sets cd_llaw_sets ct_llaw_sets
    F_llaw_sets := fun_mk (st := s_llaw_sets) l_llaw_sets c_llaw_sets k_llaw_sets
    g_llaw_sets := PySem.W.mg_of X G n_llaw_sets
    a_law := f_law
    fd_law := PySem.W.fnOf "law" "law" (defArgs s_law) (defBody s_law) (defScope s_law) .none kV_law dc_law pm_law an_law cd_law ct_law
    F_law := fun_mk (st := s_law) l_law c_law k_law
    g_law := PySem.W.mg_of X G n_law
    c_Drawer := C_Drawer
    g_Drawer := PySem.W.mg_of X G n_Drawer
    cl_Drawer := ⟨cg_Drawer, ch_Drawer, cp_Drawer, cs_Drawer⟩
    n_Drawer__cards := na_Drawer__cards
    Mk_Drawer := ⟨mk1_Drawer, mk2_Drawer, mk3_Drawer, mk4_Drawer⟩
    p_Drawer_cards := pr_Drawer_cards
    P_Drawer_cards := ⟨p1_Drawer_cards, p2_Drawer_cards, p3_Drawer_cards, _, p4_Drawer_cards⟩
    M_Drawer_without := ⟨me1_Drawer_without, me2_Drawer_without, me3_Drawer_without⟩
    c_Card := C_Card
    g_Card := PySem.W.mg_of X G n_Card
    cl_Card := ⟨cg_Card, ch_Card, cp_Card, cs_Card⟩
    n_Card__heading := na_Card__heading
    n_Card__books := na_Card__books
    n_Card__see := na_Card__see
    n_Card__also := na_Card__also
    Mk_Card := ⟨mk1_Card, mk2_Card, mk3_Card, mk4_Card⟩
    p_Card_heading := pr_Card_heading
    P_Card_heading := ⟨p1_Card_heading, p2_Card_heading, p3_Card_heading, _, p4_Card_heading⟩
    }, rfl, rfl⟩
  obtain ⟨T, e1, e2⟩ := T
  refine ⟨T.fd_law, fun s v => ?_, fun base _ _ => ?_⟩
  · rw [e2]
    exact .of_eq rfl
  · rw [e, ← e1]
    exact ok_law T
end My
open PySem PySem.W PyProof.Rows
set_option maxRecDepth 100000 in
set_option maxHeartbeats 0 in
theorem PySem.Challenge.cw_seerings_k06_out_of_order_by_rising_rows_holds : PySem.Challenge.rw_seerings_k06_out_of_order_by_rising_rows.Holds := by
  w_on; o_law; k_head; (case hw => w_witness2)
  k_fill
  refine L2.walk_of (l := PySem.Challenge.rw_seerings_k06_out_of_order_by_rising_rows) (n := 63) (k := 7) (x := "_law_script") (CX := fun _ => L2.CX0) (sp := fun w => My.spLaw _) rfl (by decide) rfl ⟨rfl, by decide, by decide⟩ (fun w h Y => PySem.W.kIn_of Y) ?F (fun _ _ a ns hl _ hS => ⟨a, ns, rfl, hS, hl, fun _ => rfl⟩) (fun _ _ _ _ _ h => h)
  case F =>
    intro w mg fa h KX G hmg
    refine' My.all_mk KX G hmg ?z_all ?z_bool ?z_enumerate ?z_int ?z_isinstance ?z_len ?z_max ?z_range ?z_set ?z_sorted ?z_str ?z_tuple ?z_zip ?zc_LETTERS ?zc_LONGEST_WORD ?zc_MOST_CARDS ?zc_MOST_BOOKS ?zc_LAST_BOOK ?zc_MOST_ALSO ?l_is_word ?c_is_word ?k_is_word ?n_is_word ?l_is_number ?c_is_number ?k_is_number ?n_is_number ?l_check_place ?c_check_place ?k_check_place ?n_check_place ?l_Drawer_init ?c_Drawer_init ?k_Drawer_init ?l_Drawer_cards ?c_Drawer_cards ?k_Drawer_cards ?l_Drawer_without ?c_Drawer_without ?k_Drawer_without ?l_headings_along ?c_headings_along ?k_headings_along ?n_headings_along ?l_is_filed ?c_is_filed ?k_is_filed ?n_is_filed ?l_most_in_order ?c_most_in_order ?k_most_in_order ?n_most_in_order ?l_out_of_order ?c_out_of_order ?k_out_of_order ?n_out_of_order ?l_are_books ?c_are_books ?k_are_books ?n_are_books ?l_is_target ?c_is_target ?k_is_target ?n_is_target ?l_are_further ?c_are_further ?k_are_further ?n_are_further ?l_wrong_part ?c_wrong_part ?k_wrong_part ?n_wrong_part ?l_Card_init ?c_Card_init ?k_Card_init ?dk_Card_init ?l_Card_heading ?c_Card_heading ?k_Card_heading ?l_llaw_taken ?c_llaw_taken ?k_llaw_taken ?n_llaw_taken ?l_llaw_pick ?c_llaw_pick ?k_llaw_pick ?n_llaw_pick ?l_llaw_drawer ?c_llaw_drawer ?k_llaw_drawer ?n_llaw_drawer ?l_llaw_less ?c_llaw_less ?k_llaw_less ?n_llaw_less ?l_llaw_sets ?c_llaw_sets ?k_llaw_sets ?n_llaw_sets ?l_law ?c_law ?k_law ?n_law ?n_Drawer ?cg_Drawer ?ch_Drawer ?cp_Drawer ?cs_Drawer ?na_Drawer__cards ?mk1_Drawer ?mk2_Drawer ?mk3_Drawer ?mk4_Drawer ?p1_Drawer_cards ?p2_Drawer_cards ?p3_Drawer_cards ?p4_Drawer_cards ?me1_Drawer_without ?me2_Drawer_without ?me3_Drawer_without ?n_Card ?cg_Card ?ch_Card ?cp_Card ?cs_Card ?na_Card__heading ?na_Card__books ?na_Card__see ?na_Card__also ?mk1_Card ?mk2_Card ?mk3_Card ?mk4_Card ?p1_Card_heading ?p2_Card_heading ?p3_Card_heading ?p4_Card_heading
    (case z_all => k_is)
    (case z_bool => k_is)
    (case z_enumerate => k_is)
    (case z_int => k_is)
    (case z_isinstance => k_is)
    (case z_len => k_is)
    (case z_max => k_is)
    (case z_range => k_is)
    (case z_set => k_is)
    (case z_sorted => k_is)
    (case z_str => k_is)
    (case z_tuple => k_is)
    (case z_zip => k_is)
    (case zc_LETTERS => k_is)
    (case zc_LONGEST_WORD => k_is)
    (case zc_MOST_CARDS => k_is)
    (case zc_MOST_BOOKS => k_is)
    (case zc_LAST_BOOK => k_is)
    (case zc_MOST_ALSO => k_is)
    (case n_is_word => k_is)
    (case n_is_number => k_is)
    (case n_check_place => k_is)
    (case n_headings_along => k_is)
    (case n_is_filed => k_is)
    (case n_most_in_order => k_is)
    (case n_out_of_order => k_is)
    (case n_are_books => k_is)
    (case n_is_target => k_is)
    (case n_are_further => k_is)
    (case n_wrong_part => k_is)
    (case n_llaw_taken => k_is)
    (case n_llaw_pick => k_is)
    (case n_llaw_drawer => k_is)
    (case n_llaw_less => k_is)
    (case n_llaw_sets => k_is)
    (case n_law => k_is)
    (case n_Drawer => k_is)
    (case n_Card => k_is)
    (case mk2_Drawer => k_is)
    (case mk2_Card => k_is)
    (case me1_Drawer_without => k_is)
    (case p1_Drawer_cards => k_is)
    (case p1_Card_heading => k_is)
    (case p4_Drawer_cards => k_is)
    (case p4_Card_heading => k_is)
    (case l_is_word => k_is)
    (case l_is_number => k_is)
    (case l_check_place => k_is)
    (case l_Drawer_init => k_is)
    (case l_Drawer_cards => k_is)
    (case l_Drawer_without => k_is)
    (case l_headings_along => k_is)
    (case l_is_filed => k_is)
    (case l_most_in_order => k_is)
    (case l_out_of_order => k_is)
    (case l_are_books => k_is)
    (case l_is_target => k_is)
    (case l_are_further => k_is)
    (case l_wrong_part => k_is)
    (case l_Card_init => k_is)
    (case l_Card_heading => k_is)
    (case l_llaw_taken => k_is)
    (case l_llaw_pick => k_is)
    (case l_llaw_drawer => k_is)
    (case l_llaw_less => k_is)
    (case l_llaw_sets => k_is)
    (case l_law => k_is)
    (case dk_Card_init => k_is)
    (case c_is_word => k_is)
    (case k_is_word => k_is)
    (case c_is_number => k_is)
    (case k_is_number => k_is)
    (case c_check_place => k_is)
    (case k_check_place => k_is)
    (case c_Drawer_init => k_is)
    (case k_Drawer_init => k_is)
    (case c_Drawer_cards => k_is)
    (case k_Drawer_cards => k_is)
    (case c_Drawer_without => k_is)
    (case k_Drawer_without => k_is)
    (case c_headings_along => k_is)
    (case k_headings_along => k_is)
    (case c_is_filed => k_is)
    (case k_is_filed => k_is)
    (case c_most_in_order => k_is)
    (case k_most_in_order => k_is)
    (case c_out_of_order => k_is)
    (case k_out_of_order => k_is)
    (case c_are_books => k_is)
    (case k_are_books => k_is)
    (case c_is_target => k_is)
    (case k_is_target => k_is)
    (case c_are_further => k_is)
    (case k_are_further => k_is)
    (case c_wrong_part => k_is)
    (case k_wrong_part => k_is)
    (case c_Card_init => k_is)
    (case k_Card_init => k_is)
    (case c_Card_heading => k_is)
    (case k_Card_heading => k_is)
    (case c_llaw_taken => k_is)
    (case k_llaw_taken => k_is)
    (case c_llaw_pick => k_is)
    (case k_llaw_pick => k_is)
    (case c_llaw_drawer => k_is)
    (case k_llaw_drawer => k_is)
    (case c_llaw_less => k_is)
    (case k_llaw_less => k_is)
    (case c_llaw_sets => k_is)
    (case k_llaw_sets => k_is)
    (case c_law => k_is)
    (case k_law => k_is)
    (case cg_Drawer => k_is)
    (case ch_Drawer => k_is)
    (case cp_Drawer => k_is)
    (case cs_Drawer => k_is)
    (case na_Drawer__cards => k_is)
    (case mk1_Drawer => k_is)
    (case mk3_Drawer => k_is)
    (case mk4_Drawer => k_is)
    (case p2_Drawer_cards => k_is)
    (case p3_Drawer_cards => k_is)
    (case me2_Drawer_without => k_is)
    (case me3_Drawer_without => k_is)
    (case cg_Card => k_is)
    (case ch_Card => k_is)
    (case cp_Card => k_is)
    (case cs_Card => k_is)
    (case na_Card__heading => k_is)
    (case na_Card__books => k_is)
    (case na_Card__see => k_is)
    (case na_Card__also => k_is)
    (case mk1_Card => k_is)
    (case mk3_Card => k_is)
    (case mk4_Card => k_is)
    (case p2_Card_heading => k_is)
    (case p3_Card_heading => k_is)
