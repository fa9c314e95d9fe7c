import PyProof.Rows.All
import Wide.All
import OpenK.AllK
import Wide.FinOn
import HandS.ForMost
import HandS.Wide
import HandS.Property
import HandS.ExcInit
import HandS.ExcField
import HandS.IsInst
import HandS.Defaults
import HandS.MakeKw
import HandS.Style
import HandS.TupAny
import HandS.Zip
import HandS.Strs
import HandS.SortKw
import HandS.Conv
import PySem.Challenge.RW_seerings_k49_texts_rejected
import HandS.Walk
import HandS.Iter
import KE.GoesMore
import KE.GoesEnum
import PyProof.P3Eq
import KE.DataMinMax
import HandS.SetFor
import HandS.OwnEq
import HandS.More
import HandS.SetKeys
import HandS.Sort
import HandS.Lambda
import KE.SortKeyHeap
import HandS.SetBool
import HandS.DictComp
import KE.DataEq
import HandS.Words
import HandS.Text
import HandS.FStr
import HandS.ExcOwn
import HandS.TryMany
import HandS.WordsExc
import HandS.Comp
import HandS.Replace
import HandS.EndTab
set_option Elab.async false
set_option linter.all false
set_option maxRecDepth 100000
set_option maxHeartbeats 4000000
namespace My
open PySem L2
def top (i : Nat) : Stmt := PySem.Challenge.pw_seerings_k49_texts_rejected.main.body.getD i (.Pass ⟨0, 0, 0, 0⟩)
abbrev s_InvalidCard_init : Stmt := inClass (top 3) 0
abbrev N_InvalidCard_init : List Str := ["self", "part"]
theorem sc_InvalidCard_init : FnScope N_InvalidCard_init ["self", "part"] (defScope s_InvalidCard_init) := ⟨rfl, rfl, rfl, by decide +kernel, rfl, by decide +kernel, by decide +kernel⟩
abbrev s_InvalidText_init : Stmt := inClass (top 6) 0
abbrev N_InvalidText_init : List Str := ["self", "row", "word"]
theorem sc_InvalidText_init : FnScope N_InvalidText_init ["self", "row", "word"] (defScope s_InvalidText_init) := ⟨rfl, rfl, rfl, by decide +kernel, rfl, by decide +kernel, by decide +kernel⟩
abbrev s_is_word : Stmt := top 11
abbrev N_is_word : List Str := ["text", "letter"]
theorem sc_is_word : FnScope N_is_word ["text"] (defScope s_is_word) := ⟨rfl, rfl, rfl, by decide +kernel, rfl, by decide +kernel, by decide +kernel⟩
abbrev s_is_number : Stmt := top 12
abbrev N_is_number : List Str := ["number", "least", "greatest"]
theorem sc_is_number : FnScope N_is_number ["number", "least", "greatest"] (defScope s_is_number) := ⟨rfl, rfl, rfl, by decide +kernel, rfl, by decide +kernel, by decide +kernel⟩
abbrev s_is_digits : Stmt := top 13
abbrev N_is_digits : List Str := ["text", "most", "sign"]
theorem sc_is_digits : FnScope N_is_digits ["text", "most"] (defScope s_is_digits) := ⟨rfl, rfl, rfl, by decide +kernel, rfl, by decide +kernel, by decide +kernel⟩
abbrev s_are_books : Stmt := top 19
abbrev N_are_books : List Str := ["books", "book", "later"]
theorem sc_are_books : FnScope N_are_books ["books"] (defScope s_are_books) := ⟨rfl, rfl, rfl, by decide +kernel, rfl, by decide +kernel, by decide +kernel⟩
abbrev s_is_target : Stmt := top 20
abbrev N_is_target : List Str := ["see", "heading"]
theorem sc_is_target : FnScope N_is_target ["see", "heading"] (defScope s_is_target) := ⟨rfl, rfl, rfl, by decide +kernel, rfl, by decide +kernel, by decide +kernel⟩
abbrev s_are_further : Stmt := top 21
abbrev N_are_further : List Str := ["also", "heading", "word"]
theorem sc_are_further : FnScope N_are_further ["also", "heading"] (defScope s_are_further) := ⟨rfl, rfl, rfl, by decide +kernel, rfl, by decide +kernel, by decide +kernel⟩
abbrev s_wrong_part : Stmt := top 22
abbrev N_wrong_part : List Str := ["heading", "books", "see", "also"]
theorem sc_wrong_part : FnScope N_wrong_part ["heading", "books", "see", "also"] (defScope s_wrong_part) := ⟨rfl, rfl, rfl, by decide +kernel, rfl, by decide +kernel, by decide +kernel⟩
abbrev s_Card_init : Stmt := inClass (top 23) 0
abbrev N_Card_init : List Str := ["self", "heading", "books", "see", "also", "part"]
theorem sc_Card_init : FnScope N_Card_init ["self", "heading", "books", "see", "also"] (defScope s_Card_init) := ⟨rfl, rfl, rfl, by decide +kernel, rfl, by decide +kernel, by decide +kernel⟩
abbrev s_Drawer_init : Stmt := inClass (top 26) 0
abbrev N_Drawer_init : List Str := ["self", "cards"]
theorem sc_Drawer_init : FnScope N_Drawer_init ["self", "cards"] (defScope s_Drawer_init) := ⟨rfl, rfl, rfl, by decide +kernel, rfl, by decide +kernel, by decide +kernel⟩
abbrev s_words_by_row : Stmt := top 29
abbrev N_words_by_row : List Str := ["text", "row"]
theorem sc_words_by_row : FnScope N_words_by_row ["text"] (defScope s_words_by_row) := ⟨rfl, rfl, rfl, by decide +kernel, rfl, by decide +kernel, by decide +kernel⟩
abbrev s_is_book : Stmt := top 30
abbrev N_is_book : List Str := ["word", "last"]
theorem sc_is_book : FnScope N_is_book ["word", "last"] (defScope s_is_book) := ⟨rfl, rfl, rfl, by decide +kernel, rfl, by decide +kernel, by decide +kernel⟩
abbrev s_index_of_also : Stmt := top 31
abbrev N_index_of_also : List Str := ["words", "index", "word"]
theorem sc_index_of_also : FnScope N_index_of_also ["words"] (defScope s_index_of_also) := ⟨rfl, rfl, rfl, by decide +kernel, rfl, by decide +kernel, by decide +kernel⟩
abbrev s_wrong_in_see : Stmt := top 32
abbrev N_wrong_in_see : List Str := ["words"]
theorem sc_wrong_in_see : FnScope N_wrong_in_see ["words"] (defScope s_wrong_in_see) := ⟨rfl, rfl, rfl, by decide +kernel, rfl, by decide +kernel, by decide +kernel⟩
abbrev s_wrong_in_entry : Stmt := top 33
abbrev N_wrong_in_entry : List Str := ["words", "border", "last", "index"]
theorem sc_wrong_in_entry : FnScope N_wrong_in_entry ["words"] (defScope s_wrong_in_entry) := ⟨rfl, rfl, rfl, by decide +kernel, rfl, by decide +kernel, by decide +kernel⟩
abbrev s_wrong_word : Stmt := top 34
abbrev N_wrong_word : List Str := ["words"]
theorem sc_wrong_word : FnScope N_wrong_word ["words"] (defScope s_wrong_word) := ⟨rfl, rfl, rfl, by decide +kernel, rfl, by decide +kernel, by decide +kernel⟩
abbrev s_card_by : Stmt := top 35
abbrev N_card_by : List Str := ["words", "border", "books", "word"]
theorem sc_card_by : FnScope N_card_by ["words"] (defScope s_card_by) := ⟨rfl, rfl, rfl, by decide +kernel, rfl, by decide +kernel, by decide +kernel⟩
abbrev s_parse_drawer : Stmt := top 36
abbrev N_parse_drawer : List Str := ["text", "rows", "row", "words", "index"]
theorem sc_parse_drawer : FnScope N_parse_drawer ["text"] (defScope s_parse_drawer) := ⟨rfl, rfl, rfl, by decide +kernel, rfl, by decide +kernel, by decide +kernel⟩
abbrev s_llaw_taken : Stmt := top 38
abbrev N_llaw_taken : List Str := ["_law_row", "_law_many", "_law_found", "_law_cell"]
theorem sc_llaw_taken : FnScope N_llaw_taken ["_law_row", "_law_many"] (defScope s_llaw_taken) := ⟨rfl, rfl, rfl, by decide +kernel, rfl, by decide +kernel, by decide +kernel⟩
abbrev s_llaw_place : Stmt := top 39
abbrev N_llaw_place : List Str := ["_law_rows", "e"]
theorem sc_llaw_place : FnScope N_llaw_place ["_law_rows"] (defScope s_llaw_place) := ⟨rfl, rfl, rfl, by decide +kernel, rfl, by decide +kernel, by decide +kernel⟩
abbrev s_law : Stmt := top 40
abbrev N_law : List Str := ["_law_script", "_law_row", "_law_good", "_law_wrong", "_law_turn", "_law_line", "_law_word", "_law_k", "_law_bad", "_law_part", "_law_many"]
theorem sc_law : FnScope N_law ["_law_script"] (defScope s_law) := ⟨rfl, rfl, rfl, by decide +kernel, rfl, by decide +kernel, by decide +kernel⟩
structure Top (K : PySem.W.Frag) (mg : Str → Option Value) where
  m_all : mg "all" = none
  m_bool : mg "bool" = none
  m_enumerate : mg "enumerate" = none
  m_int : mg "int" = none
  m_isinstance : mg "isinstance" = none
  m_len : mg "len" = none
  m_range : mg "range" = none
  m_set : mg "set" = none
  m_str : mg "str" = none
  m_tuple : mg "tuple" = none
  m_zip : mg "zip" = none
  v_LETTERS : Value
  g_LETTERS : mg "LETTERS" = some v_LETTERS
  r_LETTERS : RelV (.str "abcdefghijklmnopqrstuvwxyz") v_LETTERS
  v_DIGITS : Value
  g_DIGITS : mg "DIGITS" = some v_DIGITS
  r_DIGITS : RelV (.str "0123456789") v_DIGITS
  v_LONGEST_WORD : Value
  g_LONGEST_WORD : mg "LONGEST_WORD" = some v_LONGEST_WORD
  r_LONGEST_WORD : RelV (.int 8) v_LONGEST_WORD
  v_MOST_BOOKS : Value
  g_MOST_BOOKS : mg "MOST_BOOKS" = some v_MOST_BOOKS
  r_MOST_BOOKS : RelV (.int 6) v_MOST_BOOKS
  v_LAST_BOOK : Value
  g_LAST_BOOK : mg "LAST_BOOK" = some v_LAST_BOOK
  r_LAST_BOOK : RelV (.int 999) v_LAST_BOOK
  v_MOST_ALSO : Value
  g_MOST_ALSO : mg "MOST_ALSO" = some v_MOST_ALSO
  r_MOST_ALSO : RelV (.int 4) v_MOST_ALSO
  v_MOST_CARDS : Value
  g_MOST_CARDS : mg "MOST_CARDS" = some v_MOST_CARDS
  r_MOST_CARDS : RelV (.int 16) v_MOST_CARDS
  v_MOST_DIGITS : Value
  g_MOST_DIGITS : mg "MOST_DIGITS" = some v_MOST_DIGITS
  r_MOST_DIGITS : RelV (.int 3) v_MOST_DIGITS
  a_InvalidCard_init : Addr
  fd_InvalidCard_init : FuncData
  F_InvalidCard_init : Fun K "__init__" "InvalidCard.__init__" s_InvalidCard_init a_InvalidCard_init fd_InvalidCard_init
  a_InvalidText_init : Addr
  fd_InvalidText_init : FuncData
  F_InvalidText_init : Fun K "__init__" "InvalidText.__init__" s_InvalidText_init a_InvalidText_init fd_InvalidText_init
  a_is_word : Addr
  fd_is_word : FuncData
  F_is_word : Fun K "is_word" "is_word" s_is_word a_is_word fd_is_word
  g_is_word : mg "is_word" = some (.ref a_is_word)
  a_is_number : Addr
  fd_is_number : FuncData
  F_is_number : Fun K "is_number" "is_number" s_is_number a_is_number fd_is_number
  g_is_number : mg "is_number" = some (.ref a_is_number)
  a_is_digits : Addr
  fd_is_digits : FuncData
  F_is_digits : Fun K "is_digits" "is_digits" s_is_digits a_is_digits fd_is_digits
  g_is_digits : mg "is_digits" = some (.ref a_is_digits)
  a_are_books : Addr
  fd_are_books : FuncData
  F_are_books : Fun K "are_books" "are_books" s_are_books a_are_books fd_are_books
  g_are_books : mg "are_books" = some (.ref a_are_books)
  a_is_target : Addr
  fd_is_target : FuncData
  F_is_target : Fun K "is_target" "is_target" s_is_target a_is_target fd_is_target
  g_is_target : mg "is_target" = some (.ref a_is_target)
  a_are_further : Addr
  fd_are_further : FuncData
  F_are_further : Fun K "are_further" "are_further" s_are_further a_are_further fd_are_further
  g_are_further : mg "are_further" = some (.ref a_are_further)
  a_wrong_part : Addr
  fd_wrong_part : FuncData
  F_wrong_part : Fun K "wrong_part" "wrong_part" s_wrong_part a_wrong_part fd_wrong_part
  g_wrong_part : mg "wrong_part" = some (.ref a_wrong_part)
  a_Card_init : Addr
  e_Card_init_0 : Addr
  e_Card_init_2 : Addr
  ek_Card_init_2 : ∀ H : Hp, SqT K H e_Card_init_2 []
  fd_Card_init : FuncData
  F_Card_init : FunD K "__init__" "Card.__init__" (defArgs s_Card_init) (defBody s_Card_init) (defScope s_Card_init) [.ref e_Card_init_0, .str "", .ref e_Card_init_2] [] a_Card_init fd_Card_init
  a_Drawer_init : Addr
  fd_Drawer_init : FuncData
  F_Drawer_init : Fun K "__init__" "Drawer.__init__" s_Drawer_init a_Drawer_init fd_Drawer_init
  a_words_by_row : Addr
  fd_words_by_row : FuncData
  F_words_by_row : Fun K "words_by_row" "words_by_row" s_words_by_row a_words_by_row fd_words_by_row
  g_words_by_row : mg "words_by_row" = some (.ref a_words_by_row)
  a_is_book : Addr
  fd_is_book : FuncData
  F_is_book : Fun K "is_book" "is_book" s_is_book a_is_book fd_is_book
  g_is_book : mg "is_book" = some (.ref a_is_book)
  a_index_of_also : Addr
  fd_index_of_also : FuncData
  F_index_of_also : Fun K "index_of_also" "index_of_also" s_index_of_also a_index_of_also fd_index_of_also
  g_index_of_also : mg "index_of_also" = some (.ref a_index_of_also)
  a_wrong_in_see : Addr
  fd_wrong_in_see : FuncData
  F_wrong_in_see : Fun K "wrong_in_see" "wrong_in_see" s_wrong_in_see a_wrong_in_see fd_wrong_in_see
  g_wrong_in_see : mg "wrong_in_see" = some (.ref a_wrong_in_see)
  a_wrong_in_entry : Addr
  fd_wrong_in_entry : FuncData
  F_wrong_in_entry : Fun K "wrong_in_entry" "wrong_in_entry" s_wrong_in_entry a_wrong_in_entry fd_wrong_in_entry
  g_wrong_in_entry : mg "wrong_in_entry" = some (.ref a_wrong_in_entry)
  a_wrong_word : Addr
  fd_wrong_word : FuncData
  F_wrong_word : Fun K "wrong_word" "wrong_word" s_wrong_word a_wrong_word fd_wrong_word
  g_wrong_word : mg "wrong_word" = some (.ref a_wrong_word)
  a_card_by : Addr
  fd_card_by : FuncData
  F_card_by : Fun K "card_by" "card_by" s_card_by a_card_by fd_card_by
  g_card_by : mg "card_by" = some (.ref a_card_by)
  a_parse_drawer : Addr
  fd_parse_drawer : FuncData
  F_parse_drawer : Fun K "parse_drawer" "parse_drawer" s_parse_drawer a_parse_drawer fd_parse_drawer
  g_parse_drawer : mg "parse_drawer" = some (.ref a_parse_drawer)
  a_llaw_taken : Addr
  fd_llaw_taken : FuncData
  F_llaw_taken : Fun K "_law_taken" "_law_taken" s_llaw_taken a_llaw_taken fd_llaw_taken
  g_llaw_taken : mg "_law_taken" = some (.ref a_llaw_taken)
  a_llaw_place : Addr
  fd_llaw_place : FuncData
  F_llaw_place : Fun K "_law_place" "_law_place" s_llaw_place a_llaw_place fd_llaw_place
  g_llaw_place : mg "_law_place" = some (.ref a_llaw_place)
  a_law : Addr
  fd_law : FuncData
  F_law : Fun K "law" "law" s_law a_law fd_law
  g_law : mg "law" = some (.ref a_law)
  c_SeeError : Addr
  g_SeeError : mg "SeeError" = some (.ref c_SeeError)
  bg_SeeError : PySem.W.specialIn K (.ref c_SeeError) "__getattribute__" = some (some (.builtin "type.__getattribute__"))
  br_SeeError : PySem.W.readsIn K c_SeeError (.type "type") = true
  bv_SeeError : PySem.W.findCls K (.ref c_SeeError) (.type "type") "__init__" = some (.val (.builtin "ValueError.__init__"))
  c_InvalidCard : Addr
  g_InvalidCard : mg "InvalidCard" = some (.ref c_InvalidCard)
  ox_InvalidCard : OexC K c_InvalidCard
  oi_InvalidCard : PySem.W.findIn K (.ref c_InvalidCard) "__init__" = some (some (.ref a_InvalidCard_init))
  ot_InvalidCard : PySem.W.typeIn K (.ref a_InvalidCard_init) = some (.type "function")
  nf_InvalidCard_part : PySem.W.findIn K (.ref c_InvalidCard) "part" = some none
  xf_InvalidCard : XfC K c_InvalidCard
  c_InvalidDrawer : Addr
  g_InvalidDrawer : mg "InvalidDrawer" = some (.ref c_InvalidDrawer)
  xe_InvalidDrawer : PySem.W.excIn K c_InvalidDrawer [.type "ValueError", .type "Exception", .type "BaseException", .type "object"] "ValueError.__new__" = true
  xk_InvalidDrawer : PySem.W.keepIn K (.ref c_InvalidDrawer) = true
  xs_InvalidDrawer : PySem.W.subIn K (.ref c_InvalidDrawer) (.type "BaseException") = some true
  xt_InvalidDrawer : PySem.W.typeIn K (.ref c_InvalidDrawer) = some (.type "type")
  c_InvalidText : Addr
  g_InvalidText : mg "InvalidText" = some (.ref c_InvalidText)
  ox_InvalidText : OexC K c_InvalidText
  oi_InvalidText : PySem.W.findIn K (.ref c_InvalidText) "__init__" = some (some (.ref a_InvalidText_init))
  ot_InvalidText : PySem.W.typeIn K (.ref a_InvalidText_init) = some (.type "function")
  nf_InvalidText_row : PySem.W.findIn K (.ref c_InvalidText) "row" = some none
  nf_InvalidText_word : PySem.W.findIn K (.ref c_InvalidText) "word" = some none
  xf_InvalidText : XfC K c_InvalidText
  c_Card : Addr
  g_Card : mg "Card" = some (.ref c_Card)
  cl_Card : Cls K c_Card
  n_Card__heading : NoAttr K c_Card "_heading"
  n_Card__books : NoAttr K c_Card "_books"
  n_Card__see : NoAttr K c_Card "_see"
  n_Card__also : NoAttr K c_Card "_also"
  Mk_Card : Mk K c_Card a_Card_init
  c_Drawer : Addr
  g_Drawer : mg "Drawer" = some (.ref c_Drawer)
  cl_Drawer : Cls K c_Drawer
  n_Drawer__cards : NoAttr K c_Drawer "_cards"
  Mk_Drawer : Mk K c_Drawer a_Drawer_init
  ex_InvalidCard_InvalidCard : PySem.W.exmOne K (.ref c_InvalidCard) (.ref c_InvalidCard) = some true
  ex_InvalidCard_InvalidText : PySem.W.exmOne K (.ref c_InvalidCard) (.ref c_InvalidText) = some false
  ex_InvalidDrawer_InvalidCard : PySem.W.exmOne K (.ref c_InvalidDrawer) (.ref c_InvalidCard) = some false
  ex_InvalidDrawer_InvalidDrawer : PySem.W.exmOne K (.ref c_InvalidDrawer) (.ref c_InvalidDrawer) = some true
  ex_InvalidDrawer_InvalidText : PySem.W.exmOne K (.ref c_InvalidDrawer) (.ref c_InvalidText) = some false
  ex_InvalidText_InvalidText : PySem.W.exmOne K (.ref c_InvalidText) (.ref c_InvalidText) = some true
theorem b_InvalidCard_init {K : PySem.W.Frag} {mg : Str → Option Value} (T : Top K mg) : Binds K T.fd_InvalidCard_init ["self", "part"] [] := T.F_InvalidCard_init.binds (ps := ["self", "part"]) fun _ _ _ _ _ _ us hl => match us, hl with | [_, _], _ => rfl
theorem b_InvalidText_init {K : PySem.W.Frag} {mg : Str → Option Value} (T : Top K mg) : Binds K T.fd_InvalidText_init ["self", "row", "word"] [] := T.F_InvalidText_init.binds (ps := ["self", "row", "word"]) fun _ _ _ _ _ _ us hl => match us, hl with | [_, _, _], _ => rfl
theorem b_is_word {K : PySem.W.Frag} {mg : Str → Option Value} (T : Top K mg) : Binds K T.fd_is_word ["text"] [] := T.F_is_word.binds (ps := ["text"]) fun _ _ _ _ _ _ us hl => match us, hl with | [_], _ => rfl
theorem b_is_number {K : PySem.W.Frag} {mg : Str → Option Value} (T : Top K mg) : Binds K T.fd_is_number ["number", "least", "greatest"] [] := T.F_is_number.binds (ps := ["number", "least", "greatest"]) fun _ _ _ _ _ _ us hl => match us, hl with | [_, _, _], _ => rfl
theorem b_is_digits {K : PySem.W.Frag} {mg : Str → Option Value} (T : Top K mg) : Binds K T.fd_is_digits ["text", "most"] [] := T.F_is_digits.binds (ps := ["text", "most"]) fun _ _ _ _ _ _ us hl => match us, hl with | [_, _], _ => rfl
theorem b_are_books {K : PySem.W.Frag} {mg : Str → Option Value} (T : Top K mg) : Binds K T.fd_are_books ["books"] [] := T.F_are_books.binds (ps := ["books"]) fun _ _ _ _ _ _ us hl => match us, hl with | [_], _ => rfl
theorem b_is_target {K : PySem.W.Frag} {mg : Str → Option Value} (T : Top K mg) : Binds K T.fd_is_target ["see", "heading"] [] := T.F_is_target.binds (ps := ["see", "heading"]) fun _ _ _ _ _ _ us hl => match us, hl with | [_, _], _ => rfl
theorem b_are_further {K : PySem.W.Frag} {mg : Str → Option Value} (T : Top K mg) : Binds K T.fd_are_further ["also", "heading"] [] := T.F_are_further.binds (ps := ["also", "heading"]) fun _ _ _ _ _ _ us hl => match us, hl with | [_, _], _ => rfl
theorem b_wrong_part {K : PySem.W.Frag} {mg : Str → Option Value} (T : Top K mg) : Binds K T.fd_wrong_part ["heading", "books", "see", "also"] [] := T.F_wrong_part.binds (ps := ["heading", "books", "see", "also"]) fun _ _ _ _ _ _ us hl => match us, hl with | [_, _, _, _], _ => rfl
theorem b_Drawer_init {K : PySem.W.Frag} {mg : Str → Option Value} (T : Top K mg) : Binds K T.fd_Drawer_init ["self", "cards"] [] := T.F_Drawer_init.binds (ps := ["self", "cards"]) fun _ _ _ _ _ _ us hl => match us, hl with | [_, _], _ => rfl
theorem b_words_by_row {K : PySem.W.Frag} {mg : Str → Option Value} (T : Top K mg) : Binds K T.fd_words_by_row ["text"] [] := T.F_words_by_row.binds (ps := ["text"]) fun _ _ _ _ _ _ us hl => match us, hl with | [_], _ => rfl
theorem b_is_book {K : PySem.W.Frag} {mg : Str → Option Value} (T : Top K mg) : Binds K T.fd_is_book ["word", "last"] [] := T.F_is_book.binds (ps := ["word", "last"]) fun _ _ _ _ _ _ us hl => match us, hl with | [_, _], _ => rfl
theorem b_index_of_also {K : PySem.W.Frag} {mg : Str → Option Value} (T : Top K mg) : Binds K T.fd_index_of_also ["words"] [] := T.F_index_of_also.binds (ps := ["words"]) fun _ _ _ _ _ _ us hl => match us, hl with | [_], _ => rfl
theorem b_wrong_in_see {K : PySem.W.Frag} {mg : Str → Option Value} (T : Top K mg) : Binds K T.fd_wrong_in_see ["words"] [] := T.F_wrong_in_see.binds (ps := ["words"]) fun _ _ _ _ _ _ us hl => match us, hl with | [_], _ => rfl
theorem b_wrong_in_entry {K : PySem.W.Frag} {mg : Str → Option Value} (T : Top K mg) : Binds K T.fd_wrong_in_entry ["words"] [] := T.F_wrong_in_entry.binds (ps := ["words"]) fun _ _ _ _ _ _ us hl => match us, hl with | [_], _ => rfl
theorem b_wrong_word {K : PySem.W.Frag} {mg : Str → Option Value} (T : Top K mg) : Binds K T.fd_wrong_word ["words"] [] := T.F_wrong_word.binds (ps := ["words"]) fun _ _ _ _ _ _ us hl => match us, hl with | [_], _ => rfl
theorem b_card_by {K : PySem.W.Frag} {mg : Str → Option Value} (T : Top K mg) : Binds K T.fd_card_by ["words"] [] := T.F_card_by.binds (ps := ["words"]) fun _ _ _ _ _ _ us hl => match us, hl with | [_], _ => rfl
theorem b_parse_drawer {K : PySem.W.Frag} {mg : Str → Option Value} (T : Top K mg) : Binds K T.fd_parse_drawer ["text"] [] := T.F_parse_drawer.binds (ps := ["text"]) fun _ _ _ _ _ _ us hl => match us, hl with | [_], _ => rfl
theorem b_llaw_taken {K : PySem.W.Frag} {mg : Str → Option Value} (T : Top K mg) : Binds K T.fd_llaw_taken ["_law_row", "_law_many"] [] := T.F_llaw_taken.binds (ps := ["_law_row", "_law_many"]) fun _ _ _ _ _ _ us hl => match us, hl with | [_, _], _ => rfl
theorem b_llaw_place {K : PySem.W.Frag} {mg : Str → Option Value} (T : Top K mg) : Binds K T.fd_llaw_place ["_law_rows"] [] := T.F_llaw_place.binds (ps := ["_law_rows"]) fun _ _ _ _ _ _ us hl => match us, hl with | [_], _ => rfl
theorem b_law {K : PySem.W.Frag} {mg : Str → Option Value} (T : Top K mg) : Binds K T.fd_law ["_law_script"] [] := T.F_law.binds (ps := ["_law_script"]) fun _ _ _ _ _ _ us hl => match us, hl with | [_], _ => rfl
end My
namespace My
open PySem L2
section
variable {K : PySem.W.Frag} {H H' H1 H2 : Hp} {a b p r : Addr} {o o' : HO} {xs ys : List V}
/-! ### what stands stays -/
theorem sql_upd (h : SqL K H a xs) (n : a ≠ p) : SqL K (upd H p o) a xs := by
  rcases h with (h | ⟨u, h⟩) | h
  · exact .inl (.inl (by rw [upd_ne n]; exact h))
  · exact .inl (.inr ⟨u, by rw [upd_ne n]; exact h⟩)
  · exact .inr h
theorem sqt_upd (h : SqT K H a xs) (n : a ≠ p) : SqT K (upd H p o) a xs := by
  rcases h with (h | ⟨u, h⟩) | h
  · exact .inl (.inl (by rw [upd_ne n]; exact h))
  · exact .inl (.inr ⟨u, by rw [upd_ne n]; exact h⟩)
  · exact .inr h
theorem _root_.L2.Same.seqT (e : Same H H') (h : SqT K H a xs) : SqT K H' a xs := by
  rcases h with (h | ⟨o, h⟩) | h
  · exact .inl (.inl (e _ _ h))
  · exact .inl (.inr ⟨o, e _ _ h⟩)
  · exact .inr h
theorem same_new (n : H p = none) : Same H (upd H p o) := fun b x e => by
  rw [upd_ne (ne_of_none e n)]
  exact e
/-- an object that H does not know may change -/
theorem same_mut (e : Same H H') (n : H p = none) : Same H (upd H' p o) := fun b x h => by
  rw [upd_ne (ne_of_none h n)]
  exact e b x h
theorem kp (h : H r = some o) (n : H p = none) : upd H p o' r = some o := by
  rw [upd_ne (ne_of_none h n)]
  exact h
theorem kn (h : H r = some o) (n : r ≠ p) : upd H p o' r = some o := by
  rw [upd_ne n]
  exact h
/-- all but one -/
def But (r : Addr) (H H' : Hp) : Prop := ∀ b o, H b = some o → b ≠ r → H' b = some o
theorem But.refl : But r H H := fun _ _ h _ => h
theorem But.trans (a : But r H H1) (b : But r H1 H2) : But r H H2 := fun c o h n => b c o (a c o h n) n
theorem But.upd (a : But r H H1) : But r H (L2.upd H1 r o) := fun c x h n => by
  rw [upd_ne n]
  exact a c x h n
theorem But.same (a : But r H H1) (b : Same H1 H2) : But r H H2 := fun c o h n => b c o (a c o h n)
theorem _root_.L2.Same.but (a : Same H H1) : But r H H1 := fun c o h _ => a c o h
theorem But.seq (e : But r H H') (n : a ≠ r) (h : SqL K H a xs) : SqL K H' a xs := by
  rcases h with (h | ⟨o, h⟩) | h
  · exact .inl (.inl (e _ _ h n))
  · exact .inl (.inr ⟨o, e _ _ h n⟩)
  · exact .inr h
theorem But.seqT (e : But r H H') (n : a ≠ r) (h : SqT K H a xs) : SqT K H' a xs := by
  rcases h with (h | ⟨o, h⟩) | h
  · exact .inl (.inl (e _ _ h n))
  · exact .inl (.inr ⟨o, e _ _ h n⟩)
  · exact .inr h
theorem But.free (e : But r H H') (hr : ∃ o, H r = some o) {l : Addr} (h : H' l = none) (hr' : ∃ o, H' r = some o) : H l = none := by
  cases q : H l with
  | none => rfl
  | some o =>
    by_cases z : l = r
    · subst z
      obtain ⟨o, ho⟩ := hr'
      rw [h] at ho
      cases ho
    · rw [e l o q z] at h
      cases h
/-- what never changes stays -/
def immO : HO → Bool
  | .tup _ => true
  | .ins _ _ _ => true
  | .frz _ _ => true
  | .own _ => true
  | _ => false
def Imm (H H' : Hp) : Prop := ∀ b o, H b = some o → immO o = true → H' b = some o
theorem Imm.refl : Imm H H := fun _ _ h _ => h
theorem Imm.trans (a : Imm H H1) (b : Imm H1 H2) : Imm H H2 := fun c o h n => b c o (a c o h n) n
theorem _root_.L2.Same.imm (a : Same H H1) : Imm H H1 := fun c o h _ => a c o h
theorem But.imm (a : But r H H1) (h : H r = some o) (n : immO o = false) : Imm H H1 := fun c u hc hu => a c u hc fun e => by
  subst e
  rw [h] at hc
  cases hc
  rw [n] at hu
  cases hu
theorem Imm.mut (a : Imm H H1) (h : H1 p = some o) (n : immO o = false) : Imm H (upd H1 p o') := fun c u hc hu => by
  have h1 := a c u hc hu
  rw [upd_ne (fun e => by
    subst e
    rw [h] at h1
    cases h1
    rw [n] at hu
    cases hu)]
  exact h1
theorem Imm.new (a : Imm H H1) (h : H1 p = none) : Imm H (upd H1 p o') := fun c u hc hu => by
  rw [upd_ne (ne_of_none (a c u hc hu) h)]
  exact a c u hc hu
theorem Imm.seqT (e : Imm H H') (h : SqT K H a xs) : SqT K H' a xs := by
  rcases h with (h | ⟨o, h⟩) | h
  · exact .inl (.inl (e _ _ h rfl))
  · exact .inl (.inr ⟨o, e _ _ h rfl⟩)
  · exact .inr h
theorem sizeLine_of {n : Nat} (h : n ≤ 1000000) : n < sizeLine := Nat.lt_of_le_of_lt h (by decide)
/-- a comprehension whose turns change nothing that stands: what it makes, turn by turn -/
theorem lc_rel {J : It} {n : Nat} {G : Hp → Prop} {Y : Nat → Hp → V → Hp → Prop} (w : Walk J n G Y) {g : TG} {tt : TT} {te : TE} {vs : List Nat} {σ : St} {D : Addr} {Qd : Hp → Prop} (hn : n ≤ 1000000) (hD : H1 D = none)
    (Rl : Nat → Option V → Hp → Prop) (mono : ∀ i z H H', Imm H H' → Rl i z H → Rl i z H') (hG : ∀ H, Same H1 H → G H)
    (hs : ∀ i x H H', i < n → Same H1 H → Y i H x H' → ∀ (R : V → Hp → Prop) (R0 : Hp → Prop), (∀ y H4, Rl i (some y) H4 → Same H H4 → R y H4) → (∀ H3, Rl i none H3 → Same H H3 → R0 H3) →
      g x (wipe σ vs) H' fun σ2 H2 => wipe σ2 vs = wipe σ vs ∧ tt σ2 H2 fun b H3 => if b = true then te σ2 H3 R else R0 H3)
    (hd : ∀ H (zs : List (Option V)), Same H1 H → zs.length = n → (∀ i z, zs[i]? = some z → Rl i z H) → H D = some (.lst (zs.filterMap id)) → Qd H) :
    ∃ W : Nat → Nat → Hp → Prop, (∃ m, W 0 m (upd H1 D (.lst []))) ∧ ∀ i m H, W i m H →
      (J.stop i H ∧ Qd H) ∨ (J.go i H ∧ ∃ Nx : Hp → Prop, (∀ H', Nx H' → ∃ m', m' < m ∧ W (i + 1) m' H') ∧ ∀ x H', J.yld i H x H' → g x (wipe σ vs) H' fun σ2 H2 => wipe σ2 vs = wipe σ vs ∧ tt σ2 H2 fun b H3 =>
        if b = true then te σ2 H3 fun y H4 => ∃ acc, H4 D = some (.lst acc) ∧ acc.length < sizeLine ∧ Nx (upd H4 D (.lst (acc ++ [y]))) else Nx H3) := by
  have fl : ∀ zs : List (Option V), (zs.filterMap id).length ≤ zs.length := fun zs => List.length_filterMap_le _ _
  have get_app : ∀ (zs : List (Option V)) (z : Option V) (j : Nat) (y : Option V), (zs ++ [z])[j]? = some y → zs[j]? = some y ∨ (j = zs.length ∧ y = z) := fun zs z j y h => by
    by_cases hj : j < zs.length
    · rw [List.getElem?_append_left hj] at h
      exact .inl h
    · rw [List.getElem?_append_right (by omega)] at h
      have hj2 : j - zs.length = 0 := by
        cases e : j - zs.length with
        | zero => rfl
        | succ k => rw [e] at h; simp at h
      rw [hj2] at h
      exact .inr ⟨by omega, (Option.some.inj h).symm⟩
  refine lc_it w (fun i H => ∃ zs : List (Option V), zs.length = i ∧ Same H1 H ∧ (∀ j z, zs[j]? = some z → Rl j z H) ∧ H D = some (.lst (zs.filterMap id)))
    ⟨[], rfl, same_new hD, fun j z h => by simp at h, upd_same⟩ (fun i H _ ⟨_, _, s, _⟩ => hG H s) ?_ (fun H ⟨zs, l, s, r, e⟩ => hd H zs s l r e)
  rintro i x H H' hi ⟨zs, l, s, r, e⟩ hy
  refine hs i x H H' hi s hy _ _ (fun y H4 hr s4 => ?_) (fun H3 hr s3 => ?_)
  · refine ⟨zs.filterMap id, s4 _ _ e, sizeLine_of (by have := fl zs; omega), zs ++ [some y], by rw [List.length_append, l]; rfl, same_mut (s.trans s4) hD, fun j z h => ?_, ?_⟩
    · have im : Imm H (upd H4 D (.lst (zs.filterMap id ++ [y]))) := s4.imm.mut (s4 _ _ e) rfl
      have im4 : Imm H4 (upd H4 D (.lst (zs.filterMap id ++ [y]))) := Imm.refl.mut (s4 _ _ e) rfl
      rcases get_app zs _ j z h with h | ⟨rfl, rfl⟩
      · exact mono j z _ _ im (r j z h)
      · rw [l]
        exact mono i _ _ _ im4 hr
    · rw [upd_same, List.filterMap_append]
      rfl
  · refine ⟨zs ++ [none], by rw [List.length_append, l]; rfl, s.trans s3, fun j z h => ?_, ?_⟩
    · rcases get_app zs _ j z h with h | ⟨rfl, rfl⟩
      · exact mono j z _ _ s3.imm (r j z h)
      · rw [l]
        exact hr
    · rw [s3 _ _ e, List.filterMap_append]
      simp
/-- .. of values that a function tells -/
theorem lc_fn {J : It} {n : Nat} {G : Hp → Prop} {Y : Nat → Hp → V → Hp → Prop} (w : Walk J n G Y) {g : TG} {tt : TT} {te : TE} {vs : List Nat} {σ : St} {D : Addr} {Qd : Hp → Prop} (hn : n ≤ 1000000) (hD : H1 D = none)
    (f : Nat → Option V) (hG : ∀ H, Same H1 H → G H)
    (hs : ∀ i x H H', i < n → Same H1 H → Y i H x H' → ∀ (R : V → Hp → Prop) (R0 : Hp → Prop), (∀ y H4, f i = some y → Same H H4 → R y H4) → (∀ H3, f i = none → Same H H3 → R0 H3) →
      g x (wipe σ vs) H' fun σ2 H2 => wipe σ2 vs = wipe σ vs ∧ tt σ2 H2 fun b H3 => if b = true then te σ2 H3 R else R0 H3)
    (hd : ∀ H, Same H1 H → H D = some (.lst ((List.range n).filterMap f)) → Qd H) :
    ∃ W : Nat → Nat → Hp → Prop, (∃ m, W 0 m (upd H1 D (.lst []))) ∧ ∀ i m H, W i m H →
      (J.stop i H ∧ Qd H) ∨ (J.go i H ∧ ∃ Nx : Hp → Prop, (∀ H', Nx H' → ∃ m', m' < m ∧ W (i + 1) m' H') ∧ ∀ x H', J.yld i H x H' → g x (wipe σ vs) H' fun σ2 H2 => wipe σ2 vs = wipe σ vs ∧ tt σ2 H2 fun b H3 =>
        if b = true then te σ2 H3 fun y H4 => ∃ acc, H4 D = some (.lst acc) ∧ acc.length < sizeLine ∧ Nx (upd H4 D (.lst (acc ++ [y]))) else Nx H3) := by
  refine lc_rel w hn hD (fun i z _ => f i = z) (fun _ _ _ _ _ h => h) hG hs fun H zs s l r e => hd H s ?_
  have ez : zs = (List.range n).map f := by
    apply List.ext_getElem?
    intro i
    rw [List.getElem?_map]
    cases h : zs[i]? with
    | none =>
      rw [List.getElem?_eq_none_iff] at h
      rw [List.getElem?_eq_none (by rw [List.length_range]; omega)]
      rfl
    | some z =>
      have hi := (List.getElem?_eq_some_iff.mp h).1
      rw [List.getElem?_range (by omega)]
      exact (congrArg some (r i z h)).symm
  rw [e, ez, List.filterMap_map]
  rfl
/-- .. without a test -/
theorem lc_map {J : It} {n : Nat} {G : Hp → Prop} {Y : Nat → Hp → V → Hp → Prop} (w : Walk J n G Y) {g : TG} {te : TE} {vs : List Nat} {σ : St} {D : Addr} {Qd : Hp → Prop} (hn : n ≤ 1000000) (hD : H1 D = none)
    (f : Nat → V) (hG : ∀ H, Same H1 H → G H)
    (hs : ∀ i x H H', i < n → Same H1 H → Y i H x H' → ∀ R : V → Hp → Prop, (∀ H4, Same H H4 → R (f i) H4) → g x (wipe σ vs) H' fun σ2 H2 => wipe σ2 vs = wipe σ vs ∧ te σ2 H2 R)
    (hd : ∀ H, Same H1 H → H D = some (.lst ((List.range n).map f)) → Qd H) (hg : ∀ x σ H (A B : St → Hp → Prop), (∀ σ2 H2, A σ2 H2 → B σ2 H2) → g x σ H A → g x σ H B) :
    ∃ W : Nat → Nat → Hp → Prop, (∃ m, W 0 m (upd H1 D (.lst []))) ∧ ∀ i m H, W i m H →
      (J.stop i H ∧ Qd H) ∨ (J.go i H ∧ ∃ Nx : Hp → Prop, (∀ H', Nx H' → ∃ m', m' < m ∧ W (i + 1) m' H') ∧ ∀ x H', J.yld i H x H' → g x (wipe σ vs) H' fun σ2 H2 => wipe σ2 vs = wipe σ vs ∧ tYes σ2 H2 fun b H3 =>
        if b = true then te σ2 H3 fun y H4 => ∃ acc, H4 D = some (.lst acc) ∧ acc.length < sizeLine ∧ Nx (upd H4 D (.lst (acc ++ [y]))) else Nx H3) := by
  refine lc_fn w hn hD (fun i => some (f i)) hG (fun i x H H' hi s hy R R0 r1 r0 => hg _ _ _ _ _ (fun σ2 H2 h => ⟨h.1, ?_⟩) (hs i x H H' hi s hy R fun H4 s4 => r1 _ _ rfl s4)) (fun H s e => hd H s (by rw [e, List.filterMap_eq_map']))
  show (if true = true then te σ2 H2 R else R0 H2)
  rw [if_pos rfl]
  exact h.2
theorem gName_mono {k : Nat} : ∀ (x : V) (σ : St) (H : Hp) (A B : St → Hp → Prop), (∀ σ2 H2, A σ2 H2 → B σ2 H2) → gName k x σ H A → gName k x σ H B := fun _ _ _ _ _ h a => h _ _ a
theorem range_get {α : Type} (l : List α) : (List.range l.length).filterMap (fun i => l[i]?) = l := by
  induction l with
  | nil => rfl
  | cons x r ih =>
    rw [List.length_cons, List.range_succ_eq_map, List.filterMap_cons]
    show x :: _ = _
    rw [List.filterMap_map]
    exact congrArg (x :: ·) ih
theorem range_map {α β : Type} (l : List α) (f : α → β) (g : Nat → β) (h : ∀ i x, l[i]? = some x → g i = f x) : (List.range l.length).map g = l.map f := by
  apply List.ext_getElem?
  intro i
  rw [List.getElem?_map, List.getElem?_map]
  cases e : l[i]? with
  | none =>
    rw [List.getElem?_eq_none_iff] at e
    rw [List.getElem?_eq_none (by rw [List.length_range]; omega)]
    rfl
  | some x =>
    rw [List.getElem?_range (List.getElem?_eq_some_iff.mp e).1]
    exact congrArg some (h i x e)
theorem range_fm {α β : Type} (l : List α) (f : α → Option β) (g : Nat → Option β) (h : ∀ i x, l[i]? = some x → g i = f x) : (List.range l.length).filterMap g = l.filterMap f := by
  have e : (List.range l.length).map g = l.map f := range_map l f g h
  have e1 : (List.range l.length).filterMap g = ((List.range l.length).map g).filterMap id := by rw [List.filterMap_map]; rfl
  have e2 : l.filterMap f = (l.map f).filterMap id := by rw [List.filterMap_map]; rfl
  rw [e1, e2, e]
end
end My
namespace My
open PySem PySem.Spec PyProof.Rows L2
/-! ### enumerate(tuple): by the library's Draws -/
def IteT (K : PySem.W.Frag) (a : Addr) : It :=
  ⟨fun i H => ∃ (xs : List V) (x : V), SqT K H a xs ∧ xs[i]? = some x,
   fun i H v H' => ∃ T x, v = .ref T ∧ H T = none ∧ H' = upd H T (.tup [.int (i : Nat), x]) ∧ ∀ xs, SqT K H a xs → xs[i]? = some x,
   fun i H => ∃ xs : List V, SqT K H a xs ∧ xs.length = i⟩
theorem turn_enumT {P : Program} {w : World} {K : PySem.W.Frag} {elts : List Expr} {kk : Nat} {tpos : Pos} (a e it : Addr) (hei : e ≠ it) (hea : e ≠ a) (hai : a ≠ it) :
    Turn P w K (.Tuple elts kk tpos) (IteT K a) [e, it] e (fun i h => (∃ old, IsEnum h e it ((i : Nat) : Int) old) ∧ h.IsTupleIter it a i) where
  mem := by simp
  obj := fun i h st b hb => by
    obtain ⟨⟨old, he⟩, ⟨o, ho, hc, hd⟩⟩ := st
    rcases (by simpa using hb : b = e ∨ b = it) with rfl | rfl
    · exact ⟨_, he, fun v q => nomatch q⟩
    · exact ⟨o, ho, fun v q => by rw [hd] at q; cases q⟩
  keep := fun i h h' st k => by
    obtain ⟨⟨old, he⟩, hi⟩ := st
    exact ⟨⟨old, k e (by simp) _ he⟩, hi.at fun o q => k it (by simp) o q⟩
  item := by
    intro X hP hw hK hc i pins s σ H E I hf st hg
    subst hP hw hK
    obtain ⟨⟨old, he⟩, hit⟩ := st
    obtain ⟨xs, x, hq, hx⟩ := hg
    obtain ⟨its, rv, p, hz⟩ := I.tuple hq
    obtain ⟨u, hu, ru⟩ := rv.get hx
    have lt_e : e < s.heap.objs.size := Heap.lt_size he
    have lt_i : it < s.heap.objs.size := by
      obtain ⟨_, q, _⟩ := hit
      exact Heap.lt_size q
    have hlt : i < its.toArray.size := by
      have := (List.getElem?_eq_some_iff.mp hu).1
      simpa using this
    have D : Draws X.prog X.w X.A.in1 it [it, a] its.toArray.size (fun i v => its.toArray[i]? = some v) (fun i h => h.IsTupleIter it a i ∧ h.IsTuple a its.toArray) :=
      Draws.tuple (show X.A.in1.handled = none from I.ok.hd hc) it a hai its.toArray
    refine wpAny_pyNext_enum_itemD D he ⟨hit, p⟩ hlt hei (by simp [hei, hea]) fun x' h' tk hx' ho hst' hT hsz hk => ?_
    obtain rfl : x' = u := by
      have e1 : its.toArray[i]? = some u := by simpa using hu
      exact Option.some.inj (hx'.symm.trans e1)
    refine ⟨_, rfl, wpAny_letOwnedTupleGo_enum (s := { s with heap := h', toks := tk + 1 }) ho fun h'' he' sb => ?_⟩
    have hT2 := (sb.2 _ (Nat.ne_of_gt lt_e)).trans hT
    have new : ObjOk X.prog X.w (upd H s.heap.objs.size (.tup [.int (i : Nat), x])) h'' s.heap.objs.size (.tup [.int (i : Nat), x]) :=
      ⟨by show 2 ≤ sizeLine; decide, [.int i tk, x'], .cons ⟨_, rfl⟩ (.cons ru .nil), ⟨_, hT2, rfl, _, rfl⟩⟩
    have I1 : Inv X pins σ (upd H s.heap.objs.size (.tup [.int (i : Nat), x])) { s with heap := h'', toks := tk + 1 } :=
      I.turnedNew (ch := [e, it]) (fun b ob hb q => (sb.2 b (fun z => hb (by simp [z]))).trans (hk b ob (fun z => hb (by simp [z])) (fun z => hb (by simp [z])) q)) hf (Nat.le_refl _) new
    refine ⟨.ref s.heap.objs.size, _, I1, rfl, ⟨_, x, rfl, I.hok.fresh (Nat.le_refl _), rfl, fun ys hy => by rw [I.tuple_inj hy hq]; exact hx⟩, ⟨⟨x', ?_⟩, ?_⟩, fun b hb => ?_⟩
    · have e1 : ((i + 1 : Nat) : Int) = (i : Int) + 1 := by omega
      rw [e1]
      exact he'
    · exact hst'.1.at fun o q => (sb.2 it (Ne.symm hei)).trans q
    · have lt_b : b < s.heap.objs.size := by
        rcases (by simpa using hb : b = e ∨ b = it) with z | z
        · rw [z]; exact lt_e
        · rw [z]; exact lt_i
      rw [upd_ne (Nat.ne_of_lt lt_b)]
      exact (hf b hb).1
  done := by
    intro X hP hw hK hc i pins s σ H E I hf st hg
    subst hP hw hK
    obtain ⟨⟨old, he⟩, hit⟩ := st
    obtain ⟨xs, hq, hx⟩ := hg
    obtain ⟨its, rv, p, hz⟩ := I.tuple hq
    obtain ⟨f0, f1, f2, f3, f4, f5⟩ := hf it (by simp)
    have hl := rv.length
    obtain rfl : i = its.toArray.size := by rw [← hx, hl, List.size_toArray]
    have D : Draws X.prog X.w X.A.in1 it [it, a] its.toArray.size (fun i v => its.toArray[i]? = some v) (fun i h => h.IsTupleIter it a i ∧ h.IsTuple a its.toArray) :=
      Draws.tuple (show X.A.in1.handled = none from I.ok.hd hc) it a hai its.toArray
    exact wpAny_pyNext_enum_endD D he ⟨hit, p⟩ fun h' eb => ⟨rfl, I.turned (t' := s.toks) (fun b o hb q => eb b o hb q) f0 f1 f3 f4 f5⟩
  self := fun A i s Q E st h => let ⟨⟨_, he⟩, _⟩ := st; wpAny_pyIter_enum he h
set_option maxHeartbeats 1000000 in
/-- enumerate(v), whatever v begins with -/
theorem meets_en1 {v : Value} {o : Obj} {H : Heap → Prop} (B : Begins v o H) :
    Meets (Builtin.«enumerate.__new__» ⟨[.type "enumerate", v], []⟩) (fun _ R s => H s.heap ∧
      R (.ok (.ret (.ref (s.heap.push o).objs.size))) { s with heap := (s.heap.push o).push { cls := .type "enumerate", data := .fields #[.none, .bool false, .ref s.heap.objs.size, rawInt 0, .none, .none] } }) :=
  .of_wp fun prog w A R s h => by
    obtain ⟨hp, g, d, tk, os⟩ := s
    obtain ⟨h1, h⟩ := h
    have hs := sub_enumerate
    have q1 : ∀ {A' : Around} {E : Value → Shared → Prop} {Q : Value → Shared → Prop}, Q (.ref hp.objs.size) ⟨hp.push o, g, d, tk, os⟩ → wpAny (model prog w) A' (pyIter v) Q E ⟨hp, g, d, tk, os⟩ :=
      fun q => B.iter prog w _ _ ⟨hp, g, d, tk, os⟩ _ h1 q
    wp_walk using q1
    refine wpAny_stack_any fun st => wpAny_pure ?_
    split
    · rename_i c _ _ _ _ _
      cases (c == Value.type "enumerate") <;> (wp_walk using q1; exact ⟨_, rfl, h⟩)
    · wp_walk using q1
      exact ⟨_, rfl, h⟩
theorem call_en1 {prog : Program} {w : World} {A : Around} {E : Value → Shared → Prop} {s : Shared} {v : Value} {o : Obj} {H : Heap → Prop} {Q : Value → Shared → Prop} (B : Begins v o H) (h1 : H s.heap)
    (h : ∀ h', IsEnum h' (s.heap.objs.size + 1) s.heap.objs.size 0 .none → h'.get? s.heap.objs.size = some o →
      (∀ b o, s.heap.get? b = some o → h'.get? b = some o) → Q (.ref (s.heap.objs.size + 1)) { s with heap := h' }) :
    wpAny (model prog w) A (call (.type "enumerate") [v]) Q E s := by
  refine callType_new F.called_enumerate (by decide) (F.typeCall_enumerate_1 _) (F.newCall_enumerate_1 _) (fun obj => F.args_object_init_2 obj _) F.entry_enumerate_new (meets_en1 B) ⟨h1, ?_⟩
  have hz : (s.heap.push o).objs.size = s.heap.objs.size + 1 := Heap.size_push ..
  show _ ∧ _
  rw [hz]
  have he : IsEnum ((s.heap.push o).push { cls := .type "enumerate", data := .fields #[.none, .bool false, .ref s.heap.objs.size, rawInt 0, .none, .none] }) (s.heap.objs.size + 1) s.heap.objs.size 0 .none := by
    have q := Heap.get?_push_size (s.heap.push o) (o := { cls := .type "enumerate", data := .fields #[.none, .bool false, .ref s.heap.objs.size, rawInt 0, .none, .none] }) rfl
    rw [hz] at q
    exact q
  exact ⟨⟨_, he, rfl⟩, h _ he (Heap.get?_push_of_some _ (Heap.get?_push_size _ B.free)) fun b o x => Heap.get?_push_of_some _ (Heap.get?_push_of_some _ x)⟩
def iEnumT (K : PySem.W.Frag) (ta : TA) : TI := fun σ H R => ta σ H fun vs H1 => ∃ a xs, vs = [.ref a] ∧ SqT K H1 a xs ∧ R (IteT K a) H1
theorem pi_enumT {X : Cx} {e : Expr} {ta : TA} {p pos tpos : Pos} {elts : List Expr} {kk : Nat} (hg : Gl X "enumerate") (hm : X.mg "enumerate" = none) (ha : PA X [e] ta) (hs : starEach [e] X.env = [(false, eval e X.env)] := by rfl) :
    PI X (.Tuple elts kk tpos) (.Call (.Name "enumerate" p) [e] [] pos) (iEnumT X.K ta) := by
  refine ⟨fun pins s σ H R I h => ?_⟩
  refine Call_ (ld_blt I hg hm boot_enumerate (PyProof.Rows.callWith_type1 (thn (ha.run pos pins s σ H _ I h) fun us s1 ⟨vs, H1, I1, r1, q1⟩ => ?_) hs rfl))
  obtain ⟨a, xs, ex, hq, q⟩ := q1
  subst ex
  cases r1 with
  | cons r rr =>
    cases rr
    cases r
    obtain ⟨its, rv, p', hz⟩ := I1.tuple hq
    have lt_a : a < s1.heap.objs.size := by
      obtain ⟨o1, ho1, _⟩ := id p'
      exact Heap.lt_size ho1
    refine call_en1 (begins_tuple a its.toArray) (show s1.heap.IsTuple a its.toArray from p') fun h' he hit hk => wpAny_pyIter_enum he ?_
    have I2 : Inv X pins σ H1 { s1 with heap := h' } := I1.kept (t' := s1.toks) hk
    refine ⟨s1.heap.objs.size + 1, [s1.heap.objs.size + 1, s1.heap.objs.size], _, _, H1, rfl, I2, turn_enumT a (s1.heap.objs.size + 1) s1.heap.objs.size (Nat.succ_ne_self _) (fun z => absurd lt_a (by rw [← z]; exact Nat.not_lt_of_le (Nat.le_succ _))) (Nat.ne_of_lt lt_a), ⟨⟨.none, he⟩, ⟨_, hit, rfl, rfl⟩⟩, fun b hb => ?_, q⟩
    have hle : s1.heap.objs.size ≤ b := by
      rcases (by simpa using hb : b = s1.heap.objs.size + 1 ∨ b = s1.heap.objs.size) with z | z
      · rw [z]; exact Nat.le_add_right _ _
      · rw [z]; exact Nat.le_refl _
    exact I1.fpOk hle (I1.hok.fresh hle)
theorem walk_enumT {K : PySem.W.Frag} {a : Addr} {xs : List V} : Walk (IteT K a) xs.length (fun H => SqT K H a xs) (YPair (fun i => some (.int (i : Nat))) (fun i => xs[i]?)) := by
  refine ⟨fun i _ hi q => ⟨xs, xs[i], q, by simp [hi]⟩, fun _ q => ⟨xs, q, rfl⟩, fun i H v H' _ q y => ?_⟩
  obtain ⟨T, x, h1, h2, h3, h4⟩ := y
  exact ⟨T, .int (i : Nat), x, h1, h2, h3, rfl, h4 xs q⟩
theorem walk_zipT {K : PySem.W.Frag} {a b : Addr} {xs ys : List V} {n : Nat} (hn : n = min xs.length ys.length) : Walk (RZ.ItzT K a b) n (fun H => SqT K H a xs ∧ SqT K H b ys) (YPair (fun i => xs[i]?) (fun i => ys[i]?)) := by
  subst hn
  refine ⟨fun i _ hi q => ?_, fun _ q => ⟨xs, ys, q.1, q.2, by omega⟩, fun i H v H' _ q y => ?_⟩
  · exact ⟨xs, ys, xs[i], ys[i], q.1, q.2, List.getElem?_eq_getElem (by omega), List.getElem?_eq_getElem (by omega)⟩
  · obtain ⟨T, x, z, h1, h2, h3, h4, h5⟩ := y
    exact ⟨T, x, z, h1, h2, h3, h4 xs q.1, h5 ys q.2⟩
/-- the class of a tuple -/
theorem ty_tup {K : PySem.W.Frag} {H : Hp} {a : Addr} {xs : List V} (h : SqT K H a xs) : TyX K H (.ref a) (.type "tuple") := by
  rcases h with (h | ⟨u, h⟩) | ⟨o, its, n, hk, hc, _⟩
  · exact .base (.tup h)
  · exact .fTuple h
  · exact .kTuple hk hc
end My
namespace My
open PySem L2
section
variable {K : PySem.W.Frag} {H H' : Hp} {a b : Addr}
/-! ### data that stands: what == asks -/
theorem dpAll_ints : ∀ ns : List Int, DpAll K H (ns.map V.int) (ns.map PyData.int)
  | [] => .nil
  | n :: r => .cons (.int n) (dpAll_ints r)
theorem dpAll_strs : ∀ ws : List Str, DpAll K H (ws.map V.str) (ws.map PyData.str)
  | [] => .nil
  | x :: r => .cons (.str x) (dpAll_strs r)
theorem dp_tInts {ns : List Int} (h : SqT K H a (ns.map V.int)) : Dp K H (.ref a) (.tuple (ns.map PyData.int)) := .tup h (dpAll_ints ns)
theorem dp_lInts {ns : List Int} (h : SqL K H a (ns.map V.int)) : Dp K H (.ref a) (.list (ns.map PyData.int)) := .lst h (dpAll_ints ns)
theorem dp_tStrs {ws : List Str} (h : SqT K H a (ws.map V.str)) : Dp K H (.ref a) (.tuple (ws.map PyData.str)) := .tup h (dpAll_strs ws)
theorem dp_lStrs {ws : List Str} (h : SqL K H a (ws.map V.str)) : Dp K H (.ref a) (.list (ws.map PyData.str)) := .lst h (dpAll_strs ws)
theorem dp_nil (h : SqT K H a []) : Dp K H (.ref a) (.tuple []) := .tup h .nil
theorem can_ints : ∀ ns : List Int, PyData.canLayAll0 (ns.map PyData.int) = true
  | [] => rfl
  | _ :: r => can_ints r
theorem dep_ints : ∀ ns : List Int, PyData.depthAll (ns.map PyData.int) = 0
  | [] => rfl
  | _ :: r => by
    show max 0 (PyData.depthAll (r.map PyData.int)) = 0
    rw [dep_ints r]
    rfl
theorem sh_tInts (ns : List Int) : SeqAt.shaped (.tuple (ns.map PyData.int)) = true := by
  show (PyData.canLayAll0 (ns.map PyData.int) && decide (PyData.depthAll (ns.map PyData.int) + 1 ≤ 64)) = true
  rw [can_ints, dep_ints]
  rfl
theorem sh_lInts (ns : List Int) : SeqAt.shaped (.list (ns.map PyData.int)) = true := by
  show (PyData.canLayAll0 (ns.map PyData.int) && decide (PyData.depthAll (ns.map PyData.int) + 1 ≤ 64)) = true
  rw [can_ints, dep_ints]
  rfl
theorem can_strs : ∀ ws : List Str, (∀ x ∈ ws, PyData.strOk x = true) → PyData.canLayAll0 (ws.map PyData.str) = true
  | [], _ => rfl
  | x :: r, h => by
    show (PyData.strOk x && PyData.canLayAll0 (r.map PyData.str)) = true
    rw [h x (List.mem_cons_self ..), can_strs r fun y hy => h y (List.mem_cons_of_mem _ hy)]
    rfl
theorem dep_strs : ∀ ws : List Str, PyData.depthAll (ws.map PyData.str) = 0
  | [] => rfl
  | _ :: r => by
    show max 0 (PyData.depthAll (r.map PyData.str)) = 0
    rw [dep_strs r]
    rfl
theorem sh_tStrs (ws : List Str) (h : ∀ x ∈ ws, PyData.strOk x = true) : SeqAt.shaped (.tuple (ws.map PyData.str)) = true := by
  show (PyData.canLayAll0 (ws.map PyData.str) && decide (PyData.depthAll (ws.map PyData.str) + 1 ≤ 64)) = true
  rw [can_strs ws h, dep_strs]
  rfl
theorem sh_lStrs (ws : List Str) (h : ∀ x ∈ ws, PyData.strOk x = true) : SeqAt.shaped (.list (ws.map PyData.str)) = true := by
  show (PyData.canLayAll0 (ws.map PyData.str) && decide (PyData.depthAll (ws.map PyData.str) + 1 ≤ 64)) = true
  rw [can_strs ws h, dep_strs]
  rfl
theorem eqv_ints : ∀ ns ms : List Int, PyData.eqvAll (ns.map PyData.int) (ms.map PyData.int) = decide (ns = ms)
  | [], [] => rfl
  | [], _ :: _ => rfl
  | _ :: _, [] => rfl
  | n :: r, m :: q => by
    show ((n == m) && PyData.eqvAll (r.map PyData.int) (q.map PyData.int)) = _
    rw [eqv_ints r q]
    by_cases e : n = m
    · subst e
      by_cases e2 : r = q
      · subst e2
        simp
      · rw [decide_eq_false e2, decide_eq_false (fun z => e2 (List.cons.inj z).2), Bool.and_false]
    · rw [decide_eq_false (fun z => e (List.cons.inj z).1), beq_eq_false_iff_ne.mpr e, Bool.false_and]
theorem eqv_strs : ∀ ns ms : List Str, PyData.eqvAll (ns.map PyData.str) (ms.map PyData.str) = decide (ns = ms)
  | [], [] => rfl
  | [], _ :: _ => rfl
  | _ :: _, [] => rfl
  | n :: r, m :: q => by
    show ((n == m) && PyData.eqvAll (r.map PyData.str) (q.map PyData.str)) = _
    rw [eqv_strs r q]
    by_cases e : n = m
    · subst e
      by_cases e2 : r = q
      · subst e2
        simp
      · rw [decide_eq_false e2, decide_eq_false (fun z => e2 (List.cons.inj z).2), Bool.and_false]
    · rw [decide_eq_false (fun z => e (List.cons.inj z).1), beq_eq_false_iff_ne.mpr e, Bool.false_and]
end
end My
namespace My
open PySem PySem.Spec PyProof.Rows L2
/-! ### max(xs, default=d) -/
def maxOr (d : Int) : List Int → Int
  | [] => d
  | x :: r => r.foldl max x
def rMaxD (K : PySem.W.Frag) : List V → List V → Hp → VK → Prop := fun vs zs H Q => ∃ (a : Addr) (ns : List Int) (d : Int), vs = [.ref a] ∧ zs = [.int d] ∧ SqL K H a (ns.map V.int) ∧ Q (.int (maxOr d ns)) H
theorem cr_maxD {X : Cx} (hc : X.calm = true) (hu : X.A.units + 64 < cLine) : CallRK X (.builtin "max") [Str.ofString "default"] (rMaxD X.K) := by
  intro pins s σ H vs zs us ws Q I r rz h
  obtain ⟨a, ns, d, rfl, rfl, hs, q⟩ := h
  obtain rfl := Vals.ref1 r
  obtain ⟨w1, rfl, t, rfl⟩ := vals1 rz
  obtain ⟨its, rv, hl, hz⟩ := I.list hs
  obtain ⟨as, hr⟩ := Dp.readsAll I (ns.map PyData.int) _ its (dpAll_ints ns) rv
  have al : PySem.W.AlikeAll (ns.map PyData.int) := by
    constructor
    · intro x hx y hy
      obtain ⟨i, _, rfl⟩ := List.mem_map.mp hx
      obtain ⟨j, _, rfl⟩ := List.mem_map.mp hy
      rfl
    · intro x hx
      obtain ⟨i, _, rfl⟩ := List.mem_map.mp hx
      intro z
      cases z
  refine PySem.W.max_list_default (I.ok.hd hc) hl.isList (by simpa using hr) al (by rw [dep_ints]; omega) (fun e h' tk hk => ?_) (fun y ys i v h' tk bs e hv hR hk => ?_)
  · have e' : ns = [] := List.map_eq_nil_iff.mp e
    subst e'
    exact ⟨.int d, H, I.kept hk, ⟨_, rfl⟩, q⟩
  · cases ns with
    | nil => cases e
    | cons n r =>
      obtain ⟨rfl, rfl⟩ := List.cons.inj e
      rw [PySem.W.maxD_ints] at hR
      cases hR with
      | int j t => exact ⟨.int _, H, I.kept hk, ⟨_, rfl⟩, q⟩
theorem maxOr_ge {d : Int} : ∀ {ns : List Int} {y : Int}, y ∈ ns → y ≤ maxOr d ns
  | x :: r, y, h => by
    have key : ∀ (r : List Int) (x y : Int), (y = x ∨ y ∈ r) → y ≤ r.foldl max x := by
      intro r
      induction r with
      | nil =>
        intro x y h
        rcases h with rfl | h
        · exact Int.le_refl _
        · cases h
      | cons z r ih =>
        intro x y h
        show y ≤ r.foldl max (max x z)
        rcases h with rfl | h
        · exact Int.le_trans (Int.le_max_left _ _) (ih _ _ (.inl rfl))
        · rcases List.mem_cons.mp h with rfl | h
          · exact Int.le_trans (Int.le_max_right _ _) (ih _ _ (.inl rfl))
          · exact ih _ _ (.inr h)
    exact key r x y (List.mem_cons.mp h)
theorem maxOr_mem {d : Int} : ∀ {ns : List Int}, ns ≠ [] → maxOr d ns ∈ ns
  | [], h => absurd rfl h
  | x :: r, _ => by
    have key : ∀ (r : List Int) (x : Int), r.foldl max x = x ∨ r.foldl max x ∈ r := by
      intro r
      induction r with
      | nil => exact fun x => .inl rfl
      | cons z r ih =>
        intro x
        show r.foldl max (max x z) = x ∨ r.foldl max (max x z) ∈ z :: r
        rcases ih (max x z) with e | e
        · rw [e]
          rcases Int.le_total x z with h | h
          · rw [Int.max_eq_right h]
            exact .inr (List.mem_cons_self ..)
          · rw [Int.max_eq_left h]
            exact .inl rfl
        · exact .inr (List.mem_cons_of_mem _ e)
    rcases key r x with e | e
    · show r.foldl max x ∈ x :: r
      rw [e]
      exact List.mem_cons_self ..
    · exact List.mem_cons_of_mem _ e
end My
namespace My
open PySem PySem.Spec PyProof.Rows L2
/-! ### rules with the written part told (for blocks of comprehensions) -/
section
variable {X : Cx} {K : PySem.W.Frag}
theorem ix_listK (h : X.K = K) : IxR X (rIxL K) := by
  subst h
  exact ix_list
theorem ix_tupK (h : X.K = K) : IxR X (rIxT K) := by
  subst h
  exact ix_tup
theorem ix_seqK (h : X.K = K) : IxR X (rIx K) := by
  subst h
  exact ix_seq
theorem op_in_seqK (h : X.K = K) : OpR X (compareOp .In) (rIn K false) := by
  subst h
  exact op_in_seq
theorem op_notIn_seqK (h : X.K = K) : OpR X (compareOp .NotIn) (rIn K true) := by
  subst h
  exact op_notIn_seq
theorem op_eqDK (h : X.K = K) (hu : X.A.units + 64 < cLine) : OpR X (compareOp .Eq) (rEqD K) := by
  subst h
  exact op_eqD hu
theorem op_neDK (h : X.K = K) (hu : X.A.units + 64 < cLine) : OpR X (compareOp .NotEq) (rNeD K) := by
  subst h
  exact op_neD hu
theorem call_len_seqK (h : X.K = K) : CallR X (.builtin "len") (fun xs H Q => ∃ p ys, xs = [.ref p] ∧ (SqL K H p ys ∨ SqT K H p ys) ∧ Q (.int ys.length) H) := by
  subst h
  exact call_len_seq
theorem call_list_ofK (h : X.K = K) : CallR X (.type "list") (fun xs H Q => ∃ p ys, xs = [.ref p] ∧ (SqL K H p ys ∨ SqT K H p ys) ∧ ∀ l, H l = none → Q (.ref l) (upd H l (.lst ys))) := by
  subst h
  exact call_list_of
theorem call_tuple_ofK (h : X.K = K) : CallR X (.type "tuple") (fun xs H Q => ∃ p ys, xs = [.ref p] ∧ ((SqL K H p ys ∧ ∀ l, H l = none → Q (.ref l) (upd H l (.tup ys))) ∨ (SqT K H p ys ∧ Q (.ref p) H))) := by
  subst h
  exact call_tuple_of
theorem sl_listK (h : X.K = K) : SlR X (rSlL K) := by
  subst h
  exact sl_list
theorem sl_tupAK (h : X.K = K) : SlR X (rSlA K) := by
  subst h
  exact sl_tupA
theorem cr_allK (h : X.K = K) (hc : X.calm = true) : CallR X (.builtin "all") (rAll K) := by
  subst h
  exact cr_all hc
theorem cr_anyK (h : X.K = K) (hc : X.calm = true) : CallR X (.builtin "any") (rAny K) := by
  subst h
  exact cr_any hc
theorem pe_fldK {ta : TE} {e : Expr} {f : Str} {pos : Pos} (h : X.K = K) (he : PE X e ta) (hb : attributeBase e f X.env (eval e X.env) = eval e X.env) : PE X (.Attribute e f pos) (tFld K ta f) := by
  subst h
  exact pe_fld he hb
end
theorem op_catAK {X : Cx} {K : PySem.W.Frag} (h : X.K = K) : OpR X (binaryOp .Add) (rCatA K) := by
  subst h
  exact op_catA
theorem tYes_of {te : TE} {σ : L2.St} {H : Hp} {R : VK} {R0 : Hp → Prop} (h : te σ H R) : tYes σ H fun b H3 => if b = true then te σ H3 R else R0 H3 := by
  show (if true = true then te σ H R else R0 H)
  rw [if_pos rfl]
  exact h
/-! ### enumerate of a list or a tuple -/
def iEnumA (K : PySem.W.Frag) (ta : TA) : TI := fun σ H R => ta σ H fun vs H1 => ∃ a xs, vs = [.ref a] ∧ ∃ H0, Same H0 H1 ∧ (SqL K H0 a xs ∨ SqT K H0 a xs) ∧
  ∀ (J : It) (G : Hp → Prop), Walk J xs.length G (YPair (fun i => some (.int (i : Nat))) (fun i => xs[i]?)) → (∀ H', Same H0 H' → G H') → R J H1
theorem pi_enumA {X : Cx} {e : Expr} {ta : TA} {p pos tpos : Pos} {elts : List Expr} {kk : Nat} (hg : Gl X "enumerate") (hm : X.mg "enumerate" = none) (ha : PA X [e] ta) (hs : starEach [e] X.env = [(false, eval e X.env)] := by rfl) :
    PI X (.Tuple elts kk tpos) (.Call (.Name "enumerate" p) [e] [] pos) (iEnumA X.K ta) := by
  refine ⟨fun pins s σ H R I h => ?_⟩
  refine Call_ (ld_blt I hg hm boot_enumerate (PyProof.Rows.callWith_type1 (thn (ha.run pos pins s σ H _ I h) fun us s1 ⟨vs, H1, I1, r1, q1⟩ => ?_) hs rfl))
  obtain ⟨a, xs, ex, q⟩ := q1
  subst ex
  cases r1 with
  | cons r rr =>
    cases rr
    cases r
    have fr : ∀ b, b ∈ [s1.heap.objs.size + 1, s1.heap.objs.size] → FpOk X pins H1 b := fun b hb => by
      have hle : s1.heap.objs.size ≤ b := by
        rcases (by simpa using hb : b = s1.heap.objs.size + 1 ∨ b = s1.heap.objs.size) with z | z
        · rw [z]; exact Nat.le_add_right _ _
        · rw [z]; exact Nat.le_refl _
      exact I1.fpOk hle (I1.hok.fresh hle)
    obtain ⟨H0, s0, hq0, q0⟩ := q
    rcases hq0 with hq0 | hq0
    · have hq := s0.seq hq0
      have q := q0 _ _ (walk_enum (K := X.K) (a := a) (xs := xs)) fun H' s' => s'.seq hq0
      obtain ⟨its, rv, p', hz⟩ := I1.list hq
      refine call_enumerate_list p'.isList fun h' he hit hsz hk => wpAny_pyIter_enum he ?_
      have I2 : Inv X pins σ H1 { s1 with heap := h' } := I1.kept (t' := s1.toks) hk
      exact ⟨s1.heap.objs.size + 1, [s1.heap.objs.size + 1, s1.heap.objs.size], _, _, H1, rfl, I2, turn_enum a (s1.heap.objs.size + 1) s1.heap.objs.size, ⟨⟨.none, he⟩, hit, Nat.succ_ne_self _⟩, fr, q⟩
    · have hq := s0.seqT hq0
      have q := q0 _ _ (walk_enumT (K := X.K) (a := a) (xs := xs)) fun H' s' => s'.seqT hq0
      obtain ⟨its, rv, p', hz⟩ := I1.tuple hq
      have lt_a : a < s1.heap.objs.size := by
        obtain ⟨o1, ho1, _⟩ := id p'
        exact Heap.lt_size ho1
      refine call_en1 (begins_tuple a its.toArray) (show s1.heap.IsTuple a its.toArray from p') fun h' he hit hk => wpAny_pyIter_enum he ?_
      have I2 : Inv X pins σ H1 { s1 with heap := h' } := I1.kept (t' := s1.toks) hk
      exact ⟨s1.heap.objs.size + 1, [s1.heap.objs.size + 1, s1.heap.objs.size], _, _, H1, rfl, I2, turn_enumT a (s1.heap.objs.size + 1) s1.heap.objs.size (Nat.succ_ne_self _) (fun z => absurd lt_a (by rw [← z]; exact Nat.not_lt_of_le (Nat.le_succ _))) (Nat.ne_of_lt lt_a), ⟨⟨.none, he⟩, ⟨_, hit, rfl, rfl⟩⟩, fr, q⟩
end My
namespace My
open PySem PySem.Spec PyProof.Rows L2
/-! ### set(t) of a tuple of ints, kept as an object -/
theorem nodup_len {α : Type} [DecidableEq α] {ks ns : List α} (h1 : ks.Nodup) (h2 : ns.Nodup) (h : ∀ k, k ∈ ks ↔ k ∈ ns) : ks.length = ns.length :=
  ((List.perm_ext_iff_of_nodup h1 h2).mpr h).length_eq
def rSetTI (K : PySem.W.Frag) (w : World) : List V → Hp → VK → Prop := fun xs H Q => ∃ (l : Addr) (ns : List Int), xs = [.ref l] ∧ SqT K H l (ns.map V.int) ∧ ns.length ≤ 1000 ∧
  ∀ (p : Addr) (ks : List Int), H p = none → ks.Nodup → (∀ k, k ∈ ks ↔ k ∈ ns) → Q (.ref p) (upd H p (SetO w p (fun j => decide (j ∈ ns)) ks.length))
section
variable {X : Cx}
theorem call_setTI (hc : X.calm = true) : CallR X (.type "set") (rSetTI X.K X.w) := by
  intro pins s σ H xs us Q I r h
  obtain ⟨l, ns, rfl, hq, hl, q⟩ := h
  obtain rfl := Vals.ref1 r
  obtain ⟨its, rv, pt, hz⟩ := I.tuple hq
  refine call_set_tupI ns (I.ok.hd hc) (show s.heap.IsTuple l its.toArray from pt) (ints_of_vals rv) (by unfold scanBound; omega) fun h' tk c R hcn k => ?_
  have hn : H s.heap.objs.size = none := I.hok.fresh (Nat.le_refl _)
  obtain ⟨ks, h1, h2, h3⟩ : ∃ ks : List Int, ks.Nodup ∧ (∀ k, k ∈ ks ↔ k ∈ ns) ∧ ks.length = c := by
    obtain ⟨o, es, ep, t, _, _, _, _, nd, hm, _, _, hn, _⟩ := R
    refine ⟨es.toList.map keyOf, nd, fun k => ?_, ?_⟩
    · rw [← hm k, decide_eq_true_eq]
    · rw [List.length_map, Array.length_toList, hn]
  subst h3
  exact ⟨.ref s.heap.objs.size, _, I.laid (t' := tk) k (Nat.le_refl _) (setO_new R), rfl, q _ ks hn h1 h2⟩
/-- len(s) of a set of ints -/
def rLenSO (w : World) : List V → Hp → VK → Prop := fun xs H Q => ∃ (a : Addr) (S : Int → Bool) (n : Nat), xs = [.ref a] ∧ H a = some (SetO w a S n) ∧ n ≤ 4000 ∧ Q (.int n) H
theorem call_lenSO : CallR X (.builtin "len") (rLenSO X.w) := by
  intro pins s σ H xs us Q I r h
  obtain ⟨a, S, n, rfl, ha, hl, q⟩ := h
  obtain rfl := Vals.ref1 r
  obtain ⟨o, es, ep, t, ho, hex, hd, _, _, _, _, hf, hn, _⟩ := setO_get I ha
  exact call_len_set ho hex hd hf (by rw [hn]; omega) ⟨.int n, H, I.tok _, ⟨_, by rw [hn]⟩, q⟩
theorem call_setTIK {K : PySem.W.Frag} {w : World} (h : X.K = K) (h2 : X.w = w) (hc : X.calm = true) : CallR X (.type "set") (rSetTI K w) := by
  subst h h2
  exact call_setTI hc
end
end My
namespace My
open PySem L2
/-! ### o[i] and len(o) by own methods -/
section
variable {X : Cx}
def inCx (X : Cx) : Cx := { X with A := X.A.in1 }
theorem ok_in (o : X.Ok) : (inCx X).Ok := ⟨o.mod, o.kind, o.glob, o.blt, o.above, o.inj, o.has, o.cab, o.hd, o.frames, o.stk, o.exf, o.bs, o.bsz, o.noex, o.exfs, o.funs, o.frf⟩
theorem ok_out (n : (inCx X).Ok) : X.Ok := ⟨n.mod, n.kind, n.glob, n.blt, n.above, n.inj, n.has, n.cab, n.hd, n.frames, n.stk, n.exf, n.bs, n.bsz, n.noex, n.exfs, n.funs, n.frf⟩
theorem inv_in {pins : List (Addr × Obj)} {σ : St} {H : Hp} {s : Shared} (I : L2.Inv X pins σ H s) : L2.Inv (inCx X) pins σ H s := ⟨ok_in I.ok, I.os, I.bare, I.base, I.loc, I.cell, I.free, I.freeC, I.pin, I.hok, I.len⟩
theorem inv_out {pins : List (Addr × Obj)} {σ : St} {H : Hp} {s : Shared} (I : L2.Inv (inCx X) pins σ H s) : L2.Inv X pins σ H s := ⟨ok_out I.ok, I.os, I.bare, I.base, I.loc, I.cell, I.free, I.freeC, I.pin, I.hok, I.len⟩
theorem passes_in {CX : CXT} {E : XK} (p : Passes CX X E) : Passes CX (inCx X) E := fun pins σ H s e s' I c => p pins σ H s e s' (inv_out I) c
def tItem (C : Addr) (sp : Sp) (E : XK) (ta tb : TE) : TE := fun σ H Q => ta σ H fun x H1 => tb σ H1 fun y H2 => ∃ (a dx : Addr) (fs : List (Str × V)), x = .ref a ∧ H2 a = some (.ins C dx fs) ∧ sp [.ref a, y] H2 Q E
theorem pe_item {CX : CXT} {k : Nat} {f C : Addr} {fd : FuncData} {ps : List Str} {sp : Sp} {E : XK} {ta tb : TE} {a b : PySem.Expr} {pos : Pos} (ha : PE X a ta) (hb : PE X b tb) (m : Meth X.K C "__getitem__" f) (fi : W.fnIn X.K f = true)
    (F : FnOk X.prog X.w X.K X.mg X.base CX k f fd ps sp) (hr : Room (k + 1) X.A) (bd : Binds X.K fd ps []) (px : Passes CX X E)
    (hs : ∀ (x : Addr) (i : Value), subscripted b true (.ref x) i = runValue (Code.builtin "lifetime.subscript" { pos := [.ref x, i] }) := by intros; with_unfolding_all rfl) : PE X (.Subscript a b pos) (tItem C sp E ta tb) := by
  refine ⟨fun pins s σ H Q I h => ?_⟩
  refine PyProof.Rows.Subscript_ (thn (ha.run pins s σ H _ I h) fun u s1 ⟨x, H1, I1, rx, q1⟩ => ?_)
  refine thn (hb.run pins s1 σ H1 _ I1 q1) fun v s2 ⟨y, H2, I2, ry, q2⟩ => ?_
  obtain ⟨p, dx, fs, rfl, hp, hsp⟩ := q2
  obtain rfl : u = .ref p := rx
  obtain ⟨mm, fr⟩ := I2.fr
  obtain ⟨mA, om, _⟩ := ins_get I2.hok hp
  obtain ⟨od, ia, _⟩ := om.look
  refine W.sub_K fr I2.ok.mod.kin ia m.at_ fi m.fn ?_ (hs p v)
  have q := run_fn (X := inCx X) F hr.in1 bd .nil (passes_in px) (inv_in I2) (vs := [.ref p, y]) (.cons rfl (.cons ry .nil)) (Q := Q) (by rw [List.append_nil]; exact hsp)
  exact thn q fun z s3 ⟨v3, H3, I3, r3, q3⟩ => ⟨v3, H3, inv_out I3, r3, q3⟩
theorem call_lenOwn {CX : CXT} {k : Nat} {f C : Addr} {fd : FuncData} {ps : List Str} {sp : Sp} {E : XK} (m : Meth X.K C "__len__" f)
    (F : FnOk X.prog X.w X.K X.mg X.base CX k f fd ps sp) (hr : Room (k + 1) X.A) (bd : Binds X.K fd ps []) (px : Passes CX X E) :
    CallR X (.builtin "len") (fun xs H Q => ∃ (a dx : Addr) (fs : List (Str × V)), xs = [.ref a] ∧ H a = some (.ins C dx fs) ∧ sp [.ref a] H (fun v H' => ∃ n : Int, v = .int n ∧ 0 ≤ n ∧ n < 2 ^ 63 ∧ Q (.int n) H') E) := by
  intro pins s σ H xs us Q I r h
  obtain ⟨p, dx, fs, rfl, hp, hsp⟩ := h
  obtain rfl := Vals.ref1 r
  obtain ⟨mm, fr⟩ := I.fr
  obtain ⟨mA, om, _⟩ := ins_get I.hok hp
  obtain ⟨od, ia, _⟩ := om.look
  refine W.len_K fr I.ok.mod.kin ia m.at_ m.fn ?_
  have q := run_fn (X := inCx X) F hr.in1 bd .nil (passes_in px) (inv_in I) (vs := [.ref p]) (.cons rfl .nil) (Q := fun v H' => ∃ n : Int, v = .int n ∧ 0 ≤ n ∧ n < 2 ^ 63 ∧ Q (.int n) H') (by rw [List.append_nil]; exact hsp)
  refine thn q fun z s3 ⟨v3, H3, I3, r3, q3⟩ => ?_
  obtain ⟨n, rfl, h0, h1, hq⟩ := q3
  obtain ⟨t, rfl⟩ := r3
  exact ⟨⟨h0, h1⟩, .int n, H3, (inv_out I3).tok _, ⟨_, rfl⟩, hq⟩
end
end My
namespace My
open PySem PySem.Spec PyProof.Rows L2
/-! ### sets of one kind, led: what they hold, that their places rise -/
section
variable {P : Program} {w : World} {κ : Type} [DecidableEq κ] {knd : KeyKind P w κ} {A : Around} {E : Value → Shared → Prop} {s : Shared} {a : Addr}
def Apart (knd : KeyKind P w κ) (e e' : Int × Value) : Prop := ∀ k, knd.is k e.snd = true → knd.is k e'.snd = true → False
def SetG (knd : KeyKind P w κ) (h : Heap) (a : Addr) (S : κ → Bool) (n : Nat) : Prop := ∃ o es ep t, h.get? a = some o ∧ o.ExactSet ∧ o.data = Data.set es ep t ∧ ElemsOf knd es.toList ∧ (∀ k, S k = true ↔ ∃ e, e ∈ es.toList ∧ knd.is k e.snd = true) ∧
  es.toList.Pairwise (Apart knd) ∧ es.size < scanBound ∧ t.fits es.size = true ∧ es.size = n ∧ Ris t.place.toList ∧ (w.params.followText "set-order" = true ∨ t.led = true)
theorem put_data {o : Obj} {es es' : Array (Int × Value)} {ep : Nat} {t t' : SetTable} (h : o.data = Data.set es ep t) (x : o.ExactSet) : (Obj.putSet es' t' o).data = Data.set es' (ep + 1) t' ∧ (Obj.putSet es' t' o).ExactSet ∧ (Obj.putSet es' t' o).isFreed = false := by
  obtain ⟨c, d, dt, sl⟩ := o
  obtain rfl : dt = Data.set es ep t := h
  exact ⟨rfl, x, rfl⟩
theorem same_put {h : Heap} {f : Obj → Obj} : Heap.SameBut a h (h.update a f) := ⟨Heap.size_update .., fun b n => Heap.get?_update_ne h b a f n⟩
theorem apart_perm {l l' : List (Int × Value)} (p : l.Perm l') (h : l'.Pairwise (Apart knd)) : l.Pairwise (Apart knd) :=
  (p.symm.pairwise_iff (fun {x y} (q : Apart knd x y) k h1 h2 => q k h2 h1)).mp h
theorem elems_perm {l l' : List (Int × Value)} (p : l.Perm l') (h : ElemsOf knd l') : ElemsOf knd l := fun e he => h e (p.mem_iff.mp he)
theorem setG_tail {g : Bool → Sem Unit} (hg : ∀ (b : Bool) (s₁ : Shared) (Q' : Unit → Shared → Prop), Q' () s₁ → wpAny (model P w) A (g b) Q' E s₁) {o : Obj} {es : Array (Int × Value)} {ep : Nat} {t : SetTable} (ho : s.heap.get? a = some o) (hx : o.ExactSet) (hd : o.data = Data.set es ep t)
    {es1 : Array (Int × Value)} {t2 : SetTable} {S' : κ → Bool} (he : ElemsOf knd es1.toList) (hS : ∀ k, S' k = true ↔ ∃ e, e ∈ es1.toList ∧ knd.is k e.snd = true) (hp : es1.toList.Pairwise (Apart knd)) (hz : es1.size < scanBound) (hf : t2.fits es1.size = true) (hr : Ris t2.place.toList) (hl : w.params.followText "set-order" = true ∨ t2.led = true)
    {wasDummy : Bool} {R : Option Bool → Shared → Prop} (k : ∀ h', Heap.SameBut a s.heap h' → SetG knd h' a S' es1.size → R (some true) { s with heap := h' }) :
    wpAny (model P w) A (do
      storeSet a es1 t2
      if (!wasDummy && t2.tooFull) = true then do
          g (relayAll t2 es1 (SetTable.grown es1.size)).snd.snd
          storeSet a (relayAll t2 es1 (SetTable.grown es1.size)).fst (relayAll t2 es1 (SetTable.grown es1.size)).snd.fst
          pure (some true)
        else pure (some true)) R E s := by
  have hb : ∀ n, n < scanBound → n ≤ sizeLine := fun n h => Nat.le_of_lt (Nat.lt_of_lt_of_le h (by decide))
  refine wpAny_bind (wpAny_storeSet_of ho hd ?_ (hb _ hz))
  obtain ⟨d1, x1, f1⟩ := put_data (es' := es1) (t' := t2) hd hx
  have h1 : (s.heap.update a (Obj.putSet es1 t2)).get? a = some (Obj.putSet es1 t2 o) := Heap.get?_update_self _ ho f1
  split
  · refine wpAny_bind (hg _ _ _ ?_)
    have pm := relayAll_perm t2 es1 (SetTable.grown es1.size)
    have ft := relayAll_fits t2 es1 (SetTable.grown es1.size)
    have rs := relayAll_ris t2 es1 (SetTable.grown es1.size)
    have ld := relayAll_led t2 es1 (SetTable.grown es1.size)
    generalize (relayAll t2 es1 (SetTable.grown es1.size)).fst = es2 at *
    generalize (relayAll t2 es1 (SetTable.grown es1.size)).snd.fst = t3 at *
    have sz : es2.size = es1.size := by
      have := pm.length_eq
      rwa [Array.length_toList, Array.length_toList] at this
    refine wpAny_bind (wpAny_storeSet_of h1 d1 ?_ (by rw [sz]; exact hb _ hz))
    refine wpAny_pure ?_
    obtain ⟨d2, x2, f2⟩ := put_data (es' := es2) (t' := t3) d1 x1
    refine k _ ⟨by rw [Heap.size_update, Heap.size_update], fun b n => by rw [Heap.get?_update_ne _ _ _ _ n, Heap.get?_update_ne _ _ _ _ n]⟩ ⟨_, es2, _, t3, Heap.get?_update_self _ h1 f2, x2, d2, elems_perm pm he, fun k => ?_, apart_perm pm hp, by rw [sz]; exact hz, ft, sz, rs, by rw [ld]; exact hl⟩
    rw [hS k]
    exact ⟨fun ⟨e, m, i⟩ => ⟨e, pm.mem_iff.mpr m, i⟩, fun ⟨e, m, i⟩ => ⟨e, pm.mem_iff.mp m, i⟩⟩
  · refine wpAny_pure ?_
    exact k _ same_put ⟨_, es1, _, t2, h1, x1, d1, he, hS, hp, hz, hf, rfl, hr, hl⟩
theorem gwAny {M : Model} {g : Bool → Sem Unit} {b : Bool} {Q : Unit → Shared → Prop} (h0 : g false = pure ()) (h1 : g true = rule "set.scan.the-table-gave-way") (q : Q () s) : wpAny M A (g b) Q E s := by
  cases b with
  | false =>
    rw [h0]
    exact wpAny_pure q
  | true =>
    rw [h1]
    exact wpAny_rule q
theorem setG_add_hashed {S : κ → Bool} {n : Nat} {k : κ} {x : Value} {Q : Bool → Shared → Prop} (hk : knd.is k x = true) (hsc : x.scannable = true) (hS : SetG knd s.heap a S n) (hn : n + 1 < scanBound)
    (c : ∀ h', Heap.SameBut a s.heap h' → SetG knd h' a (fun k' => S k' || decide (k' = k)) (if S k = true then n else n + 1) → Q (!S k) { s with heap := h' }) :
    wpAny (model P w) A (setAddHashed a x (knd.hash k)) Q E s := by
  obtain ⟨o, es, ep, t, ho, hx, hd, he, hm, hp, hz, hf, hsz, hr, hl⟩ := hS
  unfold setAddHashed
  refine wpAny_holding ?_
  unfold setAddHashedIn
  refine wpAny_bind (wpAny_setState_of ho hd hf ?_)
  have hbs := byScan_of (knd := knd) hsc hz he
  show wpAny _ _ (if byScan x es = true then _ else _) _ _ _
  rw [if_pos hbs]
  refine wpAny_bind ?_
  unfold setAddByScan
  refine wpAny_bind (wpAny_rule ?_)
  refine wpAny_bind (wpAny_setScan_of hk ho hd hf he ?_)
  cases hfi : List.findIdx? (fun e => knd.is k e.snd) es.toList with
  | some j =>
    refine wpAny_pure (wpAny_pure ?_)
    have hin : S k = true := by
      rw [hm k]
      obtain ⟨hj, hi, _⟩ := List.findIdx?_eq_some_iff_getElem.mp hfi
      exact ⟨_, List.getElem_mem hj, hi⟩
    have q := c s.heap ⟨rfl, fun _ _ => rfl⟩ ⟨o, es, ep, t, ho, hx, hd, he, fun k' => ?_, hp, hz, hf, by rw [if_pos hin]; exact hsz, hr, hl⟩
    · rw [hin] at q
      exact q
    · rw [← hm k', Bool.or_eq_true, decide_eq_true_eq]
      exact ⟨fun h => h.elim id fun e => by rw [e]; exact hin, .inl⟩
  | none =>
    have hout : S k = false := by
      cases q : S k with
      | false => rfl
      | true =>
        obtain ⟨e, em, ei⟩ := (hm k).mp q
        have := List.findIdx?_eq_none_iff.mp hfi e em
        rw [ei] at this
        cases this
    have pm := layNew_perm t es (knd.hash k) x
    have ft := layNew_fits t es (knd.hash k) x
    have ld := layNew_led t es (knd.hash k) x
    have rs := layNew_ris t es (knd.hash k) x hr
    dsimp only
    generalize layNew t es (knd.hash k) x = r at pm ft ld rs ⊢
    obtain ⟨es1, t1, wd, gv⟩ := r
    replace pm : es1.toList.Perm (es.push (knd.hash k, x)).toList := pm
    replace ft : t1.fits es1.size = true := ft
    replace ld : t1.led = t.led := ld
    replace rs : Ris t1.place.toList := rs
    have tl : (es.push (knd.hash k, x)).toList = es.toList ++ [(knd.hash k, x)] := Array.toList_push ..
    rw [tl] at pm
    have sz : es1.size = n + 1 := by
      have := pm.length_eq
      rw [Array.length_toList, List.length_append, Array.length_toList, hsz] at this
      exact this
    have he1 : ElemsOf knd es1.toList := elems_perm pm fun e hm' => by
      rcases List.mem_append.mp hm' with h | h
      · exact he e h
      · rw [List.mem_singleton.mp h]
        exact ⟨⟨k, hk, rfl⟩, hsc⟩
    have hS1 : ∀ k', (S k' || decide (k' = k)) = true ↔ ∃ e, e ∈ es1.toList ∧ knd.is k' e.snd = true := fun k' => by
      rw [Bool.or_eq_true, decide_eq_true_eq, hm k']
      constructor
      · rintro (⟨e, m, i⟩ | rfl)
        · exact ⟨e, pm.mem_iff.mpr (List.mem_append_left _ m), i⟩
        · exact ⟨_, pm.mem_iff.mpr (List.mem_append_right _ (List.mem_singleton.mpr rfl)), hk⟩
      · rintro ⟨e, m, i⟩
        rcases List.mem_append.mp (pm.mem_iff.mp m) with h | h
        · exact .inl ⟨e, h, i⟩
        · rw [List.mem_singleton.mp h] at i
          exact .inr (knd.inj _ _ _ i hk)
    have hp1 : es1.toList.Pairwise (Apart knd) := apart_perm pm (List.pairwise_append.mpr ⟨hp, List.pairwise_singleton _ _, fun e m e' m' k' h1 h2 => by
      rw [List.mem_singleton.mp m'] at h2
      have := knd.inj _ _ _ h2 hk
      subst this
      have z := (hm k').mpr ⟨e, m, h1⟩
      rw [hout] at z
      cases z⟩)
    have hz1 : es1.size < scanBound := by rw [sz]; exact hn
    have c' : ∀ h', Heap.SameBut a s.heap h' → SetG knd h' a (fun k' => S k' || decide (k' = k)) es1.size → Q true { s with heap := h' } := fun h' sb sg => by
      have q := c h' sb (by rw [hout, if_neg (by decide), ← sz]; exact sg)
      rw [hout] at q
      exact q
    dsimp only
    refine wpAny_bind (gwAny rfl rfl ?_)
    have T2 : ∀ b : Bool, (if b = true then t1 else { t1 with plain := false } : SetTable).fits es1.size = true ∧ Ris (if b = true then t1 else { t1 with plain := false } : SetTable).place.toList ∧ (w.params.followText "set-order" = true ∨ (if b = true then t1 else { t1 with plain := false } : SetTable).led = true) := fun b => by
      rw [← ld] at hl
      cases b with
      | true => exact ⟨ft, rs, hl⟩
      | false => exact ⟨ft, rs, hl⟩
    split
    · rw [hashByValue_scannable 8 hsc]
      refine wpAny_bind (wpAny_pure ?_)
      obtain ⟨q1, q2, q3⟩ := T2 (plainKind x)
      exact setG_tail (fun b s₁ Q' q => gwAny rfl rfl q) ho hx hd he1 hS1 hp1 hz1 q1 q2 q3 fun h' sb sg => wpAny_pure (c' h' sb sg)
    · refine wpAny_bind (wpAny_pure ?_)
      obtain ⟨q1, q2, q3⟩ := T2 true
      exact setG_tail (fun b s₁ Q' q => gwAny rfl rfl q) ho hx hd he1 hS1 hp1 hz1 q1 q2 q3 fun h' sb sg => wpAny_pure (c' h' sb sg)
theorem SetG.stay {h h' : Heap} {S : κ → Bool} {n : Nat} (q : SetG knd h a S n) (k : ∀ o, h.get? a = some o → h'.get? a = some o) : SetG knd h' a S n := by
  obtain ⟨o, es, ep, t, ho, r⟩ := q
  exact ⟨o, es, ep, t, k o ho, r⟩
theorem SetG.to {h : Heap} {S S' : κ → Bool} {n : Nat} (q : SetG knd h a S n) (e : ∀ k, S k = S' k) : SetG knd h a S' n := by
  rw [← funext e]
  exact q
theorem setG_update {I : Addr} {fp wr : List Addr} {G : Array GenState → Array GenState → Prop} {n : Nat} {Pv : Nat → Value → Prop} {St : Nat → Shared → Prop} {R : Result → Shared → Prop} (W : WalksS P w A.in1 I fp wr G n Pv St) (S : Addr) (hS : ¬ S ∈ fp) (ks : List κ) (hn : n = ks.length) (hb : ks.length + 1 < scanBound)
    (hv : ∀ i v, Pv i v → ∃ k, ks[i]? = some k ∧ knd.is k v = true ∧ v.scannable = true) : ∀ (d i : Nat) (s : Shared), n - i = d → i ≤ n → St i s → (∃ c, c ≤ i ∧ SetG knd s.heap S (fun j => decide (j ∈ ks.take i)) c) →
    (∀ s' c, Moved (S :: wr) G s s' → c ≤ n → SetG knd s'.heap S (fun j => decide (j ∈ ks)) c → R (Except.ok (Flow.ret Value.none)) s') → codeAny (model P w) A (Code.builtin "set.update.loop" { pos := [Value.ref S, Value.ref I] }) R s
  | 0, i, s, e, hi, hSt, ⟨c, hc, hG⟩, k => by
    obtain rfl : i = n := by omega
    refine codeAny_builtin PyProof.Rows.F.entry_set_update_loop ?_
    rw [Around.under_plain rfl (by with_unfolding_all rfl)]
    refine wpAny_bind (W.done s _ _ hSt fun s' mv => ?_)
    refine wpAny_pure ?_
    have hw : ¬ S ∈ wr := fun z => hS (W.sub S z)
    refine k s' c ⟨fun b o nb => mv.heap b o fun z => nb (List.mem_cons_of_mem _ z), mv.gens, mv.drawn, mv.os, mv.toks⟩ hc ((hG.stay fun o => mv.heap S o hw).to fun j => ?_)
    rw [List.take_of_length_le (by omega)]
  | d + 1, i, s, e, hi, hSt, ⟨c, hc, hG⟩, k => by
    refine codeAny_builtin PyProof.Rows.F.entry_set_update_loop ?_
    rw [Around.under_plain rfl (by with_unfolding_all rfl)]
    refine wpAny_bind (W.item i s _ _ (by omega) hSt fun v s' hp hSt' mv => ?_)
    obtain ⟨key, hk, his, hsc⟩ := hv i v hp
    have hw : ¬ S ∈ wr := fun z => hS (W.sub S z)
    have hG' := hG.stay (h' := s'.heap) fun o => mv.heap S o hw
    refine wpAny_bind (wpAny_holding (wpAny_holding ?_))
    refine wpAny_bind (knd.pyHash his ?_)
    refine setG_add_hashed (s := { s' with toks := s'.toks + 1 }) his hsc hG' (by omega) fun h'' sb sg => ?_
    refine wpAny_pure ?_
    refine And.intro (Code.quiet_builtin _ (by decide +kernel)) ?_
    have hil := (List.getElem?_eq_some_iff.mp hk).1
    have htk : ks.take (i + 1) = ks.take i ++ [key] := by
      rw [List.take_add_one, hk]
      rfl
    refine setG_update W S hS ks hn hb hv d (i + 1) _ (by omega) (by omega) (W.frame (i + 1) s' h'' (s'.toks + 1) hSt' (Nat.le_succ _) fun b hb o ho => ?_) ⟨_, ?_, sg.to fun j => ?_⟩ fun s3 c3 mv3 hc3 hg3 => ?_
    · rw [sb.2 b fun z => hS (z ▸ hb)]
      exact ho
    · split <;> omega
    · rw [htk]
      by_cases z : j ∈ ks.take i
      · rw [decide_eq_true z, Bool.true_or, decide_eq_true (List.mem_append_left _ z)]
      · by_cases z2 : j = key
        · rw [decide_eq_true z2, Bool.or_true, decide_eq_true (List.mem_append_right _ (List.mem_singleton.mpr z2))]
        · rw [decide_eq_false z, decide_eq_false z2, decide_eq_false (fun q => (List.mem_append.mp q).elim z fun q => z2 (List.mem_singleton.mp q))]
          rfl
    · refine k s3 c3 ⟨fun b o nb ho => ?_, W.gtrans _ _ _ mv.gens mv3.gens, mv3.drawn.trans mv.drawn, mv3.os.trans mv.os, Nat.le_trans mv.toks (Nat.le_trans (Nat.le_succ _) mv3.toks)⟩ hc3 hg3
      refine mv3.heap b o nb ?_
      rw [sb.2 b fun z => nb (by rw [z]; exact List.mem_cons_self ..)]
      exact mv.heap b o (fun z => nb (List.mem_cons_of_mem _ z)) ho
end
end My
namespace My
open PySem PySem.Spec PyProof.Rows L2
section
variable {P : Program} {w : World} {κ : Type} [DecidableEq κ] {knd : KeyKind P w κ} {A : Around} {E : Value → Shared → Prop} {s : Shared} {a : Addr}
def freshSet (w : World) : Obj := { cls := Value.type "set", data := Data.set #[] 0 (SetTable.fresh 0 0 !w.params.followText "set-order") }
theorem setG_fresh {h : Heap} {S : Addr} (hS : h.get? S = some (freshSet w)) (ks : List κ) : SetG knd h S (fun j => decide (j ∈ ks.take 0)) 0 := by
  refine ⟨freshSet w, #[], 0, _, hS, ⟨rfl, rfl, rfl⟩, rfl, (fun e (he : e ∈ ([] : List (Int × Value))) => nomatch he), fun k => ?_, List.Pairwise.nil, by decide, rfl, rfl, List.Pairwise.nil, ?_⟩
  · rw [List.take_zero]
    exact ⟨fun q => absurd (of_decide_eq_true q) (List.not_mem_nil), fun ⟨e, he, _⟩ => absurd he (List.not_mem_nil)⟩
  · cases q : w.params.followText "set-order" with
    | true => exact .inl rfl
    | false => exact .inr rfl
theorem setG_init {S l : Addr} {items : Array Value} (ks : List κ) {Φ : PySem.Fin → Shared → Prop} (hh : A.handled = none) (hS : s.heap.get? S = some (freshSet w)) (hl : s.heap.IsList l items) (hv : ∀ (i : Nat) (v : Value), items[i]? = some v → ∃ k, ks[i]? = some k ∧ knd.is k v = true ∧ v.scannable = true) (hn : items.size = ks.length) (hb : ks.length + 1 < scanBound)
    (h : ∀ (s' : Shared) (c : Nat), SetG knd s'.heap S (fun j => decide (j ∈ ks)) c → c ≤ ks.length → (∀ b o, b ≠ S → s.heap.get? b = some o → s'.heap.get? b = some o) → s'.gens = s.gens → s'.drawn = s.drawn → s'.os = s.os → Φ (Fin.done (Flow.ret .none)) s') :
    wpAny (model P w) A (Builtin.«set.__init__» { pos := [Value.ref S, Value.ref l] }) Φ E s := by
  have hT : s.TypeIs (Value.ref S) "set" := ⟨_, hS, rfl⟩
  have hl0 := hl
  obtain ⟨ol, hol, hlc, nl, hld⟩ := hl
  unfold Builtin.«set.__init__»
  refine wpAny_bind (wpAny_ite_true rfl (wpAny_pure ?_))
  refine wpAny_bind ?_
  refine wpAny_bind (wpAny_bind (wpAny_typeOf hT (wpAny_ite_false rfl (wpAny_pure (wpAny_pure ?_)))))
  unfold checkCount
  refine wpAny_bind (wpAny_ite_false rfl (wpAny_ite_false rfl (wpAny_ite_false rfl (wpAny_pure ?_))))
  refine wpAny_bind (wpAny_pure ?_)
  unfold setUsed
  refine wpAny_bind (wpAny_bind (wpAny_setState_of (es := #[]) hS rfl rfl ?_))
  refine wpAny_pure ?_
  refine wpAny_ite_false rfl ?_
  have hTl : s.TypeIs (Value.ref l) "list" := ⟨ol, hol, hlc⟩
  refine wpAny_bind ?_
  unfold Builtin.Frozenset.updateFrom Builtin.Frozenset.isAnySet
  refine wpAny_bind (wpAny_bind (wpAny_isInstance hTl F.sub_list_set ?_))
  refine wpAny_isInstance hTl F.sub_list_frozenset ?_
  refine wpAny_ite_false rfl ?_
  refine wpAny_bind (wpAny_typeOf hTl ?_)
  refine wpAny_ite_false rfl ?_
  refine wpAny_bind (wpAny_pyIter_list hl0 ?_)
  refine wpAny_bind (wpAny_runValue ?_)
  have hlt := Heap.lt_size hol
  have hSt := Heap.lt_size hS
  have hSl : S ≠ l := fun e => by
    rw [e, hol] at hS
    have z : ol.cls = Value.type "set" := by rw [Option.some.inj hS]; rfl
    exact absurd (Value.type.inj (hlc.symm.trans z)) (by decide)
  have W := Walks.toS (Walks.list (prog := P) (w := w) (A := A.in1) hh s.heap.objs.size l (Nat.ne_of_lt hlt) items)
  have pS := Heap.get?_push_of_some { cls := Value.type "list_iterator", data := Data.fields #[Value.ref l, Value.int 0 0] } hS
  have pl := Heap.get?_push_of_some { cls := Value.type "list_iterator", data := Data.fields #[Value.ref l, Value.int 0 0] } hol
  refine setG_update (knd := knd) W S (fun z => ?_) ks hn hb hv _ 0 _ rfl (Nat.zero_le _) ⟨?_, ⟨ol, pl, hlc, nl, hld⟩⟩ ⟨0, Nat.le_refl _, setG_fresh pS ks⟩ fun s' c mv hc hg => ?_
  · rcases List.mem_cons.mp z with z | z
    · exact absurd z (Nat.ne_of_lt hSt)
    · exact hSl (List.mem_singleton.mp z)
  · exact ⟨_, Heap.get?_push_size s.heap rfl, rfl, rfl⟩
  · show wpAny (model P w) A (pure ()) (fun a s' => wpAny (model P w) A ((fun __r => ret Value.none) a) Φ E s') E s'
    refine wpAny_pure ?_
    refine wpAny_pure ?_
    refine h s' c hg (by rw [← hn]; exact hc) (fun b o nb ho => ?_) mv.gens mv.drawn mv.os
    refine mv.heap b o (fun z => ?_) (Heap.get?_push_of_some _ ho)
    rcases List.mem_cons.mp z with z | z
    · exact nb z
    · rw [List.mem_singleton.mp z] at ho
      exact absurd (Heap.lt_size ho) (Nat.lt_irrefl _)
theorem call_set_listG {l : Addr} {items : Array Value} (ks : List κ) {Q : Value → Shared → Prop} (hh : A.handled = none) (hl : s.heap.IsList l items) (hv : ∀ (i : Nat) (v : Value), items[i]? = some v → ∃ k, ks[i]? = some k ∧ knd.is k v = true ∧ v.scannable = true) (hn : items.size = ks.length) (hb : ks.length + 1 < scanBound)
    (h : ∀ (h' : Heap) (tk c : Nat), SetG knd h' s.heap.objs.size (fun j => decide (j ∈ ks)) c → c ≤ ks.length → (∀ b o, s.heap.get? b = some o → h'.get? b = some o) → Q (.ref s.heap.objs.size) { s with heap := h', toks := tk }) : wpAny (model P w) A (call (.type "set") [.ref l]) Q E s := by
  obtain ⟨c, tl, hmro⟩ := F.called_set.mro
  have hmade := F.called_set.made
  have hsub := F.called_set.sub
  have h1 := F.called_set.notType
  have h2 := F.called_set.canCreate
  have hct := F.typeCall_set_1 (Value.ref l)
  refine wpAny_call (codeAny_of_tree ?_)
  refine wpAny_pure ⟨Code.quiet_builtin _ (by decide +kernel), codeAny_builtin F.entry_type_call ?_⟩
  rw [Around.under_plain (weight_type_call_type "set" [.ref l] []) (by with_unfolding_all rfl)]
  unfold Builtin.«type.__call__»
  refine wpAny_ite_false (Eq.refl _) ?_
  refine wpAny_ite_false (Eq.refl _) ?_
  refine wpAny_bind (wpAny_of_eq hct ?_)
  refine wpAny_bind (wpAny_of_eq hmro ?_)
  refine wpAny_ite_false rfl ?_
  refine wpAny_bind (wpAny_of_eq hmade ?_)
  refine wpAny_bind (wpAny_pure ?_)
  refine wpAny_bind (wpAny_holding ?_)
  refine wpAny_call (codeAny_mono (L2.code_set_led1 (E := fun _ _ => False) (Value.ref l) (Q₁ := fun v s₁ => v = .ref s.heap.objs.size ∧ s₁ = { s with heap := s.heap.push { cls := .type "set", data := Data.set #[] 0 (SetTable.fresh 0 0 !w.params.followText "set-order") } }) ⟨rfl, rfl⟩) fun r s₁ hr => ?_)
  obtain ⟨e1, e2⟩ | e3 : (∃ v, r = .ok (.ret v) ∧ v = .ref s.heap.objs.size ∧ s₁ = { s with heap := s.heap.push { cls := .type "set", data := Data.set #[] 0 (SetTable.fresh 0 0 !w.params.followText "set-order") } }) ∨ False := by
    cases r with
    | ok f =>
      cases f with
      | ret v => exact .inl ⟨v, rfl, hr⟩
      | _ => exact .inr hr
    | error e => exact .inr hr
  · obtain ⟨rfl, rfl, rfl⟩ := e2
    have hS := Heap.get?_push_size s.heap (o := { cls := .type "set", data := Data.set #[] 0 (SetTable.fresh 0 0 !w.params.followText "set-order") }) rfl
    have hT : Shared.TypeIs { s with heap := s.heap.push { cls := .type "set", data := Data.set #[] 0 (SetTable.fresh 0 0 !w.params.followText "set-order") } } (Value.ref s.heap.objs.size) "set" := ⟨_, hS, rfl⟩
    have hli := F.called_set.init.lookup
    have hbi := F.called_set.init.bind (Value.ref s.heap.objs.size)
    refine wpAny_bind (wpAny_isInstance hT hsub ?_)
    refine wpAny_ite_false rfl ?_
    refine wpAny_bind (wpAny_holding ?_)
    refine wpAny_bind (wpAny_specialOf hT hli ?_)
    refine wpAny_holding ?_
    refine wpAny_bind (wpAny_of_eq hbi ?_)
    refine wpAny_bind ?_
    refine wpAny_call (codeAny_mono (codeAny_call_builtin F.called_set.init.plain F.entry_set_init (check_set_init_1 hT ?_)) fun r s₂ hr2 => hr2)
    have hl1 : (s.heap.push (freshSet w)).IsList l items := by
      obtain ⟨ol, hol, hlc, nl, hld⟩ := hl
      exact ⟨ol, Heap.get?_push_of_some _ hol, hlc, nl, hld⟩
    refine setG_init (knd := knd) ks hh hS hl1 hv hn hb fun s' c hg hc hk hgn hdr hos => ?_
    refine wpAny_pure ?_
    refine wpAny_ite_false rfl ?_
    refine wpAny_pure ?_
    obtain ⟨hp', gn', dr', tk', os'⟩ := s'
    obtain rfl : gn' = s.gens := hgn
    obtain rfl : dr' = s.drawn := hdr
    obtain rfl : os' = s.os := hos
    refine h hp' tk' c hg hc fun b o ho => hk b o (fun z => ?_) (Heap.get?_push_of_some _ ho)
    rw [z] at ho
    exact absurd (Heap.lt_size ho) (Nat.lt_irrefl _)
  · exact e3.elim
end
end My
namespace My
open PySem PySem.Spec PyProof.Rows L2
/-! ### set(list of texts), its len, sorted of it -/
section
variable {P : Program} {w : World} {X : Cx}
theorem isStr {k : Str} {v : Value} (h : (PySem.strKind P w).is k v = true) : ∃ t, v = Value.str k t := by
  cases v with
  | str x t => exact ⟨t, by rw [eq_of_beq (show (x == k) = true from h)]⟩
  | _ => cases (show false = true from h)
theorem isStr_mk (k : Str) (t : Tok) : (PySem.strKind P w).is k (Value.str k t) = true := beq_self_eq_true k
def keyS : Value → Str
  | .str x _ => x
  | _ => Str.empty
def SetSO (P : Program) (w : World) (a : Addr) (S : Str → Bool) (n : Nat) : HO := .ext fun h => SetG (PySem.strKind P w) h a S n
theorem setS_ok {H : Hp} {h : Heap} {a : Addr} {S : Str → Bool} {n : Nat} (g : SetG (PySem.strKind P w) h a S n) : ObjOk P w H h a (SetSO P w a S n) := by
  refine ⟨g, ?_, fun h1 h2 q k => SetG.stay q k⟩
  obtain ⟨o, _, _, _, ho, _⟩ := g
  exact ⟨o, ho⟩
/-- the texts of a set, each once -/
theorem keysOf {l : List (Int × Value)} {S : Str → Bool} (he : ElemsOf (PySem.strKind P w) l) (hm : ∀ k, S k = true ↔ ∃ e, e ∈ l ∧ (PySem.strKind P w).is k e.snd = true) (hp : l.Pairwise (Apart (PySem.strKind P w))) :
    (l.map fun e => keyS e.snd).Nodup ∧ (∀ k, k ∈ (l.map fun e => keyS e.snd) ↔ S k = true) ∧ ∀ e ∈ l, ∃ t, e.snd = Value.str (keyS e.snd) t := by
  have hk : ∀ e ∈ l, ∃ t, e.snd = Value.str (keyS e.snd) t := fun e m => by
    obtain ⟨⟨k, i, _⟩, _⟩ := he e m
    obtain ⟨t, q⟩ := isStr i
    exact ⟨t, by rw [q]; rfl⟩
  refine ⟨?_, fun k => ?_, hk⟩
  · refine List.pairwise_map.mpr (hp.imp_of_mem fun {a b} ma mb q e => ?_)
    obtain ⟨t, ta⟩ := hk a ma
    obtain ⟨u, tb⟩ := hk b mb
    refine q (keyS a.snd) (by rw [ta]; exact isStr_mk _ _) ?_
    rw [e, tb]
    exact isStr_mk _ _
  · rw [hm k, List.mem_map]
    constructor
    · rintro ⟨e, m, rfl⟩
      obtain ⟨t, q⟩ := hk e m
      exact ⟨e, m, by rw [q]; exact isStr_mk _ _⟩
    · rintro ⟨e, m, i⟩
      obtain ⟨t, q⟩ := isStr i
      exact ⟨e, m, by rw [q]; rfl⟩
theorem vals_strs : ∀ {ws : List Str} {its : List Value}, Vals (ws.map V.str) its → its.length = ws.length ∧ ∀ (i : Nat) (v : Value), its[i]? = some v → ∃ k t, ws[i]? = some k ∧ v = Value.str k t
  | [], its, h => by
    cases h
    exact ⟨rfl, fun i v h => by simp at h⟩
  | x :: ws, its, h => by
    cases h with
    | cons r rr =>
      obtain ⟨t, rfl⟩ := r
      obtain ⟨l, g⟩ := vals_strs rr
      refine ⟨by rw [List.length_cons, List.length_cons, l], fun i v h => ?_⟩
      cases i with
      | zero =>
        cases h
        exact ⟨x, t, rfl, rfl⟩
      | succ i => exact g i v h
def rSetLS (K : PySem.W.Frag) (P : Program) (w : World) : List V → Hp → VK → Prop := fun xs H Q => ∃ (l : Addr) (ws : List Str), xs = [.ref l] ∧ SqL K H l (ws.map V.str) ∧ ws.length ≤ 1000 ∧
  ∀ (p : Addr) (ks : List Str), H p = none → ks.Nodup → (∀ k, k ∈ ks ↔ k ∈ ws) → Q (.ref p) (upd H p (SetSO P w p (fun j => decide (j ∈ ws)) ks.length))
theorem call_setLS (hc : X.calm = true) : CallR X (.type "set") (rSetLS X.K X.prog X.w) := by
  intro pins s σ H xs us Q I r h
  obtain ⟨l, ws, rfl, hq, hl, q⟩ := h
  obtain rfl := Vals.ref1 r
  obtain ⟨its, rv, pt, hz⟩ := I.list hq
  obtain ⟨hlen, hget⟩ := vals_strs rv
  refine call_set_listG (knd := PySem.strKind X.prog X.w) ws (I.ok.hd hc) (show s.heap.IsList l its.toArray from pt.isList) (fun i v hv => ?_) (by rw [List.size_toArray, hlen]) (by unfold scanBound; omega) fun h' tk c G hcn k => ?_
  · rw [List.getElem?_toArray] at hv
    obtain ⟨k, t, h1, rfl⟩ := hget i v hv
    exact ⟨k, h1, isStr_mk k t, rfl⟩
  · have hn : H s.heap.objs.size = none := I.hok.fresh (Nat.le_refl _)
    have G' := G
    obtain ⟨o, es, ep, t, _, _, _, he, hm, hp, _, _, hsz, _⟩ := G
    obtain ⟨h1, h2, _⟩ := keysOf he hm hp
    have h3 : (es.toList.map fun e => keyS e.snd).length = c := by rw [List.length_map, Array.length_toList, hsz]
    generalize (es.toList.map fun e => keyS e.snd) = ks at *
    subst h3
    exact ⟨.ref s.heap.objs.size, _, I.laid (t' := tk) k (Nat.le_refl _) (setS_ok G'), rfl, q _ ks hn h1 fun k => by rw [h2 k, decide_eq_true_eq]⟩
/-- len of such a set -/
def rLenSS (P : Program) (w : World) : List V → Hp → VK → Prop := fun xs H Q => ∃ (a : Addr) (S : Str → Bool) (n : Nat), xs = [.ref a] ∧ H a = some (SetSO P w a S n) ∧ n ≤ 4000 ∧ Q (.int n) H
theorem setS_get {pins : List (Addr × Obj)} {σ : L2.St} {H : Hp} {s : Shared} {a : Addr} {S : Str → Bool} {n : Nat} (I : L2.Inv X pins σ H s) (h : H a = some (SetSO X.prog X.w a S n)) : SetG (PySem.strKind X.prog X.w) s.heap a S n := (I.hok a _ h).1
theorem call_lenSS : CallR X (.builtin "len") (rLenSS X.prog X.w) := by
  intro pins s σ H xs us Q I r h
  obtain ⟨a, S, n, rfl, ha, hl, q⟩ := h
  obtain rfl := Vals.ref1 r
  obtain ⟨o, es, ep, t, ho, hex, hd, _, _, _, _, hf, hn, _⟩ := setS_get I ha
  exact call_len_set ho hex hd hf (by rw [hn]; omega) ⟨.int n, H, I.tok _, ⟨_, by rw [hn]⟩, q⟩
/-- sorted of such a set -/
def rSortedSS (P : Program) (w : World) : List V → Hp → VK → Prop := fun xs H Q => ∃ (a : Addr) (S : Str → Bool) (n : Nat), xs = [.ref a] ∧ H a = some (SetSO P w a S n) ∧ n < 64 ∧
  ∀ (ys : List Str) (p : Addr), ys.Nodup → sortedS ys = true → (∀ k, k ∈ ys ↔ S k = true) → ys.length = n → H p = none → Q (.ref p) (upd H p (.lst (ys.map V.str)))
theorem vals_of_perm {l : List (Int × Value)} {out : List Value} (hk : ∀ e ∈ l, ∃ t, e.snd = Value.str (keyS e.snd) t) (pm : out.Perm (l.map fun x => x.snd)) : ∃ zs : List Str, Vals (zs.map V.str) out ∧ zs.Perm (l.map fun e => keyS e.snd) := by
  refine ⟨out.map keyS, ?_, ?_⟩
  · have ho : ∀ v ∈ out, ∃ t, v = Value.str (keyS v) t := fun v m => by
      obtain ⟨e, me, rfl⟩ := List.mem_map.mp (pm.mem_iff.mp m)
      exact hk e me
    clear pm
    induction out with
    | nil => exact .nil
    | cons v r ih =>
      obtain ⟨t, e⟩ := ho v (List.mem_cons_self ..)
      exact .cons ⟨t, e⟩ (ih fun u m => ho u (List.mem_cons_of_mem _ m))
  · have q := pm.map keyS
    rw [List.map_map] at q
    exact q
theorem cr_sortedSS (hc : X.calm = true) : CallR X (.builtin "sorted") (rSortedSS X.prog X.w) := by
  intro pins s σ H xs us Q I r h
  obtain ⟨a, S, n, rfl, ha, hl, q⟩ := h
  obtain rfl := Vals.ref1 r
  obtain ⟨o, es, ep, t, ho, hex, hd, he, hm, hp, hz, hf, hn, hr, hled⟩ := setS_get I ha
  obtain ⟨k1, k2, k3⟩ := keysOf he hm hp
  refine Calls.call_function_entry kind_sorted plain_sorted entry_sorted (args_sorted1 _) ?_
  refine wpAny_bind (wpAny_pure ?_)
  refine wpAny_bind (collect_set (I.ok.hd hc) ⟨o, ho, hex.1, hd⟩ hf hz hr hled fun s' out keep hsz hg hos pm => ?_)
  obtain ⟨zs, vz, pz⟩ := vals_of_perm k3 pm
  have zl : zs.length = n := by
    have := pz.length_eq
    rw [List.length_map] at this
    rw [this, ← hn]
    exact Array.length_toList
  have I1 : L2.Inv X pins σ H s' := by
    have J := I.kept (t' := s'.toks) keep
    obtain ⟨hp', gn', dr', tk', os'⟩ := s'
    obtain rfl : gn' = s.gens := hg
    obtain rfl : os' = s.os := hos
    exact ⟨J.ok, J.os, J.bare, J.base, J.loc, J.cell, J.free, J.freeC, J.pin, J.hok, J.len⟩
  have ol : out.length = zs.length := (vals_strs vz).1
  have big : zs.length ≤ sizeLine := sizeLine_of (by omega) |> Nat.le_of_lt
  refine wpAny_bind (wpAny_newList ?_ (by rw [ol]; exact big))
  have I2 := I1.lnew (t' := s'.toks) vz (by rw [List.length_map]; exact big)
  have hn1 : H s'.heap.objs.size = none := I1.hok.fresh (Nat.le_refl _)
  refine wpAny_bind (wpAny_holding ?_)
  refine thn (mt_sortS (X := inCx X) pins _ σ _ (.ref s'.heap.objs.size) [] (.ref s'.heap.objs.size) [] (fun v H' => ∃ ys : List Str, ys.Perm zs ∧ sortedS ys = true ∧ H' = upd H s'.heap.objs.size (.lst (ys.map V.str))) (inv_in I2) rfl .nil ⟨_, zs, rfl, rfl, upd_same, by omega, fun ys h1 h2 => ⟨ys, h1, h2, upd_upd⟩⟩) fun v s3 ⟨x, H3, I3, _, ys, py, sy, e3⟩ => ?_
  subst e3
  refine wpAny_pure ⟨_, rfl, .ref s'.heap.objs.size, _, inv_out I3, rfl, ?_⟩
  have pk := py.trans pz
  exact q ys _ (pk.nodup_iff.mpr k1) sy (fun k => (pk.mem_iff).trans (k2 k)) (by rw [py.length_eq, zl]) hn1
end
end My
namespace My
open PySem PySem.Spec PyProof.Rows L2
section
variable {P : Program} {w : World} {X : Cx}
/-! ### set(list of ints) -/
theorem isInt {k : Int} {v : Value} (h : (intKind P w).is k v = true) : ∃ t, v = Value.int k t := by
  cases v with
  | int x t => exact ⟨t, by rw [eq_of_beq (show (x == k) = true from h)]⟩
  | _ => cases (show false = true from h)
theorem setR_of {h : Heap} {a : Addr} {S : Int → Bool} {n : Nat} (G : SetG (intKind P w) h a S n) : SetR w h a S n := by
  obtain ⟨o, es, ep, t, ho, hx, hd, he, hm, hp, hz, hf, hn, hr, hl⟩ := G
  have hk : ∀ e ∈ es.toList, ∃ t, e.snd = Value.int (keyOf e) t ∧ e.fst = hashInt (keyOf e) := fun e m => by
    obtain ⟨⟨k, i, q⟩, _⟩ := he e m
    obtain ⟨t, z⟩ := isInt i
    have kk : keyOf e = k := by
      unfold keyOf
      rw [z]
    rw [kk]
    exact ⟨t, z, q⟩
  have mk : ∀ (k : Int) (t : Tok), (intKind P w).is k (Value.int k t) = true := fun k t => beq_self_eq_true k
  refine ⟨o, es, ep, t, ho, hx, hd, fun e m => ?_, ?_, fun k => ?_, hz, hf, hn, hr, hl⟩
  · obtain ⟨t, z, q⟩ := hk e m
    exact ⟨_, t, z, q⟩
  · refine List.pairwise_map.mpr (hp.imp_of_mem fun {a b} ma mb q e => ?_)
    obtain ⟨t, ta, _⟩ := hk a ma
    obtain ⟨u, tb, _⟩ := hk b mb
    refine q (keyOf a) (by rw [ta]; exact mk _ _) ?_
    rw [e, tb]
    exact mk _ _
  · rw [hm k, List.mem_map]
    constructor
    · rintro ⟨e, m, i⟩
      obtain ⟨t, z⟩ := isInt i
      exact ⟨e, m, by unfold keyOf; rw [z]⟩
    · rintro ⟨e, m, rfl⟩
      obtain ⟨t, z, _⟩ := hk e m
      exact ⟨e, m, by rw [z]; exact mk _ _⟩
theorem vals_ints : ∀ {ns : List Int} {its : List Value}, Vals (ns.map V.int) its → its.length = ns.length ∧ ∀ (i : Nat) (v : Value), its[i]? = some v → ∃ k t, ns[i]? = some k ∧ v = Value.int k t
  | [], its, h => by
    cases h
    exact ⟨rfl, fun i v h => by simp at h⟩
  | x :: ns, its, h => by
    cases h with
    | cons r rr =>
      obtain ⟨t, rfl⟩ := r
      obtain ⟨l, g⟩ := vals_ints rr
      refine ⟨by rw [List.length_cons, List.length_cons, l], fun i v h => ?_⟩
      cases i with
      | zero =>
        cases h
        exact ⟨x, t, rfl, rfl⟩
      | succ i => exact g i v h
def rSetLI (K : PySem.W.Frag) (w : World) : List V → Hp → VK → Prop := fun xs H Q => ∃ (l : Addr) (ns : List Int), xs = [.ref l] ∧ SqL K H l (ns.map V.int) ∧ ns.length ≤ 1000 ∧
  ∀ (p : Addr) (ks : List Int), H p = none → ks.Nodup → (∀ k, k ∈ ks ↔ k ∈ ns) → Q (.ref p) (upd H p (SetO w p (fun j => decide (j ∈ ns)) ks.length))
theorem call_setLI (hc : X.calm = true) : CallR X (.type "set") (rSetLI X.K X.w) := by
  intro pins s σ H xs us Q I r h
  obtain ⟨l, ns, rfl, hq, hl, q⟩ := h
  obtain rfl := Vals.ref1 r
  obtain ⟨its, rv, pt, hz⟩ := I.list hq
  obtain ⟨hlen, hget⟩ := vals_ints rv
  refine call_set_listG (knd := intKind X.prog X.w) ns (I.ok.hd hc) (show s.heap.IsList l its.toArray from pt.isList) (fun i v hv => ?_) (by rw [List.size_toArray, hlen]) (by unfold scanBound; omega) fun h' tk c G hcn k => ?_
  · rw [List.getElem?_toArray] at hv
    obtain ⟨k, t, h1, rfl⟩ := hget i v hv
    exact ⟨k, h1, beq_self_eq_true k, rfl⟩
  · have hn : H s.heap.objs.size = none := I.hok.fresh (Nat.le_refl _)
    have R := setR_of G
    obtain ⟨ks, h1, h2, h3⟩ : ∃ ks : List Int, ks.Nodup ∧ (∀ k, k ∈ ks ↔ k ∈ ns) ∧ ks.length = c := by
      obtain ⟨o, es, ep, t, _, _, _, _, nd, hm, _, _, hn, _⟩ := R
      refine ⟨es.toList.map keyOf, nd, fun k => ?_, ?_⟩
      · rw [← hm k, decide_eq_true_eq]
      · rw [List.length_map, Array.length_toList, hn]
    subst h3
    exact ⟨.ref s.heap.objs.size, _, I.laid (t' := tk) k (Nat.le_refl _) (setO_new R), rfl, q _ ks hn h1 h2⟩
end
end My
namespace My
open PySem L2
theorem call_setLIK {X : Cx} {K : PySem.W.Frag} {w : World} (hK : X.K = K) (hw : X.w = w) (hc : X.calm = true) : CallR X (.type "set") (rSetLI K w) := by
  subst hK hw
  exact call_setLI hc
theorem cr_sortedSetK {X : Cx} {w : World} (hw : X.w = w) (hc : X.calm = true) : CallR X (.builtin "sorted") (rSortedSet w) := by
  subst hw
  exact cr_sortedSet hc
end My
namespace My
open PySem PySem.Spec PyProof.Rows L2
/-! ### set(tuple) -/
section
variable {P : Program} {w : World} {κ : Type} [DecidableEq κ] {knd : PySem.KeyKind P w κ} {A : Around} {E : Value → Shared → Prop} {s : Shared} {a : Addr}
theorem setG_initT {S l : Addr} {items : Array Value} (ks : List κ) {Φ : PySem.Fin → Shared → Prop} (hh : A.handled = none) (hS : s.heap.get? S = some (freshSet w)) (hl : s.heap.IsTuple l items) (hv : ∀ (i : Nat) (v : Value), items[i]? = some v → ∃ k, ks[i]? = some k ∧ knd.is k v = true ∧ v.scannable = true) (hn : items.size = ks.length) (hb : ks.length + 1 < scanBound)
    (h : ∀ (s' : Shared) (c : Nat), SetG knd s'.heap S (fun j => decide (j ∈ ks)) c → c ≤ ks.length → (∀ b o, b ≠ S → s.heap.get? b = some o → s'.heap.get? b = some o) → s'.gens = s.gens → s'.drawn = s.drawn → s'.os = s.os → Φ (Fin.done (Flow.ret .none)) s') :
    wpAny (model P w) A (Builtin.«set.__init__» { pos := [Value.ref S, Value.ref l] }) Φ E s := by
  have hT : s.TypeIs (Value.ref S) "set" := ⟨_, hS, rfl⟩
  have hl0 := hl
  obtain ⟨ol, hol, hlc, nl, hld⟩ := hl
  unfold Builtin.«set.__init__»
  refine wpAny_bind (wpAny_ite_true rfl (wpAny_pure ?_))
  refine wpAny_bind ?_
  refine wpAny_bind (wpAny_bind (wpAny_typeOf hT (wpAny_ite_false rfl (wpAny_pure (wpAny_pure ?_)))))
  unfold checkCount
  refine wpAny_bind (wpAny_ite_false rfl (wpAny_ite_false rfl (wpAny_ite_false rfl (wpAny_pure ?_))))
  refine wpAny_bind (wpAny_pure ?_)
  unfold setUsed
  refine wpAny_bind (wpAny_bind (wpAny_setState_of (es := #[]) hS rfl rfl ?_))
  refine wpAny_pure ?_
  refine wpAny_ite_false rfl ?_
  have hTl : s.TypeIs (Value.ref l) "tuple" := ⟨ol, hol, hlc⟩
  refine wpAny_bind ?_
  unfold Builtin.Frozenset.updateFrom Builtin.Frozenset.isAnySet
  refine wpAny_bind (wpAny_bind (wpAny_isInstance hTl F.sub_tuple_set ?_))
  refine wpAny_isInstance hTl F.sub_tuple_frozenset ?_
  refine wpAny_ite_false rfl ?_
  refine wpAny_bind (wpAny_typeOf hTl ?_)
  refine wpAny_ite_false rfl ?_
  refine wpAny_bind (wpAny_pyIter_tuple hl0 ?_)
  refine wpAny_bind (wpAny_runValue ?_)
  have hlt := Heap.lt_size hol
  have hSt := Heap.lt_size hS
  have hSl : S ≠ l := fun e => by
    rw [e, hol] at hS
    have z : ol.cls = Value.type "set" := by rw [Option.some.inj hS]; rfl
    exact absurd (Value.type.inj (hlc.symm.trans z)) (by decide)
  have W := Walks.toS (Walks.tuple (prog := P) (w := w) (A := A.in1) hh s.heap.objs.size l (Nat.ne_of_lt hlt) items)
  have pS := Heap.get?_push_of_some { cls := Value.type "tuple_iterator", data := Data.fields #[Value.ref l, Value.int 0 0] } hS
  have pl := Heap.get?_push_of_some { cls := Value.type "tuple_iterator", data := Data.fields #[Value.ref l, Value.int 0 0] } hol
  refine setG_update (knd := knd) W S (fun z => ?_) ks hn hb hv _ 0 _ rfl (Nat.zero_le _) ⟨?_, ⟨ol, pl, hlc, nl, hld⟩⟩ ⟨0, Nat.le_refl _, setG_fresh pS ks⟩ fun s' c mv hc hg => ?_
  · rcases List.mem_cons.mp z with z | z
    · exact absurd z (Nat.ne_of_lt hSt)
    · exact hSl (List.mem_singleton.mp z)
  · exact ⟨_, Heap.get?_push_size s.heap rfl, rfl, rfl⟩
  · show wpAny (model P w) A (pure ()) (fun a s' => wpAny (model P w) A ((fun __r => ret Value.none) a) Φ E s') E s'
    refine wpAny_pure ?_
    refine wpAny_pure ?_
    refine h s' c hg (by rw [← hn]; exact hc) (fun b o nb ho => ?_) mv.gens mv.drawn mv.os
    refine mv.heap b o (fun z => ?_) (Heap.get?_push_of_some _ ho)
    rcases List.mem_cons.mp z with z | z
    · exact nb z
    · rw [List.mem_singleton.mp z] at ho
      exact absurd (Heap.lt_size ho) (Nat.lt_irrefl _)
theorem call_set_tupG {l : Addr} {items : Array Value} (ks : List κ) {Q : Value → Shared → Prop} (hh : A.handled = none) (hl : s.heap.IsTuple l items) (hv : ∀ (i : Nat) (v : Value), items[i]? = some v → ∃ k, ks[i]? = some k ∧ knd.is k v = true ∧ v.scannable = true) (hn : items.size = ks.length) (hb : ks.length + 1 < scanBound)
    (h : ∀ (h' : Heap) (tk c : Nat), SetG knd h' s.heap.objs.size (fun j => decide (j ∈ ks)) c → c ≤ ks.length → (∀ b o, s.heap.get? b = some o → h'.get? b = some o) → Q (.ref s.heap.objs.size) { s with heap := h', toks := tk }) : wpAny (model P w) A (call (.type "set") [.ref l]) Q E s := by
  obtain ⟨c, tl, hmro⟩ := F.called_set.mro
  have hmade := F.called_set.made
  have hsub := F.called_set.sub
  have h1 := F.called_set.notType
  have h2 := F.called_set.canCreate
  have hct := F.typeCall_set_1 (Value.ref l)
  refine wpAny_call (codeAny_of_tree ?_)
  refine wpAny_pure ⟨Code.quiet_builtin _ (by decide +kernel), codeAny_builtin F.entry_type_call ?_⟩
  rw [Around.under_plain (weight_type_call_type "set" [.ref l] []) (by with_unfolding_all rfl)]
  unfold Builtin.«type.__call__»
  refine wpAny_ite_false (Eq.refl _) ?_
  refine wpAny_ite_false (Eq.refl _) ?_
  refine wpAny_bind (wpAny_of_eq hct ?_)
  refine wpAny_bind (wpAny_of_eq hmro ?_)
  refine wpAny_ite_false rfl ?_
  refine wpAny_bind (wpAny_of_eq hmade ?_)
  refine wpAny_bind (wpAny_pure ?_)
  refine wpAny_bind (wpAny_holding ?_)
  refine wpAny_call (codeAny_mono (L2.code_set_led1 (E := fun _ _ => False) (Value.ref l) (Q₁ := fun v s₁ => v = .ref s.heap.objs.size ∧ s₁ = { s with heap := s.heap.push { cls := .type "set", data := Data.set #[] 0 (SetTable.fresh 0 0 !w.params.followText "set-order") } }) ⟨rfl, rfl⟩) fun r s₁ hr => ?_)
  obtain ⟨e1, e2⟩ | e3 : (∃ v, r = .ok (.ret v) ∧ v = .ref s.heap.objs.size ∧ s₁ = { s with heap := s.heap.push { cls := .type "set", data := Data.set #[] 0 (SetTable.fresh 0 0 !w.params.followText "set-order") } }) ∨ False := by
    cases r with
    | ok f =>
      cases f with
      | ret v => exact .inl ⟨v, rfl, hr⟩
      | _ => exact .inr hr
    | error e => exact .inr hr
  · obtain ⟨rfl, rfl, rfl⟩ := e2
    have hS := Heap.get?_push_size s.heap (o := { cls := .type "set", data := Data.set #[] 0 (SetTable.fresh 0 0 !w.params.followText "set-order") }) rfl
    have hT : Shared.TypeIs { s with heap := s.heap.push { cls := .type "set", data := Data.set #[] 0 (SetTable.fresh 0 0 !w.params.followText "set-order") } } (Value.ref s.heap.objs.size) "set" := ⟨_, hS, rfl⟩
    have hli := F.called_set.init.lookup
    have hbi := F.called_set.init.bind (Value.ref s.heap.objs.size)
    refine wpAny_bind (wpAny_isInstance hT hsub ?_)
    refine wpAny_ite_false rfl ?_
    refine wpAny_bind (wpAny_holding ?_)
    refine wpAny_bind (wpAny_specialOf hT hli ?_)
    refine wpAny_holding ?_
    refine wpAny_bind (wpAny_of_eq hbi ?_)
    refine wpAny_bind ?_
    refine wpAny_call (codeAny_mono (codeAny_call_builtin F.called_set.init.plain F.entry_set_init (check_set_init_1 hT ?_)) fun r s₂ hr2 => hr2)
    have hl1 : (s.heap.push (freshSet w)).IsTuple l items := by
      obtain ⟨ol, hol, hlc, nl, hld⟩ := hl
      exact ⟨ol, Heap.get?_push_of_some _ hol, hlc, nl, hld⟩
    refine setG_initT (knd := knd) ks hh hS hl1 hv hn hb fun s' c hg hc hk hgn hdr hos => ?_
    refine wpAny_pure ?_
    refine wpAny_ite_false rfl ?_
    refine wpAny_pure ?_
    obtain ⟨hp', gn', dr', tk', os'⟩ := s'
    obtain rfl : gn' = s.gens := hgn
    obtain rfl : dr' = s.drawn := hdr
    obtain rfl : os' = s.os := hos
    refine h hp' tk' c hg hc fun b o ho => hk b o (fun z => ?_) (Heap.get?_push_of_some _ ho)
    rw [z] at ho
    exact absurd (Heap.lt_size ho) (Nat.lt_irrefl _)
  · exact e3.elim
end
section
variable {X : Cx}
def rSetTS (K : PySem.W.Frag) (P : Program) (w : World) : List V → Hp → VK → Prop := fun xs H Q => ∃ (l : Addr) (ws : List Str), xs = [.ref l] ∧ SqT K H l (ws.map V.str) ∧ ws.length ≤ 1000 ∧
  ∀ (p : Addr) (ks : List Str), H p = none → ks.Nodup → (∀ k, k ∈ ks ↔ k ∈ ws) → Q (.ref p) (upd H p (SetSO P w p (fun j => decide (j ∈ ws)) ks.length))
theorem call_setTS (hc : X.calm = true) : CallR X (.type "set") (rSetTS X.K X.prog X.w) := by
  intro pins s σ H xs us Q I r h
  obtain ⟨l, ws, rfl, hq, hl, q⟩ := h
  obtain rfl := Vals.ref1 r
  obtain ⟨its, rv, pt, hz⟩ := I.tuple hq
  obtain ⟨hlen, hget⟩ := vals_strs rv
  refine call_set_tupG (knd := PySem.strKind X.prog X.w) ws (I.ok.hd hc) (show s.heap.IsTuple l its.toArray from pt) (fun i v hv => ?_) (by rw [List.size_toArray, hlen]) (by unfold scanBound; omega) fun h' tk c G hcn k => ?_
  · rw [List.getElem?_toArray] at hv
    obtain ⟨k, t, h1, rfl⟩ := hget i v hv
    exact ⟨k, h1, isStr_mk k t, rfl⟩
  · have hn : H s.heap.objs.size = none := I.hok.fresh (Nat.le_refl _)
    have G' := G
    obtain ⟨o, es, ep, t, _, _, _, he, hm, hp, _, _, hsz, _⟩ := G
    obtain ⟨h1, h2, _⟩ := keysOf he hm hp
    have h3 : (es.toList.map fun e => keyS e.snd).length = c := by rw [List.length_map, Array.length_toList, hsz]
    generalize (es.toList.map fun e => keyS e.snd) = ks at *
    subst h3
    exact ⟨.ref s.heap.objs.size, _, I.laid (t' := tk) k (Nat.le_refl _) (setS_ok G'), rfl, q _ ks hn h1 fun k => by rw [h2 k, decide_eq_true_eq]⟩
theorem call_setTSK {K : PySem.W.Frag} {P : Program} {w : World} (hK : X.K = K) (hP : X.prog = P) (hw : X.w = w) (hc : X.calm = true) : CallR X (.type "set") (rSetTS K P w) := by
  subst hK hP hw
  exact call_setTS hc
end
end My
/-! sorted(xs, key=lambda one: ..), the keys texts: a lambda of one parameter that captures nothing -/
namespace My
open PySem L2 LamX PyProof.Rows
/-- what a key's expression makes of the item v: the text k; nothing that stood is changed -/
def KeyE (prog : Program) (w : World) (scope : Scope) (x : Str) (body : Expr) (R : Heap → Value → Str → Prop) : Prop :=
  ∀ (cenv : Env) (A' : Around) (E' : Value → Shared → Prop) (v : Value) (k : Str) (s₂ : Shared) (m₂ : Str → Option Value), cenv.scope = scope → s₂.heap.Ns cenv.locals m₂ → m₂ x = some v → R s₂.heap v k →
    wpAny (model prog w) A' (eval body cenv) (fun y s₃ => (∃ t, y = .str k t) ∧ Keeps s₂ s₃) E' s₂
/-- the tuple's first is the text -/
def TupK (h : Heap) (v : Value) (k : Str) : Prop := ∃ (t : Addr) (u : Tok) (its : List Value), v = .ref t ∧ IsTup h t (Value.str k u :: its).toArray
theorem tupK_keep {h h' : Heap} {v : Value} {k : Str} (e : ∀ b o, h.get? b = some o → h'.get? b = some o) (r : TupK h v k) : TupK h' v k := by
  obtain ⟨t, u, its, rfl, o, ho, r⟩ := r
  exact ⟨t, u, its, rfl, o, e _ _ ho, r⟩
theorem keeps_tok (s : Shared) (n : Nat) : Keeps s { s with toks := n } := ⟨s.heap, n, rfl, fun _ _ e => e⟩
/-- x[0] -/
theorem key_first {prog : Program} {w : World} {scope : Scope} {x : Str} {j : Nat} {p1 p2 p3 : Pos} (hk : scope.kind = .function) (hl : scope.names.lookup x = some .local) (hd : (x == ("__debug__" : Str)) = false := by decide) :
    KeyE prog w scope x (.Subscript (.Name x p1) (.Constant (.int 0) j p2) p3) TupK := by
  intro cenv A' E' v k s₂ m₂ hs hn hm r
  obtain ⟨t, u, its, rfl, pl⟩ := r
  refine Subscript_ (wpAny_Name (wpAny_loadName_local (by rw [hs]; exact hk) (show cenv.scope.names.lookup x = some .local by rw [hs]; exact hl) hn hm ?_) hd)
  refine wpAny_Constant_int ?_
  refine subscriptTail_builtinR (x := .str k u) (IsTup.typeIs (s := { s₂ with toks := _ }) pl) slot_tuple_getitem.lookup ?_ rfl
  refine getItem_tuple (k := 0) (j := 0) pl (by decide) (by decide) (by show seqIndex? 0 _ = some 0; unfold seqIndex?; simp) (by simp) ⟨rfl, ⟨u, rfl⟩, keeps_tok s₂ _⟩
/-- all but the tables of code objects -/
theorem extN_sql {K : PySem.W.Frag} {H H' : Hp} {a : Addr} {xs : List V} (e : ExtN H H') (h : SqL K H a xs) : SqL K H' a xs := by
  rcases h with (h | ⟨o, h⟩) | h
  · exact .inl (.inl (e _ _ h fun _ z => nomatch z))
  · exact .inl (.inr ⟨o, e _ _ h fun _ z => nomatch z⟩)
  · exact .inr h
theorem extN_imm {H H' : Hp} (e : ExtN H H') : Imm H H' := fun b o h i => e b o h fun ps z => by
  subst z
  cases i
theorem extN_same {H H' : Hp} (e : Same H H') : ExtN H H' := fun b o h _ => e b o h
def keyD (b : V × Str) : PyData := .str b.2
/-- sorted by the keys, equal ones as they stood -/
def sortBy (bs : List (V × Str)) : List (V × Str) := bs.mergeSort (PySem.W.dataLe false keyD)
theorem sortBy_perm (bs : List (V × Str)) : (sortBy bs).Perm bs := List.mergeSort_perm _ _
def tSortLam (K : PySem.W.Frag) (T : List (Addr × Str)) (RK : Hp → V → Str → Prop) (te : TE) : TE := fun σ H Q => te σ H fun v H1 => Tabs T H1 ∧ ∃ (a : Addr) (bs : List (V × Str)), v = .ref a ∧ SqL K H1 a (bs.map (·.1)) ∧ (∀ b ∈ bs, RK H1 b.1 b.2) ∧
  ∀ (p : Addr) (H2 : Hp), ExtN H1 H2 → Tabs T H2 → H2 p = none → Q (.ref p) (upd H2 p (.lst ((sortBy bs).map (·.1))))
section
variable {X : Cx}
theorem pe_sortLam {T : List (Addr × Str)} {te : TE} {c P : Addr} {k : Nat} {e : Expr} {params : Arguments} {body : Expr} {scope : Scope} {x : Str} {p lpos kpos pos : Pos} {R : Heap → Value → Str → Prop} {RK : Hp → V → Str → Prop}
    (hkey : KeyE X.prog X.w scope x body R) (hR : ∀ pins s σ H b u v, Inv X pins σ H s → RK H b u → RelV b v → R s.heap v u) (hRk : ∀ (h h' : Heap) v u, (∀ b o, h.get? b = some o → h'.get? b = some o) → R h v u → R h' v u) (hRe : ∀ H H' b u, ExtN H H' → RK H b u → RK H' b u)
    (hg : Gl X "sorted") (hm : X.mg "sorted" = none) (ha : PE X e te) (TB : TabB X.base X.mg c P) (hcode : X.env.code = .ref c) (hmT : (P, X.env.qual ++ "<lambda>") ∈ T) (hu : ∀ p ∈ T, p.1 = P → p.2 = X.env.qual ++ "<lambda>") (hr : Room k X.A)
    (hdef : defaultsOf params X.env = ([], [])) (hkind : scope.kind = .function) (hco : scope.isCoroutine = false) (hgen : scope.isGenerator = false) (hnames : ∀ y ∈ scope.names, y.2 ≠ .free ∧ y.2 ≠ .cell) (hx : scope.names.lookup x = some .local)
    (hbind : ∀ (q : Str) (cl : List (Str × Addr)) (pm cv ctv v : Value), bindArgs (PySem.W.kla_fn "<lambda>" q params body scope cl pm cv ctv) ⟨[v], []⟩ = pure [(x, v)])
    (hst : starEach [e] X.env = (false, eval e X.env) :: starEach [] X.env := by rfl) (he : backTo pos (starEach [e] X.env) = (false, eval e X.env) :: backTo pos (starEach [] X.env) := by rfl) (hpl : (backTo pos (starEach [e] X.env)).any (·.1) = false := by rfl) :
    PE X (.Call (.Name "sorted" p) [e] [⟨some "key", .Lambda params body scope lpos, kpos⟩] pos) (tSortLam X.K T RK te) := by
  refine ⟨fun pins s σ H Q I h => ?_⟩
  refine wpAny_Call_Name_kw (ld_blt (u := .builtin "sorted") I hg hm (by decide +kernel) ?_ (by decide) (by decide))
  refine PyProof.Rows.callWith_kw (thn ((pa_cons ha pa_nil hst).run pos pins s σ H (fun vs H1 => match vs with | [v] => Tabs T H1 ∧ ∃ (a : Addr) (bs : List (V × Str)), v = .ref a ∧ SqL X.K H1 a (bs.map (·.1)) ∧ (∀ b ∈ bs, RK H1 b.1 b.2) ∧ ∀ (p : Addr) (H2 : Hp), ExtN H1 H2 → Tabs T H2 → H2 p = none → Q (.ref p) (upd H2 p (.lst ((sortBy bs).map (·.1)))) | _ => False) I h) fun us s1 ⟨vs, H1, I1, r1, q1⟩ => ?_) he hpl rfl rfl
  obtain ⟨v, rfl⟩ : ∃ v, vs = [v] := by
    match vs, q1 with
    | [v], _ => exact ⟨v, rfl⟩
  obtain ⟨hT, a, bs, rfl, hL, hK, q⟩ := q1
  obtain rfl := Vals.ref1 r1
  show wpAny _ _ (evalAll [do let v ← eval (.Lambda params body scope lpos) X.env; standAt pos; pure v]) _ _ s1
  refine wpAny_evalAll_cons (wpAny_bind (lam_make2 I1 TB hcode hmT hu hT hdef (fun y hy z => absurd z (hnames y hy).1) fun f c' pm ctv H2 s2 I2 eN T2 hf hfn hfr hco' => wpAny_bind (wpAny_standAt (wpAny_pure (wpAny_evalAll_nil ?_)))))
  show wpAny (model X.prog X.w) X.A (call (.builtin "sorted") [.ref a] [("key", .ref f)]) _ _ s2
  have hL2 := extN_sql eN hL
  obtain ⟨its, rv, hl, hz⟩ := I2.list hL2
  obtain ⟨⟨oc, cvs, ct, hoc, hdc, hvc⟩, _, _⟩ := I2.hok c' _ hco'
  have hbs : ∀ (l : List (V × Str)) (us : List Value), Vals (l.map (·.1)) us → (∀ b ∈ l, b ∈ bs) → PySem.W.EachIs (fun (v : Value) (b : V × Str) => RelV b.1 v ∧ R s2.heap v b.2) us l := by
    intro l
    induction l with
    | nil =>
      intro us r _
      cases r
      exact .nil
    | cons b l ih =>
      intro us r m
      cases r with
      | cons r1 r2 => exact .cons ⟨r1, hR pins s2 σ H2 b.1 b.2 _ I2 (hRe _ _ _ _ eN (hK b (m b (.head _)))) r1⟩ (ih _ r2 fun b' h' => m b' (.tail _ h'))
  have e := hbs bs its rv fun _ h => h
  refine PySem.W.sorted_key_data (R := fun (v : Value) (b : V × Str) => RelV b.1 v ∧ R s2.heap v b.2) (b := false) keyD hl.isList e ?_ ?_ ?_ ?_ (PyProof.Rows.ksk_s1 _ _) (fun _ => PyProof.Rows.ksk_l1 _ _) (fun x => PyProof.Rows.ksk_t1 f x) (fun v b hb hm' g tk kp => ?_) fun out cc h' tk kp hn hD hlen hout => ?_
  · intro d hd d' hd'
    obtain ⟨b, _, rfl⟩ := List.mem_map.mp hd
    obtain ⟨b', _, rfl⟩ := List.mem_map.mp hd'
    rfl
  · refine .inr fun d hd => ?_
    obtain ⟨b, _, rfl⟩ := List.mem_map.mp hd
    exact ⟨nofun, fun _ => nofun⟩
  · rw [List.length_map] at hz
    exact hz
  · intro b _
    have := hr.units
    show X.A.units + 2 + (PyData.str b.2).depth < _
    have z : (PyData.str b.2).depth ≤ 1 := by show _ ≤ 1; simp [PyData.depth]
    omega
  · have of1 := kp _ _ hf
    refine wpAny_call ?_
    refine PySem.W.kla_callFunE (by have := hr.dp; show X.A.depth < _; omega) of1 rfl hco hgen rfl ⟨c', oc, cvs, ct, rfl, kp _ _ hoc, hdc, hvc⟩ ?_
    rw [hbind]
    refine wpAny_pure (wpAny_newFunctionEnv (fun y hy => (hnames y hy).2) (fun y hy => ?_) (fun h₁ hns hsb => ⟨(I2.nolimit.keeps kp).fresh _ hsb, ?_⟩) hkind)
    · obtain rfl := List.mem_singleton.mp hy
      exact hx
    · have kp1 : ∀ b o, g.get? b = some o → h₁.get? b = some o := fun b o e => hsb.extBut b o (Nat.ne_of_lt (Heap.lt_size e)) (Heap.get?_push_of_some _ e)
      refine PySem.W.kla_codeExpr (wpAny_mono (hkey _ _ (fun _ _ => False) v b.2 _ _ rfl hns (by simp) (hRk _ _ _ _ kp1 (hRk _ _ _ _ kp hb.2))) (fun y s3 hq => ?_) fun _ _ z => z.elim)
      obtain ⟨⟨t, rfl⟩, h3, tk3, rfl, kp3⟩ := hq
      exact ⟨h3, tk3, rfl, fun b o e => kp3 b o (kp1 b o e), .str _ _⟩
  · have hv : ∀ (l : List (V × Str)) (us : List Value), PySem.W.EachIs (fun (v : Value) (b : V × Str) => RelV b.1 v ∧ R s2.heap v b.2) us l → Vals (l.map (·.1)) us := by
      intro l us e
      induction e with
      | nil => exact .nil
      | cons r _ ih => exact .cons r.1 ih
    refine ⟨.ref _, upd H2 (s2.heap.objs.size + 1) (.lst ((sortBy bs).map (·.1))), I2.laid (t' := tk) kp (Nat.le_succ _) ⟨?_, out, cc, hv _ _ hout, hD⟩, rfl, q _ H2 eN T2 (I2.hok.fresh (Nat.le_succ _))⟩
    rw [List.length_map, (sortBy_perm bs).length_eq]
    rw [List.length_map] at hz
    exact hz
end
/-- the item is a tuple whose first is the text -/
def RKt (K : PySem.W.Frag) (H : Hp) (x : V) (k : Str) : Prop := ∃ (t : Addr) (xs : List V), x = .ref t ∧ SqT K H t (.str k :: xs)
section
variable {X : Cx}
/-- sorted(xs, key=lambda x: x[0]), the items tuples whose first is a text -/
theorem pe_sortFirst {te : TE} {c P : Addr} {k : Nat} {e : Expr} {params : Arguments} {scope : Scope} {x : Str} {j : Nat} {p p1 p2 p3 lpos kpos pos : Pos}
    (hg : Gl X "sorted") (hm : X.mg "sorted" = none) (ha : PE X e te) (TB : TabB X.base X.mg c P) (hcode : X.env.code = .ref c) (hr : Room k X.A)
    (hdef : defaultsOf params X.env = ([], []) := by rfl) (hkind : scope.kind = .function := by rfl) (hco : scope.isCoroutine = false := by rfl) (hgen : scope.isGenerator = false := by rfl) (hnames : ∀ y ∈ scope.names, y.2 ≠ .free ∧ y.2 ≠ .cell := by decide +kernel) (hx : scope.names.lookup x = some .local := by rfl)
    (hbind : ∀ (q : Str) (cl : List (Str × Addr)) (pm cv ctv v : Value), bindArgs (PySem.W.kla_fn "<lambda>" q params (.Subscript (.Name x p1) (.Constant (.int 0) j p2) p3) scope cl pm cv ctv) ⟨[v], []⟩ = pure [(x, v)] := by intros; rfl)
    (hd : (x == ("__debug__" : Str)) = false := by decide) (hst : starEach [e] X.env = (false, eval e X.env) :: starEach [] X.env := by rfl) (he : backTo pos (starEach [e] X.env) = (false, eval e X.env) :: backTo pos (starEach [] X.env) := by rfl) (hpl : (backTo pos (starEach [e] X.env)).any (·.1) = false := by rfl) :
    PE X (.Call (.Name "sorted" p) [e] [⟨some "key", .Lambda params (.Subscript (.Name x p1) (.Constant (.int 0) j p2) p3) scope lpos, kpos⟩] pos) (tSortLam X.K [(P, X.env.qual ++ "<lambda>")] (RKt X.K) te) := by
  refine pe_sortLam (x := x) (R := TupK) (RK := RKt X.K) (key_first hkind hx hd) (fun pins s σ H b u v I r rv => ?_) (fun h h' v u e r => tupK_keep e r) (fun H H' b u e r => ?_) hg hm ha TB hcode (.head _) (fun q hq _ => by rw [List.mem_singleton.mp hq]) hr hdef hkind hco hgen hnames hx hbind hst he hpl
  · obtain ⟨t, xs, rfl, hT⟩ := r
    obtain rfl : v = .ref t := rv
    obtain ⟨its, vs, pl, _⟩ := I.tuple hT
    cases vs with
    | cons r1 r2 =>
      obtain ⟨tk, rfl⟩ := r1
      exact ⟨t, tk, _, rfl, pl⟩
  · obtain ⟨t, xs, rfl, hT⟩ := r
    exact ⟨t, xs, rfl, (extN_imm e).seqT hT⟩
end
end My
namespace My
open PySem L2 LamX PyProof.Rows
/-- the rule for a def, its own code told -/
theorem _root_.L2.Fun.okC {P : Program} {w : World} {K : PySem.W.Frag} {mg : Str → Option Value} {base : Heap} {x qual : Str} {st : Stmt} {f : Addr} {fd : FuncData} {N ps : List Str} {k : Nat} {sp : Sp} (F : L2.Fun K x qual st f fd) (S : FnScope N ps (defScope st)) (len : ∀ vs H Q E, sp vs H Q E → vs.length = ps.length)
    (hbody : ∀ (A : Around) (outer : List Env) (s : Shared) (H : Hp) (vs : List V) (Q : VK) (E : XK), Room k (A.deeper (envOfC qual (defScope st) s.heap.objs.size f fd.code)) → sp vs H Q E →
      ∃ t, PSs (cxOf CX0 P w K mg base N qual (defScope st) f fd.code A outer s H E).nox (defBody st) t ∧ t { nx := fun _ H' => Q .non H', rt := Q } (start N vs) H) : FnOk P w K mg base CX0 (k + 1) f fd ps sp := by
  obtain ⟨oc, od, kV, doc, pm, an, cdv, ct, osl, rfl, lk, hcd⟩ := F.ex
  refine fn_of lk hcd S len fun A outer s H vs Q E hr hsp => ?_
  obtain ⟨t, h, q⟩ := hbody A outer s H vs Q E hr hsp
  exact ⟨t, h.nox, q⟩
/-- all but r and the tables -/
def ButN (r : Addr) (H H' : Hp) : Prop := ∀ b o, H b = some o → b ≠ r → (∀ ps, o ≠ .tbl ps) → H' b = some o
theorem ButN.of {r : Addr} {H H' : Hp} (b : But r H H') : ButN r H H' := fun c o h n _ => b c o h n
theorem ButN.ext {r : Addr} {H H1 H' : Hp} (b : But r H H1) (e : ExtN H1 H') : ButN r H H' := fun c o h n m => e c o (b c o h n) m
end My
namespace My
open PySem L2 LamX PyProof.Rows
theorem cut_take (xs : List V) (n : Nat) : cutV xs none (some (n : Int)) = xs.take n := by
  unfold cutV
  rw [show HT.sIx xs.length xs.length (some (n : Int)) = min n xs.length from HT.sIx_nat xs.length xs.length n, HT.sIx_none]
  show (xs.drop 0).take (min n xs.length - 0) = xs.take n
  rw [List.drop_zero, Nat.sub_zero]
  by_cases h : n ≤ xs.length
  · rw [Nat.min_eq_left h]
  · rw [Nat.min_eq_right (by omega), List.take_of_length_le (Nat.le_refl _), List.take_of_length_le (by omega)]
end My
namespace My
open PySem L2
section
variable {K : PySem.W.Frag} {H : Hp} {x y : V} {d : PyData} {Q : VK}
/-! ### equal data -/
theorem eqv_self (s : SeqAt.shaped d = true) : d.eqv d = true := by
  unfold SeqAt.shaped at s
  rw [Bool.and_eq_true] at s
  exact PySem.SeqAt.eqv_refl d s.1
theorem rNeD_self (h1 : Dp K H x d) (h2 : Dp K H y d) (s : SeqAt.shaped d = true) (q : Q (.bl false) H) : rNeD K x y H Q := ⟨d, d, h1, h2, s, s, by rw [eqv_self s]; exact q⟩
theorem rEqD_self (h1 : Dp K H x d) (h2 : Dp K H y d) (s : SeqAt.shaped d = true) (q : Q (.bl true) H) : rEqD K x y H Q := ⟨d, d, h1, h2, s, s, by rw [eqv_self s]; exact q⟩
/-- data of depth two: a tuple of scalars and tuples of ints -/
theorem can_app : ∀ a b : List PyData, PyData.canLayAll0 (a ++ b) = (PyData.canLayAll0 a && PyData.canLayAll0 b)
  | [], _ => (Bool.true_and _).symm
  | x :: r, b => by
    show (x.canLay0 && PyData.canLayAll0 (r ++ b)) = _
    rw [can_app r b]
    exact (Bool.and_assoc _ _ _).symm
end
end My
namespace My
open PySem PySem.Spec PyProof.Rows L2
/-! ### sets that grow: s.add(e), {e for ..}; of any kind of keys -/
/-- a kind of keys, as values -/
structure ZK (κ : Type) [DecidableEq κ] where
  kd : ∀ (P : Program) (w : World), KeyKind P w κ
  val : κ → V
  ok : ∀ (P : Program) (w : World) (k : κ) (v : Value), RelV (val k) v → (kd P w).is k v = true ∧ v.scannable = true
section
variable {κ : Type} [DecidableEq κ] (Z : ZK κ) {P : Program} {w : World} {X : Cx}
/-- the set at a: its members, how many -/
def SetZ (P : Program) (w : World) (a : Addr) (S : κ → Bool) (n : Nat) : HO := .ext fun h => SetG (Z.kd P w) h a S n
theorem setZ_ok {H : Hp} {h : Heap} {a : Addr} {S : κ → Bool} {n : Nat} (g : SetG (Z.kd P w) h a S n) : ObjOk P w H h a (SetZ Z P w a S n) := by
  have g' := g
  obtain ⟨o, _, _, _, ho, _⟩ := g'
  exact ⟨g, ⟨o, ho⟩, fun _ _ q k => q.stay k⟩
/-- with one more -/
def more (S : κ → Bool) (k : κ) : κ → Bool := fun j => S j || decide (j = k)
def moreN (S : κ → Bool) (k : κ) (n : Nat) : Nat := if S k = true then n else n + 1
/-- set.add: the object grows, nothing else does -/
theorem setZ_add {A : Around} {E : Value → Shared → Prop} {s : Shared} {a : Addr} {S : κ → Bool} {n : Nat} {k : κ} {v : Value} {Q : Value → Shared → Prop} (hv : RelV (Z.val k) v) (G : SetG (Z.kd P w) s.heap a S n) (hn : n + 1 < scanBound)
    (c : ∀ h', Heap.SameBut a s.heap h' → SetG (Z.kd P w) h' a (more S k) (moreN S k n) → Q .none { s with heap := h', toks := s.toks + 1 }) : wpAny (model P w) A (call (.builtin "set.add") [.ref a, v]) Q E s := by
  obtain ⟨his, hsc⟩ := Z.ok P w k v hv
  have hT : s.TypeIs (.ref a) "set" := by
    obtain ⟨o, _, _, _, ho, hx, _⟩ := G
    exact ⟨o, ho, hx.1⟩
  refine wpAny_call_entry F.slot_set_add hT F.entry_set_add ?_ (F.args_set_add_2 _ _)
  unfold Builtin.«set.add» Builtin.Frozenset.oneOther Builtin.Frozenset.addrOf setAdd
  simp only [List.isEmpty_nil, bind_assoc]
  refine wpAny_bind (wpAny_pure (wpAny_bind (wpAny_pure (wpAny_bind (wpAny_holding (wpAny_bind ((Z.kd P w).pyHash his ?_)))))))
  exact setG_add_hashed (s := { s with toks := s.toks + 1 }) his hsc G hn fun h' sb g => wpAny_pure ⟨_, rfl, c h' sb g⟩
/-- .. where the set is tracked -/
theorem setZ_grows {pins : List (Addr × Obj)} {σ : L2.St} {H : Hp} {s : Shared} {E : Value → Shared → Prop} {a : Addr} {S : κ → Bool} {n : Nat} {k : κ} {v : Value} {Q : Value → Shared → Prop} (I : Inv X pins σ H s) (ha : H a = some (SetZ Z X.prog X.w a S n)) (hv : RelV (Z.val k) v) (hn : n + 1 < scanBound)
    (c : ∀ s', Inv X pins σ (upd H a (SetZ Z X.prog X.w a (more S k) (moreN S k n))) s' → Q .none s') : wpAny (model X.prog X.w) X.A (call (.builtin "set.add") [.ref a, v]) Q E s := by
  have G : SetG (Z.kd X.prog X.w) s.heap a S n := (I.hok a _ ha).1
  refine setZ_add Z hv G hn fun h' sb g => c _ ?_
  have g' := g
  obtain ⟨o, _, _, _, ho, _⟩ := g'
  refine I.write (x := a) (e := a) (t' := s.toks + 1) (by rw [ha]; exact True.intro) (Or.inl rfl) (fun b u hb hu => ?_) ⟨o, ho⟩ (setZ_ok Z g)
  rw [sb.2 b hb]
  exact hu
/-- a.add(e) -/
def tGrow (P : Program) (w : World) (to te : TE) : TE := fun σ H Q => to σ H fun x H1 => ∃ a : Addr, x = .ref a ∧ (∃ S n, H1 a = some (SetZ Z P w a S n)) ∧ te σ H1 fun y H2 => ∃ (k : κ) (S : κ → Bool) (n : Nat), y = Z.val k ∧ H2 a = some (SetZ Z P w a S n) ∧ n ≤ 2000 ∧ Q .non (upd H2 a (SetZ Z P w a (more S k) (moreN S k n)))
theorem pe_grow {o e : Expr} {to te : TE} {apos cpos : Pos} (ho : PE X o to) (ha : PE X e te) (hbase : attributeBase o "add" X.env (eval o X.env) = eval o X.env := by rfl)
    (hfew : ((backTo cpos (starEach [e] X.env)).all (fun x => !x.1) && (backToKw cpos (keywordEach [] X.env)).all (fun x => x.1.isSome) && decide ([e].length + ([] : List Keyword).length + (if ([] : List Keyword).isEmpty then 0 else 1) < 30)) = true := by rfl)
    (hline : (apos.endLine == cpos.line) = true := by rfl) (hs : starEach [e] X.env = (false, eval e X.env) :: starEach [] X.env := by rfl) : PE X (.Call (.Attribute o "add" apos) [e] [] cpos) (tGrow Z X.prog X.w to te) := by
  refine ⟨fun pins s σ H Q I h => wpAny_Call_method_late hbase hfew hline rfl (thn (ho.run pins s σ H _ I h) fun v s1 ⟨x, H1, I1, r1, a, ex, ⟨S0, n0, h0⟩, q1⟩ => ?_)⟩
  subst ex
  obtain rfl : v = .ref a := r1
  have G0 : SetG (Z.kd X.prog X.w) s1.heap a S0 n0 := (I1.hok a _ h0).1
  obtain ⟨o0, es0, ep0, t0, ho0, hx0, _⟩ := G0
  refine ⟨"set", "set.add", F.plainAttrs_set, F.slot_set_add, F.type_set_add, ⟨o0, ho0, hx0.1⟩, fun b hb => ⟨o0, by cases hb; exact ho0, hx0.2.1⟩, ?_⟩
  rw [hs]
  refine Calls.callWith_builtin (by rfl) (Calls.evalArgs_plain ?_)
  refine Calls.spliced_cons (thn (ha.run pins s1 σ H1 _ I1 q1) fun u s2 ⟨y, H2, I2, r2, k, S, n, ey, h2, hn, q2⟩ => Calls.spliced_nil ?_)
  subst ey
  exact setZ_grows Z I2 h2 r2 (by unfold scanBound; omega) fun s' I' => ⟨.non, _, I', rfl, q2⟩
/-- an empty set, just made -/
theorem setZ_zero {h : Heap} : SetG (Z.kd P w) (h.push (freshSet w)) h.objs.size (fun _ => false) 0 :=
  (setG_fresh (knd := Z.kd P w) (Heap.get?_push_size h rfl) []).to fun k => by rw [List.take_nil]; exact decide_eq_false List.not_mem_nil
/-- {e for t in i if c ..}: J the thing walked over, D the new set, W what holds between the turns -/
def tSetZ (P : Program) (w : World) (wi : TI) (g : TG) (tt : TT) (te : TE) (vs : List Nat) : TE := fun σ H Q => wi σ H fun J H1 => ∀ D, H1 D = none → ∃ W : Nat → Nat → Hp → Prop, (∃ m, W 0 m (upd H1 D (SetZ Z P w D (fun _ => false) 0))) ∧ ∀ i m H, W i m H →
  (J.stop i H ∧ Q (.ref D) H) ∨ (J.go i H ∧ ∃ Nx : Hp → Prop, (∀ H', Nx H' → ∃ m', m' < m ∧ W (i + 1) m' H') ∧ ∀ x H', J.yld i H x H' → g x (wipe σ vs) H' fun σ2 H2 => wipe σ2 vs = wipe σ vs ∧ tt σ2 H2 fun b H3 =>
    if b = true then te σ2 H3 fun y H4 => ∃ (k : κ) (S : κ → Bool) (n : Nat), y = Z.val k ∧ H4 D = some (SetZ Z P w D S n) ∧ n ≤ 2000 ∧ Nx (upd H4 D (SetZ Z P w D (more S k) (moreN S k n))) else Nx H3)
theorem pe_setZ {elt tg iter : Expr} {ifs : List Expr} {scope : Scope} {own : List (Str × Nat)} {pos : Pos} {wi : TI} {g : TG} {tt : TT} {te : TE} (calm : X.calm = true) (nd : X.N.Nodup) (walks : PI X tg iter wi) (ok : BlkOk X.N X.env.scope scope own)
    (target : ∀ s H C cl fp, PG (X.blk s H scope (compEnvC scope cl C X.env) fp) tg g) (tests : ∀ s H C cl fp, PTs (X.blk s H scope (compEnvC scope cl C X.env) fp) ifs tt) (elem : ∀ s H C cl fp, PE (X.blk s H scope (compEnvC scope cl C X.env) fp) elt te)
    (hs : ∀ x, foldedSetIterable iter X.env x = pure x := by intro _; rfl) : PE X (.SetComp elt [⟨tg, iter, ifs, 0⟩] scope pos) (tSetZ Z X.prog X.w wi g tt te (own.map (·.2))) := by
  refine ⟨fun pins s σ H Q I spec => ?_⟩
  rw [PpSet.eval_SetComp]
  have caught : ∀ y ∈ scope.names, y.2 = .free → ∃ c, X.env.cells.lookup y.1 = some c := fun y hy e => (ok.free y hy e).elim (fun k => I.ok.has _ (.inl k)) fun k => I.ok.has _ (.inr k)
  refine wpAny_comprehension_free rfl hs (closure_ok caught) ok.kind (fun y hy e => by rw [ok.uniq y hy, e]) (thn (walks.run pins s σ H _ I spec) fun v0 s1 at1 => thn at1 fun v1 s2 at2 => ?_)
  obtain ⟨it, fp, tn, J, H2, rfl, I2, T, tn2, apart, spec2⟩ := at2
  refine PpSet.newSet_ok (newEnv_comp ?_)
  have free2 : H2 s2.heap.objs.size = none := I2.hok.fresh (Nat.le_refl _)
  have inside : ∀ b ∈ fp, b < s2.heap.objs.size := fun b hb => let ⟨_, e, _⟩ := T.obj _ _ tn2 b hb; Heap.lt_size e
  obtain ⟨W, ⟨m0, w0⟩, turn⟩ := spec2 _ free2
  -- the state with the new set
  have I3 := I2.laid (t' := s2.toks) (o := SetZ Z X.prog X.w s2.heap.objs.size (fun _ => false) 0) (h' := s2.heap.push (freshSet X.w)) (fun _ _ e => Heap.get?_push_of_some _ e) (Nat.le_refl _) (setZ_ok Z (setZ_zero Z))
  have apart3 : ∀ b ∈ fp, FpOk X pins (upd H2 s2.heap.objs.size (SetZ Z X.prog X.w s2.heap.objs.size (fun _ => false) 0)) b ∧ b < (s2.heap.push (freshSet X.w)).objs.size := fun b hb => by
    have lt := inside b hb
    have ne : b ≠ s2.heap.objs.size := Nat.ne_of_lt lt
    exact ⟨⟨(upd_ne ne).trans (apart b hb).1, (apart b hb).2⟩, by rw [Heap.size_push]; exact Nat.lt_succ_of_lt lt⟩
  have tn3 : tn 0 (s2.heap.push (freshSet X.w)) := T.keep _ _ _ tn2 fun b _ o e => Heap.get?_push_of_some _ e
  have I4 := block_start I3 ok nd apart3
  have tn4 : tn 0 (pushCells ((s2.heap.push (freshSet X.w)).push { cls := .type "dict", data := .dict #[] }) scope.names) := T.keep _ _ _ tn3 fun b _ o e => pushCells_keeps _ _ _ _ (Heap.get?_push_of_some _ e)
  have none3 : ∀ b ∈ fp, (upd H2 s2.heap.objs.size (SetZ Z X.prog X.w s2.heap.objs.size (fun _ => false) 0)) b = none := fun b hb => (apart3 b hb).1.1
  generalize s2.heap.objs.size = D at *
  generalize upd H2 D (SetZ Z X.prog X.w D (fun _ => false) 0) = H3 at *
  show codeAny (model X.prog X.w) X.A (.compStart (.SetComp elt [⟨tg, iter, ifs, 0⟩] scope pos) 0 (.ref it) (.ref D) (compEnvC scope (cellsFrom ((s2.heap.push (freshSet X.w)).objs.size + 1) scope.names (cloFrom X.env.cells scope.names [])) (s2.heap.push (freshSet X.w)).objs.size X.env)) _ _
  generalize hs3 : ({ s2 with heap := s2.heap.push (freshSet X.w) } : Shared) = s3 at I3 I4
  have e3 : s2.heap.push (freshSet X.w) = s3.heap := by rw [← hs3]
  rw [e3] at tn4 ⊢
  generalize hce : compEnvC scope (cellsFrom (s3.heap.objs.size + 1) scope.names (cloFrom X.env.cells scope.names [])) s3.heap.objs.size X.env = ce
  have T1 := target s3 H3 s3.heap.objs.size (cellsFrom (s3.heap.objs.size + 1) scope.names (cloFrom X.env.cells scope.names [])) fp
  have T2 := tests s3 H3 s3.heap.objs.size (cellsFrom (s3.heap.objs.size + 1) scope.names (cloFrom X.env.cells scope.names [])) fp
  have T3 := elem s3 H3 s3.heap.objs.size (cellsFrom (s3.heap.objs.size + 1) scope.names (cloFrom X.env.cells scope.names [])) fp
  rw [hce] at T1 T2 T3 I4
  have own_ : ce.locals = s3.heap.objs.size := by rw [← hce]; rfl
  have aside : ∀ {σ' : L2.St} {H' : Hp} {s' : Shared}, Inv (X.blk s3 H3 scope ce fp) [] σ' H' s' → (∀ b ∈ fp, H' b = none) → ∀ b ∈ fp, FpOk (X.blk s3 H3 scope ce fp) [] H' b := fun J' n b hb =>
    ⟨n b hb, (J'.ok.exf b hb).1, J'.ok.exfs b hb, Or.inl hb, fun x c e => (J'.ok.exf b hb).2 x c e, fun p hp => absurd (show p ∈ ([] : List (Addr × Obj)) ++ [] from hp) List.not_mem_nil⟩
  have whole : codeAny (model X.prog X.w) X.A (.compLoop (.SetComp elt [⟨tg, iter, ifs, 0⟩] scope pos) 0 (.ref it) (.ref D) ce) (compPost (model X.prog X.w) X.A X.xe none (EP X pins σ Q) (.ref D) s3.heap.objs.size) { s2 with heap := pushCells (s3.heap.push { cls := .type "dict", data := .dict #[] }) scope.names } := by
    refine PpSet.compLoopS_any (fun m s' => ∃ i H', Inv (X.blk s3 H3 scope ce fp) [] (wipe σ (own.map (·.2))) H' s' ∧ tn i s'.heap ∧ (∀ b ∈ fp, H' b = none) ∧ W i m H') (fun m s' ⟨i, H', J', tn', none', w'⟩ => ?_) m0 ⟨0, H3, by subst hs3; exact I4, tn4, none3, w0⟩
    rcases turn i m H' w' with ⟨stop, q⟩ | ⟨go, Nx, next, step⟩
    · refine thnF (T.done (X.blk s3 H3 scope ce fp) rfl rfl rfl calm i [] s' _ H' (fun _ _ => False) J' (aside J' none') tn' stop) fun r s'' ⟨er, J''⟩ => ?_
      subst er
      have back : Inv X pins σ H' s'' := I3.call' (ch := fp) J''.os J''.base J''.hok J''.bare fun b hb => ⟨(apart3 b hb).1.2.2.2.1, (apart3 b hb).1.2.1, (apart3 b hb).1.2.2.2.2.1, (apart3 b hb).1.2.2.2.2.2⟩
      have none'' : H' s3.heap.objs.size = none := by
        rw [← own_]
        exact J''.free
      obtain ⟨names, at_, _⟩ := J''.loc
      have at' : s''.heap.Ns s3.heap.objs.size names := by
        rw [← own_]
        exact at_
      obtain ⟨f0, f1, f2, f3, f4, f5⟩ := I3.fpOk (b := s3.heap.objs.size) (Nat.le_refl _) none''
      exact ⟨names, at', fun h2 sb => ⟨.ref D, H', back.turned (t' := s''.toks) (fun b o hb e => (sb.2 b hb).trans e) f0 f1 f3 f4 f5, rfl, q⟩⟩
    · refine thnF (T.item (X.blk s3 H3 scope ce fp) rfl rfl rfl calm i [] s' _ H' (fun _ _ => False) J' (aside J' none') tn' go) fun r s'' ⟨u, er, item⟩ => ?_
      subst er
      refine thnF item fun _ s5 ⟨x, H5, J5, rx, yx, tn5, none5⟩ => ?_
      have J5p := J5.pinned (aside J5 none5) (T.obj _ _ tn5)
      refine thnF (T1.run _ s5 _ H5 x u _ J5p rx (step x H5 yx)) fun _ s6 ⟨σ6, H6, J6, wiped, q6⟩ => ?_
      refine thnF (T2.run _ s6 σ6 H6 _ J6 q6) fun b s7 ⟨H7, J7, q7⟩ => ?_
      have ends : ∀ {s8 : Shared} {H8 : Hp}, Inv (X.blk s3 H3 scope ce fp) ([] ++ pinsAt fp s5.heap) σ6 H8 s8 → Nx H8 → ∃ m', m' < m ∧ ∃ i H', Inv (X.blk s3 H3 scope ce fp) [] (wipe σ (own.map (·.2))) H' s8 ∧ tn i s8.heap ∧ (∀ b ∈ fp, H' b = none) ∧ W i m' H' := fun {s8 H8} J8 nx => by
        obtain ⟨m', less, w8⟩ := next H8 nx
        have stays : ∀ b ∈ fp, ∀ o, s5.heap.get? b = some o → s8.heap.get? b = some o ∧ H8 b = none := fun b hb o e => by
          obtain ⟨a1, a2, _⟩ := J8.pin (b, o) (List.mem_append_right _ (List.mem_append_right _ (mem_pinsAt hb e)))
          exact ⟨a1, a2⟩
        refine ⟨m', less, i + 1, H8, (J8.unpinned (pins := [])).weak (by rw [← wiped, wipe_length]) (fun j v e => (wipe_some (by rw [wiped]; exact e)).1), T.keep _ _ _ tn5 fun b hb o e => (stays b hb o e).1, fun b hb => ?_, w8⟩
        obtain ⟨o, e, _⟩ := T.obj _ _ tn5 b hb
        exact (stays b hb o e).2
      cases b with
      | false => exact ends J7 q7
      | true =>
        refine thnF (T3.run _ s7 σ6 H7 _ J7 q7) fun z s8 ⟨yv, H8, J8, ry, k, S, n, ey, hD, hn, nx⟩ => ?_
        subst ey
        exact setZ_grows Z (X := X.blk s3 H3 scope ce fp) J8 hD ry (by unfold scanBound; omega) fun s9 J9 => ends J9 nx
  have r := PpSet.codeAny_compStart_set whole (T.self X.A 0 _ _ _ tn4 whole)
  subst hs3
  exact r
/-- .. where the elements are told by a function, and nothing that stands is changed -/
theorem sz_fn {J : It} {n : Nat} {G : Hp → Prop} {Y : Nat → Hp → V → Hp → Prop} (wk : Walk J n G Y) {g : TG} {tt : TT} {te : TE} {vs : List Nat} {σ : L2.St} {H1 : Hp} {D : Addr} {Qd : Hp → Prop} (hn : n ≤ 1000) (hD : H1 D = none) (f : Nat → Option κ) (hG : ∀ H, Same H1 H → G H)
    (hs : ∀ i x H H', i < n → Same H1 H → Y i H x H' → ∀ (R : V → Hp → Prop) (R0 : Hp → Prop), (∀ k H4, f i = some k → Same H H4 → R (Z.val k) H4) → (∀ H3, f i = none → Same H H3 → R0 H3) →
      g x (wipe σ vs) H' fun σ2 H2 => wipe σ2 vs = wipe σ vs ∧ tt σ2 H2 fun b H3 => if b = true then te σ2 H3 R else R0 H3)
    (hd : ∀ (H : Hp) (S : κ → Bool) (c : Nat), Same H1 H → (∀ k, S k = true ↔ k ∈ (List.range n).filterMap f) → c ≤ n → H D = some (SetZ Z P w D S c) → Qd H) :
    ∃ W : Nat → Nat → Hp → Prop, (∃ m, W 0 m (upd H1 D (SetZ Z P w D (fun _ => false) 0))) ∧ ∀ i m H, W i m H →
      (J.stop i H ∧ Qd H) ∨ (J.go i H ∧ ∃ Nx : Hp → Prop, (∀ H', Nx H' → ∃ m', m' < m ∧ W (i + 1) m' H') ∧ ∀ x H', J.yld i H x H' → g x (wipe σ vs) H' fun σ2 H2 => wipe σ2 vs = wipe σ vs ∧ tt σ2 H2 fun b H3 =>
        if b = true then te σ2 H3 fun y H4 => ∃ (k : κ) (S : κ → Bool) (n : Nat), y = Z.val k ∧ H4 D = some (SetZ Z P w D S n) ∧ n ≤ 2000 ∧ Nx (upd H4 D (SetZ Z P w D (more S k) (moreN S k n))) else Nx H3) := by
  refine ⟨fun i m H => m = n - i ∧ i ≤ n ∧ Same H1 H ∧ ∃ (S : κ → Bool) (c : Nat), (∀ k, S k = true ↔ k ∈ (List.range i).filterMap f) ∧ c ≤ i ∧ H D = some (SetZ Z P w D S c), ⟨n, rfl, Nat.zero_le _, same_new hD, fun _ => false, 0, fun k => by simp, Nat.le_refl _, upd_same⟩, ?_⟩
  rintro i m H ⟨rfl, hi, s, S, c, hS, hc, eD⟩
  by_cases hlt : i < n
  · refine .inr ⟨wk.goes i H hlt (hG H s), fun H' => i + 1 ≤ n ∧ Same H1 H' ∧ ∃ (S : κ → Bool) (c : Nat), (∀ k, S k = true ↔ k ∈ (List.range (i + 1)).filterMap f) ∧ c ≤ i + 1 ∧ H' D = some (SetZ Z P w D S c), fun H' p' => ⟨n - (i + 1), by omega, rfl, p'⟩, fun x H' y => ?_⟩
    have rg : (List.range (i + 1)).filterMap f = (List.range i).filterMap f ++ (f i).toList := by
      rw [List.range_succ, List.filterMap_append]
      cases q : f i <;> simp [q]
    refine hs i x H H' hlt s (wk.yields i H x H' hlt (hG H s) y) _ _ (fun k H4 hk s4 => ?_) (fun H3 hk s3 => ?_)
    · refine ⟨k, S, c, rfl, s4 _ _ eD, by omega, hlt, same_mut (s.trans s4) hD, _, _, fun j => ?_, ?_, upd_same⟩
      · rw [rg, hk]
        show (S j || decide (j = k)) = true ↔ _
        rw [Bool.or_eq_true, decide_eq_true_eq, hS j, List.mem_append]
        exact or_congr Iff.rfl ⟨fun z => List.mem_singleton.mpr z, fun z => List.mem_singleton.mp z⟩
      · unfold moreN
        split <;> omega
    · exact ⟨hlt, s.trans s3, S, c, fun j => by rw [rg, hk, hS j]; simp, by omega, s3 _ _ eD⟩
  · obtain rfl : i = n := by omega
    exact .inl ⟨wk.stops H (hG H s), hd H S c s hS hc eD⟩
end
def zStr : ZK Str := ⟨fun P w => PySem.strKind P w, V.str, fun P w k v r => by
  obtain ⟨t, rfl⟩ := r
  exact ⟨isStr_mk k t, rfl⟩⟩
def zInt : ZK Int := ⟨fun P w => intKind P w, V.int, fun P w k v r => by
  obtain ⟨t, rfl⟩ := r
  exact ⟨beq_self_eq_true k, rfl⟩⟩
end My
namespace My
open PySem PySem.Spec PyProof.Rows L2
/-! ### d != e, == : dicts whose values are equal data -/
def EqKV (K : PySem.W.Frag) (H : Hp) (x y : V) : Prop := ∃ (a b : Addr) (ks ls : List (Key × V)), x = .ref a ∧ y = .ref b ∧ H a = some (.dK ks) ∧ H b = some (.dK ls) ∧ ks.length = ls.length ∧
  ∀ p ∈ ks, ∃ (u : V) (d : PyData), valV ls p.1 = some u ∧ Dp K H p.2 d ∧ Dp K H u d ∧ SeqAt.shaped d = true
def rNeKV (K : PySem.W.Frag) : R2 := fun x y H Q => EqKV K H x y ∧ Q (.bl false) H
section
variable {X : Cx} {pins : List (Addr × Obj)} {σ : L2.St} {H : Hp} {s : Shared}
theorem kv_hits (I : Inv X pins σ H s) {A : Around} (hu : A.units + 64 < cLine) {ls : List (Key × V)} {vb : List (Key × Value)} (rb : KV ls vb) : ∀ {ks : List (Key × V)} {va : List (Key × Value)}, KV ks va →
    (∀ p ∈ ks, ∃ (u : V) (d : PyData), valV ls p.1 = some u ∧ Dp X.K H p.2 d ∧ Dp X.K H u d ∧ SeqAt.shaped d = true) → PySem.W.KeqHits A s vb va true := by
  intro ks va ra
  unfold KV at ra
  induction ra with
  | nil => exact fun _ => .nil
  | @cons p q ps qs h t ih =>
    intro hp
    obtain ⟨kq, vq⟩ := q
    obtain ⟨kp, vp⟩ := p
    obtain ⟨h1, h2⟩ := h
    obtain rfl : kp = kq := h1
    obtain ⟨u, d, e, d1, d2, sh⟩ := hp (kp, vp) (.head _)
    obtain ⟨y, hy, ry⟩ := (show RelO (some u) (valueAt vb kp) by rw [← e]; exact rb.val kp).some_of
    obtain ⟨as, r1⟩ := Dp.reads I d vp vq d1 h2
    obtain ⟨bs, r2⟩ := Dp.reads I d u y d2 ry
    have pl := PySem.PyData.plain_of_canLay0 d (SeqAt.canLay_of_shaped sh)
    have dp := SeqAt.depth_of_shaped sh
    have q := SeqAt.eqAt_plain d d A s vq y as bs r1 r2 pl pl (by omega)
    rw [eqv_self sh] at q
    exact PySem.W.KeqHits.hit (e := true) (b := true) hy q (ih fun p' hm => hp p' (.tail _ hm))
theorem op_neKV (hu : X.A.units + 80 < cLine) : OpR X (compareOp .NotEq) (rNeKV X.K) := by
  intro pins s σ H x y v u Q I rx ry h
  obtain ⟨⟨a, b, ks, ls, rfl, rfl, ea, eb, hlen, hp⟩, q⟩ := h
  obtain rfl : v = Value.ref a := rx
  obtain rfl : u = Value.ref b := ry
  obtain ⟨_, ya, va, ra, da⟩ := (show ObjOk X.prog X.w H s.heap a (.dK ks) from I.hok a _ ea)
  obtain ⟨_, yb, vb, rb, db⟩ := (show ObjOk X.prog X.w H s.heap b (.dK ls) from I.hok b _ eb)
  refine PySem.W.keq_ne (knd := mixKind X.prog X.w) (r := true) ya yb da db (by omega) (fun _ => kv_hits I (A := X.A.in1) (by show X.A.units + 1 + 64 < cLine; omega) rb ra hp) ?_
  have e : va.length = vb.length := by rw [← ra.length, ← rb.length, hlen]
  have z : (!(va.length == vb.length && true)) = false := by rw [e]; simp
  rw [z]
  exact ⟨.bl false, H, I, rfl, q⟩
end
/-! ### dicts filled by new keys -/
theorem putK_new {κ : Type} [DecidableEq κ] {kvs : List (κ × V)} {k : κ} {v : V} (h : ∀ p ∈ kvs, p.1 ≠ k) : putK kvs k v = kvs ++ [(k, v)] := by
  unfold putK
  rw [if_neg]
  intro z
  obtain ⟨p, hp, e⟩ := List.any_eq_true.mp z
  exact h p hp (of_decide_eq_true e)
theorem mergeK_new : ∀ {more kvs : List (Key × V)}, (kvs ++ more).Pairwise (fun p q => p.1 ≠ q.1) → mergeK kvs more = kvs ++ more
  | [], kvs, _ => (List.append_nil kvs).symm
  | (k, v) :: r, kvs, h => by
    have h1 : ∀ p ∈ kvs, p.1 ≠ k := fun p hp => (List.pairwise_append.mp h).2.2 p hp (k, v) (.head _)
    have e : mergeK kvs ((k, v) :: r) = mergeK (putK kvs k v) r := rfl
    rw [e, putK_new h1, mergeK_new (by rw [List.append_assoc]; exact h), List.append_assoc]
    rfl
theorem valV_at {κ : Type} [DecidableEq κ] : ∀ {kvs : List (κ × V)} {k : κ} {v : V}, kvs.Pairwise (fun p q => p.1 ≠ q.1) → (k, v) ∈ kvs → valV kvs k = some v
  | (k0, v0) :: r, k, v, h, hm => by
    obtain ⟨h1, h2⟩ := List.pairwise_cons.mp h
    rcases List.mem_cons.mp hm with e | hm
    · cases e
      exact valV_pos rfl
    · rw [valV_neg fun e => h1 _ hm e]
      exact valV_at h2 hm
theorem _root_.L2.Room.units80 {k : Nat} {A : Around} (r : Room k A) : A.units + 80 < cLine := by have := r.un; omega
end My
namespace My
open PySem PySem.Spec PyProof.Rows L2
section
variable {X : Cx}
/-! ### sorted(tuple of texts) -/
def rSortedTS (K : PySem.W.Frag) : List V → Hp → VK → Prop := fun xs H Q => ∃ (a : Addr) (ws : List Str), xs = [.ref a] ∧ SqT K H a (ws.map V.str) ∧ ws.length < 64 ∧
  ∀ (ys : List Str) (p : Addr), ys.Perm ws → sortedS ys = true → H p = none → Q (.ref p) (upd H p (.lst (ys.map V.str)))
theorem cr_sortedTS : CallR X (.builtin "sorted") (rSortedTS X.K) := by
  intro pins s σ H xs us Q I r h
  obtain ⟨a, ws, rfl, hq, hl, q⟩ := h
  obtain rfl := Vals.ref1 r
  obtain ⟨its, rv, pt, hz⟩ := I.tuple hq
  obtain ⟨hlen, hget⟩ := vals_strs rv
  obtain ⟨o, ho, hcl, n, hd⟩ := id pt
  refine Calls.call_function_entry kind_sorted plain_sorted entry_sorted (args_sorted1 _) ?_
  refine wpAny_bind (wpAny_pure ?_)
  have big : its.length ≤ sizeLine := by rw [hlen]; exact Nat.le_of_lt (sizeLine_of (by omega))
  refine wpAny_bind (wpAny_collect_seq a (.inr rfl) ho hcl hd (fun h' keep => ?_) (by rw [List.size_toArray]; exact big))
  have I1 : L2.Inv X pins σ H { s with heap := h' } := I.kept (t' := s.toks) keep
  refine wpAny_bind (wpAny_newList ?_ big)
  have I2 := I1.lnew (t' := s.toks) rv (by rw [List.length_map, ← hlen]; exact big)
  have hn1 : H h'.objs.size = none := I1.hok.fresh (Nat.le_refl _)
  refine wpAny_bind (wpAny_holding ?_)
  refine thn (mt_sortS (X := inCx X) pins _ σ _ (.ref h'.objs.size) [] (.ref h'.objs.size) [] (fun v H' => ∃ ys : List Str, ys.Perm ws ∧ sortedS ys = true ∧ H' = upd H h'.objs.size (.lst (ys.map V.str))) (inv_in I2) rfl .nil ⟨_, ws, rfl, rfl, upd_same, by omega, fun ys h1 h2 => ⟨ys, h1, h2, upd_upd⟩⟩) fun v s3 ⟨x, H3, I3, _, ys, py, sy, e3⟩ => ?_
  subst e3
  exact wpAny_pure ⟨_, rfl, .ref h'.objs.size, _, inv_out I3, rfl, q ys _ py sy hn1⟩
theorem cr_sortedTSK {K : PySem.W.Frag} (hK : X.K = K) : CallR X (.builtin "sorted") (rSortedTS K) := by
  subst hK
  exact cr_sortedTS
/-! ### a new dict that is locked from here on -/
def tFrz (td : TE) : TE := fun σ H Q => td σ H fun x H1 => ∃ d u, x = .ref d ∧ H1 d = some u ∧ Mut (some u) ∧ ∀ od, Q x (upd H1 d (.frz od u))
theorem pe_frz {e : Expr} {td : TE} (h : PE X e td) : PE X e (tFrz td) := by
  refine ⟨fun pins s σ H Q I hw => ?_⟩
  refine thn (h.run pins s σ H _ I hw) fun v s1 ⟨x, H1, I1, r, d, u, ex, hd, mu, q⟩ => ?_
  obtain ⟨od, I2⟩ := I1.lock hd mu
  exact ⟨x, _, I2, r, q od⟩
/-! ### a statement, and what holds behind it -/
def tMid (t : TS) : TS := fun D σ H => ∃ Pv : L2.St → Hp → Prop, t { D with nx := Pv } σ H ∧ ∀ σ' H', Pv σ' H' → D.nx σ' H'
theorem ps_mid {X : Cx} {st : Stmt} {t : TS} (h : PS X st t) : PS X st (tMid t) := by
  refine ⟨fun pins s σ H D I hw => ?_⟩
  obtain ⟨Pv, h1, h2⟩ := hw
  refine thn (h.run pins s σ _ _ I h1) fun f s1 q => ?_
  cases f with
  | next => obtain ⟨σ', H', I2, q⟩ := q; exact ⟨σ', H', I2, h2 _ _ q⟩
  | brk => exact q
  | cont => exact q
  | ret v => exact q
/-! ### K told -/
theorem pi_listK {X : Cx} {K : PySem.W.Frag} {tg l : Expr} {tl : TE} (h : X.K = K) (hl : PE X l tl) : PI X tg l (iList K tl) := by
  subst h
  exact pi_list hl
theorem pi_tupK {X : Cx} {K : PySem.W.Frag} {tg l : Expr} {tl : TE} (h : X.K = K) (hl : PE X l tl) : PI X tg l (iTup K tl) := by
  subst h
  exact pi_tup hl
/-! ### loops -/
theorem for_items {d : Addr} {o : Obj} {kvs : List (Key × V)} {g : TG} {tb : TS} {D : Ends} {σ : L2.St} {H : Hp} (Pv : Nat → L2.St → Hp → Prop) (h0 : Pv 0 σ H) (hl : ∀ i σ H, i ≤ kvs.length → Pv i σ H → H d = some (.frz o (.dK kvs)))
    (hs : ∀ i k v T σ H, kvs[i]? = some (k, v) → Pv i σ H → H T = none → g (.ref T) σ (upd H T (.tup [kV k, v])) fun σ2 H2 => tb { D with nx := Pv (i + 1), ct := Pv (i + 1), bk := D.nx } σ2 H2) (hd : ∀ σ H, Pv kvs.length σ H → D.nx σ H) :
    ∃ W : Nat → Nat → L2.St → Hp → Prop, (∃ m, W 0 m σ H) ∧ ∀ i m σ H, W i m σ H →
      ((Iti d o kvs).stop i H ∧ D.nx σ H) ∨ ((Iti d o kvs).go i H ∧ ∃ N : L2.St → Hp → Prop, (∀ σ' H', N σ' H' → ∃ m', m' < m ∧ W (i + 1) m' σ' H') ∧ ∀ x H', (Iti d o kvs).yld i H x H' → g x σ H' fun σ2 H2 => tb { D with nx := N, ct := N, bk := D.nx } σ2 H2) := by
  refine ⟨fun i m σ H => m = kvs.length - i ∧ i ≤ kvs.length ∧ Pv i σ H, ⟨kvs.length, by simp, Nat.zero_le _, h0⟩, ?_⟩
  rintro i m σ H ⟨rfl, hi, p⟩
  have q := hl i σ H hi p
  by_cases hlt : i < kvs.length
  · refine .inr ⟨⟨q, hlt⟩, Pv (i + 1), fun σ' H' n => ⟨kvs.length - (i + 1), by omega, rfl, hlt, n⟩, ?_⟩
    rintro x H' ⟨T, k, v, h1, rfl, h3, rfl⟩
    exact hs i k v T σ H h1 p h3
  · have e : i = kvs.length := by omega
    subst e
    exact .inl ⟨⟨q, Nat.le_refl _⟩, hd σ H p⟩
theorem for_enum {K : PySem.W.Frag} {a : Addr} {xs : List V} {g : TG} {tb : TS} {D : Ends} {σ : L2.St} {H : Hp} (Pv : Nat → L2.St → Hp → Prop) (h0 : Pv 0 σ H) (hl : ∀ i σ H, i ≤ xs.length → Pv i σ H → SqL K H a xs)
    (hs : ∀ i x T σ H, xs[i]? = some x → Pv i σ H → H T = none → g (.ref T) σ (upd H T (.tup [.int (i : Nat), x])) fun σ2 H2 => tb { D with nx := Pv (i + 1), ct := Pv (i + 1), bk := D.nx } σ2 H2) (hd : ∀ σ H, Pv xs.length σ H → D.nx σ H) :
    ∃ W : Nat → Nat → L2.St → Hp → Prop, (∃ m, W 0 m σ H) ∧ ∀ i m σ H, W i m σ H →
      ((Ite K a).stop i H ∧ D.nx σ H) ∨ ((Ite K a).go i H ∧ ∃ N : L2.St → Hp → Prop, (∀ σ' H', N σ' H' → ∃ m', m' < m ∧ W (i + 1) m' σ' H') ∧ ∀ x H', (Ite K a).yld i H x H' → g x σ H' fun σ2 H2 => tb { D with nx := N, ct := N, bk := D.nx } σ2 H2) := by
  refine ⟨fun i m σ H => m = xs.length - i ∧ i ≤ xs.length ∧ Pv i σ H, ⟨xs.length, by simp, Nat.zero_le _, h0⟩, ?_⟩
  rintro i m σ H ⟨rfl, hi, p⟩
  have q := hl i σ H hi p
  by_cases hlt : i < xs.length
  · obtain ⟨x, hx⟩ : ∃ x, xs[i]? = some x := ⟨xs[i], List.getElem?_eq_getElem hlt⟩
    refine .inr ⟨⟨xs, x, q, hx⟩, Pv (i + 1), fun σ' H' n => ⟨xs.length - (i + 1), by omega, rfl, hlt, n⟩, ?_⟩
    rintro y H' ⟨T, z, rfl, h3, rfl, h4⟩
    exact hs i z T σ H (h4 xs q) p h3
  · have e : i = xs.length := by omega
    subst e
    exact .inl ⟨⟨xs, q, Nat.le_refl _⟩, hd σ H p⟩
end
end My
namespace My
open PySem PySem.Spec PyProof.Rows L2
section
variable {X : Cx}
/-! ### sorted of a set of ints that a comprehension has made -/
def rSortedZI (P : Program) (w : World) : List V → Hp → VK → Prop := fun xs H Q => ∃ (a : Addr) (S : Int → Bool) (n : Nat), xs = [.ref a] ∧ H a = some (SetZ zInt P w a S n) ∧ n < 64 ∧
  ∀ (ys : List Int) (p : Addr), ys.Pairwise (· < ·) → (∀ k, k ∈ ys ↔ S k = true) → H p = none → Q (.ref p) (upd H p (.lst (ys.map V.int)))
theorem cr_sortedZI {P : Program} {w : World} (hP : X.prog = P) (hw : X.w = w) (hc : X.calm = true) : CallR X (.builtin "sorted") (rSortedZI P w) := by
  subst hP hw
  intro pins s σ H xs us Q I r h
  obtain ⟨a, S, n, rfl, ha, h64, q⟩ := h
  obtain rfl := Vals.ref1 r
  have G : SetG (intKind X.prog X.w) s.heap a S n := (I.hok a _ ha).1
  refine sorted_set (setR_of G) (I.ok.hd hc) h64 fun s' p out c ys keep hg hos hp hat hi hs hm hl => ?_
  have big : (ys.map V.int).length ≤ sizeLine := by rw [List.length_map, hl]; exact Nat.le_of_lt (sizeLine_of (by omega))
  have hn : H p = none := I.hok.fresh hp
  have I1 : L2.Inv X pins σ (upd H p (.lst (ys.map V.int))) s' := by
    have J := I.laid (a := p) (o := .lst (ys.map V.int)) (h' := s'.heap) (t' := s'.toks) keep hp ⟨big, out.toList, c, vals_of_ints hi, hat⟩
    obtain ⟨hp', gn', dr', tk', os'⟩ := s'
    obtain rfl : gn' = s.gens := hg
    obtain rfl : os' = s.os := hos
    exact ⟨J.ok, J.os, J.bare, J.base, J.loc, J.cell, J.free, J.freeC, J.pin, J.hok, J.len⟩
  exact ⟨.ref p, _, I1, rfl, q ys p hs hm hn⟩
end
end My
namespace My
open PySem L2
section
variable {H1 : Hp}
/-- .. where what is told of the elements lies in lists: all stands but the list that is made -/
theorem lc_relB {J : It} {n : Nat} {G : Hp → Prop} {Y : Nat → Hp → V → Hp → Prop} (w : Walk J n G Y) {g : TG} {tt : TT} {te : TE} {vs : List Nat} {σ : St} {D : Addr} {Qd : Hp → Prop} (hn : n ≤ 1000000) (hD : H1 D = none)
    (Rl : Nat → Option V → Hp → Prop) (mono : ∀ i z H H', But D H H' → Rl i z H → Rl i z H') (hG : ∀ H, Same H1 H → G H)
    (hs : ∀ i x H H', i < n → Same H1 H → (∃ acc, H D = some (.lst acc)) → Y i H x H' → ∀ (R : V → Hp → Prop) (R0 : Hp → Prop), (∀ y H4, Rl i (some y) H4 → Same H H4 → R y H4) → (∀ H3, Rl i none H3 → Same H H3 → R0 H3) →
      g x (wipe σ vs) H' fun σ2 H2 => wipe σ2 vs = wipe σ vs ∧ tt σ2 H2 fun b H3 => if b = true then te σ2 H3 R else R0 H3)
    (hd : ∀ H (zs : List (Option V)), Same H1 H → zs.length = n → (∀ i z, zs[i]? = some z → Rl i z H) → H D = some (.lst (zs.filterMap id)) → Qd H) :
    ∃ W : Nat → Nat → Hp → Prop, (∃ m, W 0 m (upd H1 D (.lst []))) ∧ ∀ i m H, W i m H →
      (J.stop i H ∧ Qd H) ∨ (J.go i H ∧ ∃ Nx : Hp → Prop, (∀ H', Nx H' → ∃ m', m' < m ∧ W (i + 1) m' H') ∧ ∀ x H', J.yld i H x H' → g x (wipe σ vs) H' fun σ2 H2 => wipe σ2 vs = wipe σ vs ∧ tt σ2 H2 fun b H3 =>
        if b = true then te σ2 H3 fun y H4 => ∃ acc, H4 D = some (.lst acc) ∧ acc.length < sizeLine ∧ Nx (upd H4 D (.lst (acc ++ [y]))) else Nx H3) := by
  have fl : ∀ zs : List (Option V), (zs.filterMap id).length ≤ zs.length := fun zs => List.length_filterMap_le _ _
  have get_app : ∀ (zs : List (Option V)) (z : Option V) (j : Nat) (y : Option V), (zs ++ [z])[j]? = some y → zs[j]? = some y ∨ (j = zs.length ∧ y = z) := fun zs z j y h => by
    by_cases hj : j < zs.length
    · rw [List.getElem?_append_left hj] at h
      exact .inl h
    · rw [List.getElem?_append_right (by omega)] at h
      have hj2 : j - zs.length = 0 := by
        cases e : j - zs.length with
        | zero => rfl
        | succ k => rw [e] at h; simp at h
      rw [hj2] at h
      exact .inr ⟨by omega, (Option.some.inj h).symm⟩
  refine lc_it w (fun i H => ∃ zs : List (Option V), zs.length = i ∧ Same H1 H ∧ (∀ j z, zs[j]? = some z → Rl j z H) ∧ H D = some (.lst (zs.filterMap id)))
    ⟨[], rfl, same_new hD, fun j z h => by simp at h, upd_same⟩ (fun i H _ ⟨_, _, s, _⟩ => hG H s) ?_ (fun H ⟨zs, l, s, r, e⟩ => hd H zs s l r e)
  rintro i x H H' hi ⟨zs, l, s, r, e⟩ hy
  refine hs i x H H' hi s ⟨_, e⟩ hy _ _ (fun y H4 hr s4 => ?_) (fun H3 hr s3 => ?_)
  · refine ⟨zs.filterMap id, s4 _ _ e, sizeLine_of (by have := fl zs; omega), zs ++ [some y], by rw [List.length_append, l]; rfl, same_mut (s.trans s4) hD, fun j z h => ?_, ?_⟩
    · have im : But D H (upd H4 D (.lst (zs.filterMap id ++ [y]))) := fun c o h n => by rw [upd_ne n]; exact s4 _ _ h
      have im4 : But D H4 (upd H4 D (.lst (zs.filterMap id ++ [y]))) := fun c o h n => by rw [upd_ne n]; exact h
      rcases get_app zs _ j z h with h | ⟨rfl, rfl⟩
      · exact mono j z _ _ im (r j z h)
      · rw [l]
        exact mono i _ _ _ im4 hr
    · rw [upd_same, List.filterMap_append]
      rfl
  · refine ⟨zs ++ [none], by rw [List.length_append, l]; rfl, s.trans s3, fun j z h => ?_, ?_⟩
    · rcases get_app zs _ j z h with h | ⟨rfl, rfl⟩
      · exact mono j z _ _ (fun c o h _ => s3 _ _ h) (r j z h)
      · rw [l]
        exact hr
    · rw [s3 _ _ e, List.filterMap_append]
      simp
end
end My
/-! a property of an own class, read below the rules: nothing that stood is changed; sorted by such a property -/
namespace My
open PySem L2 LamX PyProof.Rows
theorem objM_keeps {h h' : Heap} {x dx C : Addr} {m : Str → Option Value} (O : ObjM h x dx C m) (k : ∀ b o, h.get? b = some o → h'.get? b = some o) : ObjM h' x dx C m := ⟨k _ _ O.obj, O.ns.at fun o q => k _ _ q, O.ne⟩
theorem keeps_trans {s s' s'' : Shared} (a : Keeps s s') (b : Keeps s' s'') : Keeps s s'' := by
  obtain ⟨h, t, rfl, k⟩ := a
  obtain ⟨h2, t2, rfl, k2⟩ := b
  exact ⟨h2, t2, rfl, fun b o e => k2 b o (k b o e)⟩
section
variable {P : Program} {w : World} {K : PySem.W.Frag} {C p g a dx : Addr} {f fld x qual : Str} {st : Stmt} {fd : FuncData} {mA : Str → Option Value} {u : Value} {p1 p2 p3 : Pos} {A : Around}
theorem prop_low {b : Bool} {s : Shared} {E : Value → Shared → Prop} {Q : Value → Shared → Prop} (KX : K.In s.heap) (lim : s.heap.NoLimit) (O : ObjM s.heap a dx C mA) (hu : mA fld = some u) (hh : PySem.W.handedIn u = true)
    (c : Cls K C) (hp : PropOf K C f p g) (F : Fun K x qual st g fd) (hk : (defScope st).kind = .function) (hco : (defScope st).isCoroutine = false) (hge : (defScope st).isGenerator = false)
    (hb : Binds K fd ["self"] []) (n : NoAttr K C fld) (hbody : defBody st = [.Return (some (.Attribute (.Name "self" p1) fld p2)) p3]) (hself : (defScope st).names.lookup ("self" : Str) = some NameKind.local) (nocell : ∀ y ∈ (defScope st).names, y.2 ≠ .cell)
    (hd : A.depth + 3 < recursionLimit) (h : ∀ s', Keeps s s' → Q u s') : wpAny (model P w) A (getAttr (.ref a) f b) Q E s := by
  obtain ⟨od, J, _⟩ := O.look
  obtain ⟨rest, hrec⟩ := hp.rec_
  have hc : (PySem.W.clsIn K C).isSome = true := by
    obtain ⟨cd, hc, _⟩ := PySem.W.any_some c.hd
    rw [hc]
    rfl
  refine PySem.W.get_bind KX J (PySem.W.plainGet_of (c.get f)).1 (PySem.W.findObj_data hc hp.at_ hp.get hp.tak) (PySem.W.plainGet_of (c.get f)).2 (wpAny_call (PySem.W.prop_get (s := { s with toks := s.toks + 1 }) KX hrec ?_))
  obtain ⟨oc, od2, kV, doc, pm, an, cdv, ct, osl, rfl, lk, hcd⟩ := F.ex
  refine codeAny_call_function (by show A.depth < _; omega) (KX _ _ lk) rfl hco hge rfl (PySem.W.codeRec_of KX hcd) ?_
  refine hb { s with toks := s.toks + 1 } [.ref a] KX rfl _ _ _ _ ?_
  refine wpAny_newFunctionEnv nocell (fun y hy => ?_) (fun h₁ hns hsb => ⟨?_, codeAny_func ?_⟩) hk
  · obtain rfl := List.mem_singleton.mp hy
    exact hself
  · exact lim.keeps fun b o e => hsb.extBut b o (Nat.ne_of_lt (Heap.lt_size e)) (Heap.get?_push_of_some _ e)
  · have kp1 : ∀ b o, s.heap.get? b = some o → h₁.get? b = some o := fun b o e => hsb.extBut b o (Nat.ne_of_lt (Heap.lt_size e)) (Heap.get?_push_of_some _ e)
    show wpAny _ _ (execs (defBody st) _) _ _ _
    rw [hbody]
    refine wpAny_execs_cons (wpAny_Return_some (attr_of rfl (wpAny_Name (wpAny_loadName_local hk hself hns (by rfl) ?_) (by decide))))
    refine get_map (K := K) (KX.keeps kp1) (objM_keeps O kp1) (c.get fld) c.hd n hu hh ?_
    show wpAny _ _ (handedOut u) _ _ _
    rw [PySem.W.handedOut_of hh]
    exact wpAny_pure (h _ ⟨_, _, rfl, kp1⟩)
end
/-- what a key's expression makes of the item v: the text k; nothing that stood is changed; the text is there, and room for a call -/
def KeyEP (K : PySem.W.Frag) (prog : Program) (w : World) (scope : Scope) (x : Str) (body : Expr) (R : Heap → Value → Str → Prop) : Prop :=
  ∀ (cenv : Env) (A' : Around) (E' : Value → Shared → Prop) (v : Value) (k : Str) (s₂ : Shared) (m₂ : Str → Option Value), cenv.scope = scope → s₂.heap.Ns cenv.locals m₂ → m₂ x = some v → R s₂.heap v k → K.In s₂.heap → s₂.heap.NoLimit → A'.depth + 3 < recursionLimit →
    wpAny (model prog w) A' (eval body cenv) (fun y s₃ => (∃ t, y = .str k t) ∧ Keeps s₂ s₃) E' s₂
def InsK (C : Addr) (fld : Str) (h : Heap) (v : Value) (k : Str) : Prop := ∃ (a dx : Addr) (mA : Str → Option Value) (t : Tok), v = .ref a ∧ ObjM h a dx C mA ∧ mA fld = some (.str k t)
theorem insK_keep {C : Addr} {fld : Str} {h h' : Heap} {v : Value} {k : Str} (e : ∀ b o, h.get? b = some o → h'.get? b = some o) (r : InsK C fld h v k) : InsK C fld h' v k := by
  obtain ⟨a, dx, m, t, rfl, O, hm⟩ := r
  exact ⟨a, dx, m, t, rfl, objM_keeps O e, hm⟩
/-- x.f, a property: return self.fld -/
theorem key_prop {P : Program} {w : World} {K : PySem.W.Frag} {C p g : Addr} {f fld x y qual : Str} {st : Stmt} {fd : FuncData} {p1 p2 p3 q1 q2 : Pos} {scope : Scope} (hk : scope.kind = .function) (hl : scope.names.lookup x = some .local) (hdb : (x == ("__debug__" : Str)) = false)
    (c : Cls K C) (hp : PropOf K C f p g) (F : Fun K y qual st g fd) (hk2 : (defScope st).kind = .function) (hco : (defScope st).isCoroutine = false) (hge : (defScope st).isGenerator = false)
    (hb : Binds K fd ["self"] []) (n : NoAttr K C fld) (hbody : defBody st = [.Return (some (.Attribute (.Name "self" p1) fld p2)) p3]) (hself : (defScope st).names.lookup ("self" : Str) = some NameKind.local) (nocell : ∀ y ∈ (defScope st).names, y.2 ≠ .cell) :
    KeyEP K P w scope x (.Attribute (.Name x q1) f q2) (InsK C fld) := by
  intro cenv A' E' v k s₂ m₂ hs hn hm r KX lim hd
  obtain ⟨a, dx, m, t, rfl, O, hu⟩ := r
  refine attr_of rfl (wpAny_Name (wpAny_loadName_local (by rw [hs]; exact hk) (show cenv.scope.names.lookup x = some .local by rw [hs]; exact hl) hn hm ?_) hdb)
  exact prop_low KX lim O hu rfl c hp F hk2 hco hge hb n hbody hself nocell hd fun s' kp => ⟨⟨t, rfl⟩, kp⟩
section
variable {X : Cx}
theorem pe_sortLamP {T : List (Addr × Str)} {te : TE} {c P : Addr} {k : Nat} {e : Expr} {params : Arguments} {body : Expr} {scope : Scope} {x : Str} {p lpos kpos pos : Pos} {R : Heap → Value → Str → Prop} {RK : Hp → V → Str → Prop}
    (hkey : KeyEP X.K X.prog X.w scope x body R) (hR : ∀ pins s σ H b u v, Inv X pins σ H s → RK H b u → RelV b v → R s.heap v u) (hRk : ∀ (h h' : Heap) v u, (∀ b o, h.get? b = some o → h'.get? b = some o) → R h v u → R h' v u) (hRe : ∀ H H' b u, ExtN H H' → RK H b u → RK H' b u)
    (hg : Gl X "sorted") (hm : X.mg "sorted" = none) (ha : PE X e te) (TB : TabB X.base X.mg c P) (hcode : X.env.code = .ref c) (hmT : (P, X.env.qual ++ "<lambda>") ∈ T) (hu : ∀ p ∈ T, p.1 = P → p.2 = X.env.qual ++ "<lambda>") (hr : Room k X.A)
    (hdef : defaultsOf params X.env = ([], [])) (hkind : scope.kind = .function) (hco : scope.isCoroutine = false) (hgen : scope.isGenerator = false) (hnames : ∀ y ∈ scope.names, y.2 ≠ .free ∧ y.2 ≠ .cell) (hx : scope.names.lookup x = some .local)
    (hbind : ∀ (q : Str) (cl : List (Str × Addr)) (pm cv ctv v : Value), bindArgs (PySem.W.kla_fn "<lambda>" q params body scope cl pm cv ctv) ⟨[v], []⟩ = pure [(x, v)])
    (hst : starEach [e] X.env = (false, eval e X.env) :: starEach [] X.env := by rfl) (he : backTo pos (starEach [e] X.env) = (false, eval e X.env) :: backTo pos (starEach [] X.env) := by rfl) (hpl : (backTo pos (starEach [e] X.env)).any (·.1) = false := by rfl) :
    PE X (.Call (.Name "sorted" p) [e] [⟨some "key", .Lambda params body scope lpos, kpos⟩] pos) (tSortLam X.K T RK te) := by
  refine ⟨fun pins s σ H Q I h => ?_⟩
  refine wpAny_Call_Name_kw (ld_blt (u := .builtin "sorted") I hg hm (by decide +kernel) ?_ (by decide) (by decide))
  refine PyProof.Rows.callWith_kw (thn ((pa_cons ha pa_nil hst).run pos pins s σ H (fun vs H1 => match vs with | [v] => Tabs T H1 ∧ ∃ (a : Addr) (bs : List (V × Str)), v = .ref a ∧ SqL X.K H1 a (bs.map (·.1)) ∧ (∀ b ∈ bs, RK H1 b.1 b.2) ∧ ∀ (p : Addr) (H2 : Hp), ExtN H1 H2 → Tabs T H2 → H2 p = none → Q (.ref p) (upd H2 p (.lst ((sortBy bs).map (·.1)))) | _ => False) I h) fun us s1 ⟨vs, H1, I1, r1, q1⟩ => ?_) he hpl rfl rfl
  obtain ⟨v, rfl⟩ : ∃ v, vs = [v] := by
    match vs, q1 with
    | [v], _ => exact ⟨v, rfl⟩
  obtain ⟨hT, a, bs, rfl, hL, hK, q⟩ := q1
  obtain rfl := Vals.ref1 r1
  show wpAny _ _ (evalAll [do let v ← eval (.Lambda params body scope lpos) X.env; standAt pos; pure v]) _ _ s1
  refine wpAny_evalAll_cons (wpAny_bind (lam_make2 I1 TB hcode hmT hu hT hdef (fun y hy z => absurd z (hnames y hy).1) fun f c' pm ctv H2 s2 I2 eN T2 hf hfn hfr hco' => wpAny_bind (wpAny_standAt (wpAny_pure (wpAny_evalAll_nil ?_)))))
  show wpAny (model X.prog X.w) X.A (call (.builtin "sorted") [.ref a] [("key", .ref f)]) _ _ s2
  have hL2 := extN_sql eN hL
  obtain ⟨its, rv, hl, hz⟩ := I2.list hL2
  obtain ⟨⟨oc, cvs, ct, hoc, hdc, hvc⟩, _, _⟩ := I2.hok c' _ hco'
  have hbs : ∀ (l : List (V × Str)) (us : List Value), Vals (l.map (·.1)) us → (∀ b ∈ l, b ∈ bs) → PySem.W.EachIs (fun (v : Value) (b : V × Str) => RelV b.1 v ∧ R s2.heap v b.2) us l := by
    intro l
    induction l with
    | nil =>
      intro us r _
      cases r
      exact .nil
    | cons b l ih =>
      intro us r m
      cases r with
      | cons r1 r2 => exact .cons ⟨r1, hR pins s2 σ H2 b.1 b.2 _ I2 (hRe _ _ _ _ eN (hK b (m b (.head _)))) r1⟩ (ih _ r2 fun b' h' => m b' (.tail _ h'))
  have e := hbs bs its rv fun _ h => h
  refine PySem.W.sorted_key_data (R := fun (v : Value) (b : V × Str) => RelV b.1 v ∧ R s2.heap v b.2) (b := false) keyD hl.isList e ?_ ?_ ?_ ?_ (PyProof.Rows.ksk_s1 _ _) (fun _ => PyProof.Rows.ksk_l1 _ _) (fun x => PyProof.Rows.ksk_t1 f x) (fun v b hb hm' g tk kp => ?_) fun out cc h' tk kp hn hD hlen hout => ?_
  · intro d hd d' hd'
    obtain ⟨b, _, rfl⟩ := List.mem_map.mp hd
    obtain ⟨b', _, rfl⟩ := List.mem_map.mp hd'
    rfl
  · refine .inr fun d hd => ?_
    obtain ⟨b, _, rfl⟩ := List.mem_map.mp hd
    exact ⟨nofun, fun _ => nofun⟩
  · rw [List.length_map] at hz
    exact hz
  · intro b _
    have := hr.units
    show X.A.units + 2 + (PyData.str b.2).depth < _
    have z : (PyData.str b.2).depth ≤ 1 := by show _ ≤ 1; simp [PyData.depth]
    omega
  · have of1 := kp _ _ hf
    refine wpAny_call ?_
    refine PySem.W.kla_callFunE (by have := hr.dp; show X.A.depth < _; omega) of1 rfl hco hgen rfl ⟨c', oc, cvs, ct, rfl, kp _ _ hoc, hdc, hvc⟩ ?_
    rw [hbind]
    refine wpAny_pure (wpAny_newFunctionEnv (fun y hy => (hnames y hy).2) (fun y hy => ?_) (fun h₁ hns hsb => ⟨(I2.nolimit.keeps kp).fresh _ hsb, ?_⟩) hkind)
    · obtain rfl := List.mem_singleton.mp hy
      exact hx
    · have kp1 : ∀ b o, g.get? b = some o → h₁.get? b = some o := fun b o e => hsb.extBut b o (Nat.ne_of_lt (Heap.lt_size e)) (Heap.get?_push_of_some _ e)
      refine PySem.W.kla_codeExpr (wpAny_mono (hkey _ _ (fun _ _ => False) v b.2 _ _ rfl hns (by simp) (hRk _ _ _ _ kp1 (hRk _ _ _ _ kp hb.2)) ((I2.kIn.keeps kp).keeps kp1) ((I2.nolimit.keeps kp).fresh _ hsb) (by have := hr.dp; show X.A.depth + 1 + 3 < _; omega)) (fun y s3 hq => ?_) fun _ _ z => z.elim)
      obtain ⟨⟨t, rfl⟩, h3, tk3, rfl, kp3⟩ := hq
      exact ⟨h3, tk3, rfl, fun b o e => kp3 b o (kp1 b o e), .str _ _⟩
  · have hv : ∀ (l : List (V × Str)) (us : List Value), PySem.W.EachIs (fun (v : Value) (b : V × Str) => RelV b.1 v ∧ R s2.heap v b.2) us l → Vals (l.map (·.1)) us := by
      intro l us e
      induction e with
      | nil => exact .nil
      | cons r _ ih => exact .cons r.1 ih
    refine ⟨.ref _, upd H2 (s2.heap.objs.size + 1) (.lst ((sortBy bs).map (·.1))), I2.laid (t' := tk) kp (Nat.le_succ _) ⟨?_, out, cc, hv _ _ hout, hD⟩, rfl, q _ H2 eN T2 (I2.hok.fresh (Nat.le_succ _))⟩
    rw [List.length_map, (sortBy_perm bs).length_eq]
    rw [List.length_map] at hz
    exact hz
end
/-- an own instance with this text -/
def RKi (C : Addr) (fld : Str) (H : Hp) (x : V) (k : Str) : Prop := ∃ (a dx : Addr) (fs : List (Str × V)), x = .ref a ∧ H a = some (.ins C dx fs) ∧ fs.lookup fld = some (.str k)
section
variable {X : Cx}
/-- sorted(xs, key=lambda x: x.f), f a property that returns a text of the instance -/
theorem pe_sortProp {te : TE} {c P C p g : Addr} {k : Nat} {e : Expr} {params : Arguments} {scope : Scope} {x f fld y qual : Str} {st : Stmt} {fd : FuncData} {pp q1 q2 lpos kpos pos p1 p2 p3 : Pos}
    (hg : Gl X "sorted") (hm : X.mg "sorted" = none) (ha : PE X e te) (TB : TabB X.base X.mg c P) (hcode : X.env.code = .ref c) (hr : Room k X.A)
    (cl : Cls X.K C) (hp : PropOf X.K C f p g) (F : Fun X.K y qual st g fd) (hb : Binds X.K fd ["self"] []) (n : NoAttr X.K C fld) (hbody : defBody st = [.Return (some (.Attribute (.Name "self" p1) fld p2)) p3] := by rfl)
    (hk2 : (defScope st).kind = .function := by rfl) (hco2 : (defScope st).isCoroutine = false := by rfl) (hge2 : (defScope st).isGenerator = false := by rfl) (hself : (defScope st).names.lookup ("self" : Str) = some NameKind.local := by rfl) (nocell : ∀ y ∈ (defScope st).names, y.2 ≠ .cell := by decide +kernel)
    (hdef : defaultsOf params X.env = ([], []) := by rfl) (hkind : scope.kind = .function := by rfl) (hco : scope.isCoroutine = false := by rfl) (hgen : scope.isGenerator = false := by rfl) (hnames : ∀ y ∈ scope.names, y.2 ≠ .free ∧ y.2 ≠ .cell := by decide +kernel) (hx : scope.names.lookup x = some .local := by rfl)
    (hbind : ∀ (q : Str) (cl : List (Str × Addr)) (pm cv ctv v : Value), bindArgs (PySem.W.kla_fn "<lambda>" q params (.Attribute (.Name x q1) f q2) scope cl pm cv ctv) ⟨[v], []⟩ = pure [(x, v)] := by intros; rfl)
    (hd : (x == ("__debug__" : Str)) = false := by decide) (hst : starEach [e] X.env = (false, eval e X.env) :: starEach [] X.env := by rfl) (he : backTo pos (starEach [e] X.env) = (false, eval e X.env) :: backTo pos (starEach [] X.env) := by rfl) (hpl : (backTo pos (starEach [e] X.env)).any (·.1) = false := by rfl) :
    PE X (.Call (.Name "sorted" pp) [e] [⟨some "key", .Lambda params (.Attribute (.Name x q1) f q2) scope lpos, kpos⟩] pos) (tSortLam X.K [(P, X.env.qual ++ "<lambda>")] (RKi C fld) te) := by
  refine pe_sortLamP (x := x) (R := InsK C fld) (RK := RKi C fld) (key_prop hkind hx hd cl hp F hk2 hco2 hge2 hb n hbody hself nocell) (fun pins s σ H b u v I r rv => ?_) (fun h h' v u e r => insK_keep e r) (fun H H' b u e r => ?_) hg hm ha TB hcode (.head _) (fun q hq _ => by rw [List.mem_singleton.mp hq]) hr hdef hkind hco hgen hnames hx hbind hst he hpl
  · obtain ⟨a, dx, fs, rfl, ea, l⟩ := r
    obtain rfl : v = .ref a := rv
    obtain ⟨mA, O, r, _, _, _⟩ := ins_get I.hok ea
    obtain ⟨t, ht, rt⟩ := RelO.some_of (v := .str u) (o := mA fld) (by rw [← l]; exact r fld)
    obtain ⟨tk, rfl⟩ := rt
    exact ⟨a, dx, mA, tk, rfl, O, ht⟩
  · obtain ⟨a, dx, fs, rfl, ea, l⟩ := r
    exact ⟨a, dx, fs, rfl, e _ _ ea (fun _ z => nomatch z), l⟩
end
end My
namespace My
open PySem L2
theorem fstr_empty (a : Str) : Str.empty ++ a = a := PySem.Str.empty_append a
end My
/-! errors: X() of an own class over ValueError; a def that calls what it got and tells which error came; sorted by a property among several tables -/
namespace My
open PySem L2 LamX PyProof.Rows
theorem ps_nox {X : Cx} {st : Stmt} {t : TS} (h : PS X.nox st t) : PS X st t := ⟨fun pins s σ H D I hw =>
  wpAny_mono (h.run pins s σ H D (I.wish _) hw) (fun _ _ q => q.unwish) fun _ _ z => False.elim z⟩
/-- what is known of an own error class without a body -/
structure ErrC (K : PySem.W.Frag) (C : Addr) : Prop where
  exc : PySem.W.excIn K C [.type "ValueError", .type "Exception", .type "BaseException", .type "object"] "ValueError.__new__" = true
  kp : PySem.W.keepIn K (.ref C) = true
  sub : PySem.W.subIn K (.ref C) (.type "BaseException") = some true
  ty : PySem.W.typeIn K (.ref C) = some (.type "type")
theorem exm_by {K : PySem.W.Frag} {a b : Addr} {r : Bool} (h1 : PySem.W.subIn K (.ref b) (.type "BaseException") = some true) (h2 : PySem.W.isClsIn K b = true) (h3 : PySem.W.typeIn K (.ref b) = some (.type "type")) (h4 : PySem.W.subIn K (.ref a) (.ref b) = some r) : PySem.W.exmOne K (.ref a) (.ref b) = some r := by
  unfold PySem.W.isClsIn at h2
  unfold PySem.W.exmOne PySem.W.kitCls
  rw [h1]
  simp [h2, h3, h4]
section
variable {X : Cx} {C : Addr}
/-- X() -/
theorem pmk_own0 {x : Str} {p pos : Pos} (c : ErrC X.K C) (gC : X.mg x = some (.ref C)) (hg : Gl X x) (hdb : (x == ("__debug__" : Str)) = false := by decide) : PMk X (.Call (.Name x p) [] [] pos) (fun _ H Q => Q (.ref C) none H) := by
  intro pins s σ H Q I h
  refine wpAny_Call_Name_kw (ld_glob I hg gC ?_ hdb)
  refine PySem.W.callWith_K0 I.kIn c.kp ?_
  show wpAny _ _ (call (.ref C) []) _ _ _
  obtain ⟨bm, N, nm, qn, bs, hdct, sn, sub, ab, col, dd, k0, k1, k2, k3, k5, mN, hC, hN, hni, T⟩ := exc_obj I.kIn c.exc
  refine wpAny_call_exc_subT PySem.F.excBase_ValueError T hC hN hni (fun h' e hm => ?_) (Nat.zero_le _)
  exact mk_of I hm (raises_own c.sub c.ty) h (I.hok.gone hm.new)
/-- raise X(), in a def's own body -/
theorem ps_err {E : XK} {x : Str} {p pos p2 : Pos} {E₁ : Value → Shared → Prop} (c : ErrC X.K C) (gC : X.mg x = some (.ref C)) (hg : Gl X x) (hc : X.calm = true) (hs : X.stack = X.env :: X.outer) (hf : X.env.frame = some X.env.locals) (hex : X.ex = [])
    (hx : X.xe = fun e s' => wpAny (model X.prog X.w) X.A (leaving X.env e) (fun _ s'' => CX X.prog X.w X.outer X.H_0 X.s_0 E e s'') E₁ s') (hdb : (x == ("__debug__" : Str)) = false := by decide) :
    PS X (.Raise (some (.Call (.Name x p) [] [] pos)) none p2) (fun _ _ H => E (.ref C) none H) := ps_raise hc (takes_of hs hf hex hx) (pmk_own0 c gC hg hdb)
/-- a def's own wish takes what a callee may let out -/
theorem passX {E E' : XK} {E₁ : Value → Shared → Prop} (h : ∀ cls d H, E' cls d H → E cls d H) (hs : X.stack = X.env :: X.outer) (hf : X.env.frame = some X.env.locals) (hex : X.ex = [])
    (hx : X.xe = fun e s' => wpAny (model X.prog X.w) X.A (leaving X.env e) (fun _ s'' => CX X.prog X.w X.outer X.H_0 X.s_0 E e s'') E₁ s') : Passes (CX X.prog X.w) X E' := passes_call (takes_of hs hf hex hx) fun cls d _ H z => h cls d H z
end
/-! ### told: try: a() / except x: return r / .. / return None -/
def wChain (K : PySem.W.Frag) (Q : VK) : List (Addr × Str) → XK
  | [] => fun _ _ _ => False
  | (C, r) :: l => fun cls d H => ∃ b, PySem.W.exmOne K cls (.ref C) = some b ∧ (b = true → Q (.str r) H) ∧ (b = false → wChain K Q l cls d H)
def TToldM (K : PySem.W.Frag) (l : List (Addr × Str)) : (XK → Hp → VK → Prop) → Hp → VK → Prop := fun tl H Q => tl (wChain K Q l) H fun _ H' => Q .non H'
/-- the handlers: except x: return r -/
inductive HdsT (mg : Str → Option Value) (sg : Scope) : List ExceptHandler → List (Addr × Str) → Prop
  | nil : HdsT mg sg [] []
  | cons {e r : Str} {C : Addr} {j : Nat} {p4 p5 p6 p7 : Pos} {hs : List ExceptHandler} {l : List (Addr × Str)} (hge : sg.names.lookup e = some .globalImplicit) (hme : mg e = some (.ref C)) (hde : (e == ("__debug__" : Str)) = false) (t : HdsT mg sg hs l) :
      HdsT mg sg (.ExceptHandler (some (.Name e p4)) none [.Return (some (.Constant (.str r) j p5)) p6] p7 :: hs) ((C, r) :: l)
def tsOf (r : Str) : Addr → Value → Option Addr → TS := fun _ _ _ => tRet (tC (.str r))
theorem wMany_chain {K : PySem.W.Frag} {D : Ends} : ∀ (l : List (Addr × Str)) {cls : Value} {d : Option Addr} {σ : L2.St} {H : Hp}, wChain K D.rt l cls d H →
    wMany K (fun _ _ _ _ => False) D (l.map fun (y : Addr × Str) => (Value.ref y.1, tsOf y.2)) cls d σ H
  | [], _, _, _, _, h => h
  | (C, r) :: l, _, _, _, _, ⟨b, h1, h2, h3⟩ => ⟨b, h1, fun e a _ => h2 e, fun e => wMany_chain l (h3 e)⟩
theorem hds_ok {Y : Cx} {mg : Str → Option Value} {sg : Scope} (hsc : Y.env.scope = sg) : ∀ {hs : List ExceptHandler} {l : List (Addr × Str)}, (hmg : Y.mg = mg) → HdsT mg sg hs l → HdsOk Y hs (l.map fun (y : Addr × Str) => (Value.ref y.1, tsOf y.2)) := by
  intro hs l hmg h
  induction h with
  | nil => exact .nil
  | cons hge hme hde t ih =>
    refine .cons ⟨by show Y.env.scope.names.lookup _ = _; rw [hsc]; exact hge, hde, .inl (by rw [hmg]; exact hme)⟩ (fun a oe cls d pn _ _ => ?_) ih
    exact pss_one (ps_ret pe_str)
section
variable {X : Cx}
theorem toldM_gives {Ng : List Str} {x a q : Str} {sg : Scope} {g : Addr} {cdg : Value} {h₀ : ExceptHandler} {hds : List ExceptHandler} {l : List (Addr × Str)} {p1 p2 p3 p8 p9 pn0 : Pos} {jn : Nat} (hT : HdsT X.mg sg (h₀ :: hds) l) (h0 : ∀ f : Addr, (L2.start Ng [V.ref f])[0]? = some (some (V.ref f))) :
    GivesTo X Ng x sg g cdg [.Try [.Expr (.Call (.Name a p1) [] [] p2) p3] (h₀ :: hds) [] [] p8, .Return (some (.Constant .none jn pn0)) p9] a q (TToldM X.K l) := by
  intro f c' s H Q tl act hc h
  refine ⟨_, pss_cons (ps_try_many (X := (cxOf C8.CX0 X.prog X.w X.K X.mg X.base Ng x sg g cdg X.A X.stack s H C8.E0).nox) (Wout := fun _ _ _ _ => False)
      (tb := fun W D σ H => ∃ Ech : XK, (∀ cls d σ' H', Ech cls d H' → W cls d σ' H') ∧ σ[0]? = some (some (.ref f)) ∧ H c' = some (CodeO c' q) ∧ tl Ech H fun _ H' => D.nx σ H')
      rfl rfl takes_none5 (fun W pn xe tk _ => ?_) (hds_ok rfl rfl hT)) (pss_one (ps_ret pe_non)), ?_⟩
  · refine ⟨fun pins s' σ H' D I h' => ?_⟩
    obtain ⟨Ech, hW, h1, h2, h3⟩ := h'
    have hp := act W pn xe Ech p1 p2 tk hW
    have hq := pss_one (ps_expr (pos := p3) hp)
    exact hq.run pins s' σ H' D I ⟨h1, h2, h3⟩
  · exact ⟨wChain X.K Q l, fun cls d σ' H' z => wMany_chain l z, h0 f, hc, h⟩
/-- sorted(xs, key=lambda x: x.f), f a property that returns a text of the instance -/
theorem pe_sortPropT {T : List (Addr × Str)} {te : TE} {c P C p g : Addr} {k : Nat} {e : Expr} {params : Arguments} {scope : Scope} {x f fld y qual : Str} {st : Stmt} {fd : FuncData} {pp q1 q2 lpos kpos pos p1 p2 p3 : Pos}
    (hmT : (P, X.env.qual ++ "<lambda>") ∈ T) (hu : ∀ p ∈ T, p.1 = P → p.2 = X.env.qual ++ "<lambda>") (hg : Gl X "sorted") (hm : X.mg "sorted" = none) (ha : PE X e te) (TB : TabB X.base X.mg c P) (hcode : X.env.code = .ref c) (hr : Room k X.A)
    (cl : Cls X.K C) (hp : PropOf X.K C f p g) (F : Fun X.K y qual st g fd) (hb : Binds X.K fd ["self"] []) (n : NoAttr X.K C fld) (hbody : defBody st = [.Return (some (.Attribute (.Name "self" p1) fld p2)) p3] := by rfl)
    (hk2 : (defScope st).kind = .function := by rfl) (hco2 : (defScope st).isCoroutine = false := by rfl) (hge2 : (defScope st).isGenerator = false := by rfl) (hself : (defScope st).names.lookup ("self" : Str) = some NameKind.local := by rfl) (nocell : ∀ y ∈ (defScope st).names, y.2 ≠ .cell := by decide +kernel)
    (hdef : defaultsOf params X.env = ([], []) := by rfl) (hkind : scope.kind = .function := by rfl) (hco : scope.isCoroutine = false := by rfl) (hgen : scope.isGenerator = false := by rfl) (hnames : ∀ y ∈ scope.names, y.2 ≠ .free ∧ y.2 ≠ .cell := by decide +kernel) (hx : scope.names.lookup x = some .local := by rfl)
    (hbind : ∀ (q : Str) (cl : List (Str × Addr)) (pm cv ctv v : Value), bindArgs (PySem.W.kla_fn "<lambda>" q params (.Attribute (.Name x q1) f q2) scope cl pm cv ctv) ⟨[v], []⟩ = pure [(x, v)] := by intros; rfl)
    (hd : (x == ("__debug__" : Str)) = false := by decide) (hst : starEach [e] X.env = (false, eval e X.env) :: starEach [] X.env := by rfl) (he : backTo pos (starEach [e] X.env) = (false, eval e X.env) :: backTo pos (starEach [] X.env) := by rfl) (hpl : (backTo pos (starEach [e] X.env)).any (·.1) = false := by rfl) :
    PE X (.Call (.Name "sorted" pp) [e] [⟨some "key", .Lambda params (.Attribute (.Name x q1) f q2) scope lpos, kpos⟩] pos) (tSortLam X.K T (RKi C fld) te) := by
  refine pe_sortLamP (x := x) (R := InsK C fld) (RK := RKi C fld) (key_prop hkind hx hd cl hp F hk2 hco2 hge2 hb n hbody hself nocell) (fun pins s σ H b u v I r rv => ?_) (fun h h' v u e r => insK_keep e r) (fun H H' b u e r => ?_) hg hm ha TB hcode hmT hu hr hdef hkind hco hgen hnames hx hbind hst he hpl
  · obtain ⟨a, dx, fs, rfl, ea, l⟩ := r
    obtain rfl : v = .ref a := rv
    obtain ⟨mA, O, r, _, _, _⟩ := ins_get I.hok ea
    obtain ⟨t, ht, rt⟩ := RelO.some_of (v := .str u) (o := mA fld) (by rw [← l]; exact r fld)
    obtain ⟨tk, rfl⟩ := rt
    exact ⟨a, dx, mA, tk, rfl, O, ht⟩
  · obtain ⟨a, dx, fs, rfl, ea, l⟩ := r
    exact ⟨a, dx, fs, rfl, e _ _ ea (fun _ z => nomatch z), l⟩
/-- o.f = v, as a target -/
def gFld (K : PySem.W.Frag) (ta : TE) (f : Str) : TG := fun v σ H Q => ta σ H fun x H2 => ∃ a C dx fs, x = .ref a ∧ H2 a = some (.ins C dx fs) ∧ Cls K C ∧ NoAttr K C f ∧ fs.length < 1000 ∧ Q σ (upd H2 a (.ins C dx (putF f v fs)))
theorem pg_fld {o : Expr} {f : Str} {pos : Pos} {ta : TE} (ho : PE X o ta) : PG X (.Attribute o f pos) (gFld X.K ta f) := by
  refine ⟨fun pins s σ H v u Q I r h => ?_⟩
  rw [assign_Attribute]
  refine wpAny_bind (wpAny_holding (thn (ho.run pins s σ H _ I h) fun ov s1 ⟨x, H1, I1, r1, a, C, dx, fs, ex, ea, c, n, l, q⟩ => ?_))
  subst ex
  obtain rfl : ov = Value.ref a := r1
  refine wpAny_bind (wpAny_standAt (wpAny_bind (wpAny_holding (setattr_ok I1 ea c n l r fun s2 I2 => wpAny_release ⟨σ, _, I2, q⟩))))
end
end My
/-! == and != that may run an own __eq__, with both answers -/
namespace My
open PySem PySem.SeqAt L2 LamX PyProof.Rows
open AutoSeq1 (wpAny_loadPart')
open MeetsSeq MeetsSeq2 MeetsSeq3 SeqRoads2
section
variable {prog : Program} {w : World} {A : Around} {R : Result → Shared → Prop}
abbrev FinB (prog : Program) (w : World) (A : Around) (R : Result → Shared → Prop) : Fin → Shared → Prop := fun fin s' => match fin with
  | .done f => R (.ok f) s'
  | .again c' => c'.quiet = true ∧ codeAny (model prog w) A c' R s'
/-- the two lists are there at each turn, the i-th items' answer is e i -/
def ItB (prog : Program) (w : World) (A : Around) (E : Value → Shared → Prop) (l b : Addr) (N : Nat) (e : Nat → Bool) (I : Nat → Shared → Prop) : Prop :=
  ∀ i s, I i s → ∃ (xs ys : Array Value) (n m : Nat), s.heap.get? l = some { cls := .type "list", data := .seq xs n } ∧ s.heap.get? b = some { cls := .type "list", data := .seq ys m } ∧ xs.size = N ∧ ys.size = N ∧
    ∀ (h1 : i < xs.size) (h2 : i < ys.size), wpAny (model prog w) A.in1 (eqBool xs[i] ys[i]) (fun r s' => r = e i ∧ I (i + 1) s') E s
theorem loop_eq (l b : Addr) (N : Nat) (e : Nat → Bool) (I : Nat → Shared → Prop) (hl : ItB prog w A (fun e s' => R (.error e) s') l b N e I)
    (f1 : ∀ s, I N s → (∀ j < N, e j = true) → R (.ok (.ret (.bool true))) s) (f0 : ∀ i s, i < N → e i = false → I (i + 1) s → R (.ok (.ret (.bool false))) s) (k : Nat) :
    ∀ i : Nat, N - i = k → i ≤ N → (∀ j < i, e j = true) → ∀ s, I i s → wpAny (model prog w) A.in1 (Builtin.«list.__eq__.loop» ⟨[.ref l, .ref b, rawInt i, rawInt 2], []⟩) (FinB prog w A R) (fun e s' => R (.error e) s') s := by
  induction k with
  | zero =>
    intro i hk hi hp s h
    obtain ⟨xs, ys, n, m, a1, a2, z1, z2, _⟩ := hl _ _ h
    obtain rfl : i = N := by omega
    have q := f1 s h hp
    obtain ⟨hh, g, d, tk, os⟩ := s
    wp_walk using wpAny_loadPart' a1, wpAny_loadPart' a2
    rw [show xs[((i : Nat) : Int).toNat]? = none from by simp; omega, show ys[((i : Nat) : Int).toNat]? = none from by simp; omega]
    wp_walk using wpAny_loadPart' a1, wpAny_loadPart' a2
    show R (.ok (.ret (.bool (xs.size == ys.size)))) _
    rw [z1, z2]
    simpa using q
  | succ k ih =>
    intro i hk hi hp s h
    obtain ⟨xs, ys, n, m, a1, a2, z1, z2, turn⟩ := hl _ _ h
    have i1 : i < xs.size := by omega
    have i2 : i < ys.size := by omega
    have ht := turn i1 i2
    obtain ⟨hh, g, d, tk, os⟩ := s
    wp_walk using wpAny_loadPart' a1, wpAny_loadPart' a2
    rw [show xs[((i : Nat) : Int).toNat]? = some xs[i] from by simp [i1], show ys[((i : Nat) : Int).toNat]? = some ys[i] from by simp [i2]]
    refine wpAny_bind (wpAny_mono ht (fun r s2 h2 => ?_) fun _ _ x => x)
    obtain ⟨hr, h2⟩ := h2
    cases he : e i with
    | true =>
      rw [he] at hr
      subst hr
      have hrec := ih (i + 1) (by omega) (by omega) (fun j hj => by
        by_cases z : j = i
        · rw [z]; exact he
        · exact hp j (by omega)) s2 h2
      obtain ⟨hh2, g2, d2, tk2, os2⟩ := s2
      wp_walk
      rw [show ((i : Int) + 1) = ((i + 1 : Nat) : Int) from by omega]
      exact ⟨plainId_quiet plain_eq_loop _, codeAny_builtin entry_eq_loop (by
        rw [Around.under_plainId plain_eq_loop _]
        exact hrec)⟩
    | false =>
      rw [he] at hr
      subst hr
      have q := f0 i s2 (by omega) he h2
      obtain ⟨xs', ys', n', m', b1, b2, y1, y2, _⟩ := hl _ _ h2
      obtain ⟨hh2, g2, d2, tk2, os2⟩ := s2
      wp_walk using wpAny_loadPart' b1, wpAny_loadPart' b2
      rw [show xs'[((i : Nat) : Int).toNat]? = some (xs'[i]'(by omega)) from by simp, show ys'[((i : Nat) : Int).toNat]? = some (ys'[i]'(by omega)) from by simp]
      wp_walk
      exact q
theorem list_eq (l b : Addr) (N : Nat) (e : Nat → Bool) (I : Nat → Shared → Prop) (hl : ItB prog w A (fun e s' => R (.error e) s') l b N e I)
    (f1 : ∀ s, I N s → (∀ j < N, e j = true) → R (.ok (.ret (.bool true))) s) (f0 : ∀ i s, i < N → e i = false → I (i + 1) s → R (.ok (.ret (.bool false))) s) {s : Shared} (h : I 0 s) :
    wpAny (model prog w) A.in1 (Builtin.«list.__eq__» ⟨[.ref l, .ref b], []⟩) (FinB prog w A R) (fun e s' => R (.error e) s') s := by
  obtain ⟨xs, ys, n, m, a1, a2, z1, z2, _⟩ := hl _ _ h
  have hrec := loop_eq (A := A) (R := R) l b N e I hl f1 f0 _ 0 rfl (Nat.zero_le _) (fun j hj => absurd hj (Nat.not_lt_zero j)) s h
  obtain ⟨hh, g, d, tk, os⟩ := s
  have f3 := AutoSeq1.sub_list_list
  have hne : ¬ (xs.size != ys.size) = true := by simp [z1, z2]
  wp_walk using wpAny_loadPart' a1, wpAny_loadPart' a2
  exact ⟨plainId_quiet plain_eq_loop _, codeAny_builtin entry_eq_loop (by
    rw [Around.under_plainId plain_eq_loop _]
    exact hrec)⟩
/-- lists of unlike lengths -/
theorem list_eq_len {l b : Addr} {xs ys : Array Value} {n m : Nat} {s : Shared} (a1 : s.heap.get? l = some { cls := .type "list", data := .seq xs n }) (a2 : s.heap.get? b = some { cls := .type "list", data := .seq ys m }) (hz : xs.size ≠ ys.size) (q : R (.ok (.ret (.bool false))) s) :
    wpAny (model prog w) A.in1 (Builtin.«list.__eq__» ⟨[.ref l, .ref b], []⟩) (FinB prog w A R) (fun e s' => R (.error e) s') s := by
  obtain ⟨hh, g, d, tk, os⟩ := s
  have f3 := AutoSeq1.sub_list_list
  have hne : (xs.size != ys.size) = true := by simp [hz]
  wp_walk using wpAny_loadPart' a1, wpAny_loadPart' a2
  exact q
theorem loop_ne (l b : Addr) (N : Nat) (e : Nat → Bool) (I : Nat → Shared → Prop) (hl : ItB prog w A (fun e s' => R (.error e) s') l b N e I)
    (f1 : ∀ s, I N s → (∀ j < N, e j = true) → R (.ok (.ret (.bool false))) s) (f0 : ∀ i s, i < N → e i = false → I (i + 1) s → R (.ok (.ret (.bool true))) s) (k : Nat) :
    ∀ i : Nat, N - i = k → i ≤ N → (∀ j < i, e j = true) → ∀ s, I i s → wpAny (model prog w) A.in1 (Builtin.«list.__eq__.loop» ⟨[.ref l, .ref b, rawInt i, rawInt 3], []⟩) (FinB prog w A R) (fun e s' => R (.error e) s') s := by
  induction k with
  | zero =>
    intro i hk hi hp s h
    obtain ⟨xs, ys, n, m, a1, a2, z1, z2, _⟩ := hl _ _ h
    obtain rfl : i = N := by omega
    have q := f1 s h hp
    obtain ⟨hh, g, d, tk, os⟩ := s
    wp_walk using wpAny_loadPart' a1, wpAny_loadPart' a2
    rw [show xs[((i : Nat) : Int).toNat]? = none from by simp; omega, show ys[((i : Nat) : Int).toNat]? = none from by simp; omega]
    wp_walk using wpAny_loadPart' a1, wpAny_loadPart' a2
    show R (.ok (.ret (.bool (xs.size != ys.size)))) _
    rw [z1, z2]
    simpa using q
  | succ k ih =>
    intro i hk hi hp s h
    obtain ⟨xs, ys, n, m, a1, a2, z1, z2, turn⟩ := hl _ _ h
    have i1 : i < xs.size := by omega
    have i2 : i < ys.size := by omega
    have ht := turn i1 i2
    obtain ⟨hh, g, d, tk, os⟩ := s
    wp_walk using wpAny_loadPart' a1, wpAny_loadPart' a2
    rw [show xs[((i : Nat) : Int).toNat]? = some xs[i] from by simp [i1], show ys[((i : Nat) : Int).toNat]? = some ys[i] from by simp [i2]]
    refine wpAny_bind (wpAny_mono ht (fun r s2 h2 => ?_) fun _ _ x => x)
    obtain ⟨hr, h2⟩ := h2
    cases he : e i with
    | true =>
      rw [he] at hr
      subst hr
      have hrec := ih (i + 1) (by omega) (by omega) (fun j hj => by
        by_cases z : j = i
        · rw [z]; exact he
        · exact hp j (by omega)) s2 h2
      obtain ⟨hh2, g2, d2, tk2, os2⟩ := s2
      wp_walk
      rw [show ((i : Int) + 1) = ((i + 1 : Nat) : Int) from by omega]
      exact ⟨plainId_quiet plain_eq_loop _, codeAny_builtin entry_eq_loop (by
        rw [Around.under_plainId plain_eq_loop _]
        exact hrec)⟩
    | false =>
      rw [he] at hr
      subst hr
      have q := f0 i s2 (by omega) he h2
      obtain ⟨xs', ys', n', m', b1, b2, y1, y2, _⟩ := hl _ _ h2
      obtain ⟨hh2, g2, d2, tk2, os2⟩ := s2
      wp_walk using wpAny_loadPart' b1, wpAny_loadPart' b2
      rw [show xs'[((i : Nat) : Int).toNat]? = some (xs'[i]'(by omega)) from by simp, show ys'[((i : Nat) : Int).toNat]? = some (ys'[i]'(by omega)) from by simp]
      wp_walk
      exact q
theorem list_ne (l b : Addr) (N : Nat) (e : Nat → Bool) (I : Nat → Shared → Prop) (hl : ItB prog w A (fun e s' => R (.error e) s') l b N e I)
    (f1 : ∀ s, I N s → (∀ j < N, e j = true) → R (.ok (.ret (.bool false))) s) (f0 : ∀ i s, i < N → e i = false → I (i + 1) s → R (.ok (.ret (.bool true))) s) {s : Shared} (h : I 0 s) :
    wpAny (model prog w) A.in1 (Builtin.«list.__ne__» ⟨[.ref l, .ref b], []⟩) (FinB prog w A R) (fun e s' => R (.error e) s') s := by
  obtain ⟨xs, ys, n, m, a1, a2, z1, z2, _⟩ := hl _ _ h
  have hrec := loop_ne (A := A) (R := R) l b N e I hl f1 f0 _ 0 rfl (Nat.zero_le _) (fun j hj => absurd hj (Nat.not_lt_zero j)) s h
  obtain ⟨hh, g, d, tk, os⟩ := s
  have f3 := AutoSeq1.sub_list_list
  have hne : ¬ (xs.size != ys.size) = true := by simp [z1, z2]
  wp_walk using wpAny_loadPart' a1, wpAny_loadPart' a2
  exact ⟨plainId_quiet plain_eq_loop _, codeAny_builtin entry_eq_loop (by
    rw [Around.under_plainId plain_eq_loop _]
    exact hrec)⟩
/-- lists of unlike lengths -/
theorem list_ne_len {l b : Addr} {xs ys : Array Value} {n m : Nat} {s : Shared} (a1 : s.heap.get? l = some { cls := .type "list", data := .seq xs n }) (a2 : s.heap.get? b = some { cls := .type "list", data := .seq ys m }) (hz : xs.size ≠ ys.size) (q : R (.ok (.ret (.bool true))) s) :
    wpAny (model prog w) A.in1 (Builtin.«list.__ne__» ⟨[.ref l, .ref b], []⟩) (FinB prog w A R) (fun e s' => R (.error e) s') s := by
  obtain ⟨hh, g, d, tk, os⟩ := s
  have f3 := AutoSeq1.sub_list_list
  have hne : (xs.size != ys.size) = true := by simp [hz]
  wp_walk using wpAny_loadPart' a1, wpAny_loadPart' a2
  exact q
end
end My
/-! == and != that may run an own __eq__: tuples, own classes, operators -/
namespace My
open PySem PySem.SeqAt L2 LamX PyProof.Rows
open AutoSeq1 (wpAny_loadPart')
open MeetsSeq MeetsSeq2 MeetsSeq3 SeqRoads2
section
variable {prog : Program} {w : World} {A : Around} {R : Result → Shared → Prop} {E : Value → Shared → Prop} {s : Shared}
theorem tup_eq (l b : Addr) (xs ys : Array Value) (n m : Nat) (dd dd2 : Option Addr) (sl sl2 : Array (Option Value)) (hsz : xs.size = ys.size) (e : Nat → Bool) (I : Nat → Shared → Prop)
    (turn : ∀ i (h1 : i < xs.size) (h2 : i < ys.size) s, I i s → wpAny (model prog w) A.in1 (eqBool xs[i] ys[i]) (fun r s' => r = e i ∧ I (i + 1) s') (fun e s' => R (.error e) s') s)
    (f1 : ∀ s, I xs.size s → (∀ j < xs.size, e j = true) → R (.ok (.ret (.bool true))) s) (f0 : ∀ i s, i < xs.size → e i = false → I (i + 1) s → R (.ok (.ret (.bool false))) s) {s : Shared}
    (a1 : s.heap.get? l = some { cls := .type "tuple", dict := dd, data := .seq xs n, slots := sl }) (a2 : s.heap.get? b = some { cls := .type "tuple", dict := dd2, data := .seq ys m, slots := sl2 }) (h : I 0 s) :
    wpAny (model prog w) A.in1 (Builtin.«tuple.__eq__» ⟨[.ref l, .ref b], []⟩) (FinB prog w A R) (fun e s' => R (.error e) s') s := by
  have f2 := AutoSeq1.sub_tuple_tuple
  have hZ : (xs.toList.zip ys.toList).length = xs.size := by simp [hsz]
  have h0 := h
  obtain ⟨hh, g, d, tk, os⟩ := s
  wp_walk using wpAny_loadPart' a1, wpAny_loadPart' a2, wpAny_forIn_list _ (fun rest b s' => (b.1 = none ∧ ∃ i, rest = (xs.toList.zip ys.toList).drop i ∧ i ≤ xs.size ∧ I i s' ∧ ∀ j < i, e j = true) ∨ (b.1 = some (.done (.ret (.bool false))) ∧ rest = [] ∧ R (.ok (.ret (.bool false))) s'))
  case turn =>
    rintro ⟨y, x⟩ rest b s' (⟨hb, i, hz, hi, hI, hp⟩ | ⟨_, hz, _⟩)
    · have hlt : i < (xs.toList.zip ys.toList).length := by
        rcases Nat.lt_or_ge i (xs.toList.zip ys.toList).length with z | z
        · exact z
        · rw [List.drop_of_length_le z] at hz; cases hz
      have h1 : i < xs.size := hZ ▸ hlt
      have h2 : i < ys.size := hsz ▸ h1
      rw [List.drop_eq_getElem_cons hlt] at hz
      injection hz with hyx hrest
      obtain rfl : y = xs[i] := by simpa using congrArg Prod.fst hyx
      obtain rfl : x = ys[i] := by simpa using congrArg Prod.snd hyx
      refine wpAny_bind (wpAny_mono (turn i h1 h2 s' hI) (fun r s2 q2 => ?_) fun _ _ x => x)
      obtain ⟨hr, q2⟩ := q2
      cases he : e i with
      | true =>
        rw [he] at hr
        subst hr
        wp_walk
        exact .inl ⟨rfl, i + 1, hrest, h1, q2, fun j hj => by
          by_cases z : j = i
          · rw [z]; exact he
          · exact hp j (by omega)⟩
      | false =>
        rw [he] at hr
        subst hr
        have q := f0 i s2 h1 he q2
        wp_walk
        exact q
    · cases hz
  case fin =>
    rintro ⟨b1, b2⟩ s' (⟨hb, i, hz, hi, hI, hp⟩ | ⟨hb, _, q⟩)
    · simp only at hb
      subst hb
      have hge : xs.size ≤ i := by
        rcases Nat.lt_or_ge i (xs.toList.zip ys.toList).length with z | z
        · rw [List.drop_eq_getElem_cons z] at hz; cases hz
        · exact hZ ▸ z
      obtain rfl : i = xs.size := by omega
      have q := f1 s' hI hp
      wp_walk
      simpa [Builtin.Tuple.tupleCompareSizes, hsz] using q
    · simp only at hb
      subst hb
      wp_walk
      exact q
  case h =>
    exact .inl ⟨rfl, 0, rfl, Nat.zero_le _, h0, fun j hj => absurd hj (Nat.not_lt_zero j)⟩
theorem tup_ne (l b : Addr) (xs ys : Array Value) (n m : Nat) (dd dd2 : Option Addr) (sl sl2 : Array (Option Value)) (hsz : xs.size = ys.size) (e : Nat → Bool) (I : Nat → Shared → Prop)
    (turn : ∀ i (h1 : i < xs.size) (h2 : i < ys.size) s, I i s → wpAny (model prog w) A.in1 (eqBool xs[i] ys[i]) (fun r s' => r = e i ∧ I (i + 1) s') (fun e s' => R (.error e) s') s)
    (f1 : ∀ s, I xs.size s → (∀ j < xs.size, e j = true) → R (.ok (.ret (.bool false))) s) (f0 : ∀ i s, i < xs.size → e i = false → I (i + 1) s → R (.ok (.ret (.bool true))) s) {s : Shared}
    (a1 : s.heap.get? l = some { cls := .type "tuple", dict := dd, data := .seq xs n, slots := sl }) (a2 : s.heap.get? b = some { cls := .type "tuple", dict := dd2, data := .seq ys m, slots := sl2 }) (h : I 0 s) :
    wpAny (model prog w) A.in1 (Builtin.«tuple.__ne__» ⟨[.ref l, .ref b], []⟩) (FinB prog w A R) (fun e s' => R (.error e) s') s := by
  have f2 := AutoSeq1.sub_tuple_tuple
  have hZ : (xs.toList.zip ys.toList).length = xs.size := by simp [hsz]
  have h0 := h
  obtain ⟨hh, g, d, tk, os⟩ := s
  wp_walk using wpAny_loadPart' a1, wpAny_loadPart' a2, wpAny_forIn_list _ (fun rest b s' => (b.1 = none ∧ ∃ i, rest = (xs.toList.zip ys.toList).drop i ∧ i ≤ xs.size ∧ I i s' ∧ ∀ j < i, e j = true) ∨ (b.1 = some (.done (.ret (.bool true))) ∧ rest = [] ∧ R (.ok (.ret (.bool true))) s'))
  case turn =>
    rintro ⟨y, x⟩ rest b s' (⟨hb, i, hz, hi, hI, hp⟩ | ⟨_, hz, _⟩)
    · have hlt : i < (xs.toList.zip ys.toList).length := by
        rcases Nat.lt_or_ge i (xs.toList.zip ys.toList).length with z | z
        · exact z
        · rw [List.drop_of_length_le z] at hz; cases hz
      have h1 : i < xs.size := hZ ▸ hlt
      have h2 : i < ys.size := hsz ▸ h1
      rw [List.drop_eq_getElem_cons hlt] at hz
      injection hz with hyx hrest
      obtain rfl : y = xs[i] := by simpa using congrArg Prod.fst hyx
      obtain rfl : x = ys[i] := by simpa using congrArg Prod.snd hyx
      refine wpAny_bind (wpAny_mono (turn i h1 h2 s' hI) (fun r s2 q2 => ?_) fun _ _ x => x)
      obtain ⟨hr, q2⟩ := q2
      cases he : e i with
      | true =>
        rw [he] at hr
        subst hr
        wp_walk
        exact .inl ⟨rfl, i + 1, hrest, h1, q2, fun j hj => by
          by_cases z : j = i
          · rw [z]; exact he
          · exact hp j (by omega)⟩
      | false =>
        rw [he] at hr
        subst hr
        have q := f0 i s2 h1 he q2
        wp_walk
        exact q
    · cases hz
  case fin =>
    rintro ⟨b1, b2⟩ s' (⟨hb, i, hz, hi, hI, hp⟩ | ⟨hb, _, q⟩)
    · simp only at hb
      subst hb
      have hge : xs.size ≤ i := by
        rcases Nat.lt_or_ge i (xs.toList.zip ys.toList).length with z | z
        · rw [List.drop_eq_getElem_cons z] at hz; cases hz
        · exact hZ ▸ z
      obtain rfl : i = xs.size := by omega
      have q := f1 s' hI hp
      wp_walk
      simpa [Builtin.Tuple.tupleCompareSizes, hsz] using q
    · simp only at hb
      subst hb
      wp_walk
      exact q
  case h =>
    exact .inl ⟨rfl, 0, rfl, Nat.zero_le _, h0, fun j hj => absurd hj (Nat.not_lt_zero j)⟩
end
end My
/-! == and != that may run an own __eq__: by the abstract heap -/
namespace My
open PySem PySem.Spec L2 LamX PyProof.Rows
section
variable {prog : Program} {w : World} {A : Around} {E : Value → Shared → Prop} {s : Shared}
theorem rc_list_eq {l b : Addr} {N : Nat} {e : Nat → Bool} {Q : Value → Shared → Prop} (hu : A.units < cLine) (I : Nat → Shared → Prop) (hl : ItB prog w A E l b N e I) (f1 : ∀ s, I N s → (∀ j < N, e j = true) → Q (.bool true) s)
    (f0 : ∀ i s, i < N → e i = false → I (i + 1) s → Q (.bool false) s) (h : I 0 s) : wpAny (model prog w) A (richCompare .Eq (.ref l) (.ref b)) Q E s := by
  obtain ⟨xs, ys, n, m, a1, a2, _⟩ := hl _ _ h
  refine wpAny_richCompare_same_room (op := .Eq) ⟨_, a1, rfl⟩ ⟨_, a2, rfl⟩ PySem.F.slot_list_eq (GQ.call_here PySem.F.slot_list_eq ⟨_, a1, rfl⟩ PySem.F.entry_list_eq (PySem.F.args_list_eq_2 _ _) ?_) hu
  exact list_eq (R := wants (fun v s' => v ≠ .notImplemented ∧ Q v s') E) l b N e I hl (fun s' q1 q2 => ⟨nofun, f1 s' q1 q2⟩) (fun i s' q1 q2 q3 => ⟨nofun, f0 i s' q1 q2 q3⟩) h
theorem rc_list_ne {l b : Addr} {N : Nat} {e : Nat → Bool} {Q : Value → Shared → Prop} (hu : A.units < cLine) (I : Nat → Shared → Prop) (hl : ItB prog w A E l b N e I) (f1 : ∀ s, I N s → (∀ j < N, e j = true) → Q (.bool false) s)
    (f0 : ∀ i s, i < N → e i = false → I (i + 1) s → Q (.bool true) s) (h : I 0 s) : wpAny (model prog w) A (richCompare .NotEq (.ref l) (.ref b)) Q E s := by
  obtain ⟨xs, ys, n, m, a1, a2, _⟩ := hl _ _ h
  refine wpAny_richCompare_same_room (op := .NotEq) ⟨_, a1, rfl⟩ ⟨_, a2, rfl⟩ PySem.F.slot_list_ne (GQ.call_here PySem.F.slot_list_ne ⟨_, a1, rfl⟩ PySem.F.entry_list_ne (PySem.F.args_list_ne_2 _ _) ?_) hu
  exact list_ne (R := wants (fun v s' => v ≠ .notImplemented ∧ Q v s') E) l b N e I hl (fun s' q1 q2 => ⟨nofun, f1 s' q1 q2⟩) (fun i s' q1 q2 q3 => ⟨nofun, f0 i s' q1 q2 q3⟩) h
theorem rc_list_eq_len {l b : Addr} {xs ys : Array Value} {n m : Nat} {Q : Value → Shared → Prop} (hu : A.units < cLine) (a1 : s.heap.get? l = some { cls := .type "list", data := .seq xs n }) (a2 : s.heap.get? b = some { cls := .type "list", data := .seq ys m }) (hz : xs.size ≠ ys.size) (q : Q (.bool false) s) :
    wpAny (model prog w) A (richCompare .Eq (.ref l) (.ref b)) Q E s := by
  refine wpAny_richCompare_same_room (op := .Eq) ⟨_, a1, rfl⟩ ⟨_, a2, rfl⟩ PySem.F.slot_list_eq (GQ.call_here PySem.F.slot_list_eq ⟨_, a1, rfl⟩ PySem.F.entry_list_eq (PySem.F.args_list_eq_2 _ _) ?_) hu
  exact list_eq_len (R := wants (fun v s' => v ≠ .notImplemented ∧ Q v s') E) a1 a2 hz ⟨nofun, q⟩
theorem rc_list_ne_len {l b : Addr} {xs ys : Array Value} {n m : Nat} {Q : Value → Shared → Prop} (hu : A.units < cLine) (a1 : s.heap.get? l = some { cls := .type "list", data := .seq xs n }) (a2 : s.heap.get? b = some { cls := .type "list", data := .seq ys m }) (hz : xs.size ≠ ys.size) (q : Q (.bool true) s) :
    wpAny (model prog w) A (richCompare .NotEq (.ref l) (.ref b)) Q E s := by
  refine wpAny_richCompare_same_room (op := .NotEq) ⟨_, a1, rfl⟩ ⟨_, a2, rfl⟩ PySem.F.slot_list_ne (GQ.call_here PySem.F.slot_list_ne ⟨_, a1, rfl⟩ PySem.F.entry_list_ne (PySem.F.args_list_ne_2 _ _) ?_) hu
  exact list_ne_len (R := wants (fun v s' => v ≠ .notImplemented ∧ Q v s') E) a1 a2 hz ⟨nofun, q⟩
theorem rc_tup_eq {l b : Addr} {xs ys : Array Value} {e : Nat → Bool} {Q : Value → Shared → Prop} (hsz : xs.size = ys.size) (hu : A.units < cLine) (I : Nat → Shared → Prop) (hl : s.heap.IsTuple l xs) (hb : s.heap.IsTuple b ys)
    (turn : ∀ i (h1 : i < xs.size) (h2 : i < ys.size) s, I i s → wpAny (model prog w) A.in1 (eqBool xs[i] ys[i]) (fun r s' => r = e i ∧ I (i + 1) s') E s) (f1 : ∀ s, I xs.size s → (∀ j < xs.size, e j = true) → Q (.bool true) s)
    (f0 : ∀ i s, i < xs.size → e i = false → I (i + 1) s → Q (.bool false) s) (h : I 0 s) : wpAny (model prog w) A (richCompare .Eq (.ref l) (.ref b)) Q E s := by
  obtain ⟨⟨cls, dd, data, sl⟩, ho, hc, n, hd⟩ := id hl
  obtain ⟨⟨cls2, dd2, data2, sl2⟩, ho2, hc2, n2, hd2⟩ := id hb
  simp only at hc hd hc2 hd2
  subst hc hd hc2 hd2
  refine wpAny_richCompare_same_room (op := .Eq) ⟨_, ho, rfl⟩ ⟨_, ho2, rfl⟩ PySem.F.slot_tuple_eq (GQ.call_here PySem.F.slot_tuple_eq ⟨_, ho, rfl⟩ PySem.F.entry_tuple_eq (PySem.F.args_tuple_eq_2 _ _) ?_) hu
  exact tup_eq (R := wants (fun v s' => v ≠ .notImplemented ∧ Q v s') E) l b xs ys n n2 dd dd2 sl sl2 hsz e I turn (fun s' q1 q2 => ⟨nofun, f1 s' q1 q2⟩) (fun i s' q1 q2 q3 => ⟨nofun, f0 i s' q1 q2 q3⟩) ho ho2 h
theorem rc_tup_ne {l b : Addr} {xs ys : Array Value} {e : Nat → Bool} {Q : Value → Shared → Prop} (hsz : xs.size = ys.size) (hu : A.units < cLine) (I : Nat → Shared → Prop) (hl : s.heap.IsTuple l xs) (hb : s.heap.IsTuple b ys)
    (turn : ∀ i (h1 : i < xs.size) (h2 : i < ys.size) s, I i s → wpAny (model prog w) A.in1 (eqBool xs[i] ys[i]) (fun r s' => r = e i ∧ I (i + 1) s') E s) (f1 : ∀ s, I xs.size s → (∀ j < xs.size, e j = true) → Q (.bool false) s)
    (f0 : ∀ i s, i < xs.size → e i = false → I (i + 1) s → Q (.bool true) s) (h : I 0 s) : wpAny (model prog w) A (richCompare .NotEq (.ref l) (.ref b)) Q E s := by
  obtain ⟨⟨cls, dd, data, sl⟩, ho, hc, n, hd⟩ := id hl
  obtain ⟨⟨cls2, dd2, data2, sl2⟩, ho2, hc2, n2, hd2⟩ := id hb
  simp only at hc hd hc2 hd2
  subst hc hd hc2 hd2
  refine wpAny_richCompare_same_room (op := .NotEq) ⟨_, ho, rfl⟩ ⟨_, ho2, rfl⟩ PySem.F.slot_tuple_ne (GQ.call_here PySem.F.slot_tuple_ne ⟨_, ho, rfl⟩ PySem.F.entry_tuple_ne (PySem.F.args_tuple_ne_2 _ _) ?_) hu
  exact tup_ne (R := wants (fun v s' => v ≠ .notImplemented ∧ Q v s') E) l b xs ys n n2 dd dd2 sl sl2 hsz e I turn (fun s' q1 q2 => ⟨nofun, f1 s' q1 q2⟩) (fun i s' q1 q2 q3 => ⟨nofun, f0 i s' q1 q2 q3⟩) ho ho2 h
end
/-! ### own classes: != by object.__ne__ and the own __eq__ -/
section
open PySem.W
variable {prog : Program} {w : World} {A : Around} {E : Value → Shared → Prop} {s : Shared} {K : Frag} {x C L f : Addr} {h₀ : Heap} {m : Str → Option Value} {ox : Obj} {od : Option Obj} {b : Value}
theorem ifBound_ne {M : Model} {Q : Option Value → Shared → Prop} (X : K.In s.heap) (I : InstAt s.heap x ox C od) (hs : findIn K (.ref C) "__ne__" = some (some (.builtin "object.__ne__")))
    (h : wpAny M A (call (.builtin "object.__ne__") [.ref x, b]) (fun v => Q (some v)) E s) : wpAny M A (callSpecialIfBound? (.ref x) "__ne__" [b]) Q E s := by
  simp only [callSpecialIfBound?, bindSpecialIfBound?]
  refine wpAny_holding (wpAny_bind (wpAny_bind (wpAny_bind (I.type.here ((looks_findIn X hs).here ?_)))))
  simp only [PySem.F.cmp_object.ne.bind]
  refine wpAny_bind (wpAny_askSetting (wpAny_ite ?_))
  have fin : wpAny M A (call (.builtin "object.__ne__") ([.ref x] ++ [b]) >>= fun v => pure (some v)) Q E s := wpAny_bind (wpAny_mono h (fun v s' h' => wpAny_pure h') fun _ _ h' => h')
  split
  · exact wpAny_bind (wpAny_pure (wpAny_pure fin))
  · exact wpAny_tryCatch (wpAny_bind (wpAny_pure (wpAny_pure fin)))
theorem ne_K {y : Addr} {oy : Obj} {od' : Option Obj} {Q : Value → Shared → Prop} (hu : A.units + 1 < cLine) (X : K.In s.heap) (I : InstAt s.heap x ox C od) (J : InstAt s.heap y oy C od') (hs : findIn K (.ref C) "__ne__" = some (some (.builtin "object.__ne__")))
    (ho : subIn K (.ref C) (.type "object") = some true) (he : findIn K (.ref C) "__eq__" = some (some (.ref f))) (hf : isFn K (.ref f) = true)
    (h : wpAny (model prog w) A.in1 (call (.ref f) [.ref x, .ref y]) (fun v s' => ∃ r, v = .bool r ∧ Q (.bool (!r)) s') E s) : wpAny (model prog w) A (richCompare .NotEq (.ref x) (.ref y)) Q E s := by
  have one : wpAny (model prog w) A (tryCompare (.ref x) (cmpInfo .NotEq).2.1 (.ref y)) (fun r s' => ∃ v, r = some v ∧ Q v s') E s := by
    unfold tryCompare
    refine wpAny_bind (ifBound_ne X I hs (wpAny_call (codeAny_call_builtin PySem.F.cmp_object.ne.plain PySem.F.cmpEntry_ne (check_slot PySem.F.cmpKind_ne PySem.F.cmpSplit_ne (I.type.andThen (looks_subIn X ho)) (PySem.F.cmpArgs_ne _ _) ?_))))
    have hb : wpAny (model prog w) A.in1 (callSpecialIfBound? (.ref x) "__eq__" [.ref y]) (fun o s' => ∃ r, o = some (.bool r) ∧ Q (.bool (!r)) s') E s := ifBound_K X I he hf (wpAny_mono h (fun v s' ⟨r, e, q⟩ => ⟨r, by rw [e], q⟩) fun _ _ e => e)
    obtain ⟨hh, g, d, tk, os⟩ := s
    unfold Builtin.«object.__ne__»
    repeat (first | with_reducible refine wpAny_cRoomFor hu ?_ | with_reducible refine wpAny_mono hb (fun o s' ho => ?_) (fun _ _ e => ?_) | wp_step)
    · obtain ⟨r, rfl, q⟩ := ho
      refine wpAny_bind (wpAny_truthy_bool ?_)
      exact wpAny_pure (wpAny_pure ⟨_, rfl, q⟩)
    · assumption
  unfold richCompare
  simp only [oneThing_ref]
  refine wpAny_holding (wpAny_bind (wpAny_cRoomFor (Nat.lt_of_succ_lt hu) ?_))
  refine wpAny_bind (I.type.here (wpAny_bind (J.type.here ?_)))
  rw [if_neg (by simp)]
  refine wpAny_bind (wpAny_pure ?_)
  simp only [Bool.false_eq_true, if_false]
  refine wpAny_bind (wpAny_mono one (fun r s' z => ?_) fun _ _ e => e)
  obtain ⟨v, rfl, hq⟩ := z
  exact wpAny_pure hq
end
/-! ### the answer about two values; the heap may grow -/
abbrev EqvB := V → V → Bool → Hp → Prop
def MonB (D : EqvB) : Prop := ∀ x y b H H', Ext H H' → D x y b H → D x y b H'
def EqB (X : Cx) (n : Nat) (D : EqvB) : Prop :=
  ∀ (A : Around) (pins : List (Addr × Obj)) (s : Shared) (σ : L2.St) (H : Hp) (x y : V) (u v : Value) (b : Bool), L2.Sub X n A → Inv X pins σ H s → RelV x u → RelV y v → D x y b H →
    wpAny (model X.prog X.w) A (eqBool u v) (fun r s' => r = b ∧ ∃ H', Inv X pins σ H' s' ∧ Ext H H') X.xe s
def RcB (X : Cx) (n : Nat) (ne : Bool) (D : EqvB) : Prop :=
  ∀ (A : Around) (pins : List (Addr × Obj)) (s : Shared) (σ : L2.St) (H : Hp) (x y : V) (u v : Value) (b : Bool), L2.Sub X n A → Inv X pins σ H s → RelV x u → RelV y v → D x y b H →
    wpAny (model X.prog X.w) A (richCompare (if ne = true then .NotEq else .Eq) u v) (fun r s' => r = .bool (if ne = true then !b else b) ∧ ∃ H', Inv X pins σ H' s' ∧ Ext H H') X.xe s
section
variable {X : Cx} {n : Nat} {D : EqvB}
def DFlatB : EqvB := fun x y b _ => flatV x = true ∧ flatV y = true ∧ eqV x y = b
theorem monB_flat : MonB DFlatB := fun _ _ _ _ _ _ d => d
theorem eqB_flat : EqB X 0 DFlatB := by
  intro A pins s σ H x y u v b sb I rx ry d
  obtain ⟨fx, fy, e⟩ := d
  have q := eqAt_V (A := A) (s := s) rx ry fx fy
  rw [e] at q
  exact q X.prog X.w X.xe _ ⟨rfl, H, I, Ext.rfl'⟩
/-- item by item: the answers e -/
def PrsB (D : EqvB) (xs ys : List V) (e : Nat → Bool) (H : Hp) : Prop := xs.length = ys.length ∧ ∀ (i : Nat) x y, xs[i]? = some x → ys[i]? = some y → D x y (e i) H
theorem turnB (hD : MonB D) (h : EqB X n D) {A : Around} (sb : L2.Sub X (n + 1) A) {pins : List (Addr × Obj)} {σ : L2.St} {H : Hp} {xs ys : List V} {e : Nat → Bool} {us vs : List Value} (p : PrsB D xs ys e H) (r : Vals xs us) (r2 : Vals ys vs)
    (i : Nat) (h1 : i < us.toArray.size) (h2 : i < vs.toArray.size) (s' : Shared) (l : LoopI X pins σ H s') :
    wpAny (model X.prog X.w) A.in1 (eqBool us.toArray[i] vs.toArray[i]) (fun r s2 => r = e i ∧ LoopI X pins σ H s2) X.xe s' := by
  obtain ⟨H1, I1, e1⟩ := l
  have g1 : us[i]? = some us.toArray[i] := by
    have z : i < us.length := by simpa using h1
    rw [List.getElem?_eq_getElem z] <;> simp
  have g2 : vs[i]? = some vs.toArray[i] := by
    have z : i < vs.length := by simpa using h2
    rw [List.getElem?_eq_getElem z] <;> simp
  have k1 : i < xs.length := by rw [r.length]; simpa using h1
  have k2 : i < ys.length := by rw [r2.length]; simpa using h2
  obtain ⟨u, hu, ru⟩ := r.get (List.getElem?_eq_getElem k1)
  obtain ⟨v, hv, rv⟩ := r2.get (List.getElem?_eq_getElem k2)
  rw [g1] at hu
  rw [g2] at hv
  rw [Option.some.inj hu, Option.some.inj hv]
  refine wpAny_mono (h A.in1 pins s' σ H1 _ _ u v _ sb.in1 I1 ru rv (hD _ _ _ _ _ e1 (p.2 i _ _ (List.getElem?_eq_getElem k1) (List.getElem?_eq_getElem k2)))) (fun r s2 q => ?_) fun _ _ x => x
  obtain ⟨hr, H2, I2, e2⟩ := q
  exact ⟨hr, H2, I2, e1.trans e2⟩
def allB (n : Nat) (e : Nat → Bool) : Bool := (List.range n).all e
theorem allB_t {n : Nat} {e : Nat → Bool} (h : ∀ j < n, e j = true) : allB n e = true := List.all_eq_true.mpr fun j hj => h j (List.mem_range.mp hj)
theorem allB_f {n i : Nat} {e : Nat → Bool} (h : i < n) (he : e i = false) : allB n e = false := Bool.eq_false_iff.mpr fun z => by
  rw [List.all_eq_true.mp z i (List.mem_range.mpr h)] at he
  cases he
/-- two lists -/
def DListB (D : EqvB) : EqvB := fun x y b H => ∃ p q xs ys, x = .ref p ∧ y = .ref q ∧ H p = some (.lst xs) ∧ H q = some (.lst ys) ∧ ((xs.length ≠ ys.length ∧ b = false) ∨ ∃ e, PrsB D xs ys e H ∧ b = allB xs.length e)
/-- two tuples of one length -/
def DTupB (K : PySem.W.Frag) (D : EqvB) : EqvB := fun x y b H => ∃ p q xs ys e, x = .ref p ∧ y = .ref q ∧ SqT K H p xs ∧ SqT K H q ys ∧ PrsB D xs ys e H ∧ b = allB xs.length e
theorem rcB_list (hD : MonB D) (h : EqB X n D) : ∀ ne, RcB X (n + 1) ne (DListB D) := by
  intro ne A pins s σ H x y u v b sb I rx ry d
  obtain ⟨p, q, xs, ys, rfl, rfl, hp, hq, d⟩ := d
  cases rx
  cases ry
  rcases d with ⟨hne, rfl⟩ | ⟨e, pr, rfl⟩
  · obtain ⟨z, us, k, r, a1⟩ := I.hok p _ hp
    obtain ⟨z2, vs, k2, r2, a2⟩ := I.hok q _ hq
    have hsz : us.toArray.size ≠ vs.toArray.size := by rw [List.size_toArray, List.size_toArray, ← r.length, ← r2.length]; exact hne
    cases ne with
    | true => exact rc_list_ne_len sb.room.units0 a1 a2 hsz ⟨rfl, H, I, Ext.rfl'⟩
    | false => exact rc_list_eq_len sb.room.units0 a1 a2 hsz ⟨rfl, H, I, Ext.rfl'⟩
  · have it : ItB X.prog X.w A X.xe p q xs.length e (fun _ s' => LoopI X pins σ H s') := fun i s' l => by
      obtain ⟨H1, I1, e1⟩ := id l
      obtain ⟨z, us, k, r, a1⟩ := I1.hok p _ (e1 _ _ hp)
      obtain ⟨z2, vs, k2, r2, a2⟩ := I1.hok q _ (e1 _ _ hq)
      exact ⟨us.toArray, vs.toArray, k, k2, a1, a2, by rw [List.size_toArray, ← r.length], by rw [List.size_toArray, ← r2.length, ← pr.1], fun h1 h2 => turnB hD h sb pr r r2 i h1 h2 s' l⟩
    cases ne with
    | true => exact rc_list_ne sb.room.units0 _ it (fun s' l ha => ⟨by rw [allB_t ha]; rfl, l⟩) (fun i s' hi he l => ⟨by rw [allB_f hi he]; rfl, l⟩) ⟨H, I, Ext.rfl'⟩
    | false => exact rc_list_eq sb.room.units0 _ it (fun s' l ha => ⟨by rw [allB_t ha]; rfl, l⟩) (fun i s' hi he l => ⟨by rw [allB_f hi he]; rfl, l⟩) ⟨H, I, Ext.rfl'⟩
theorem rcB_tup (hD : MonB D) (h : EqB X n D) : ∀ ne, RcB X (n + 1) ne (DTupB X.K D) := by
  intro ne A pins s σ H x y u v b sb I rx ry d
  obtain ⟨p, q, xs, ys, e, rfl, rfl, hp, hq, pr, rfl⟩ := d
  cases rx
  cases ry
  obtain ⟨us, r, a1, z⟩ := I.tuple hp
  obtain ⟨vs, r2, a2, z2⟩ := I.tuple hq
  have hl : us.toArray.size = xs.length := by rw [List.size_toArray, ← r.length]
  have hsz : us.toArray.size = vs.toArray.size := by rw [hl, List.size_toArray, ← r2.length]; exact pr.1
  have tn : ∀ i (h1 : i < us.toArray.size) (h2 : i < vs.toArray.size) s, LoopI X pins σ H s → wpAny (model X.prog X.w) A.in1 (eqBool us.toArray[i] vs.toArray[i]) (fun r s' => r = e i ∧ LoopI X pins σ H s') X.xe s := fun i h1 h2 s' l => turnB hD h sb pr r r2 i h1 h2 s' l
  cases ne with
  | true => exact rc_tup_ne hsz sb.room.units0 (fun _ s' => LoopI X pins σ H s') a1 a2 tn (fun s' l ha => ⟨by rw [allB_t fun j hj => ha j (by rw [hl]; exact hj)]; rfl, l⟩) (fun i s' hi he l => ⟨by rw [allB_f (by rw [← hl]; exact hi) he]; rfl, l⟩) ⟨H, I, Ext.rfl'⟩
  | false => exact rc_tup_eq hsz sb.room.units0 (fun _ s' => LoopI X pins σ H s') a1 a2 tn (fun s' l ha => ⟨by rw [allB_t fun j hj => ha j (by rw [hl]; exact hj)]; rfl, l⟩) (fun i s' hi he l => ⟨by rw [allB_f (by rw [← hl]; exact hi) he]; rfl, l⟩) ⟨H, I, Ext.rfl'⟩
/-- two instances of the class at C: R tells the answer -/
def DInsB (C : Addr) (R : Addr → V → Bool → Hp → Prop) : EqvB := fun x y b H => ∃ p q dx dy fs gs, x = .ref p ∧ y = .ref q ∧ H p = some (.ins C dx fs) ∧ H q = some (.ins C dy gs) ∧ R p y b H
/-- an instance and None -/
def DNonB (C : Addr) (R : Addr → V → Bool → Hp → Prop) : EqvB := fun x y b H => ∃ p dx fs, x = .ref p ∧ y = .non ∧ H p = some (.ins C dx fs) ∧ R p y b H
def spEqB (R : Addr → V → Bool → Hp → Prop) : Sp := fun vs H Q _ => ∃ p y b, vs = [.ref p, y] ∧ R p y b H ∧ ∀ H', Ext H H' → Q (.bl b) H'
/-- what is known of a class with its own == and no != -/
structure EqC (K : PySem.W.Frag) (C f : Addr) : Prop where
  eq : PySem.W.findIn K (.ref C) "__eq__" = some (some (.ref f))
  ne : PySem.W.findIn K (.ref C) "__ne__" = some (some (.builtin "object.__ne__"))
  fn : PySem.W.isFn K (.ref f) = true
  ob : PySem.W.subIn K (.ref C) (.type "object") = some true
theorem run_eqB {C f : Addr} {fd : FuncData} {ps : List Str} {R : Addr → V → Bool → Hp → Prop} (F : FnOk X.prog X.w X.K X.mg X.base C8.CX0 n f fd ps (spEqB R)) (hb : Binds X.K fd ps []) {A' : Around} (hro : Room n A') (hf : A'.frames = X.A.frames) {pins : List (Addr × Obj)} {s : Shared} {σ : L2.St} {H : Hp} {p : Addr} {y : V} {v : Value} {b : Bool}
    (I : Inv X pins σ H s) (ry : RelV y v) (hr : R p y b H) : wpAny (model X.prog X.w) A' (call (.ref f) [.ref p, v]) (fun v s' => v = .bool b ∧ ∃ H', Inv X pins σ H' s' ∧ Ext H H') X.xe s := by
  have hsp : spEqB R [.ref p, y] H (fun v H' => v = .bl b ∧ Ext H H') C8.E0 := ⟨p, y, b, rfl, hr, fun H' e => ⟨rfl, e⟩⟩
  have e0 : Env0 X.prog X.w X.K X.mg X.base A' X.stack s H := by
    have e := I.env0
    exact ⟨by rw [hf]; exact e.frames, e.mod, e.bs, e.bsz, e.funs, e.frf, e.hok, e.bare⟩
  have hl := F.len _ _ _ _ hsp
  have r2 : Vals [V.ref p, y] [Value.ref p, v] := .cons rfl (.cons ry .nil)
  refine wpAny_call (codeAny_mono (F.run A' X.stack s H ⟨[.ref p, v], []⟩ [.ref p, v] [.ref p, y] _ C8.E0 hro e0 (by
    have := hb s [.ref p, v] I.kIn (by simpa using hl)
    simpa using this) r2 hsp) fun r s' hq => ?_)
  cases r with
  | error e => exact (show False from hq).elim
  | ok fl =>
    cases fl with
    | ret w =>
      obtain ⟨z, H', I', rz, ez, ex⟩ := I.after hq
      subst ez
      cases rz
      exact ⟨rfl, H', I', ex⟩
    | next => exact False.elim hq
    | brk => exact False.elim hq
    | cont => exact False.elim hq
theorem rcB_ins {C f : Addr} {fd : FuncData} {ps : List Str} {R : Addr → V → Bool → Hp → Prop} (c : EqC X.K C f) (F : FnOk X.prog X.w X.K X.mg X.base C8.CX0 n f fd ps (spEqB R)) (hb : Binds X.K fd ps []) : ∀ ne, RcB X (n + 1) ne (DInsB C R) := by
  intro ne A pins s σ H x y u v b sb I rx ry d
  obtain ⟨p, q, dx, dy, fs, gs, rfl, rfl, hp, hq, hr⟩ := d
  cases rx
  cases ry
  obtain ⟨mA, J, _⟩ := ins_get I.hok hp
  obtain ⟨mB, J', _⟩ := ins_get I.hok hq
  obtain ⟨od, J, _⟩ := J.look
  obtain ⟨od', J', _⟩ := J'.look
  obtain ⟨m, hF⟩ := I.fr
  cases ne with
  | false =>
    refine PySem.W.cmp_K (op := .Eq) (tb := .ref C) sb.room.units0 hF I.ok.mod.kin J J'.type (by simp [PySem.W.notFirst]) c.eq c.fn (wpAny_mono (run_eqB (C := C) (y := .ref q) F hb (sb.mono (Nat.le_succ n)).room sb.fr I rfl hr) (fun v s' hv => ?_) fun _ _ e => e)
    obtain ⟨rfl, q⟩ := hv
    exact ⟨rfl, q⟩
  | true =>
    refine ne_K sb.in1.room.units0 I.kIn J J' c.ne c.ob c.eq c.fn (wpAny_mono (run_eqB (C := C) (y := .ref q) F hb sb.in1.room sb.in1.fr I rfl hr) (fun v s' hv => ?_) fun _ _ e => e)
    obtain ⟨rfl, q⟩ := hv
    exact ⟨b, rfl, rfl, q⟩
/-- x == None -/
theorem rcB_non {C f : Addr} {fd : FuncData} {ps : List Str} {R : Addr → V → Bool → Hp → Prop} (c : EqC X.K C f) (hn : PySem.W.subIn X.K (.type "NoneType") (.ref C) = some false) (F : FnOk X.prog X.w X.K X.mg X.base C8.CX0 n f fd ps (spEqB R)) (hb : Binds X.K fd ps []) : RcB X (n + 1) false (DNonB C R) := by
  intro A pins s σ H x y u v b sb I rx ry d
  obtain ⟨p, dx, fs, rfl, rfl, hp, hr⟩ := d
  cases rx
  cases ry
  obtain ⟨mA, J, _⟩ := ins_get I.hok hp
  obtain ⟨od, J, _⟩ := J.look
  obtain ⟨m, hF⟩ := I.fr
  refine PySem.W.cmp_K (op := .Eq) (tb := .type "NoneType") sb.room.units0 hF I.ok.mod.kin J (PySem.W.Looks.of_pure rfl) (by unfold PySem.W.notFirst; rw [hn]; simp) c.eq c.fn (wpAny_mono (run_eqB (C := C) (y := .non) F hb (sb.mono (Nat.le_succ n)).room sb.fr I rfl hr) (fun v s' hv => ?_) fun _ _ e => e)
  obtain ⟨rfl, q⟩ := hv
  exact ⟨rfl, q⟩
theorem RcB.or {ne : Bool} {D' : EqvB} (h : RcB X n ne D) (h' : RcB X n ne D') : RcB X n ne (fun x y b H => D x y b H ∨ D' x y b H) := fun A pins s σ H x y u v b sb I rx ry d => by
  rcases d with d | d
  · exact h A pins s σ H x y u v b sb I rx ry d
  · exact h' A pins s σ H x y u v b sb I rx ry d
/-- the same object on both sides -/
def DSame : EqvB := fun x y b _ => (∃ p, x = .ref p ∧ y = .ref p) ∧ b = true
theorem monB_same : MonB DSame := fun _ _ _ _ _ _ d => d
theorem eqB_same : EqB X 0 DSame := by
  intro A pins s σ H x y u v b sb I rx ry d
  obtain ⟨⟨p, rfl, rfl⟩, rfl⟩ := d
  cases rx
  cases ry
  exact SeqAt.EqAt.same (A := A) (s := s) (.ref p) X.prog X.w X.xe _ ⟨rfl, H, I, Ext.rfl'⟩
theorem EqB.mono {m : Nat} (h : EqB X n D) (hn : n ≤ m) : EqB X m D := fun A pins s σ H x y u v b sb => h A pins s σ H x y u v b (sb.mono hn)
/-- from comparisons of references to == within a list or tuple -/
theorem RcB.eqB (h : RcB X n false D) (hr : ∀ x y b H, D x y b H → ∃ p q, x = .ref p ∧ y = .ref q) (hs : ∀ (pins : List (Addr × Obj)) (s : Shared) (σ : L2.St) (H : Hp) (p : Addr) (b : Bool), Inv X pins σ H s → D (.ref p) (.ref p) b H → b = true) : EqB X n D := by
  intro A pins s σ H x y u v b sb I rx ry d
  obtain ⟨p, q, rfl, rfl⟩ := hr _ _ _ _ d
  cases rx
  cases ry
  by_cases hpq : p = q
  · subst hpq
    rw [hs pins s σ H p b I d]
    exact SeqAt.EqAt.same (A := A) (s := s) (.ref p) X.prog X.w X.xe _ ⟨rfl, H, I, Ext.rfl'⟩
  · refine GQ.eqBool_refG hpq (wpAny_mono (h A pins s σ H (.ref p) (.ref q) _ _ b sb I rfl rfl d) (fun r s' z => ?_) fun _ _ x => x)
    obtain ⟨hr', z⟩ := z
    exact ⟨b, hr', rfl, z⟩
/-- one tuple, read twice -/
theorem sqT_uniq {pins : List (Addr × Obj)} {s : Shared} {σ : L2.St} {H : Hp} {a : Addr} {xs ys : List V} (I : Inv X pins σ H s) (h1 : SqT X.K H a xs) (h2 : SqT X.K H a ys) : ∃ us : List Value, Vals xs us ∧ Vals ys us := by
  obtain ⟨us, r1, t1, _⟩ := I.tuple h1
  obtain ⟨us', r2, t2, _⟩ := I.tuple h2
  obtain ⟨o, e1, _, n, d1⟩ := t1
  obtain ⟨o', e2, _, n', d2⟩ := t2
  obtain rfl := Option.some.inj (e1.symm.trans e2)
  rw [d1] at d2
  have z : us.toArray = us'.toArray := by injection d2
  have z2 : us = us' := by simpa using congrArg Array.toList z
  subst z2
  exact ⟨us, r1, r2⟩
theorem valsI_uniq : ∀ {xs ys : List Int} {us : List Value}, Vals (xs.map V.int) us → Vals (ys.map V.int) us → xs = ys
  | [], [], _, _, _ => rfl
  | [], _ :: _, _, r1, r2 => by cases r1; cases r2
  | _ :: _, [], _, r1, r2 => by cases r2; cases r1
  | x :: xs, y :: ys, _, r1, r2 => by
    cases r1 with
    | cons a b =>
      cases r2 with
      | cons c d =>
        obtain ⟨t, rfl⟩ := (show ∃ t, _ = Value.int x t from a)
        obtain ⟨t', e⟩ := (show ∃ t', _ = Value.int y t' from c)
        injection e with e1
        rw [e1, valsI_uniq b d]
theorem valsS_uniq : ∀ {xs ys : List Str} {us : List Value}, Vals (xs.map V.str) us → Vals (ys.map V.str) us → xs = ys
  | [], [], _, _, _ => rfl
  | [], _ :: _, _, r1, r2 => by cases r1; cases r2
  | _ :: _, [], _, r1, r2 => by cases r2; cases r1
  | x :: xs, y :: ys, _, r1, r2 => by
    cases r1 with
    | cons a b =>
      cases r2 with
      | cons c d =>
        obtain ⟨t, rfl⟩ := (show ∃ t, _ = Value.str x t from a)
        obtain ⟨t', e⟩ := (show ∃ t', _ = Value.str y t' from c)
        injection e with e1
        rw [e1, valsS_uniq b d]
/-- x == y, x != y -/
def rEqB (ne : Bool) (D : EqvB) : R2 := fun x y H Q => ∃ b, D x y b H ∧ ∀ H', Ext H H' → Q (.bl (if ne = true then !b else b)) H'
theorem op_eqB (h : RcB X n false D) (hr : Room n X.A) : OpR X (compareOp .Eq) (rEqB false D) := by
  intro pins s σ H x y v u Q I rx ry hq
  obtain ⟨b, d, q⟩ := hq
  show wpAny (model X.prog X.w) X.A (richCompare .Eq v u) (EP X pins σ Q) X.xe s
  refine wpAny_mono (h X.A pins s σ H x y v u b ⟨hr, rfl⟩ I rx ry d) (fun r s' z => ?_) fun _ _ x => x
  obtain ⟨hr', H', I', e⟩ := z
  subst hr'
  exact ⟨.bl b, H', I', rfl, q H' e⟩
theorem op_neB (h : RcB X n true D) (hr : Room n X.A) : OpR X (compareOp .NotEq) (rEqB true D) := by
  intro pins s σ H x y v u Q I rx ry hq
  obtain ⟨b, d, q⟩ := hq
  show wpAny (model X.prog X.w) X.A (richCompare .NotEq v u) (EP X pins σ Q) X.xe s
  refine wpAny_mono (h X.A pins s σ H x y v u b ⟨hr, rfl⟩ I rx ry d) (fun r s' z => ?_) fun _ _ x => x
  obtain ⟨hr', H', I', e⟩ := z
  subst hr'
  exact ⟨.bl (!b), H', I', rfl, q H' e⟩
end
end My
/-! a def that calls what it got: whether an error came -/
namespace My
open PySem L2 LamX PyProof.Rows
/-- try: a() / except x: return True / return False -/
def TToldB (K : PySem.W.Frag) (C : Addr) : (XK → Hp → VK → Prop) → Hp → VK → Prop := fun tl H Q => tl (fun cls _ H' => ∃ b, PySem.W.exmOne K cls (.ref C) = some b ∧ (b = true → Q (.bl true) H') ∧ (b = false → False)) H fun _ H' => Q (.bl false) H'
def tsB (r : Bool) : Addr → Value → Option Addr → TS := fun _ _ _ => tRet (tC (.bl r))
section
variable {X : Cx}
theorem toldB_gives {Ng : List Str} {x a q e : Str} {sg : Scope} {g C : Addr} {cdg : Value} {p1 p2 p3 p4 p5 p6 p7 p8 p9 pn0 : Pos} {j jn : Nat} (hge : sg.names.lookup e = some .globalImplicit) (hme : X.mg e = some (.ref C)) (hde : (e == ("__debug__" : Str)) = false) (h0 : ∀ f : Addr, (L2.start Ng [V.ref f])[0]? = some (some (V.ref f))) :
    GivesTo X Ng x sg g cdg [.Try [.Expr (.Call (.Name a p1) [] [] p2) p3] [.ExceptHandler (some (.Name e p4)) none [.Return (some (.Constant (.bool true) j p5)) p6] p7] [] [] p8, .Return (some (.Constant (.bool false) jn pn0)) p9] a q (TToldB X.K C) := by
  intro f c' s H Q tl act hc h
  refine ⟨_, pss_cons (ps_try_many (X := (cxOf C8.CX0 X.prog X.w X.K X.mg X.base Ng x sg g cdg X.A X.stack s H C8.E0).nox) (Wout := fun _ _ _ _ => False) (l := [(Value.ref C, tsB true)])
      (tb := fun W D σ H => ∃ Ech : XK, (∀ cls d σ' H', Ech cls d H' → W cls d σ' H') ∧ σ[0]? = some (some (.ref f)) ∧ H c' = some (CodeO c' q) ∧ tl Ech H fun _ H' => D.nx σ H')
      rfl rfl takes_none5 (fun W pn xe tk _ => ?_) (.cons ⟨hge, hde, .inl hme⟩ (fun a oe cls d pn _ _ => pss_one (ps_ret pe_bl)) .nil)) (pss_one (ps_ret pe_bl)), ?_⟩
  · refine ⟨fun pins s' σ H' D I h' => ?_⟩
    obtain ⟨Ech, hW, h1, h2, h3⟩ := h'
    have hp := act W pn xe Ech p1 p2 tk hW
    have hq := pss_one (ps_expr (pos := p3) hp)
    exact hq.run pins s' σ H' D I ⟨h1, h2, h3⟩
  · exact ⟨fun cls _ H' => ∃ b, PySem.W.exmOne X.K cls (.ref C) = some b ∧ (b = true → Q (.bl true) H') ∧ (b = false → False), fun cls d σ' H' ⟨b, e1, e2, e3⟩ => ⟨b, e1, fun hb a _ => e2 hb, fun hb => e3 hb⟩, h0 f, hc, h⟩
end
theorem toldB_to {K : PySem.W.Frag} {C : Addr} {tl : (XK → Hp → VK → Prop)} {H : Hp} {Q0 : VK} (Pv : V → Hp → Prop) (a : ∀ Q : VK, (∀ v H', Pv v H' → Q v H') → TToldB K C tl H Q) (b : ∀ v H', Pv v H' → Q0 v H') : TToldB K C tl H Q0 := a Q0 b
/-- what holds behind an expression, named -/
def tMidE (te : TE) : TE := fun σ H Q => ∃ Pv : V → Hp → Prop, te σ H Pv ∧ ∀ v H', Pv v H' → Q v H'
theorem pe_mid {X : Cx} {e : Expr} {te : TE} (h : PE X e te) : PE X e (tMidE te) := ⟨fun pins s σ H Q I ⟨Pv, h1, h2⟩ => wpAny_mono (h.run pins s σ H Pv I h1) (fun u s' ⟨v, H', I', r, q⟩ => ⟨v, H', I', r, h2 v H' q⟩) fun _ _ z => z⟩
end My
/-! x != None by an own __eq__; min of a list of pairs of a number and a text -/
namespace My
open PySem PySem.Spec L2 LamX PyProof.Rows
section
open PySem.W
variable {prog : Program} {w : World} {A : Around} {E : Value → Shared → Prop} {s : Shared} {K : Frag} {x C f : Addr} {ox : Obj} {od : Option Obj} {b tb : Value}
theorem ne_KV {Q : Value → Shared → Prop} (hu : A.units + 1 < cLine) (X : K.In s.heap) (I : InstAt s.heap x ox C od) (hb : Looks (model prog w) s.heap (typeOf b) tb) (hn : notFirst K C tb = true) (hs : findIn K (.ref C) "__ne__" = some (some (.builtin "object.__ne__")))
    (ho : subIn K (.ref C) (.type "object") = some true) (he : findIn K (.ref C) "__eq__" = some (some (.ref f))) (hf : isFn K (.ref f) = true)
    (h : wpAny (model prog w) A.in1 (call (.ref f) [.ref x, b]) (fun v s' => ∃ r, v = .bool r ∧ Q (.bool (!r)) s') E s) : wpAny (model prog w) A (richCompare .NotEq (.ref x) b) Q E s := by
  have one : wpAny (model prog w) A (tryCompare (.ref x) (cmpInfo .NotEq).2.1 b) (fun r s' => ∃ v, r = some v ∧ Q v s') E s := by
    unfold tryCompare
    refine wpAny_bind (ifBound_ne X I hs (wpAny_call (codeAny_call_builtin PySem.F.cmp_object.ne.plain PySem.F.cmpEntry_ne (check_slot PySem.F.cmpKind_ne PySem.F.cmpSplit_ne (I.type.andThen (looks_subIn X ho)) (PySem.F.cmpArgs_ne _ _) ?_))))
    have hb : wpAny (model prog w) A.in1 (callSpecialIfBound? (.ref x) "__eq__" [b]) (fun o s' => ∃ r, o = some (.bool r) ∧ Q (.bool (!r)) s') E s := ifBound_K X I he hf (wpAny_mono h (fun v s' ⟨r, e, q⟩ => ⟨r, by rw [e], q⟩) fun _ _ e => e)
    obtain ⟨hh, g, d, tk, os⟩ := s
    unfold Builtin.«object.__ne__»
    repeat (first | with_reducible refine wpAny_cRoomFor hu ?_ | with_reducible refine wpAny_mono hb (fun o s' ho => ?_) (fun _ _ e => ?_) | wp_step)
    · obtain ⟨r, rfl, q⟩ := ho
      refine wpAny_bind (wpAny_truthy_bool ?_)
      exact wpAny_pure (wpAny_pure ⟨_, rfl, q⟩)
    · assumption
  unfold richCompare
  simp only [oneThing_ref]
  refine wpAny_holding (wpAny_bind (wpAny_cRoomFor (Nat.lt_of_succ_lt hu) ?_))
  refine wpAny_bind (I.type.here (wpAny_bind (hb.here ?_)))
  have fin : wpAny (model prog w) A (tryCompare (.ref x) (cmpInfo .NotEq).2.1 b) (fun r s' => ∃ v, r = some v ∧ Q v s') E s := one
  split
  · rename_i q
    have e : subIn K tb (.ref C) = some false := by
      rcases Bool.or_eq_true_iff.mp hn with e | e
      · rw [beq_iff_eq.mp e] at q; simp at q
      · exact beq_iff_eq.mp e
    refine wpAny_bind ((looks_subIn X e).here ?_)
    simp only [Bool.false_eq_true, if_false]
    refine wpAny_bind (wpAny_mono one (fun r s' z => ?_) fun _ _ e => e)
    obtain ⟨v, rfl, hq⟩ := z
    exact wpAny_pure hq
  · refine wpAny_bind (wpAny_pure ?_)
    simp only [Bool.false_eq_true, if_false]
    refine wpAny_bind (wpAny_mono one (fun r s' z => ?_) fun _ _ e => e)
    obtain ⟨v, rfl, hq⟩ := z
    exact wpAny_pure hq
end
section
variable {X : Cx} {n : Nat}
/-- x != None -/
theorem rcB_nonNe {C f : Addr} {fd : FuncData} {ps : List Str} {R : Addr → V → Bool → Hp → Prop} (c : EqC X.K C f) (hn : PySem.W.subIn X.K (.type "NoneType") (.ref C) = some false) (F : FnOk X.prog X.w X.K X.mg X.base C8.CX0 n f fd ps (spEqB R)) (hb : Binds X.K fd ps []) : RcB X (n + 1) true (DNonB C R) := by
  intro A pins s σ H x y u v b sb I rx ry d
  obtain ⟨p, dx, fs, rfl, rfl, hp, hr⟩ := d
  cases rx
  cases ry
  obtain ⟨mA, J, _⟩ := ins_get I.hok hp
  obtain ⟨od, J, _⟩ := J.look
  refine ne_KV (tb := .type "NoneType") sb.in1.room.units0 I.kIn J (PySem.W.Looks.of_pure rfl) (by unfold PySem.W.notFirst; rw [hn]; simp) c.ne c.ob c.eq c.fn (wpAny_mono (run_eqB (C := C) (y := .non) F hb sb.in1.room sb.in1.fr I rfl hr) (fun v s' hv => ?_) fun _ _ e => e)
  obtain ⟨rfl, q⟩ := hv
  exact ⟨b, rfl, rfl, q⟩
/-! ### min of pairs -/
def prD (p : Int × Str) : PyData := .tuple [.int p.1, .str p.2]
/-- the object holds this pair -/
def PairAt (K : PySem.W.Frag) (H : Hp) (v : V) (p : Int × Str) : Prop := ∃ a, v = .ref a ∧ SqT K H a [.int p.1, .str p.2]
theorem pair_dp {K : PySem.W.Frag} {H : Hp} {v : V} {p : Int × Str} (h : PairAt K H v p) : Dp K H v (prD p) := by
  obtain ⟨a, rfl, h⟩ := h
  exact .tup h (.cons (.int _) (.cons (.str _) .nil))
theorem pairs_dp {K : PySem.W.Frag} {H : Hp} : ∀ {xs : List V} {ps : List (Int × Str)}, xs.length = ps.length → (∀ (i : Nat) x p, xs[i]? = some x → ps[i]? = some p → PairAt K H x p) → DpAll K H xs (ps.map prD)
  | [], [], _, _ => .nil
  | [], _ :: _, h, _ => by cases h
  | _ :: _, [], h, _ => by cases h
  | x :: xs, p :: ps, h, hp => .cons (pair_dp (hp 0 x p rfl rfl)) (pairs_dp (Nat.succ.inj h) fun i y q h1 h2 => hp (i + 1) y q h1 h2)
theorem pairs_alike (ps : List (Int × Str)) : PySem.W.AlikeAll (ps.map prD) := by
  refine ⟨fun x hx y hy => ?_, fun x hx => ?_⟩
  · obtain ⟨p, _, rfl⟩ := List.mem_map.mp hx
    obtain ⟨q, _, rfl⟩ := List.mem_map.mp hy
    rfl
  · obtain ⟨p, _, rfl⟩ := List.mem_map.mp hx
    exact nofun
def ltP (p q : Int × Str) : Bool := PySem.W.dataLt (prD p) (prD q)
def minP (p : Int × Str) (ps : List (Int × Str)) : Int × Str := ps.foldl (fun a y => if ltP y a = true then y else a) p
theorem minD_P : ∀ (ps : List (Int × Str)) (p : Int × Str), PySem.W.minD (prD p) (ps.map prD) = prD (minP p ps)
  | [], _ => rfl
  | q :: ps, p => by
    show PySem.W.minD (if PySem.W.dataLt (prD q) (prD p) then prD q else prD p) (ps.map prD) = prD (minP (if ltP q p = true then q else p) ps)
    have e : (if PySem.W.dataLt (prD q) (prD p) then prD q else prD p) = prD (if ltP q p = true then q else p) := by
      unfold ltP
      split <;> rfl
    rw [e]
    exact minD_P ps _
def rMinP (K : PySem.W.Frag) : List V → Hp → VK → Prop := fun vs H Q => ∃ (a : Addr) (xs : List V) (p : Int × Str) (ps : List (Int × Str)), vs = [V.ref a] ∧ SqL K H a xs ∧ xs.length = ps.length + 1 ∧ (∀ (i : Nat) x q, xs[i]? = some x → (p :: ps)[i]? = some q → PairAt K H x q) ∧
  ∀ v, v ∈ xs → PairAt K H v (minP p ps) → Q v H
theorem reads_int {h : Heap} {i j : Int} {t : Tok} {bs : List Addr} (r : Reads h (.int i t) (.int j) bs) : i = j := by
  cases r
  rfl
theorem reads_str {h : Heap} {i j : Str} {t : Tok} {bs : List Addr} (r : Reads h (.str i t) (.str j) bs) : i = j := by
  cases r
  rfl
theorem pairs_depth : ∀ ps : List (Int × Str), PyData.depthAll (ps.map prD) ≤ 2
  | [] => Nat.zero_le _
  | p :: ps => by
    show max (prD p).depth (PyData.depthAll (ps.map prD)) ≤ 2
    have := pairs_depth ps
    have h2 : (prD p).depth ≤ 2 := by show (max 0 (max 0 0)) + 1 ≤ 2; decide
    omega
theorem cr_minP (hc : X.calm = true) (hu : X.A.units + 64 < cLine) : CallR X (.builtin "min") (rMinP X.K) := by
  intro pins s σ H vs us Q I r h
  obtain ⟨a, xs, p, ps, rfl, hs, hl, hp, q⟩ := h
  obtain ⟨its, rv, hL, _⟩ := I.list hs
  rw [Vals.ref1 r]
  have dp := pairs_dp (ps := p :: ps) hl hp
  obtain ⟨as, ra⟩ := Dp.readsAll I ((p :: ps).map prD) xs its dp rv
  refine PySem.W.min_list_data (x := prD p) (xs := ps.map prD) (I.ok.hd hc) hL.isList (by simpa using ra) (pairs_alike (p :: ps)) (by have := pairs_depth (p :: ps); show _ + 1 + PyData.depthAll ((p :: ps).map prD) < _; omega) fun i v h' tk bs hv hR hk => ?_
  have hv' : its[i]? = some v := by simpa using hv
  have hi : i < its.length := (List.getElem?_eq_some_iff.mp hv').1
  have hx : i < xs.length := by rw [rv.length]; exact hi
  obtain ⟨v2, g1, rx⟩ := rv.get (List.getElem?_eq_getElem hx)
  rw [hv'] at g1
  obtain rfl := Option.some.inj g1
  have hq : i < (p :: ps).length := by rw [List.length_cons, ← hl]; exact hx
  obtain ⟨b, eb, hb⟩ := hp i _ _ (List.getElem?_eq_getElem hx) (List.getElem?_eq_getElem hq)
  refine ⟨xs[i], H, I.kept hk, rx, q _ (List.getElem_mem hx) ?_⟩
  refine ⟨b, eb, ?_⟩
  rw [eb] at rx
  obtain rfl : v = Value.ref b := rx
  rw [minD_P] at hR
  have e : minP p ps = (p :: ps)[i] := by
    obtain ⟨us', r1, t1, _⟩ := I.tuple hb
    obtain ⟨o, e1, _, n, d1⟩ := t1
    have e1' := hk _ _ e1
    unfold prD at hR
    cases hR with
    | tuple k1 k2 k3 k4 =>
      rename_i o2 vs2 n2
      obtain rfl := Option.some.inj (e1'.symm.trans k1)
      rw [d1] at k3
      injection k3 with k5 k6
      subst k5
      cases r1 with
      | cons a1 b1 =>
        cases b1 with
        | cons a2 b2 =>
          cases b2
          obtain ⟨t1, rfl⟩ := (show ∃ t, _ = Value.int _ t from a1)
          obtain ⟨t2, rfl⟩ := (show ∃ t, _ = Value.str _ t from a2)
          have k7 : ReadsAll h' [Value.int ((p :: ps)[i]).1 t1, Value.str ((p :: ps)[i]).2 t2] [.int (minP p ps).1, .str (minP p ps).2] bs := by simpa using k4
          cases k7 with
          | cons c1 c2 =>
            cases c2 with
            | cons c3 c4 =>
              have z1 : ((p :: ps)[i]).1 = (minP p ps).1 := reads_int c1
              have z2 : ((p :: ps)[i]).2 = (minP p ps).2 := reads_str c3
              exact (Prod.ext z1 z2).symm
  rw [e]
  exact hb
end
end My
/-! a def that calls what it got: what comes of it, or which error came -/
namespace My
open PySem L2 LamX PyProof.Rows
/-- try: return a() / except x: return r / .. -/
def TToldR (K : PySem.W.Frag) (l : List (Addr × Str)) : (XK → Hp → VK → Prop) → Hp → VK → Prop := fun tl H Q => tl (wChain K Q l) H Q
section
variable {X : Cx}
theorem toldR_gives {Ng : List Str} {x a q : Str} {sg : Scope} {g : Addr} {cdg : Value} {h₀ : ExceptHandler} {hds : List ExceptHandler} {l : List (Addr × Str)} {p1 p2 p3 p8 : Pos} (hT : HdsT X.mg sg (h₀ :: hds) l) (h0 : ∀ f : Addr, (L2.start Ng [V.ref f])[0]? = some (some (V.ref f))) :
    GivesTo X Ng x sg g cdg [.Try [.Return (some (.Call (.Name a p1) [] [] p2)) p3] (h₀ :: hds) [] [] p8] a q (TToldR X.K l) := by
  intro f c' s H Q tl act hc h
  refine ⟨_, pss_one (ps_try_many (X := (cxOf C8.CX0 X.prog X.w X.K X.mg X.base Ng x sg g cdg X.A X.stack s H C8.E0).nox) (Wout := fun _ _ _ _ => False)
      (tb := fun W D σ H => ∃ Ech : XK, (∀ cls d σ' H', Ech cls d H' → W cls d σ' H') ∧ σ[0]? = some (some (.ref f)) ∧ H c' = some (CodeO c' q) ∧ tl Ech H fun v H' => D.rt v H')
      rfl rfl takes_none5 (fun W pn xe tk _ => ?_) (hds_ok rfl rfl hT)), ?_⟩
  · refine ⟨fun pins s' σ H' D I h' => ?_⟩
    obtain ⟨Ech, hW, h1, h2, h3⟩ := h'
    have hp := act W pn xe Ech p1 p2 tk hW
    have hq := pss_one (ps_ret (pos := p3) hp)
    exact hq.run pins s' σ H' D I ⟨h1, h2, h3⟩
  · exact ⟨wChain X.K Q l, fun cls d σ' H' z => wMany_chain l z, h0 f, hc, h⟩
end
theorem toldR_to {K : PySem.W.Frag} {l : List (Addr × Str)} {tl : (XK → Hp → VK → Prop)} {H : Hp} {Q0 : VK} (Pv : V → Hp → Prop) (a : ∀ Q : VK, (∀ v H', Pv v H' → Q v H') → TToldR K l tl H Q) (b : ∀ v H', Pv v H' → Q0 v H') : TToldR K l tl H Q0 := a Q0 b
end My
/-! x in c, x not in c, of data without dicts -/
namespace My
open PySem L2 LamX PyProof.Rows
section
variable {X : Cx}
def rInD (K : PySem.W.Frag) (neg : Bool) : R2 := fun x y H Q => ∃ (d : PyData) (xs : List PyData), Dp K H x d ∧ (Dp K H y (.list xs) ∨ Dp K H y (.tuple xs)) ∧ PyData.plainAll xs = true ∧ d.plain = true ∧ d.depth ≤ 32 ∧ Q (.bl (if neg then !xs.any fun z => PyData.eqv z d else xs.any fun z => PyData.eqv z d)) H
theorem op_inD (hu : X.A.units + 64 < cLine) : OpR X (compareOp .In) (rInD X.K false) := by
  intro pins s σ H x y v u Q I rx ry h
  obtain ⟨d, xs, hd, hc, hp, hp2, hl, q⟩ := h
  obtain ⟨as, r1⟩ := Dp.reads I d x v hd rx
  have hm : X.A.units + 1 + min (PyData.depthAll xs) d.depth < cLine := by
    have := Nat.min_le_right (PyData.depthAll xs) d.depth
    omega
  rcases hc with hc | hc
  · obtain ⟨bs, r2⟩ := Dp.reads I _ y u hc ry
    exact SeqAt.in_list_data r2 r1 hp hp2 hm ⟨.bl _, H, I, rfl, q⟩
  · obtain ⟨bs, r2⟩ := Dp.reads I _ y u hc ry
    exact SeqAt.in_tuple_data r2 r1 hp hp2 hm ⟨.bl _, H, I, rfl, q⟩
theorem op_notInD (hu : X.A.units + 64 < cLine) : OpR X (compareOp .NotIn) (rInD X.K true) := by
  intro pins s σ H x y v u Q I rx ry h
  obtain ⟨d, xs, hd, hc, hp, hp2, hl, q⟩ := h
  obtain ⟨as, r1⟩ := Dp.reads I d x v hd rx
  have hm : X.A.units + 1 + min (PyData.depthAll xs) d.depth < cLine := by
    have := Nat.min_le_right (PyData.depthAll xs) d.depth
    omega
  rcases hc with hc | hc
  · obtain ⟨bs, r2⟩ := Dp.reads I _ y u hc ry
    exact SeqAt.notIn_list_data r2 r1 hp hp2 hm ⟨.bl _, H, I, rfl, q⟩
  · obtain ⟨bs, r2⟩ := Dp.reads I _ y u hc ry
    exact SeqAt.notIn_tuple_data r2 r1 hp hp2 hm ⟨.bl _, H, I, rfl, q⟩
theorem op_inDK {K : PySem.W.Frag} (h : X.K = K) (hu : X.A.units + 64 < cLine) : OpR X (compareOp .In) (rInD K false) := by
  subst h
  exact op_inD hu
theorem op_notInDK {K : PySem.W.Frag} (h : X.K = K) (hu : X.A.units + 64 < cLine) : OpR X (compareOp .NotIn) (rInD K true) := by
  subst h
  exact op_notInD hu
end
theorem rInD_to {K : PySem.W.Frag} {neg : Bool} {x y : V} {d : PyData} {xs : List PyData} {b : Bool} {H : Hp} {Q : VK} (h1 : Dp K H x d) (h2 : Dp K H y (.list xs) ∨ Dp K H y (.tuple xs)) (p1 : PyData.plainAll xs = true) (p2 : d.plain = true) (hl : d.depth ≤ 32) (e : (if neg then !xs.any fun z => PyData.eqv z d else xs.any fun z => PyData.eqv z d) = b) (q : Q (.bl b) H) : rInD K neg x y H Q :=
  ⟨d, xs, h1, h2, p1, p2, hl, by rw [e]; exact q⟩
end My
/-! try with several clauses, any of them with a name -/
namespace My
open PySem L2 LamX PyProof.Rows
/-- an exception of the body that stands before the clauses -/
def Fell (X : Cx) (pins : List (Addr × Obj)) (σ : L2.St) (H : Hp) (a : Addr) (cls : Value) (d : Option Addr) (s : Shared) : Prop := ∃ (B : Heap) (sI : Shared),
  L2.Inv X pins σ H sI ∧ (∀ (b : Addr) (o : Obj), sI.heap.get? b = some o → b ∉ frs X.stack → B.get? b = some o) ∧ sI.heap.UpToSlots s.heap ∧ HandSPX.FlyingZ B (X.env :: X.outer) a (Zc cls d) s.heap ∧ H a = none ∧ s.os = sI.os ∧ AllBare s.gens
section
variable {X : Cx} {pins : List (Addr × Obj)} {σ : L2.St} {H : Hp} {a : Addr} {cls : Value} {d : Option Addr} {s : Shared}
theorem Fell.inv (F : Fell X pins σ H a cls d s) : L2.Inv X pins σ H s := by
  obtain ⟨B, sI, J, nb, up, fl, _, os, ag⟩ := F
  exact J.landed nb fl.1 up os ag
theorem Fell.at (hs : X.stack = X.env :: X.outer) (hf : X.env.frame = some X.env.locals) (F : Fell X pins σ H a cls d s) :
    ∃ (oe : Obj) (vs : Array Value), s.heap.get? a = some oe ∧ Zc cls d oe ∧ oe.data = .fields vs ∧ L2.Inv (X.suite a ((a, oe) :: (X.pn ++ pins))) [] σ H s := by
  have J := F.inv
  obtain ⟨B, sI, _, _, _, fl, na, _, _⟩ := F
  obtain ⟨oe, vs, e1, e2, e3⟩ := fl.there
  have off : a ∉ frs (X.env :: X.outer) := fun hm => by
    obtain ⟨_, o', q1, q2⟩ := fl.2.2.1.mem hm
    have q3 := Option.some.inj (e1.symm.trans q1)
    subst q3
    exact q2 _ e3
  refine ⟨oe, vs, e1, e2, e3, J.suite e1 e3 na (fun z => off ?_) (fun hm => off ?_)⟩
  · exact List.mem_filterMap.mpr ⟨X.env, .head _, by rw [hf, z]⟩
  · obtain ⟨v, hv, q⟩ := List.mem_filterMap.mp hm
    exact List.mem_filterMap.mpr ⟨v, .tail _ hv, q⟩
/-- a clause: its class, its name's slot, its suite's reading -/
abbrev Cl := Value × Option Nat × (Addr → Value → Option Addr → TS)
def unName (i : Nat) (D : Ends) : Ends := { nx := fun σ H => D.nx (σ.set i none) H, rt := D.rt, bk := fun σ H => D.bk (σ.set i none) H, ct := fun σ H => D.ct (σ.set i none) H }
def runCl (o : Option Nat) (ts : Addr → Value → Option Addr → TS) (a : Addr) (cls : Value) (d : Option Addr) : TS := fun D σ H => match o with
  | none => ts a cls d D σ H
  | some i => i < σ.length → ts a cls d (unName i D) (σ.set i (some (.ref a))) H
def wAll (K : PySem.W.Frag) (Wout : WX) (D : Ends) : List Cl → WX
  | [] => Wout
  | (c, o, ts) :: r => fun cls d σ H => ∃ b, PySem.W.exmOne K cls c = some b ∧ (b = true → ∀ a, H a = none → runCl o ts a cls d D σ H) ∧ (b = false → wAll K Wout D r cls d σ H)
def SuiteOk (X : Cx) (suite : List Stmt) (ts : Addr → Value → Option Addr → TS) : Prop := ∀ (a : Addr) (oe : Obj) (cls : Value) (d : Option Addr) (pn : List (Addr × Obj)), Zc cls d oe → (∃ vs, oe.data = .fields vs) → PSs (X.suite a ((a, oe) :: pn)) suite (ts a cls d)
inductive ClsOk (X : Cx) : List ExceptHandler → List Cl → Prop
  | nil : ClsOk X [] []
  | plain {x : Str} {c : Value} {ts : Addr → Value → Option Addr → TS} {b₀ : Stmt} {suite : List Stmt} {np p' : Pos} {hds : List ExceptHandler} {l : List Cl} (hc : Names X x c) (hsu : SuiteOk X (b₀ :: suite) ts) (r : ClsOk X hds l) :
      ClsOk X (.ExceptHandler (some (.Name x np)) none (b₀ :: suite) p' :: hds) ((c, none, ts) :: l)
  | named {x n : Str} {i : Nat} {c : Value} {ts : Addr → Value → Option Addr → TS} {b₀ : Stmt} {suite : List Stmt} {np p' : Pos} {hds : List ExceptHandler} {l : List Cl} (hN : X.N.Nodup) (hi : X.N[i]? = some n) (hl : X.env.kindOf n = some .local) (hc : Names X x c) (hsu : SuiteOk X (b₀ :: suite) ts) (r : ClsOk X hds l) :
      ClsOk X (.ExceptHandler (some (.Name x np)) (some n) (b₀ :: suite) p' :: hds) ((c, some i, ts) :: l)
/-- the class that a clause names is held against the exception -/
theorem Fell.test {x : Str} {c : Value} {np : Pos} {b : Bool} (hs : X.stack = X.env :: X.outer) (hf : X.env.frame = some X.env.locals) (hc : Names X x c) (F : Fell X pins σ H a cls d s) (hb : PySem.W.exmOne X.K cls c = some b) {Q : Bool → Shared → Prop} {E : Value → Shared → Prop} (q : Q b s) :
    wpAny (model X.prog X.w) (X.A.mark (some (.ref a))) (eval (.Name x np) X.env) (fun v s' => wpAny (model X.prog X.w) (X.A.mark (some (.ref a))) (excMatches (.ref a) v) Q E s') E s := by
  obtain ⟨oe, vs, e1, e2, e3, S⟩ := F.at hs hf
  have LT : PySem.W.Looks (model X.prog X.w) s.heap (typeOf (.ref a)) cls := fun A Q E s' k q => wpAny_typeOf_ref (k _ _ e1) (by rw [e2.1]; exact q)
  have LM := PySem.W.exm_one (M := model X.prog X.w) F.inv.kIn LT hb
  obtain ⟨hg, hd, hm | ⟨hm, hv, hn⟩⟩ := hc
  · exact ld_glob (X := X.suite a ((a, oe) :: (X.pn ++ pins))) S hg hm (LM.here q) hd
  · exact ld_blt (X := X.suite a ((a, oe) :: (X.pn ++ pins))) S hg hm hv (LM.here q) hn hd
/-- the exception takes off again for its suite -/
theorem Fell.on {M : Model} {A : Around} {E : Value → Shared → Prop} {Q : Unit → Shared → Prop} (F : Fell X pins σ H a cls d s) (q : ∀ s', Fell X pins σ H a cls d s' → Q () s') : wpAny M A (setFlight (.ref a) none) Q E s := by
  obtain ⟨B, sI, J, nb, up, fl, na, os, ag⟩ := F
  exact HandSPX.lands_againZ fl fun h' fl' up' => q _ ⟨B, sI, J, nb, up.trans up', fl', na, os, ag⟩
/-- no clause was meant -/
theorem Fell.out {Wout : WX} {Q : Flow → Shared → Prop} (hs : X.stack = X.env :: X.outer) (hf : X.env.frame = some X.env.locals) (tk : Takes X Wout) (F : Fell X pins σ H a cls d s) (hw : Wout cls d σ H) : wpAny (model X.prog X.w) X.A (handleBy (.ref a) X.env []) Q X.xe s := by
  obtain ⟨B, sI, J, nb, up, fl, na, os, ag⟩ := F
  obtain ⟨_, _, _, o, fs, tr, _, _, g1, _, g2, g3, _⟩ := id fl
  have last : wpAny (model X.prog X.w) X.A (setFlight (.ref a) X.env.frame) (fun _ z => wpAny (model X.prog X.w) X.A (throw (.ref a) : Sem Flow) Q X.xe z) X.xe s := by
    rw [hf]
    exact HandSPX.setFlight_upZ fl fun h' hd' up' => wpAny_throw (tk _ _ ⟨a, B, sI, pins, σ, H, cls, d, rfl, J, nb, up.trans up', .inr (.inr (hs ▸ hd')), na, os, ag, hw⟩)
  refine wpAny_handleBy_nil ?_
  unfold PySem.passOn
  refine wpAny_bind (wpAny_field g1 g2 g3 ?_)
  rw [if_neg (show ¬ (Value.ref tr == Value.none) = true from by simp)]
  first
    | exact wpAny_bind (wpAny_pure (wpAny_bind last))
    | exact wpAny_bind last
theorem Fell.caught {Wout : WX} {D : Ends} (ok : X.Ok) (hs : X.stack = X.env :: X.outer) (hf : X.env.frame = some X.env.locals) (tk : Takes X Wout) {hds : List ExceptHandler} {l : List Cl} (hk : ClsOk X hds l) :
    ∀ {s : Shared}, Fell X pins σ H a cls d s → wAll X.K Wout D l cls d σ H → wpAny (model X.prog X.w) X.A (handleBy (.ref a) X.env hds) (SP X pins D) X.xe s := by
  induction hk with
  | nil => exact fun F hw => F.out hs hf tk hw
  | plain hc hsu r ih =>
    intro s F hw
    obtain ⟨b, h1, h2, h3⟩ := hw
    refine wpAny_handleBy_cons (codeAny_handlers_test (F.test hs hf hc h1 ?_)) (by intro q; cases q)
    cases b with
    | false => exact ih F (h3 rfl)
    | true =>
      refine codeAny_handlers_suite (F.on fun s' F' => ?_)
      obtain ⟨oe, vs, e1, e2, e3, S⟩ := F'.at hs hf
      have na : H a = none := by
        obtain ⟨_, _, _, _, _, _, n, _, _⟩ := F'
        exact n
      refine wpAny_mono ((hsu a oe cls d (X.pn ++ pins) e2 ⟨_, e3⟩).run [] _ _ H _ S (h2 rfl a na)) (fun f s6 hsp => ?_) fun _ _ z => z.elim
      cases f with
      | ret u =>
        obtain ⟨v, σ6, H6, S6, rr, q6⟩ := hsp
        exact ⟨v, σ6, H6, S6.unsuite ok, rr, q6⟩
      | next => exact let ⟨σ6, H6, S6, q6⟩ := hsp; ⟨σ6, H6, S6.unsuite ok, q6⟩
      | brk => exact let ⟨σ6, H6, S6, q6⟩ := hsp; ⟨σ6, H6, S6.unsuite ok, q6⟩
      | cont => exact let ⟨σ6, H6, S6, q6⟩ := hsp; ⟨σ6, H6, S6.unsuite ok, q6⟩
  | named hN hi hl hc hsu r ih =>
    intro s F hw
    obtain ⟨b, h1, h2, h3⟩ := hw
    refine wpAny_handleBy_cons (codeAny_handlers_test (F.test hs hf hc h1 ?_)) (by intro q; cases q)
    cases b with
    | false => exact ih F (h3 rfl)
    | true =>
      refine codeAny_handlers_suite_as (F.on fun s' F' => ?_)
      obtain ⟨oe, vs, e1, e2, e3, S⟩ := F'.at hs hf
      have na : H a = none := by
        obtain ⟨_, _, _, _, _, _, n, _, _⟩ := F'
        exact n
      refine store_ok (X := X.suite a ((a, oe) :: (X.pn ++ pins))) (v := .ref a) S hN hi (.inl hl) rfl (fun s5 S5 => ?_) (.inr hl)
      refine wpAny_mono ((hsu a oe cls d (X.pn ++ pins) e2 ⟨_, e3⟩).run [] s5 _ H _ S5 (h2 rfl a na (by rw [F'.inv.len]; exact (List.getElem?_eq_some_iff.mp hi).1))) (fun f s6 hsp => ?_) fun _ _ z => z.elim
      cases f with
      | ret u =>
        obtain ⟨v, σ6, H6, S6, rr, q6⟩ := hsp
        exact gone_ok (S6.unsuite ok) hN hi hl fun s7 J7 => ⟨v, _, H6, J7, rr, q6⟩
      | next =>
        obtain ⟨σ6, H6, S6, q6⟩ := hsp
        exact gone_ok (S6.unsuite ok) hN hi hl fun s7 J7 => ⟨_, H6, J7, q6⟩
      | brk =>
        obtain ⟨σ6, H6, S6, q6⟩ := hsp
        exact gone_ok (S6.unsuite ok) hN hi hl fun s7 J7 => ⟨_, H6, J7, q6⟩
      | cont =>
        obtain ⟨σ6, H6, S6, q6⟩ := hsp
        exact gone_ok (S6.unsuite ok) hN hi hl fun s7 J7 => ⟨_, H6, J7, q6⟩
end
section
variable {X : Cx} {body : List Stmt} {h₀ : ExceptHandler} {hds : List ExceptHandler} {l : List Cl} {pos : Pos} {tb : WX → TS} {Wout : WX}
theorem ps_try_all (hs : X.stack = X.env :: X.outer) (hf : X.env.frame = some X.env.locals) (tk : Takes X Wout)
    (hb : ∀ (W : WX) (pn : List (Addr × Obj)) (xe : Value → Shared → Prop), Takes (X.tr pn xe) W → PassesOwn (model X.prog X.w) X.A X.env xe → PSs (X.tr pn xe) body (tb W)) (hh : ClsOk X (h₀ :: hds) l) :
    PS X (.Try body (h₀ :: hds) [] [] pos) (fun D σ H => tb (wAll X.K Wout D l) D σ H) := by
  refine ⟨fun pins s σ H D I h => ?_⟩
  have ok := I.ok
  have hfr : X.A.frames = some (X.env :: X.outer) := by rw [ok.frames, hs]
  have down : ∀ u s', XE (X.tr (X.pn ++ pins) (fun e z => wpAny (model X.prog X.w) X.A (noteFrame e X.env) (fun _ z2 => wpAny (model X.prog X.w) X.A (setFlight e none) (fun _ z3 => wpAny (model X.prog X.w) X.A (handleBy e X.env (h₀ :: hds)) (SP X pins D) X.xe z3) X.xe z2) X.xe z)) (wAll X.K Wout D l) u s' →
      wpAny (model X.prog X.w) X.A (noteFrame u X.env) (fun _ z2 => wpAny (model X.prog X.w) X.A (setFlight u none) (fun _ z3 => wpAny (model X.prog X.w) X.A (handleBy u X.env (h₀ :: hds)) (SP X pins D) X.xe z3) X.xe z2) X.xe s' := fun u s' xx => by
    obtain ⟨a, B, sI, pins', σ', H', cls, d, rfl, J', nb, up, sky, na, os, ag, w⟩ := xx
    have sky' : L2.Sky B (X.env :: X.outer) a (Zc cls d) X.env.locals s'.heap := hs ▸ sky
    exact Sky.land Zc.steady hfr hf sky' fun h3 fl up3 => Fell.caught ok hs hf tk hh ⟨B, sI, J'.ofTry ok, nb, up.trans up3, fl, na, os, ag⟩ w
  refine wpAny_Try_except (wpAny_mono ((hb _ (X.pn ++ pins) _ down PassesOwn.looking).run [] s σ H D (I.toTry _) h) (fun f s1 hsp => ?_) fun e s1 he => he)
  cases f with
  | ret u =>
    obtain ⟨v, σ', H', J, rr, q⟩ := hsp
    exact ⟨v, σ', H', J.ofTry ok, rr, q⟩
  | next => exact let ⟨σ', H', J, q⟩ := hsp; wpAny_execs_nil ⟨σ', H', J.ofTry ok, q⟩
  | brk => exact let ⟨σ', H', J, q⟩ := hsp; ⟨σ', H', J.ofTry ok, q⟩
  | cont => exact let ⟨σ', H', J, q⟩ := hsp; ⟨σ', H', J.ofTry ok, q⟩
end
/-! ### a def that calls what it got: which error came, with what it tells -/
abbrev CK := Value → Option Addr → Hp → VK → Prop
def ckW (r : Str) : CK := fun _ _ H Q => Q (.str r) H
def FldOf (C : Addr) (f : Str) (cls : Value) (d : Option Addr) (H : Hp) (v : V) : Prop := cls = .ref C ∧ ∃ (dd : Addr) (fs : List (Str × V)), d = some dd ∧ H dd = some (.xd fs) ∧ fs.lookup f = some v
def ckF (C : Addr) (r f : Str) : CK := fun cls d H Q => ∃ v, FldOf C f cls d H v ∧ ∀ t, H t = none → Q (.ref t) (upd H t (.tup [.str r, v]))
def ckFF (C : Addr) (f g : Str) : CK := fun cls d H Q => ∃ v u, FldOf C f cls d H v ∧ FldOf C g cls d H u ∧ ∀ t, H t = none → Q (.ref t) (upd H t (.tup [v, u]))
def ckWI (r : Str) (n : Int) : CK := fun _ _ H Q => ∀ t, H t = none → Q (.ref t) (upd H t (.tup [.str r, .int n]))
def wChainA (K : PySem.W.Frag) (Q : VK) : List (Addr × CK) → XK
  | [] => fun _ _ _ => False
  | (C, k) :: l => fun cls d H => ∃ b, PySem.W.exmOne K cls (.ref C) = some b ∧ (b = true → k cls d H Q) ∧ (b = false → wChainA K Q l cls d H)
def TToldA (K : PySem.W.Frag) (l : List (Addr × CK)) : (XK → Hp → VK → Prop) → Hp → VK → Prop := fun tl H Q => tl (wChainA K Q l) H fun _ H' => Q .non H'
inductive HdsA (K : PySem.W.Frag) (mg : Str → Option Value) (sg : Scope) (n : Str) : List ExceptHandler → List (Addr × CK) → Prop
  | nil : HdsA K mg sg n [] []
  | word {e r : Str} {C : Addr} {j : Nat} {p4 p5 p6 p7 : Pos} {hs : List ExceptHandler} {l : List (Addr × CK)} (hge : sg.names.lookup e = some .globalImplicit) (hme : mg e = some (.ref C)) (hde : (e == ("__debug__" : Str)) = false) (t : HdsA K mg sg n hs l) :
      HdsA K mg sg n (.ExceptHandler (some (.Name e p4)) none [.Return (some (.Constant (.str r) j p5)) p6] p7 :: hs) ((C, ckW r) :: l)
  | fld {e r f : Str} {C : Addr} {j k : Nat} {p4 p5 p6 p7 q1 q2 q3 : Pos} {hs : List ExceptHandler} {l : List (Addr × CK)} (hge : sg.names.lookup e = some .globalImplicit) (hme : mg e = some (.ref C)) (hde : (e == ("__debug__" : Str)) = false) (T : XfC K C) (hno : PySem.W.findIn K (.ref C) f = some none) (t : HdsA K mg sg n hs l) :
      HdsA K mg sg n (.ExceptHandler (some (.Name e p4)) (some n) [.Return (some (.Tuple [.Constant (.str r) j p5, .Attribute (.Name n q1) f q2] k q3)) p6] p7 :: hs) ((C, ckF C r f) :: l)
  | flds {e f g : Str} {C : Addr} {k : Nat} {p4 p6 p7 q1 q2 q3 q4 q5 : Pos} {hs : List ExceptHandler} {l : List (Addr × CK)} (hge : sg.names.lookup e = some .globalImplicit) (hme : mg e = some (.ref C)) (hde : (e == ("__debug__" : Str)) = false) (T : XfC K C) (hno : PySem.W.findIn K (.ref C) f = some none) (hno2 : PySem.W.findIn K (.ref C) g = some none) (t : HdsA K mg sg n hs l) :
      HdsA K mg sg n (.ExceptHandler (some (.Name e p4)) (some n) [.Return (some (.Tuple [.Attribute (.Name n q1) f q2, .Attribute (.Name n q4) g q5] k q3)) p6] p7 :: hs) ((C, ckFF C f g) :: l)
  | num {e r : Str} {C : Addr} {m : Int} {j j2 k : Nat} {p4 p5 p6 p7 q2 q3 : Pos} {hs : List ExceptHandler} {l : List (Addr × CK)} (hge : sg.names.lookup e = some .globalImplicit) (hme : mg e = some (.ref C)) (hde : (e == ("__debug__" : Str)) = false) (t : HdsA K mg sg n hs l) :
      HdsA K mg sg n (.ExceptHandler (some (.Name e p4)) none [.Return (some (.Tuple [.Constant (.str r) j p5, .Constant (.int m) j2 q2] k q3)) p6] p7 :: hs) ((C, ckWI r m) :: l)
theorem at_set {σ : L2.St} {i : Nat} {v : V} (h : i < σ.length) : (σ.set i (some v))[i]? = some (some v) := List.getElem?_set_self h
theorem hdsA_ok {Y : Cx} {mg : Str → Option Value} {sg : Scope} {n : Str} {i : Nat} (hsc : Y.env.scope = sg) (hmg : Y.mg = mg) (hN : Y.N.Nodup) (hi : Y.N[i]? = some n) (hl : sg.names.lookup n = some .local) (hd1 : (n == ("__debug__" : Str)) = false) (hd2 : (n == ("__classdict__" : Str)) = false) :
    ∀ {hs : List ExceptHandler} {l : List (Addr × CK)}, HdsA Y.K mg sg n hs l → ∃ L : List Cl, ClsOk Y hs L ∧ ∀ (D : Ends) (cls : Value) (d : Option Addr) (σ : L2.St) (H : Hp), wChainA Y.K D.rt l cls d H → wAll Y.K (fun _ _ _ _ => False) D L cls d σ H := by
  intro hs l h
  have lk : Y.env.kindOf n = some .local := by
    show Y.env.scope.names.lookup n = _
    rw [hsc]
    exact hl
  have nm : ∀ {e : Str} {C : Addr}, sg.names.lookup e = some .globalImplicit → mg e = some (.ref C) → (e == ("__debug__" : Str)) = false → Names Y e (.ref C) := fun {e C} hge hme hde => ⟨by show Y.env.scope.names.lookup _ = _; rw [hsc]; exact hge, hde, .inl (by rw [hmg]; exact hme)⟩
  induction h with
  | nil => exact ⟨[], .nil, fun D cls d σ H z => z.elim⟩
  | word hge hme hde t ih =>
    obtain ⟨L, h1, h2⟩ := ih
    refine ⟨(_, none, fun _ _ _ => tRet (tC (.str _))) :: L, .plain (nm hge hme hde) (fun a oe cls d pn _ _ => pss_one (ps_ret pe_str)) h1, fun D cls d σ H ⟨b, e1, e2, e3⟩ => ⟨b, e1, fun e a _ => e2 e, fun e => h2 D cls d σ H (e3 e)⟩⟩
  | num hge hme hde t ih =>
    obtain ⟨L, h1, h2⟩ := ih
    refine ⟨(_, none, fun _ _ _ => tRet _) :: L, .plain (nm hge hme hde) (fun a oe cls d pn _ _ => pss_one (ps_ret (pe_tup (pa_cons pe_str (pa_cons pe_int pa_nil))))) h1, fun D cls d σ H ⟨b, e1, e2, e3⟩ => ⟨b, e1, fun e a _ => ?_, fun e => h2 D cls d σ H (e3 e)⟩⟩
    exact ⟨by show 2 ≤ sizeLine; decide, fun t ht => e2 e t ht⟩
  | fld hge hme hde T hno t ih =>
    obtain ⟨L, h1, h2⟩ := ih
    refine ⟨(_, some i, fun a cls d => tRet _) :: L, .named hN hi lk (nm hge hme hde) (fun a oe cls d pn hz hf => pss_one (ps_ret (pe_tup (pa_cons pe_str (pa_cons (pe_xf (a := a) (cls := cls) (d := d) T hno hz hf (pe_var hi (.inl lk) hd1 hd2)) pa_nil))))) h1, fun D cls d σ H ⟨b, e1, e2, e3⟩ => ⟨b, e1, fun e a _ hlen => ?_, fun e => h2 D cls d σ H (e3 e)⟩⟩
    obtain ⟨v, ⟨hc, dd, fs, hd, hx, hv⟩, q⟩ := e2 e
    exact ⟨_, at_set hlen, rfl, hc, dd, fs, v, hd, hx, hv, by show 2 ≤ sizeLine; decide, fun t ht => q t ht⟩
  | flds hge hme hde T hno hno2 t ih =>
    obtain ⟨L, h1, h2⟩ := ih
    refine ⟨(_, some i, fun a cls d => tRet _) :: L, .named hN hi lk (nm hge hme hde) (fun a oe cls d pn hz hf => pss_one (ps_ret (pe_tup (pa_cons (pe_xf (a := a) (cls := cls) (d := d) T hno hz hf (pe_var hi (.inl lk) hd1 hd2)) (pa_cons (pe_xf (a := a) (cls := cls) (d := d) T hno2 hz hf (pe_var hi (.inl lk) hd1 hd2)) pa_nil))))) h1, fun D cls d σ H ⟨b, e1, e2, e3⟩ => ⟨b, e1, fun e a _ hlen => ?_, fun e => h2 D cls d σ H (e3 e)⟩⟩
    obtain ⟨v, u, ⟨hc, dd, fs, hd, hx, hv⟩, ⟨_, dd', fs', hd', hx', hu⟩, q⟩ := e2 e
    exact ⟨_, at_set hlen, rfl, hc, dd, fs, v, hd, hx, hv, _, at_set hlen, rfl, hc, dd', fs', u, hd', hx', hu, by show 2 ≤ sizeLine; decide, fun t ht => q t ht⟩
section
variable {X : Cx}
theorem toldA_gives {Ng : List Str} {x a q n : Str} {i : Nat} {sg : Scope} {g : Addr} {cdg : Value} {h₀ : ExceptHandler} {hds : List ExceptHandler} {l : List (Addr × CK)} {p1 p2 p3 p8 p9 pn0 : Pos} {jn : Nat} (hN : Ng.Nodup) (hi : Ng[i]? = some n) (hl : sg.names.lookup n = some .local) (hT : HdsA X.K X.mg sg n (h₀ :: hds) l) (h0 : ∀ f : Addr, (L2.start Ng [V.ref f])[0]? = some (some (V.ref f))) (hd1 : (n == ("__debug__" : Str)) = false := by decide) (hd2 : (n == ("__classdict__" : Str)) = false := by decide) :
    GivesTo X Ng x sg g cdg [.Try [.Expr (.Call (.Name a p1) [] [] p2) p3] (h₀ :: hds) [] [] p8, .Return (some (.Constant .none jn pn0)) p9] a q (TToldA X.K l) := by
  intro f c' s H Q tl act hc h
  obtain ⟨L, hL, hw⟩ := hdsA_ok (Y := (cxOf C8.CX0 X.prog X.w X.K X.mg X.base Ng x sg g cdg X.A X.stack s H C8.E0).nox) rfl rfl hN hi hl hd1 hd2 hT
  refine ⟨_, pss_cons (ps_try_all (Wout := fun _ _ _ _ => False)
      (tb := fun W D σ H => ∃ Ech : XK, (∀ cls d σ' H', Ech cls d H' → W cls d σ' H') ∧ σ[0]? = some (some (.ref f)) ∧ H c' = some (CodeO c' q) ∧ tl Ech H fun _ H' => D.nx σ H')
      rfl rfl takes_none5 (fun W pn xe tk _ => ?_) hL) (pss_one (ps_ret pe_non)), ?_⟩
  · refine ⟨fun pins s' σ H' D I h' => ?_⟩
    obtain ⟨Ech, hW, h1, h2, h3⟩ := h'
    exact (pss_one (ps_expr (pos := p3) (act W pn xe Ech p1 p2 tk hW))).run pins s' σ H' D I ⟨h1, h2, h3⟩
  · exact ⟨wChainA X.K Q l, fun cls d σ' H' z => hw _ cls d σ' H' z, h0 f, hc, h⟩
end
theorem toldA_to {K : PySem.W.Frag} {l : List (Addr × CK)} {tl : (XK → Hp → VK → Prop)} {H : Hp} {Q0 : VK} (Pv : V → Hp → Prop) (a : ∀ Q : VK, (∀ v H', Pv v H' → Q v H') → TToldA K l tl H Q) (b : ∀ v H', Pv v H' → Q0 v H') : TToldA K l tl H Q0 := a Q0 b
/-! ### B.__init__(self, ..), B an own class over ValueError without an __init__ -/
/-- what the written part says of such a base -/
structure BaseC (K : PySem.W.Frag) (S : Addr) : Prop where
  ga : PySem.W.specialIn K (.ref S) "__getattribute__" = some (some (.builtin "type.__getattribute__"))
  rd : PySem.W.readsIn K S (.type "type") = true
  vV : PySem.W.findCls K (.ref S) (.type "type") "__init__" = some (.val (.builtin "ValueError.__init__"))
section
variable {X : Cx} {e : Expr} {es : List Expr} {ta : TA} {S : Addr} {x : Str} {p1 p2 pos : Pos}
theorem pe_binit {pl : Sem Bool} (B : BaseC X.K S) (hg : Gl X x) (hm : X.mg x = some (.ref S)) (ha : PA X (e :: es) ta)
    (hc : eval (.Call (.Attribute (.Name x p1) "__init__" p2) (e :: es) [] pos) X.env = (do
      let v ← eval (.Name x p1) X.env
      standAt p2.atName
      let (f, first) ← holding [v] (getMethod v "__init__" pl)
      callWith pos f first (backTo pos (starEach (e :: es) X.env)) (backToKw pos (keywordEach [] X.env))) := by rfl)
    (hdb : (x == ("__debug__" : Str)) = false := by decide) (he : starEach (e :: es) X.env = (false, eval e X.env) :: starEach es X.env := by rfl) (hpl : (backTo pos (starEach es X.env)).any (·.1) = false := by rfl) :
    PE X (.Call (.Attribute (.Name x p1) "__init__" p2) (e :: es) [] pos) (tVeI X.K ta) := by
  refine ⟨fun pins s σ H Q I h => PySem.W.methodCall_KW (ld_glob I hg hm ?_ hdb) hc⟩
  refine PySem.W.method_cls I.kIn B.ga (PySem.W.cls_value I.kIn B.rd B.vV (by decide +kernel) ?_)
  show wpAny _ _ (callWith pos (Value.builtin "ValueError.__init__") [] (backTo pos (starEach (e :: es) X.env)) []) _ _ _
  refine PyProof.Rows.callWith_method1 (thn (ha.run pos pins _ σ H _ (I.tok _) h) fun us s1 ⟨vs, H1, I1, r1, q1⟩ => ?_) he hpl
  obtain ⟨a, C, ws, rfl, hl, T, ea, q⟩ := q1
  cases r1 with
  | @cons _ u0 _ ur ra rr =>
    obtain rfl : u0 = Value.ref a := ra
    exact oinit_ok T I1 ea (by rw [← Paired.length rr, sizeLine_eq]; omega) fun s' J => ⟨.non, H1, J, rfl, q⟩
end
/-- what is left of an error that told one thing -/
theorem xd_same {H1 : Hp} {a C dx : Addr} {f : Str} {v : V} (na : H1 a = none) (nd : H1 dx = none) (n : dx ≠ a) :
    ∃ H' : Hp, H' = upd (del (upd (upd (upd H1 a (exo a C none)) dx (exd dx [(f, v)])) a (exo a C (some dx))) a) dx (.xd [(f, v)]) ∧ Same H1 H' ∧ H' dx = some (.xd [(f, v)]) := by
  refine ⟨_, rfl, fun b o h => ?_, upd_same⟩
  rw [upd_ne (ne_of_none h nd), del_ne (ne_of_none h na), upd_ne (ne_of_none h na), upd_ne (ne_of_none h nd), upd_ne (ne_of_none h na)]
  exact h
end My
/-! xs.extend(t), t a tuple -/
namespace My
open PySem L2 LamX PyProof.Rows
section
open PySem.AutoSeq1 MeetsSeq MeetsSeq2 MeetsSeq3
set_option maxRecDepth 8000 in
theorem ext_tup (l b : Addr) (xs ys : Array Value) (n m : Nat) (dd : Option Addr) (sl : Array (Option Value)) (few : ¬(!xs.isEmpty && Builtin.List.listTooLong (xs.size + ys.size)) = true) (h1 : xs.size ≤ sizeLine) (h2 : (xs ++ ys).size ≤ sizeLine + 1) :
    Meets (Builtin.«list.extend» ⟨[.ref l, .ref b], []⟩) (fun _ R s => s.heap.get? l = some { cls := .type "list", dict := none, data := .seq xs n, slots := #[] } ∧ s.heap.get? b = some { cls := .type "tuple", dict := dd, data := .seq ys m, slots := sl } ∧ R (.ok (.ret Value.none)) { s with heap := s.heap.update l (Obj.mapSeq fun x => x ++ ys), toks := s.toks }) := by
  refine .of_wp fun prog w A R s ⟨e1, e2, q⟩ => ?_
  obtain ⟨hp, g, d, tk, os⟩ := s
  have k1 := idx_int
  have k2 := AutoSeq1.sub_tuple_tuple
  have k3 := AutoSeq1.sub_list_list
  have k4 := AutoSeq1.sub_tuple_list
  have k5 := AutoSeq1.sub_list_tuple
  wp_walk using (wpAny_updateSeq e1 rfl (hz := h1) (_hz' := h2)), wpAny_loadPart' e1, wpAny_loadPart' e2
  exact ⟨_, rfl, q⟩
end
section
variable {X : Cx}
def rExtendT (K : PySem.W.Frag) : V → List V → Hp → VK → Prop := fun x vs H Q => ∃ l b xs zs, x = .ref l ∧ vs = [.ref b] ∧ H l = some (.lst xs) ∧ SqT K H b zs ∧ xs.length + zs.length ≤ sizeLine ∧ Q .non (upd H l (.lst (xs ++ zs)))
theorem mt_extendT : MtR X "list.extend" (rExtendT X.K) := by
  intro pins s σ H x vs v us Q I rx rv h
  obtain ⟨l, b, xs, zs, rfl, rfl, hH, hB, hz, q⟩ := h
  cases rx
  obtain ⟨u, rfl, ru⟩ := rv.one
  cases ru
  obtain ⟨z1, its, n, r, hl, e⟩ := I.lstM hH
  obtain ⟨jts, r2, tp, z2⟩ := I.tuple hB
  have l1 := r.length
  have l2 := r2.length
  have few : ¬ (!its.toArray.isEmpty && Builtin.List.listTooLong (its.toArray.size + jts.toArray.size)) = true := by
    rw [notLongL (by rw [List.size_toArray, List.size_toArray]; omega), Bool.and_false]
    exact Bool.false_ne_true
  obtain ⟨o, t1, t2, n2, t3⟩ := id tp
  obtain ⟨oc, od, ot, os⟩ := o
  dsimp only at t2 t3
  subst t2 t3
  refine call_meets F.slot_list_extend ⟨_, e, rfl⟩ F.entry_list_extend (F.args_list_extend_2 _ _) (ext_tup l b its.toArray jts.toArray n n2 od os few (by rw [List.size_toArray]; omega) (by rw [Array.size_append, List.size_toArray, List.size_toArray]; omega)) ⟨e, t1, ?_⟩
  exact ⟨.non, _, I.lset (its' := its ++ jts) hH e (by simp) (r.append r2) (by rw [List.length_append]; omega), rfl, q⟩
end
end My
/-! raise X(e, ..) of an own class with an own __init__; a try around one call, several clauses -/
namespace My
open PySem L2 LamX PyProof.Rows
section
variable {X : Cx} {C : Addr} {e : Expr} {es : List Expr} {ta : TA}
/-- raise X(e, ..), in a def's own body -/
theorem ps_errO {E : XK} {E₁ : Value → Shared → Prop} {CY : CXT} {x : Str} {fI : Addr} {k : Nat} {fd : FuncData} {ps : List Str} {sp : Sp} {ds : List Value} {dvs : List V} {p pos p2 : Pos} (T : OexC X.K C) (iC : PySem.W.findIn X.K (.ref C) "__init__" = some (some (.ref fI))) (tI : PySem.W.typeIn X.K (.ref fI) = some (.type "function"))
    (F1 : FnOk X.prog X.w X.K X.mg X.base CY k fI fd ps sp) (hr : Room (k + 1) X.A) (hb : Binds X.K fd ps ds) (hd : Vals dvs ds) (hx0 : Passes CY X (fun _ _ _ => False)) (hm : X.mg x = some (.ref C)) (hg : Gl X x) (ha : PA X (e :: es) ta)
    (hc : X.calm = true) (hs : X.stack = X.env :: X.outer) (hf : X.env.frame = some X.env.locals) (hex : X.ex = [])
    (hx : X.xe = fun e s' => wpAny (model X.prog X.w) X.A (leaving X.env e) (fun _ s'' => CX X.prog X.w X.outer X.H_0 X.s_0 E e s'') E₁ s')
    (hdb : (x == ("__debug__" : Str)) = false := by decide) (he : starEach (e :: es) X.env = (false, eval e X.env) :: starEach es X.env := by rfl) (hpl : (backTo pos (starEach es X.env)).any (·.1) = false := by rfl) :
    PS X (.Raise (some (.Call (.Name x p) (e :: es) [] pos)) none p2) (fun _ σ H => tMkO C sp dvs ta σ H E) := ps_raise hc (takes_of hs hf hex hx) (pmk_oex T iC tI F1 hr hb hd hx0 hg hm ha hdb he hpl)
/-- try: e / except ..: several clauses -/
theorem ps_tryA {n : Str} {i : Nat} {sg : Scope} {h₀ : ExceptHandler} {hds : List ExceptHandler} {l : List (Addr × CK)} {p3 p8 : Pos} {te : XK → TE} (hs : X.stack = X.env :: X.outer) (hf : X.env.frame = some X.env.locals) (hsc : X.env.scope = sg) (hN : X.N.Nodup) (hi : X.N[i]? = some n) (hl : sg.names.lookup n = some .local) (hT : HdsA X.K X.mg sg n (h₀ :: hds) l)
    (call : ∀ (W : WX) (pn : List (Addr × Obj)) (xe : Value → Shared → Prop) (Ech : XK), Takes (X.tr pn xe) W → (∀ cls d σ H, Ech cls d H → W cls d σ H) → PE (X.tr pn xe) e (te Ech))
    (hd1 : (n == ("__debug__" : Str)) = false := by decide) (hd2 : (n == ("__classdict__" : Str)) = false := by decide) (hsw : swapsWith e none p3.line X.env = pure false := by rfl) :
    PS X (.Try [.Expr e p3] (h₀ :: hds) [] [] p8) (fun D σ H => te (wChainA X.K D.rt l) σ H fun _ H' => D.nx σ H') := by
  obtain ⟨L, hL, hw⟩ := hdsA_ok (Y := X) hsc rfl hN hi hl hd1 hd2 hT
  refine ⟨fun pins s σ H D I h => ?_⟩
  refine (ps_try_all (Wout := fun _ _ _ _ => False)
      (tb := fun W D σ H => ∃ Ech : XK, (∀ cls d σ' H', Ech cls d H' → W cls d σ' H') ∧ te Ech σ H fun _ H' => D.nx σ H')
      hs hf takes_none5 (fun W pn xe tk _ => ?_) hL).run pins s σ H D I ⟨wChainA X.K D.rt l, fun cls d σ' H' z => hw D cls d σ' H' z, h⟩
  refine ⟨fun pins s' σ H' D I h' => ?_⟩
  obtain ⟨Ech, hW, h3⟩ := h'
  exact (pss_one (ps_expr (pos := p3) (call W pn xe Ech tk hW) hsw)).run pins s' σ H' D I h3
end
end My
/-! an error out of a comprehension, in a def's own body -/
namespace My
open PySem L2 LamX PyProof.Rows
section
variable {M : Model} {A : Around} {E₀ : Value → Shared → Prop} {s : Shared} {B : Heap} {env : Env} {outer : List Env} {e L : Addr} {Z : Obj → Prop} {fl : Value}
/-- an exception is noted, whatever frame its record names -/
theorem noted_any {Q : Unit → Shared → Prop} (hZ : HandSPX.Steady Z) (hfr : A.frames = some (env :: outer)) (hf : env.frame = some L) (k : B.StaysIn s.heap) (n : B.get? e = none) (l : s.heap.FunFrames B (env :: outer)) (t : HandSPX.TracedZ s.heap B e Z fl)
    (q : ∀ h', HandSPX.HeldZ B (env :: outer) e Z L h' → s.heap.UpToSlots h' → Q () { s with heap := h' }) : wpAny M A (noteFrame (.ref e) env) Q E₀ s := by
  by_cases hl : (fl == rawInt L) = true
  · have z : fl = rawInt L := eq_of_beq hl
    subst z
    exact HandSPX.againZ hf t (q s.heap ⟨k, n, l, t⟩ (Heap.UpToSlots.refl _))
  · obtain ⟨oe, vs, T, oT, ts, g1, g2, g3, g4, g5, g6, g7, g8, g9⟩ := t
    have away : ∀ b, b ≠ T → (s.heap.update T (Obj.mapFields (·.setIfInBounds 3 Value.none))).get? b = s.heap.get? b := fun b hb => Heap.get?_update_other _ _ (Ne.symm hb)
    have nrec : ∀ b o, s.heap.get? b = some o → (∀ x, o.data ≠ .fields x) → b ≠ T := by
      rintro b o hb hd rfl
      rw [g7] at hb
      cases hb
      exact hd ts g8
    unfold noteFrame
    rw [hf]
    refine wpAny_bind (wpAny_field g1 g3 g4 ?_)
    rw [if_pos (by simp : (Value.ref T != Value.none) = true)]
    refine wpAny_bind (wpAny_field g7 g8 g9 ?_)
    rw [if_neg hl]
    refine wpAny_bind (wpAny_setField g7 g8 (Array.getElem?_eq_some_iff.mp g9).1 ?_)
    refine HandSPX.wpAny_entryZ hZ hfr (l.of_keeps fun b o hb hd => ⟨o, (away b (nrec b o hb hd)).trans hb, rfl⟩) hf ((away e (Ne.symm g6)).trans g1) (fun b o hb => (away b (by rintro rfl; rw [g5] at hb; cases hb)).trans (k b o hb)) n g3 (Array.getElem?_eq_some_iff.mp g4).1 g2 fun h' hN => ?_
    exact q h' ⟨hN.1, n, hN.2.1, hN.2.2.1⟩ fun b o hb hd => hN.2.2.2 b o ((away b (nrec b o hb hd)).trans hb) hd
end
/-- frames stand as long as they are left as they are -/
theorem frames_at {h h' base : Heap} : ∀ {l : List Env}, h.FunFrames base l → (∀ b ∈ frs l, h'.get? b = h.get? b) → h'.FunFrames base l
  | [], _, _ => trivial
  | env :: l, ⟨hk, ⟨L, o, hf, hn, ho, hd⟩, hr⟩, e => ⟨hk, ⟨L, o, hf, hn, (e L (List.mem_filterMap.mpr ⟨env, .head _, hf⟩)).trans ho, hd⟩, frames_at hr fun b hb => e b (by
      obtain ⟨v, hv, q⟩ := List.mem_filterMap.mp hb
      exact List.mem_filterMap.mpr ⟨v, .tail _ hv, q⟩)⟩
section
variable {X : Cx} {pins : List (Addr × Obj)} {σ : L2.St} {H : Hp} {sI s' : Shared} {B : Heap} {E : XK} {a : Addr} {cls : Value} {d : Option Addr} {fl : Value} {E₁ : Value → Shared → Prop}
/-- .. and leaves the def -/
theorem leave_any (hs : X.stack = X.env :: X.outer) (hf : X.env.frame = some X.env.locals) (hex : X.ex = []) (I : L2.Inv X pins σ H sI) (nb : ∀ b o, sI.heap.get? b = some o → b ∉ frs X.stack → B.get? b = some o) (up : sI.heap.UpToSlots s'.heap)
    (k : B.StaysIn s'.heap) (n : B.get? a = none) (l : s'.heap.FunFrames B X.stack) (t : HandSPX.TracedZ s'.heap B a (Zc cls d) fl) (na : H a = none) (os : s'.os = sI.os) (ag : AllBare s'.gens) (w : E cls d H) :
    wpAny (model X.prog X.w) X.A (leaving X.env (.ref a)) (fun _ s'' => L2.CX X.prog X.w X.outer X.H_0 X.s_0 E (.ref a) s'') E₁ s' := by
  have hfr : X.A.frames = some (X.env :: X.outer) := by rw [I.ok.frames, hs]
  rw [hs] at l
  unfold leaving
  refine wpAny_bind (noted_any Zc.steady hfr hf k n l t fun h1 hh u1 => ?_)
  refine HandSPX.landsZ hh fun h2 f2 u2 => ?_
  have off : ∀ b o, X.s_0.heap.get? b = some o → b ∉ X.fs → b ∉ frs X.stack := fun b o e hb hm => by
    rcases List.mem_cons.mp (I.stkSub b hm) with z | z
    · have h1 := Heap.lt_size e
      have h3 := I.ok.above
      rw [z] at h1
      exact absurd (Nat.lt_of_lt_of_le h1 h3) (Nat.lt_irrefl _)
    · exact hb z
  have hex' : ∀ b, b ∉ X.ex := fun b hb => by rw [hex] at hb; cases hb
  obtain ⟨k2, n2, l2, t2⟩ := f2
  refine ⟨a, B, H, cls, d, rfl, ⟨k2, n2, l2.2.2, t2⟩, I.inGround nb, ⟨fun b o e z hb => nb b o (I.base.keep b o e z hb (hex' b)) (off b o e hb), fun b o e hb => ?_, fun b o e z => I.base.free b o e z (hex' b), fun b o e hb => ?_, I.base.tups, I.base.frzs, I.base.tbls⟩, na, os.trans I.os, ag, w⟩
  · obtain ⟨_, o₀, e₀, hd⟩ := I.ok.funs.mem hb
    rw [e] at e₀
    cases e₀
    obtain ⟨l1, e1⟩ := I.base.slot b o e (I.ok.frf b hb) hb (hex' b)
    obtain ⟨l2, e2⟩ := up b _ e1 hd
    obtain ⟨l3, e3⟩ := u1 b _ e2 hd
    obtain ⟨l4, e4⟩ := u2 b _ e3 hd
    exact ⟨l4, e4⟩
  · obtain ⟨o', e1⟩ := I.base.there b o e (hex' b)
    exact ⟨o', nb b o' e1 (off b o e hb)⟩
/-- what comes out of a block -/
def OutB (X : Cx) (s3 : Shared) (H3 : Hp) (scope : Scope) (ce : Env) (fp : List Addr) (E : XK) : Value → Shared → Prop := fun u s' =>
  ∃ (pl : List (Addr × Obj)) (σ' : L2.St) (H1 : Hp) (s1 : Shared), L2.Inv (X.blk s3 H3 scope ce fp) pl σ' H1 s1 ∧ L2.CX X.prog X.w X.stack H1 s1 E u s'
theorem block_out {s3 : Shared} {H3 : Hp} {scope : Scope} {ce : Env} {fp : List Addr} {C D : Addr} {Qf : Value → Shared → Prop} {u : Value} (hs : X.stack = X.env :: X.outer) (hf : X.env.frame = some X.env.locals) (hex : X.ex = [])
    (hx : X.xe = fun e s' => wpAny (model X.prog X.w) X.A (leaving X.env e) (fun _ s'' => L2.CX X.prog X.w X.outer X.H_0 X.s_0 E e s'') E₁ s')
    (I3 : L2.Inv X pins σ H3 s3) (hC : ce.locals = C) (hCs : s3.heap.objs.size ≤ C) (hcf : ce.frame = X.env.frame) (hfp : ∀ b ∈ fp, FpOk X pins H3 b) (o : OutB X s3 H3 scope ce fp E u s') :
    notedBy (model X.prog X.w) X.A ce (fun e s2 => compPost (model X.prog X.w) X.A X.xe none Qf (.ref D) C (.error e) s2) u s' := by
  obtain ⟨pl, σ', H1, s1, Ib, c⟩ := o
  obtain ⟨a, B, sI, pi, σi, H', cls, d, rfl, Ii, nb, up, sky, na, os, ag, w⟩ := XE.of_call (X := X.blk s3 H3 scope ce fp) (W := fun cls d _ H => E cls d H) Ib (fun _ _ _ h => h) c
  have hfr : X.A.frames = some (X.env :: X.outer) := by rw [I3.ok.frames, hs]
  have en : noteFrame (.ref a) ce = noteFrame (.ref a) X.env := by
    unfold noteFrame PySem.frameOf
    rw [hcf]
  have IX : L2.Inv X pins σ H' sI := I3.call' (ch := fp) Ii.os Ii.base Ii.hok Ii.bare fun b hb => ⟨(hfp b hb).2.2.2.1, (hfp b hb).2.1, (hfp b hb).2.2.2.2.1, (hfp b hb).2.2.2.2.2⟩
  have fC : FpOk X pins H' C := I3.fpOk hCs (by have z : H' ce.locals = none := Ii.free; rw [hC] at z; exact z)
  have cF : C ∉ frs X.stack := fun hm => by
    rcases List.mem_cons.mp (I3.stkSub C hm) with z | z
    · exact fC.2.1 z
    · exact fC.2.2.1 z
  show wpAny _ _ (noteFrame (.ref a) ce) _ _ _
  rw [en]
  have rest : ∀ h1, HandSPX.HeldZ B (X.env :: X.outer) a (Zc cls d) X.env.locals h1 → s'.heap.UpToSlots h1 → compPost (model X.prog X.w) X.A X.xe none Qf (.ref D) C (.error (.ref a)) { s' with heap := h1 } := fun h1 hh u1 => by
    obtain ⟨k1, n1, l1, t1⟩ := hh
    obtain ⟨m, hm, _⟩ := Ii.loc
    have hm : sI.heap.Ns ce.locals m := hm
    rw [hC] at hm
    obtain ⟨oC, es, ep, gC, rC⟩ := hm
    have gB : B.get? C = some oC := nb C oC gC cF
    refine ⟨m, ⟨oC, es, ep, k1 C oC gB, rC⟩, fun h2 sb ce' _ => ?_⟩
    obtain ⟨B2, b1, b2⟩ := restrict B fun b => decide (b ≠ C)
    obtain ⟨G, q1, q2⟩ := restrict sI.heap fun b => decide (b ≠ C)
    have B2of : ∀ b o, B2.get? b = some o → b ≠ C ∧ B.get? b = some o := fun b o e => by
      by_cases z : b = C
      · rw [b2 b (by simp [z])] at e
        cases e
      · exact ⟨z, by rw [← b1 b (by simp [z])]; exact e⟩
    have Gof : ∀ b o, G.get? b = some o → b ≠ C ∧ sI.heap.get? b = some o := fun b o e => by
      by_cases z : b = C
      · rw [q2 b (by simp [z])] at e
        cases e
      · exact ⟨z, by rw [← q1 b (by simp [z])]; exact e⟩
    have same2 : ∀ b, b ≠ C → h2.get? b = h1.get? b := fun b hb => sb.2 b hb
    have k2 : B2.StaysIn h2 := fun b o e => by
      obtain ⟨z, e'⟩ := B2of b o e
      rw [same2 b z]
      exact k1 b o e'
    have none2 : ∀ b, B.get? b = none → B2.get? b = none := fun b e => by
      cases z : B2.get? b with
      | none => rfl
      | some o =>
        have := (B2of b o z).2
        rw [e] at this
        cases this
    have neC : ∀ b, B.get? b = none → b ≠ C := fun b e z => by rw [z, gB] at e; cases e
    have l2 : h2.FunFrames B2 (X.env :: X.outer) := by
      have lB : ∀ b ∈ frs (X.env :: X.outer), B.get? b = none := fun b hb => (l1.mem hb).1
      have l0 : h1.FunFrames B2 (X.env :: X.outer) := funFrames_none l1 fun b hb => none2 b (lB b hb)
      exact frames_at l0 fun b hb => same2 b fun z => neC b (lB b hb) z
    have t2 : HandSPX.TracedZ h2 B2 a (Zc cls d) (rawInt X.env.locals) := by
      obtain ⟨oe, vs, T, oT, ts, g1, g2, g3, g4, g5, g6, g7, g8, g9⟩ := t1
      exact ⟨oe, vs, T, oT, ts, (same2 a (neC a n1)).trans g1, g2, g3, g4, none2 T g5, g6, (same2 T (neC T g5)).trans g7, g8, g9⟩
    obtain ⟨oe, vs, T, oT, ts, g1, g2, g3, g4, g5, g6, g7, g8, g9⟩ := id t2
    unfold PySem.passOn
    refine wpAny_bind (wpAny_field g1 g3 g4 ?_)
    rw [if_neg (show ¬ (Value.ref T == Value.none) = true by simp)]
    first
      | refine wpAny_bind (wpAny_pure ?_)
      | skip
    refine wpAny_bind (HandSPX.setFlight_anyZ k2 l2 t2 fun h3 k3 l3 t3 u3 => ?_)
    refine wpAny_throw ?_
    rw [hx]
    have J : L2.Inv X pins σ H' { sI with heap := G } := IX.turned (t' := sI.toks) (it := C) (fun b o hb e => by rw [q1 b (by simp [hb])]; exact e) fC.1 fC.2.1 fC.2.2.2.1 fC.2.2.2.2.1 fC.2.2.2.2.2
    refine leave_any hs hf hex (sI := { sI with heap := G }) (B := B2) J (fun b o e hb => ?_) (fun b o e hd => ?_) k3 (none2 a n1) (hs ▸ l3) t3 na os ag w
    · obtain ⟨z, e'⟩ := Gof b o e
      rw [b1 b (by simp [z])]
      exact nb b o e' hb
    · obtain ⟨z, e'⟩ := Gof b o e
      obtain ⟨x1, e1⟩ := up b o e' hd
      obtain ⟨x2, e2⟩ := u1 b _ e1 hd
      obtain ⟨x3, e3⟩ := u3 b _ ((same2 b z).trans e2) hd
      exact ⟨x3, e3⟩
  rcases sky with ⟨f1, f2, f3, oe, vs, f4, f5, f6, f7⟩ | ⟨f1, f2, f3, f4⟩ | ⟨f1, f2, f3, f4⟩
  · have f3 : s'.heap.FunFrames B X.stack := f3
    rw [hs] at f3
    exact HandSPX.look_newZ Zc.steady hfr f3 hf f4 f1 f2 f6 f7 f5 rest
  · have f3 : s'.heap.FunFrames B X.stack := f3
    rw [hs] at f3
    exact noted_any Zc.steady hfr hf f1 f2 f3 f4 rest
  · have f3 : s'.heap.FunFrames B X.stack := f3
    rw [hs] at f3
    exact noted_any Zc.steady hfr hf f1 f2 f3 f4 rest
end
end My
/-! [elt for target in iter if ..] whose elt may let an error out, in a def's own body -/
namespace My
open PySem L2 LamX PyProof.Rows
section
variable {X : Cx} {E : XK} {E₁ : Value → Shared → Prop}
/-- where the block of a comprehension stands -/
abbrev envB (X : Cx) (scope : Scope) (s3 : Shared) : Env := compEnvC scope (cellsFrom (s3.heap.objs.size + 1) scope.names (cloFrom X.env.cells scope.names [])) s3.heap.objs.size X.env
/-- one turn, the errors of the element among its ends -/
theorem turn_out {s3 : Shared} {H3 : Hp} {scope : Scope} {fp : List Addr} {ce : Env} {D : Addr} {R : Result → Shared → Prop} {elt tg : Expr} {ifs : List Expr} {g : TG} {tt : TT} {te : TE} {σ : L2.St} {vs : List Nat} {Nx : Hp → Prop} {Goal : Shared → Prop} {H5 : Hp} {s5 : Shared}
    (pg : PG (X.blk s3 H3 scope ce fp) tg g) (pt : PTs (X.blk s3 H3 scope ce fp) ifs tt) (pe : PE ((X.blk s3 H3 scope ce fp).wish (OutB X s3 H3 scope ce fp E)) elt te)
    (out : ∀ u s', OutB X s3 H3 scope ce fp E u s' → notedBy (model X.prog X.w) X.A ce (fun e s2 => R (.error e) s2) u s')
    {x : V} {u : Value} (I7 : L2.Inv (X.blk s3 H3 scope ce fp) ([] ++ pinsAt fp s5.heap) (wipe σ vs) H5 s5) (r : RelV x u)
    (step : g x (wipe σ vs) H5 fun σ2 H2 => wipe σ2 vs = wipe σ vs ∧ tt σ2 H2 fun b H3 => if b = true then te σ2 H3 fun y H4 => ∃ acc, H4 D = some (.lst acc) ∧ acc.length < sizeLine ∧ Nx (upd H4 D (.lst (acc ++ [y]))) else Nx H3)
    (fin : ∀ (σ8 : L2.St) (s' : Shared) (H' : Hp), wipe σ8 vs = wipe σ vs → L2.Inv (X.blk s3 H3 scope ce fp) ([] ++ pinsAt fp s5.heap) σ8 H' s' → Nx H' → Goal s') :
    wpAny (model X.prog X.w) X.A (assign tg ce u) (fun _ s₂ =>
      wpAny (model X.prog X.w) X.A (forIn ifs true fun c r => if r = true then do let ok ← isTrue c ce (eval c ce); pure (ForInStep.yield ok) else pure (ForInStep.yield r)) (fun ok s₃ =>
        if ok = true then wpAny (model X.prog X.w) X.A (eval elt ce) (fun x s₄ =>
          wpAny (model X.prog X.w) X.A (call (.builtin "list.append") [.ref D, x]) (fun _ s₅ => Goal s₅) (notedBy (model X.prog X.w) X.A ce fun e s' => R (.error e) s') s₄) (notedBy (model X.prog X.w) X.A ce fun e s' => R (.error e) s') s₃
        else Goal s₃) (notedBy (model X.prog X.w) X.A ce fun e s' => R (.error e) s') s₂) (notedBy (model X.prog X.w) X.A ce fun e s' => R (.error e) s') s5 := by
  refine thnF (pg.run _ s5 _ H5 x u _ I7 r step) fun _ s8 ⟨σ8, H8, I8, w8, q8⟩ => ?_
  refine thnF (pt.run _ s8 σ8 H8 _ I8 q8) fun b s9 ⟨H9, I9, q9⟩ => ?_
  cases b with
  | true =>
    have q9 : te σ8 H9 fun y H4 => ∃ acc, H4 D = some (.lst acc) ∧ acc.length < sizeLine ∧ Nx (upd H4 D (.lst (acc ++ [y]))) := q9
    show wpAny _ _ (eval elt ce) _ _ _
    refine wpAny_mono (pe.run _ s9 σ8 H9 _ (I9.wish _) q9) (fun z s10 hz => ?_) fun e s' o => out e s' o
    obtain ⟨yv, H10, I10, r10, acc, a1, a2, a3⟩ := hz
    exact app_ok (X := X.blk s3 H3 scope ce fp) I10.unwish a1 a2 r10 fun s11 I11 => fin σ8 s11 _ w8 I11 a3
  | false => exact fin σ8 s9 H9 w8 I9 q9
theorem pe_lcX {elt tg iter : Expr} {ifs : List Expr} {scope : Scope} {own : List (Str × Nat)} {pos : Pos} {wi : TI} {g : TG} {tt : TT} {te : TE} (hc : X.calm = true) (hN : X.N.Nodup) (hi : PI X tg iter wi) (ok : BlkOk X.N X.env.scope scope own)
    (hg : ∀ (s : Shared) (H : Hp) (C : Addr) (cl : List (Str × Addr)) (fp : List Addr), PG (X.blk s H scope (compEnvC scope cl C X.env) fp) tg g) (ht : ∀ (s : Shared) (H : Hp) (C : Addr) (cl : List (Str × Addr)) (fp : List Addr), PTs (X.blk s H scope (compEnvC scope cl C X.env) fp) ifs tt)
    (he : ∀ (s : Shared) (H : Hp) (C : Addr) (cl : List (Str × Addr)) (fp : List Addr), PE ((X.blk s H scope (compEnvC scope cl C X.env) fp).wish (OutB X s H scope (compEnvC scope cl C X.env) fp E)) elt te)
    (hS : X.stack = X.env :: X.outer) (hf : X.env.frame = some X.env.locals) (hex : X.ex = [])
    (hx : X.xe = fun e s' => wpAny (model X.prog X.w) X.A (leaving X.env e) (fun _ s'' => L2.CX X.prog X.w X.outer X.H_0 X.s_0 E e s'') E₁ s')
    (hs : ∀ x, foldedSetIterable iter X.env x = pure x := by intro _; rfl) :
    PE X (.ListComp elt [⟨tg, iter, ifs, 0⟩] scope pos) (tLc wi g tt te (own.map (·.2))) := by
  refine ⟨fun pins s σ H Q I h => ?_⟩
  rw [eval_ListComp]
  have hcl : ∀ y ∈ scope.names, y.2 = .free → ∃ c, X.env.cells.lookup y.1 = some c := fun y hy e => I.ok.has _ (ok.free y hy e)
  refine wpAny_comprehension_free (use := none) rfl hs (closure_ok hcl) ok.kind (fun y hy e => by rw [ok.uniq y hy, e]) (thn (hi.run pins s σ H _ I h) fun xv s1 hx1 => thn hx1 fun itv s2 h2 => ?_)
  obtain ⟨it, fp, tn, J, H2, e, I2, T, st2, f2, q⟩ := h2
  subst e
  refine wpAny_newObj_type (newEnv_comp ?_) (by show 0 ≤ sizeLine; decide)
  have nD : H2 s2.heap.objs.size = none := I2.hok.fresh (Nat.le_refl _)
  obtain ⟨W, ⟨m0, w0⟩, turn⟩ := q _ nD
  generalize eD : s2.heap.objs.size = D at *
  obtain ⟨s3, e3⟩ : ∃ s3 : Shared, s3 = { s2 with heap := s2.heap.push { cls := .type "list", data := .seq ([] : List Value).toArray } } := ⟨_, rfl⟩
  have h3 : s3.heap = s2.heap.push { cls := .type "list", data := .seq ([] : List Value).toArray } := by rw [e3]
  have I3 : L2.Inv X pins σ (upd H2 D (.lst [])) s3 := by
    rw [e3]
    refine I2.laid (t' := s2.toks) (fun b o e => Heap.get?_push_of_some _ e) (Nat.le_of_eq eD) ⟨Nat.zero_le _, [], 0, .nil, ?_⟩
    rw [← eD]
    exact Heap.get?_push_size _ rfl
  have old : ∀ b ∈ fp, b < s2.heap.objs.size := fun b hb => by
    obtain ⟨o, e, _⟩ := T.obj _ _ st2 b hb
    exact Heap.lt_size e
  have f3 : ∀ b ∈ fp, FpOk X pins (upd H2 D (.lst [])) b ∧ b < s3.heap.objs.size := fun b hb => by
    have lt := old b hb
    have ne : b ≠ D := by rw [← eD]; exact Nat.ne_of_lt lt
    exact ⟨⟨by rw [upd_ne ne]; exact (f2 b hb).1, (f2 b hb).2⟩, by rw [h3, Heap.size_push]; exact Nat.lt_succ_of_lt lt⟩
  have st3 : tn 0 s3.heap := T.keep _ _ _ st2 fun b _ o e => by rw [h3]; exact Heap.get?_push_of_some _ e
  have I4 := block_start I3 ok hN f3
  generalize upd H2 D (.lst []) = H3 at I3 f3 I4 w0
  have pg := hg s3 H3 s3.heap.objs.size (cellsFrom (s3.heap.objs.size + 1) scope.names (cloFrom X.env.cells scope.names [])) fp
  have pt := ht s3 H3 s3.heap.objs.size (cellsFrom (s3.heap.objs.size + 1) scope.names (cloFrom X.env.cells scope.names [])) fp
  have pe := he s3 H3 s3.heap.objs.size (cellsFrom (s3.heap.objs.size + 1) scope.names (cloFrom X.env.cells scope.names [])) fp
  rw [← e3]
  show codeAny _ _ (.compStart (.ListComp elt [⟨tg, iter, ifs, 0⟩] scope pos) 0 (.ref it) (.ref D) (envB X scope s3)) (compPost (model X.prog X.w) X.A X.xe none _ (.ref D) s3.heap.objs.size) { s3 with heap := pushCells (s3.heap.push { cls := .type "dict", data := .dict #[] }) scope.names }
  have hL : (envB X scope s3).locals = s3.heap.objs.size := rfl
  have hF : (envB X scope s3).frame = X.env.frame := rfl
  change L2.Inv (X.blk s3 H3 scope (envB X scope s3) fp) _ _ _ _ at I4
  change PG (X.blk s3 H3 scope (envB X scope s3) fp) _ _ at pg
  change PTs (X.blk s3 H3 scope (envB X scope s3) fp) _ _ at pt
  change PE ((X.blk s3 H3 scope (envB X scope s3) fp).wish (OutB X s3 H3 scope (envB X scope s3) fp E)) _ _ at pe
  generalize envB X scope s3 = ce at *
  have out : ∀ u s', OutB X s3 H3 scope ce fp E u s' → notedBy (model X.prog X.w) X.A ce (fun e s2 => compPost (model X.prog X.w) X.A X.xe none (EP X pins σ Q) (.ref D) s3.heap.objs.size (.error e) s2) u s' := fun u s' o => block_out hS hf hex hx I3 hL (Nat.le_refl _) hF (fun b hb => (f3 b hb).1) o
  have st4 : tn 0 (pushCells (s3.heap.push { cls := .type "dict", data := .dict #[] }) scope.names) := T.keep _ _ _ st3 fun b _ o e => pushCells_keeps _ _ _ _ (Heap.get?_push_of_some _ e)
  have no4 : ∀ b ∈ fp, H3 b = none := fun b hb => (f3 b hb).1.1
  have frb : ∀ {σ' : L2.St} {H' : Hp} {s' : Shared}, L2.Inv (X.blk s3 H3 scope ce fp) [] σ' H' s' → (∀ b ∈ fp, H' b = none) → ∀ b ∈ fp, FpOk (X.blk s3 H3 scope ce fp) [] H' b := fun {σ' H' s'} I' hn b hb =>
    ⟨hn b hb, (I'.ok.exf b hb).1, I'.ok.exfs b hb, .inl hb, fun x c e => (I'.ok.exf b hb).2 x c e, fun p hp => by cases hp⟩
  obtain ⟨s4, e4⟩ : ∃ s4 : Shared, s4 = { s3 with heap := pushCells (s3.heap.push { cls := .type "dict", data := .dict #[] }) scope.names } := ⟨_, rfl⟩
  rw [← e4] at I4 ⊢
  have st4 : tn 0 s4.heap := by rw [e4]; exact st4
  have loop : codeAny (model X.prog X.w) X.A (.compLoop (.ListComp elt [⟨tg, iter, ifs, 0⟩] scope pos) 0 (.ref it) (.ref D) ce) (compPost (model X.prog X.w) X.A X.xe none (EP X pins σ Q) (.ref D) s3.heap.objs.size) s4 := by
    refine compLoop_any (fun n z => ∃ i H', L2.Inv (X.blk s3 H3 scope ce fp) [] (wipe σ (own.map (·.2))) H' z ∧ tn i z.heap ∧ (∀ b ∈ fp, H' b = none) ∧ W i n H') (fun n s5 hI => ?_) m0 ⟨0, H3, I4, st4, no4, w0⟩
    obtain ⟨i, H5, I5, st5, n5, w5⟩ := hI
    rcases turn i n H5 w5 with ⟨stop, qd⟩ | ⟨go, Nx, down, step⟩
    · refine thnF (T.done (X.blk s3 H3 scope ce fp) rfl rfl rfl hc i [] s5 _ H5 (fun _ _ => False) I5 (frb I5 n5) st5 stop) fun r s6 hr => ?_
      obtain ⟨er, I6⟩ := hr
      subst er
      have IX : L2.Inv X pins σ H5 s6 := I3.call' (ch := fp) I6.os I6.base I6.hok I6.bare fun b hb => let k := (f3 b hb).1; ⟨k.2.2.2.1, k.2.1, k.2.2.2.2.1, k.2.2.2.2.2⟩
      have nC : H5 s3.heap.objs.size = none := by
        have z : H5 ce.locals = none := I6.free
        rw [hL] at z
        exact z
      obtain ⟨m, hm, _⟩ := I6.loc
      have hm : s6.heap.Ns ce.locals m := hm
      rw [hL] at hm
      have k := I3.fpOk (Nat.le_refl _) nC
      exact ⟨m, hm, fun h' sb => ⟨.ref D, H5, IX.turned (t' := s6.toks) (fun b o hb e => (sb.2 b hb).trans e) k.1 k.2.1 k.2.2.2.1 k.2.2.2.2.1 k.2.2.2.2.2, rfl, qd⟩⟩
    · refine thnF (T.item (X.blk s3 H3 scope ce fp) rfl rfl rfl hc i [] s5 _ H5 (fun _ _ => False) I5 (frb I5 n5) st5 go) fun r s6 hr => ?_
      obtain ⟨u, er, h6⟩ := hr
      subst er
      refine thnF h6 fun _ s7 h7 => ?_
      obtain ⟨x, H7, I7, r7, y7, st7, n7⟩ := h7
      refine turn_out (R := compPost (model X.prog X.w) X.A X.xe none (EP X pins σ Q) (.ref D) s3.heap.objs.size) pg pt pe out (I7.pinned (frb I7 n7) (T.obj _ _ st7)) r7 (step x H7 y7) fun σ8 z H8 w8 I8 nx => ?_
      obtain ⟨m', lt, w'⟩ := down H8 nx
      have stay : ∀ b ∈ fp, ∀ o, s7.heap.get? b = some o → z.heap.get? b = some o ∧ H8 b = none := fun b hb o e =>
        let k := I8.pin (b, o) (List.mem_append_right _ (List.mem_append_right _ (mem_pinsAt hb e)))
        ⟨k.1, k.2.1⟩
      have ln : (wipe σ (own.map (·.2))).length = σ8.length := by rw [← w8, wipe_length]
      refine ⟨m', lt, i + 1, H8, (I8.unpinned (pins := [])).weak ln (fun j v e => ?_), T.keep _ _ _ st7 fun b hb o e => (stay b hb o e).1, fun b hb => ?_, w'⟩
      · rw [← w8] at e
        exact (wipe_some e).1
      · obtain ⟨o, e, _⟩ := T.obj _ _ st7 b hb
        exact (stay b hb o e).2
  exact codeAny_compStart_list loop (T.self X.A 0 _ _ _ st4 loop)
/-- what a callee lets out leaves the block -/
theorem passB {s : Shared} {H : Hp} {scope : Scope} {ce : Env} {fp : List Addr} : Passes (L2.CX X.prog X.w) ((X.blk s H scope ce fp).wish (OutB X s H scope ce fp E)) E := fun pl σ H1 s1 e s' I c => ⟨pl, σ, H1, s1, I.unwish, c⟩
end
end My
/-! text.index(sign) of a letter of the alphabet -/
namespace My
open PySem L2
/-- where a sign first stands in a text, if it stands there -/
def firstAt (x y : Str) : Nat := (Builtin.Str.occurrences x y 0 x.length 1).headD 0
theorem first_of {x y : Str} (h : Builtin.Str.occurrences x y 0 x.length 1 ≠ []) : ∃ r, Builtin.Str.occurrences x y 0 x.length 1 = firstAt x y :: r := by
  unfold firstAt
  cases e : Builtin.Str.occurrences x y 0 x.length 1 with
  | nil => exact absurd e h
  | cons a r => exact ⟨r, rfl⟩
end My
namespace My
open PySem L2
section
variable {P : Program} {w : World} {K : PySem.W.Frag} {mg : Str → Option Value} {base : Heap}
section
local macro_rules | `(tactic| walk_at "sl") => `(tactic| first | assumption | exact SqL.of upd_same | exact SqL.of (by assumption) | ((with_reducible apply sql_upd); (walk_at "sl"); (first | assumption | exact Ne.symm (by assumption))))
local macro_rules | `(tactic| walk_at "st") => `(tactic| first | assumption | exact SqT.of upd_same | exact SqT.of (by assumption))
local macro_rules | `(tactic| walk_at "sc") => `(tactic| first | rfl | assumption | (show (0 : Int) < _; first | assumption | decide | omega) | exact Or.inl ⟨by omega, by omega⟩ | exact Or.inr ⟨by omega, by omega⟩ | exact ⟨by decide, by decide⟩ | exact ⟨by decide, by decide, by decide⟩)
local macro_rules | `(tactic| walk_at "g1") => `(tactic| first
  | refine ⟨(_ : V), rfl, ?_⟩
  | refine ⟨(_ : Bool), rfl, ?_⟩
  | refine ⟨(_ : Int), (_ : Int), rfl, rfl, ?_⟩
  | refine ⟨(_ : Int), rfl, ?_⟩
  | refine ⟨(_ : Str), rfl, ?_⟩
  | refine ⟨(_ : Addr), (_ : List V), rfl, Or.inl (by walk_at "sl"), ?_⟩
  | refine ⟨(_ : Addr), (_ : List V), rfl, Or.inr (by walk_at "st"), ?_⟩
  | refine ⟨(_ : Addr), (_ : List V), (_ : Int), (_ : V), rfl, rfl, (by walk_at "sl"), (by first | rfl | assumption), ?_⟩
  | refine ⟨(_ : Addr), (_ : List V), (_ : Int), (_ : V), rfl, rfl, (by walk_at "st"), (by first | rfl | assumption), ?_⟩
  | refine ⟨(_ : Addr), (_ : List V), (_ : Int), (_ : Nat), rfl, rfl, upd_same, rfl, ?_⟩
  | refine ⟨(_ : Addr), (_ : List V), (_ : Int), (_ : Nat), rfl, rfl, (by assumption), rfl, ?_⟩
  | refine ⟨(_ : Addr), (_ : Addr), (_ : Addr), (_ : List (Str × V)), (_ : V), rfl, (by assumption), (by assumption), (by assumption), (by first | assumption | rfl), ?_⟩
  | refine Or.inl ⟨(_ : Int), rfl, ?_⟩
  | refine And.intro (by walk_at "sc") ?_
  | refine iteT ?_
  | refine iteF ?_)
def letters : Str := "abcdefghijklmnopqrstuvwxyz"
def isWord (t : Str) : Bool := (decide ((1 : Int) ≤ t.length) && decide ((t.length : Int) ≤ 8)) && t.cps.toList.all fun c => decide (c ∈ letters.cps.toList)
def spIsWord : Sp := fun vs H Q _ => ∃ t : Str, vs = [.str t] ∧ t.length ≤ 1000 ∧ ∀ H', Same H H' → Q (.bl (isWord t)) H'
theorem ok_is_word (T : Top K mg) : FnOk P w K mg base CX0 1 T.a_is_word T.fd_is_word ["text"] spIsWord := by
  refine T.F_is_word.ok sc_is_word (fun vs H Q E h => ?_) (fun cdv A outer s H vs Q E hr h => ?_)
  · obtain ⟨t, rfl, _⟩ := h
    rfl
  · obtain ⟨t, rfl, hl, k⟩ := h
    have hu := hu_of hr
    refine ⟨_, (pss_cons (ps_if (PW.pt (pw_or (pt_not (pt_val (pe_callB call_isi (by rfl) T.m_isinstance (by decide +kernel) (pa_cons (pv 0) (pa_cons (pe_bltn (v := .ty "str") (by rfl) T.m_str (by decide +kernel) rfl) pa_nil))))) (pw_or1 (pt_not (pt_chain op_le op_le pe_int (pe_callB call_len (by rfl) T.m_len (by decide +kernel) (pa_cons (pv 0) pa_nil)) (pe_glob rfl T.g_LONGEST_WORD T.r_LONGEST_WORD)))))) (pss_one (ps_ret pe_bl)) pss_nil)
      (pss_one (ps_ret (pe_callB (cr_all rfl) (by rfl) T.m_all (by decide +kernel) (pa_cons (pe_lc (own := [("letter", 1)]) (g := gName 1) (tt := tYes) rfl sc_is_word.nd (pi_str (pv 0)) (blkOk_by (N := N_is_word) (sc := defScope s_is_word) (by decide +kernel)) (fun _ _ _ _ _ => (pg_name (i := 1) sc_is_word.nd rfl (.inl rfl))) (fun _ _ _ _ _ => pts_nil) (fun _ _ _ _ _ => (pe_cmpR op_in_sign (pv 1) (pe_glob rfl T.g_LETTERS T.r_LETTERS) rfl))) pa_nil))))), ?_⟩
    repeat walk_at "g1"
    refine ⟨.str t, .ty "str", .type "str", .type "str", true, rfl, .ty _, .base (.str t), kit_ty (by decide +kernel), ?_⟩
    repeat walk_at "g1"
    refine ⟨_, _, rfl, ⟨by have := sizeLine_of (show t.length ≤ 1000000 by omega); omega, rfl⟩, ?_⟩
    have e1 : ∀ h : ¬ decide ((1 : Int) ≤ t.length) = true, isWord t = false := fun h => by
      unfold isWord
      rw [Bool.eq_false_iff.mpr h]
      rfl
    have e2 : ∀ h : ¬ decide ((t.length : Int) ≤ 8) = true, isWord t = false := fun h => by
      unfold isWord
      rw [Bool.eq_false_iff.mpr h, Bool.and_false]
      rfl
    repeat walk_at "g1"
    refine ite2 (fun h1 => ?_) (fun h1 => ?_)
    · repeat walk_at "g1"
      refine ite2 (fun h2 => ?_) (fun h2 => ?_)
      · have h2' : ¬ decide ((t.length : Int) ≤ 8) = true := by
          intro z
          rw [z] at h2
          exact absurd h2 (by decide)
        show Q (.bl false) H
        rw [← e2 h2']
        exact k H (Same.refl H)
      · have h2' : decide ((t.length : Int) ≤ 8) = true := by
          cases z : decide ((t.length : Int) ≤ 8) with
          | true => rfl
          | false => rw [z] at h2; exact absurd rfl h2
        refine ⟨.str t, rfl, t, rfl, fun D hD => lc_map walk_str (by show t.length ≤ _; omega) hD (fun i => V.bl (decide (t.cps.toList[i]?.getD 0 ∈ letters.cps.toList))) (fun _ _ => trivial) (fun i x H1 H2 hi s1 hy R r => ?_) (fun H1 s1 hd => ?_) gName_mono⟩
        · obtain ⟨rfl, c, hc, rfl⟩ := hy
          refine ⟨rfl, ?_⟩
          refine ⟨_, rfl, c, letters, rfl, rfl, ?_⟩
          have q := r _ (Same.refl _)
          rw [Array.getElem?_toList, hc] at q
          exact q
        · have el : (List.range t.cps.size).map (fun i => V.bl (decide (t.cps.toList[i]?.getD 0 ∈ letters.cps.toList))) = (t.cps.toList.map fun c => decide (c ∈ letters.cps.toList)).map V.bl := by
            rw [List.map_map]
            refine range_map t.cps.toList _ _ fun i x h => ?_
            rw [h]
            rfl
          refine ⟨D, _, rfl, SqL.of (by rw [hd, el]), ?_⟩
          have ew : isWord t = (t.cps.toList.map fun c => decide (c ∈ letters.cps.toList)).all id := by
            unfold isWord
            rw [h1, h2', List.all_map]
            rfl
          rw [← ew]
          exact k H1 s1
    · repeat walk_at "g1"
      show Q (.bl false) H
      rw [← e1 h1]
      exact k H (Same.refl H)
end
section
local macro_rules | `(tactic| walk_at "sl") => `(tactic| first | assumption | exact SqL.of upd_same | exact SqL.of (by assumption) | ((with_reducible apply sql_upd); (walk_at "sl"); (first | assumption | exact Ne.symm (by assumption))))
local macro_rules | `(tactic| walk_at "st") => `(tactic| first | assumption | exact SqT.of upd_same | exact SqT.of (by assumption))
local macro_rules | `(tactic| walk_at "sc") => `(tactic| first | rfl | assumption | (show (0 : Int) < _; first | assumption | decide | omega) | exact Or.inl ⟨by omega, by omega⟩ | exact Or.inr ⟨by omega, by omega⟩ | exact ⟨by decide, by decide⟩ | exact ⟨by decide, by decide, by decide⟩)
local macro_rules | `(tactic| walk_at "g1") => `(tactic| first
  | refine ⟨(_ : V), rfl, ?_⟩
  | refine ⟨(_ : Bool), rfl, ?_⟩
  | refine ⟨(_ : Int), (_ : Int), rfl, rfl, ?_⟩
  | refine ⟨(_ : Int), rfl, ?_⟩
  | refine ⟨(_ : Str), rfl, ?_⟩
  | refine ⟨(_ : Addr), (_ : List V), rfl, Or.inl (by walk_at "sl"), ?_⟩
  | refine ⟨(_ : Addr), (_ : List V), rfl, Or.inr (by walk_at "st"), ?_⟩
  | refine ⟨(_ : Addr), (_ : List V), (_ : Int), (_ : V), rfl, rfl, (by walk_at "sl"), (by first | rfl | assumption), ?_⟩
  | refine ⟨(_ : Addr), (_ : List V), (_ : Int), (_ : V), rfl, rfl, (by walk_at "st"), (by first | rfl | assumption), ?_⟩
  | refine ⟨(_ : Addr), (_ : List V), (_ : Int), (_ : Nat), rfl, rfl, upd_same, rfl, ?_⟩
  | refine ⟨(_ : Addr), (_ : List V), (_ : Int), (_ : Nat), rfl, rfl, (by assumption), rfl, ?_⟩
  | refine ⟨(_ : Addr), (_ : Addr), (_ : Addr), (_ : List (Str × V)), (_ : V), rfl, (by assumption), (by assumption), (by assumption), (by first | assumption | rfl), ?_⟩
  | refine Or.inl ⟨(_ : Int), rfl, ?_⟩
  | refine And.intro (by walk_at "sc") ?_
  | refine iteT ?_
  | refine iteF ?_)
/-! ### numbers -/
def isNum (n a b : Int) : Bool := decide (a ≤ n) && decide (n ≤ b)
def spIsNumber : Sp := fun vs H Q _ => ∃ n a b : Int, vs = [.int n, .int a, .int b] ∧ Q (.bl (isNum n a b)) H
theorem ok_is_number (T : Top K mg) : FnOk P w K mg base CX0 1 T.a_is_number T.fd_is_number ["number", "least", "greatest"] spIsNumber := by
  refine T.F_is_number.ok sc_is_number (fun vs H Q E h => ?_) (fun cdv A outer s H vs Q E hr h => ?_)
  · obtain ⟨n, a, b, rfl, _⟩ := h
    rfl
  · obtain ⟨n, a, b, rfl, k⟩ := h
    have hu := hu_of hr
    refine ⟨_, (pss_cons (ps_if (PW.pt (pw_or (pt_val (pe_callB call_isi (by rfl) T.m_isinstance (by decide +kernel) (pa_cons (pv 0) (pa_cons (pe_bltn (v := .ty "bool") (by rfl) T.m_bool (by decide +kernel) rfl) pa_nil)))) (pw_or1 (pt_not (pt_val (pe_callB call_isi (by rfl) T.m_isinstance (by decide +kernel) (pa_cons (pv 0) (pa_cons (pe_bltn (v := .ty "int") (by rfl) T.m_int (by decide +kernel) rfl) pa_nil)))))))) (pss_one (ps_ret pe_bl)) pss_nil)
      (pss_one (ps_ret (pe_chain op_le op_le (pv 1) (pv 0) (pv 2))))), ?_⟩
    repeat walk_at "g1"
    refine ⟨.int n, .ty "bool", .type "int", .type "bool", false, rfl, .ty _, .base (.int n), kit_ty (by decide +kernel), ?_⟩
    repeat walk_at "g1"
    refine ⟨.int n, .ty "int", .type "int", .type "int", true, rfl, .ty _, .base (.int n), kit_ty (by decide +kernel), ?_⟩
    repeat walk_at "g1"
    refine ite2 (fun h1 => ?_) (fun h1 => ?_)
    · repeat walk_at "g1"
      have e : isNum n a b = decide (n ≤ b) := by unfold isNum; rw [h1, Bool.true_and]
      rw [e] at k
      exact k
    · have e : isNum n a b = false := by unfold isNum; rw [Bool.eq_false_iff.mpr h1, Bool.false_and]
      rw [e] at k
      exact k
/-! ### the books of a card -/
def asc (bs : List Int) : Bool := (bs.zip (bs.drop 1)).all fun p => decide (p.1 < p.2)
def isBooks (bs : List Int) : Bool := decide (bs.length ≤ 6) && bs.all (fun b => isNum b 1 999) && asc bs
def spAreBooks (K : PySem.W.Frag) : Sp := fun vs H Q _ => ∃ (a : Addr) (bs : List Int), vs = [.ref a] ∧ SqT K H a (bs.map V.int) ∧ bs.length ≤ 1000 ∧ ∀ H', Same H H' → Q (.bl (isBooks bs)) H'
theorem cut1 (xs : List V) : cutV xs (some 1) none = xs.drop 1 := by
  unfold cutV
  rw [show HT.sIx xs.length 0 (some 1) = min 1 xs.length from HT.sIx_nat xs.length 0 1, HT.sIx_none]
  cases xs with
  | nil => rfl
  | cons x r =>
    rw [show min 1 (x :: r).length = 1 by rw [List.length_cons]; omega]
    exact List.take_of_length_le (by rw [List.length_drop]; exact Nat.le_refl _)
theorem gTup2_mono {K : PySem.W.Frag} {i j : Nat} : ∀ (x : V) (σ : St) (H : Hp) (A B : St → Hp → Prop), (∀ σ2 H2, A σ2 H2 → B σ2 H2) → gTup K 2 (gCons (gName i) (gCons (gName j) gNil)) x σ H A → gTup K 2 (gCons (gName i) (gCons (gName j) gNil)) x σ H B :=
  fun _ _ _ _ _ h ⟨a, xs, e, s, l, v, r, e2, v2, r2, e3, e4, q⟩ => ⟨a, xs, e, s, l, v, r, e2, v2, r2, e3, e4, h _ _ q⟩
theorem ok_are_books (T : Top K mg) : FnOk P w K mg base CX0 2 T.a_are_books T.fd_are_books ["books"] (spAreBooks K) := by
  refine T.F_are_books.ok sc_are_books (fun vs H Q E h => ?_) (fun cdv A outer s H vs Q E hr h => ?_)
  · obtain ⟨a, bs, rfl, _⟩ := h
    rfl
  · obtain ⟨a, bs, rfl, hS, hl, k⟩ := h
    have hu := hu_of hr
    refine ⟨_, (pss_cons (ps_if (PW.pt (pw_or (pt_not (pt_val (pe_callB call_isi (by rfl) T.m_isinstance (by decide +kernel) (pa_cons (pv 0) (pa_cons (pe_bltn (v := .ty "tuple") (by rfl) T.m_tuple (by decide +kernel) rfl) pa_nil))))) (pw_or1 (pt_cmpR op_gt (pe_callB call_len_seq (by rfl) T.m_len (by decide +kernel) (pa_cons (pv 0) pa_nil)) (pe_glob rfl T.g_MOST_BOOKS T.r_MOST_BOOKS) (nomark _))))) (pss_one (ps_ret pe_bl)) pss_nil)
      (pss_cons (ps_if (pt_not (pt_val (pe_callB (cr_all rfl) (by rfl) T.m_all (by decide +kernel) (pa_cons (pe_lc (own := [("book", 1)]) (g := gName 1) (tt := tYes) rfl sc_are_books.nd (pi_tup (pv 0)) (blkOk_by (N := N_are_books) (sc := defScope s_are_books) (by decide +kernel)) (fun _ _ _ _ _ => (pg_name (i := 1) sc_are_books.nd rfl (.inl rfl))) (fun _ _ _ _ _ => pts_nil) (fun _ _ _ _ _ => (pe_call (ok_is_number T) (hr.mono (by decide)) (by rfl) T.g_is_number T.F_is_number.kp (b_is_number T) .nil pass0 (pa_cons (pv 1) (pa_cons pe_int (pa_cons (pe_glob rfl T.g_LAST_BOOK T.r_LAST_BOOK) pa_nil)))))) pa_nil)))) (pss_one (ps_ret pe_bl)) pss_nil)
      (pss_one (ps_ret (pe_callB (cr_all rfl) (by rfl) T.m_all (by decide +kernel) (pa_cons (pe_lc (own := [("book", 1), ("later", 2)]) (g := gTup K 2 (gCons (gName 1) (gCons (gName 2) gNil))) (tt := tYes) rfl sc_are_books.nd (RZ.pi_zipA (by rfl) T.m_zip (pa_cons (pv 0) (pa_cons (pe_slice sl_tupA (pv 0) (po_some pe_int) po_none) pa_nil))) (blkOk_by (N := N_are_books) (sc := defScope s_are_books) (by decide +kernel)) (fun _ _ _ _ _ => (pg_tup rfl (pgs_cons (pg_name (i := 1) sc_are_books.nd rfl (.inl rfl)) (pgs_cons (pg_name (i := 2) sc_are_books.nd rfl (.inl rfl)) pgs_nil)))) (fun _ _ _ _ _ => pts_nil) (fun _ _ _ _ _ => (pe_cmpR op_lt (pv 1) (pv 2) (nomark _)))) pa_nil)))))), ?_⟩
    repeat walk_at "g1"
    refine ⟨.ref a, .ty "tuple", .type "tuple", .type "tuple", true, rfl, .ty _, ty_tup hS, kit_ty (by decide +kernel), ?_⟩
    repeat walk_at "g1"
    have hlen : (bs.map V.int).length = bs.length := List.length_map ..
    refine ite2 (fun h1 => ?_) (fun h1 => ?_)
    · repeat walk_at "g1"
      have e : isBooks bs = false := by
        have q := of_decide_eq_true h1
        rw [hlen] at q
        unfold isBooks
        rw [decide_eq_false (by omega), Bool.false_and, Bool.false_and]
      have q := k H (Same.refl H)
      rw [e] at q
      exact q
    · have h6 : decide (bs.length ≤ 6) = true := by
        refine decide_eq_true ?_
        have q := of_decide_eq_false (Bool.eq_false_iff.mpr h1)
        rw [hlen] at q
        omega
      -- all([is_number(book, 1, LAST_BOOK) for book in books])
      refine ⟨.ref a, rfl, a, rfl, ⟨_, hS⟩, fun D hD => lc_map walk_tup (by rw [hlen]; omega) hD (fun i => V.bl (isNum (bs[i]?.getD 0) 1 999)) (fun H1 s1 => s1.seqT hS) (fun i x H1 H2 hi s1 hy R r => ?_) (fun H1 s1 hd => ?_) gName_mono⟩
      · obtain ⟨rfl, hx⟩ := hy
        rw [List.getElem?_map] at hx
        obtain ⟨b, hb, rfl⟩ := Option.map_eq_some_iff.mp hx
        refine ⟨rfl, ?_⟩
        refine ⟨_, rfl, ?_⟩
        have q := r _ (Same.refl _)
        rw [hb] at q
        exact ⟨b, 1, 999, rfl, q⟩
      · have el : (List.range (bs.map V.int).length).map (fun i => V.bl (isNum (bs[i]?.getD 0) 1 999)) = (bs.map fun b => isNum b 1 999).map V.bl := by
          rw [hlen, List.map_map]
          refine range_map bs _ _ fun i x h => ?_
          rw [h]
          rfl
        rw [el] at hd
        refine ⟨D, _, rfl, SqL.of hd, ?_⟩
        repeat walk_at "g1"
        have eall : (bs.map fun b => isNum b 1 999).all id = bs.all fun b => isNum b 1 999 := by rw [List.all_map]; rfl
        rw [eall]
        cases h2 : bs.all fun b => isNum b 1 999 with
        | false =>
          repeat walk_at "g1"
          have e : isBooks bs = false := by
            unfold isBooks
            rw [h2, Bool.and_false, Bool.false_and]
          have q := k H1 s1
          rw [e] at q
          exact q
        | true =>
          repeat walk_at "g1"
          have hS1 := s1.seqT hS
          have asc0 : asc bs = (((List.range (min bs.length (bs.drop 1).length)).map fun i => decide (bs[i]?.getD 0 < (bs.drop 1)[i]?.getD 0)).all id) := by
            unfold asc
            rw [← List.length_zip, range_map (bs.zip (bs.drop 1)) (fun p => decide (p.1 < p.2)) _ fun i p h => ?_, List.all_map]
            · rfl
            · obtain ⟨q1, q2⟩ := List.getElem?_zip_eq_some.mp h
              rw [q1, q2]
              rfl
          have whole : ∀ (c : Addr) (H2 : Hp), Same H1 H2 → SqT K H2 c ((bs.map V.int).drop 1) → ∀ D2, H2 D2 = none → ∀ (Qd : Hp → Prop), (∀ H3, Same H1 H3 → SqL K H3 D2 (((List.range (min bs.length (bs.drop 1).length)).map fun i => decide (bs[i]?.getD 0 < (bs.drop 1)[i]?.getD 0)).map V.bl) → Qd H3) → _ :=
            fun c H2 s2 hC D2 hD2 Qd fin => lc_map (Qd := Qd) (σ := start N_are_books [.ref a]) (g := gTup K 2 (gCons (gName 1) (gCons (gName 2) gNil))) (te := tOp (rI0 fun i j => .bl (decide (i < j))) (tVar 1) (tVar 2)) (vs := [1, 2]) (walk_zipT (K := K) (a := a) (b := c) (xs := bs.map V.int) (ys := (bs.map V.int).drop 1) rfl) (by rw [hlen]; omega) hD2
              (fun i => V.bl (decide (bs[i]?.getD 0 < (bs.drop 1)[i]?.getD 0))) (fun H3 s3 => ⟨s3.seqT (s2.seqT hS1), s3.seqT hC⟩) (fun i x H3 H4 hi s3 hy R r => by
                obtain ⟨Tp, x1, x2, rfl, nT, rfl, e1, e2⟩ := hy
                replace e1 : (bs.map V.int)[i]? = some x1 := e1
                replace e2 : ((bs.map V.int).drop 1)[i]? = some x2 := e2
                rw [List.getElem?_map] at e1
                obtain ⟨b1, hb1, rfl⟩ := Option.map_eq_some_iff.mp e1
                rw [← List.map_drop, List.getElem?_map] at e2
                obtain ⟨b2, hb2, rfl⟩ := Option.map_eq_some_iff.mp e2
                refine ⟨Tp, _, rfl, SqT.of upd_same, rfl, _, _, rfl, _, _, rfl, rfl, rfl, ?_⟩
                refine ⟨_, rfl, _, rfl, b1, b2, rfl, rfl, ?_⟩
                have q := r (upd H3 Tp (.tup [.int b1, .int b2])) (same_new nT)
                rw [hb1, hb2] at q
                exact q) (fun H3 s3 hd3 => fin H3 (s2.trans s3) (SqL.of (by
                  rw [hd3, List.map_map]
                  rw [hlen, List.length_drop, hlen, List.length_drop]
                  rfl))) (gTup2_mono (K := K))
          have last : ∀ (H3 : Hp) (D2 : Addr), Same H1 H3 → SqL K H3 D2 (((List.range (min bs.length (bs.drop 1).length)).map fun i => decide (bs[i]?.getD 0 < (bs.drop 1)[i]?.getD 0)).map V.bl) → rAll K [.ref D2] H3 Q := fun H3 D2 s3 hd3 => by
            refine ⟨D2, _, rfl, hd3, ?_⟩
            rw [← asc0]
            have e : isBooks bs = asc bs := by
              unfold isBooks
              rw [h6, h2, Bool.true_and, Bool.true_and]
            rw [← e]
            exact k H3 (s1.trans s3)
          refine ⟨a, _, rfl, hS1, fun hw => ?_, fun hw c hc => ?_⟩
          · have hC : SqT K H1 a ((bs.map V.int).drop 1) := by
              rw [← cut1]
              have e : cutV (bs.map V.int) (some 1) none = bs.map V.int := by
                unfold cutV
                rw [hw.1, hw.2, Nat.sub_zero, List.drop_zero]
                exact List.take_length
              rw [e]
              exact hS1
            exact ⟨a, a, _, _, rfl, Or.inr ⟨hS1, hC, fun D2 hD2 => whole a H1 (Same.refl _) hC D2 hD2 _ fun H3 s3 q => last H3 D2 s3 q⟩⟩
          · have hC : SqT K (upd H1 c (.tup (cutV (bs.map V.int) (some 1) none))) c ((bs.map V.int).drop 1) := by
              rw [← cut1]
              exact SqT.of upd_same
            exact ⟨a, c, _, _, rfl, Or.inr ⟨(same_new hc).seqT hS1, hC, fun D2 hD2 => whole c _ (same_new hc) hC D2 hD2 _ fun H3 s3 q => last H3 D2 s3 q⟩⟩

/-! ### see, also -/
theorem dec_str {a b : Str} : (decide (V.str a = V.str b)) = decide (a = b) := by
  by_cases h : a = b
  · rw [decide_eq_true h, h]
    exact decide_eq_true rfl
  · rw [decide_eq_false h]
    exact decide_eq_false fun z => h (V.str.inj z)
def isTarget (see heading : Str) : Bool := decide (see = "") || (isWord see && !decide (see = heading))
def spIsTarget : Sp := fun vs H Q _ => ∃ a b : Str, vs = [.str a, .str b] ∧ a.length ≤ 1000 ∧ ∀ H', Same H H' → Q (.bl (isTarget a b)) H'
theorem ok_is_target (T : Top K mg) : FnOk P w K mg base CX0 2 T.a_is_target T.fd_is_target ["see", "heading"] spIsTarget := by
  refine T.F_is_target.ok sc_is_target (fun vs H Q E h => ?_) (fun cdv A outer s H vs Q E hr h => ?_)
  · obtain ⟨a, b, rfl, _⟩ := h
    rfl
  · obtain ⟨a, b, rfl, hl, k⟩ := h
    have hu := hu_of hr
    refine ⟨_, (pss_one (ps_ret (pe_or (pe_cmpR op_eq (pv 0) pe_str (nomark _)) (pe_one (pe_and (pe_call (ok_is_word T) (hr.mono (by decide)) (by rfl) T.g_is_word T.F_is_word.kp (b_is_word T) .nil pass0 (pa_cons (pv 0) pa_nil)) (pe_one (pe_cmpR op_ne (pv 0) (pv 1) (nomark _)))))))), ?_⟩
    repeat walk_at "g1"
    have e0 : (decide (V.str a = V.str "")) = decide (a = "") := by
      by_cases h : a = ""
      · rw [decide_eq_true h, h]
        exact decide_eq_true rfl
      · rw [decide_eq_false h]
        exact decide_eq_false fun z => h (V.str.inj z)
    have e1 : (decide (V.str a = V.str b)) = decide (a = b) := by
      by_cases h : a = b
      · rw [decide_eq_true h, h]
        exact decide_eq_true rfl
      · rw [decide_eq_false h]
        exact decide_eq_false fun z => h (V.str.inj z)
    refine ite2 (fun h1 => ?_) (fun h1 => ?_)
    · rw [show (Str.ofString "") = ("" : Str) from rfl, e0] at h1
      have e : isTarget a b = true := by
        unfold isTarget
        rw [h1, Bool.true_or]
      have q := k H (Same.refl H)
      rw [e] at q
      exact q
    · rw [show (Str.ofString "") = ("" : Str) from rfl, e0] at h1
      have eT : isTarget a b = (isWord a && !decide (a = b)) := by
        unfold isTarget
        rw [Bool.eq_false_iff.mpr h1, Bool.false_or]
      rw [eT] at k
      repeat walk_at "g1"
      intro H1 s1
      cases hw : isWord a with
      | false =>
        repeat walk_at "g1"
        have q := k H1 s1
        rw [hw, Bool.false_and] at q
        exact q
      | true =>
        repeat walk_at "g1"
        have q := k H1 s1
        rw [hw, Bool.true_and, ← e1] at q
        exact q
theorem nodup_le1 {ws : List Str} (h : ws.length ≤ 1) : ws.Nodup := by
  match ws, h with
  | [], _ => exact List.nodup_nil
  | [x], _ => exact List.nodup_cons.mpr ⟨by simp, List.nodup_nil⟩
theorem nodup_eq : ∀ {ws ks : List Str}, ks.Nodup → (∀ k, k ∈ ks ↔ k ∈ ws) → ks.length ≤ ws.length ∧ (ks.length = ws.length ↔ ws.Nodup)
  | [], ks, h, e => by
    have : ks = [] := List.eq_nil_iff_forall_not_mem.mpr fun k z => absurd ((e k).mp z) (List.not_mem_nil)
    subst this
    exact ⟨Nat.le_refl _, fun _ => List.nodup_nil, fun _ => rfl⟩
  | x :: r, ks, h, e => by
    by_cases hx : x ∈ r
    · obtain ⟨a, _⟩ := nodup_eq (ws := r) h fun k => (e k).trans ⟨fun z => (List.mem_cons.mp z).elim (fun y => y ▸ hx) id, List.mem_cons_of_mem _⟩
      refine ⟨Nat.le_succ_of_le a, fun q => ?_, fun q => absurd hx (List.nodup_cons.mp q).1⟩
      rw [List.length_cons] at q
      omega
    · have hm : x ∈ ks := (e x).mpr (List.mem_cons_self ..)
      have hl := List.length_erase_of_mem hm
      have hp := List.length_pos_of_mem hm
      obtain ⟨a, b⟩ := nodup_eq (ws := r) (h.erase x) fun k => by
        rw [h.mem_erase_iff, e k, List.mem_cons]
        exact ⟨fun ⟨n, z⟩ => z.elim (fun y => absurd y n) id, fun z => ⟨fun y => hx (y ▸ z), .inr z⟩⟩
      rw [List.length_cons, List.nodup_cons]
      refine ⟨by omega, fun q => ⟨hx, b.mp (by omega)⟩, fun q => ?_⟩
      have := b.mpr q.2
      omega
def isFurther (ws : List Str) (heading : Str) : Bool := decide (ws.length ≤ 4) && ws.all (fun x => isWord x && !decide (x = heading)) && decide ws.Nodup
def spAreFurther (K : PySem.W.Frag) : Sp := fun vs H Q _ => ∃ (a : Addr) (ws : List Str) (b : Str), vs = [.ref a, .str b] ∧ SqT K H a (ws.map V.str) ∧ ws.length ≤ 1000 ∧ (∀ x ∈ ws, x.length ≤ 1000) ∧ ∀ H', Same H H' → Q (.bl (isFurther ws b)) H'
theorem ok_are_further (T : Top K mg) : FnOk P w K mg base CX0 2 T.a_are_further T.fd_are_further ["also", "heading"] (spAreFurther K) := by
  refine T.F_are_further.ok sc_are_further (fun vs H Q E h => ?_) (fun cdv A outer s H vs Q E hr h => ?_)
  · obtain ⟨a, ws, b, rfl, _⟩ := h
    rfl
  · obtain ⟨a, ws, b, rfl, hS, hl, hx, k⟩ := h
    have hu := hu_of hr
    refine ⟨_, (pss_cons (ps_if (PW.pt (pw_or (pt_not (pt_val (pe_callB call_isi (by rfl) T.m_isinstance (by decide +kernel) (pa_cons (pv 0) (pa_cons (pe_bltn (v := .ty "tuple") (by rfl) T.m_tuple (by decide +kernel) rfl) pa_nil))))) (pw_or1 (pt_cmpR op_gt (pe_callB call_len_seq (by rfl) T.m_len (by decide +kernel) (pa_cons (pv 0) pa_nil)) (pe_glob rfl T.g_MOST_ALSO T.r_MOST_ALSO) (nomark _))))) (pss_one (ps_ret pe_bl)) pss_nil)
      (pss_cons (ps_if (pt_not (pt_val (pe_callB (cr_all rfl) (by rfl) T.m_all (by decide +kernel) (pa_cons (pe_lc (own := [("word", 2)]) (g := gName 2) (tt := tYes) rfl sc_are_further.nd (pi_tup (pv 0)) (blkOk_by (N := N_are_further) (sc := defScope s_are_further) (by decide +kernel)) (fun _ _ _ _ _ => (pg_name (i := 2) sc_are_further.nd rfl (.inl rfl))) (fun _ _ _ _ _ => pts_nil) (fun _ _ _ _ _ => (pe_and (pe_call (ok_is_word T) (hr.mono (by decide)) (by rfl) T.g_is_word T.F_is_word.kp (b_is_word T) .nil pass0 (pa_cons (pv 2) pa_nil)) (pe_one (pe_cmpR op_ne (pv 2) (pv 1) (nomark _)))))) pa_nil)))) (pss_one (ps_ret pe_bl)) pss_nil)
      (pss_one (ps_ret (pe_cmpR op_eq (pe_callB call_lenSS (by rfl) T.m_len (by decide +kernel) (pa_cons (pe_callTy (call_setTSK (K := K) (P := P) (w := w) rfl rfl rfl rfl) (by rfl) T.m_set (by decide +kernel) (pa_cons (pv 0) pa_nil)) pa_nil)) (pe_callB call_len_seq (by rfl) T.m_len (by decide +kernel) (pa_cons (pv 0) pa_nil)) (nomark _)))))), ?_⟩
    repeat walk_at "g1"
    refine ⟨.ref a, .ty "tuple", .type "tuple", .type "tuple", true, rfl, .ty _, ty_tup hS, kit_ty (by decide +kernel), ?_⟩
    repeat walk_at "g1"
    have hlen : (ws.map V.str).length = ws.length := List.length_map ..
    refine ite2 (fun h1 => ?_) (fun h1 => ?_)
    · have q := of_decide_eq_true h1
      rw [hlen] at q
      have h4 : isFurther ws b = false := by
        unfold isFurther
        rw [decide_eq_false (by omega), Bool.false_and, Bool.false_and]
      have k1 := k H (Same.refl H)
      rw [h4] at k1
      repeat walk_at "g1"
      exact k1
    · have hl4 : ws.length ≤ 4 := by
        have q := of_decide_eq_false (Bool.eq_false_iff.mpr fun z => h1 z)
        rw [hlen] at q
        omega
      refine ⟨_, rfl, a, rfl, ⟨_, hS⟩, fun D hD => lc_map walk_tup (by rw [hlen]; omega) hD (fun i => V.bl (isWord (ws[i]?.getD ("" : Str)) && !decide ((ws[i]?.getD ("" : Str)) = b))) (fun H1 s1 => s1.seqT hS) (fun i x H1 H2 hi s1 hy R r => ?_) (fun H1 s1 hd => ?_) gName_mono⟩
      · obtain ⟨rfl, hv⟩ := hy
        rw [List.getElem?_map] at hv
        obtain ⟨z, hz, rfl⟩ := Option.map_eq_some_iff.mp hv
        rw [hz] at r
        refine ⟨rfl, ?_⟩
        refine ⟨_, rfl, z, rfl, hx z (List.mem_of_getElem? hz), fun H3 s3 => ?_⟩
        refine ⟨_, rfl, ?_⟩
        have q := r H3 s3
        cases hw : isWord z with
        | false =>
          repeat walk_at "g1"
          rw [show (some z).getD ("" : Str) = z from rfl, hw, Bool.false_and] at q
          exact q
        | true =>
          repeat walk_at "g1"
          rw [show (some z).getD ("" : Str) = z from rfl, hw, Bool.true_and, ← dec_str] at q
          exact q
      · have el : (List.range (ws.map V.str).length).map (fun i => V.bl (isWord (ws[i]?.getD ("" : Str)) && !decide ((ws[i]?.getD ("" : Str)) = b))) = (ws.map fun x => isWord x && !decide (x = b)).map V.bl := by
          rw [hlen, List.map_map]
          refine range_map ws _ _ fun i x h => ?_
          rw [h]
          rfl
        rw [el] at hd
        refine ⟨D, _, rfl, SqL.of hd, ?_⟩
        have eall : (ws.map fun x => isWord x && !decide (x = b)).all id = ws.all fun x => isWord x && !decide (x = b) := by rw [List.all_map]; rfl
        rw [eall]
        have h4 : decide (ws.length ≤ 4) = true := decide_eq_true (by omega)
        have eT : isFurther ws b = ((ws.all fun x => isWord x && !decide (x = b)) && decide ws.Nodup) := by
          unfold isFurther
          rw [h4, Bool.true_and]
        cases h2 : ws.all fun x => isWord x && !decide (x = b) with
        | false =>
          repeat walk_at "g1"
          have q := k H1 s1
          rw [eT, h2, Bool.false_and] at q
          exact q
        | true =>
          repeat walk_at "g1"
          refine ⟨a, ws, rfl, s1.seqT hS, by omega, fun p ks hp hnd hks => ?_⟩
          obtain ⟨n1, n2⟩ := nodup_eq hnd hks
          refine ⟨p, _, ks.length, rfl, upd_same, by omega, ?_⟩
          have s2 := s1.trans (same_new (o := SetSO P w p (fun j => decide (j ∈ ws)) ks.length) hp)
          refine ⟨_, rfl, a, _, rfl, .inr (s2.seqT hS), ?_⟩
          have q := k _ s2
          rw [eT, h2, Bool.true_and] at q
          refine ⟨rfl, ?_⟩
          have e : decide (V.int (ks.length : Int) = V.int ((ws.map V.str).length : Int)) = decide ws.Nodup := by
            rw [hlen]
            by_cases z : ws.Nodup
            · rw [decide_eq_true z, decide_eq_true (by rw [n2.mpr z])]
            · rw [decide_eq_false z, decide_eq_false fun y => z (n2.mp (by have := V.int.inj y; omega))]
          rw [e]
          exact q
end
section
local macro_rules | `(tactic| walk_at "sl") => `(tactic| first | assumption | exact SqL.of upd_same | exact SqL.of (by assumption) | ((with_reducible apply sql_upd); (walk_at "sl"); (first | assumption | exact Ne.symm (by assumption))))
local macro_rules | `(tactic| walk_at "st") => `(tactic| first | assumption | exact SqT.of upd_same | exact SqT.of (by assumption))
local macro_rules | `(tactic| walk_at "sc") => `(tactic| first | rfl | assumption | (show (0 : Int) < _; first | assumption | decide | omega) | exact Or.inl ⟨by omega, by omega⟩ | exact Or.inr ⟨by omega, by omega⟩ | exact ⟨by decide, by decide⟩ | exact ⟨by decide, by decide, by decide⟩)
local macro_rules | `(tactic| walk_at "g1") => `(tactic| first
  | refine ⟨(_ : V), rfl, ?_⟩
  | refine ⟨(_ : Bool), rfl, ?_⟩
  | refine ⟨(_ : Int), (_ : Int), rfl, rfl, ?_⟩
  | refine ⟨(_ : Int), rfl, ?_⟩
  | refine ⟨(_ : Str), rfl, ?_⟩
  | refine ⟨(_ : Addr), (_ : List V), rfl, Or.inl (by walk_at "sl"), ?_⟩
  | refine ⟨(_ : Addr), (_ : List V), rfl, Or.inr (by walk_at "st"), ?_⟩
  | refine ⟨(_ : Addr), (_ : List V), (_ : Int), (_ : V), rfl, rfl, (by walk_at "sl"), (by first | rfl | assumption), ?_⟩
  | refine ⟨(_ : Addr), (_ : List V), (_ : Int), (_ : V), rfl, rfl, (by walk_at "st"), (by first | rfl | assumption), ?_⟩
  | refine ⟨(_ : Addr), (_ : List V), (_ : Int), (_ : Nat), rfl, rfl, upd_same, rfl, ?_⟩
  | refine ⟨(_ : Addr), (_ : List V), (_ : Int), (_ : Nat), rfl, rfl, (by assumption), rfl, ?_⟩
  | refine ⟨(_ : Addr), (_ : Addr), (_ : Addr), (_ : List (Str × V)), (_ : V), rfl, (by assumption), (by assumption), (by assumption), (by first | assumption | rfl), ?_⟩
  | refine Or.inl ⟨(_ : Int), rfl, ?_⟩
  | refine And.intro (by walk_at "sc") ?_
  | refine iteT ?_
  | refine iteF ?_)
/-! ### cards -/
structure CD where
  heading : Str
  books : List Int
  see : Str
  also : List Str
/-- a card that is as it must be -/
structure CD.Good (c : CD) : Prop where
  h : isWord c.heading = true
  b : isBooks c.books = true
  t : isTarget c.see c.heading = true
  e : c.see = "" ∨ (c.books = [] ∧ c.also = [])
  a : isFurther c.also c.heading = true
theorem CD.Good.lh {c : CD} (g : c.Good) : c.heading.length ≤ 8 := by
  have q := g.h
  unfold isWord at q
  rw [Bool.and_eq_true, Bool.and_eq_true] at q
  have := of_decide_eq_true q.1.2
  omega
theorem word_len {x : Str} (g : isWord x = true) : x.length ≤ 8 := by
  unfold isWord at g
  rw [Bool.and_eq_true, Bool.and_eq_true] at g
  have := of_decide_eq_true g.1.2
  omega
theorem CD.Good.ls {c : CD} (g : c.Good) : c.see.length ≤ 8 := by
  have q := g.t
  unfold isTarget at q
  rw [Bool.or_eq_true, Bool.and_eq_true] at q
  rcases q with q | q
  · rw [of_decide_eq_true q]
    decide
  · exact word_len q.1
theorem CD.Good.lb {c : CD} (g : c.Good) : c.books.length ≤ 6 := by
  have q := g.b
  unfold isBooks at q
  rw [Bool.and_eq_true, Bool.and_eq_true] at q
  exact of_decide_eq_true q.1.1
theorem CD.Good.la {c : CD} (g : c.Good) : c.also.length ≤ 4 := by
  have q := g.a
  unfold isFurther at q
  rw [Bool.and_eq_true, Bool.and_eq_true] at q
  exact of_decide_eq_true q.1.1
theorem CD.Good.wa {c : CD} (g : c.Good) : ∀ x ∈ c.also, isWord x = true := fun x hx => by
  have q := g.a
  unfold isFurther at q
  rw [Bool.and_eq_true, Bool.and_eq_true] at q
  have q2 := List.all_eq_true.mp q.1.2 x hx
  rw [Bool.and_eq_true] at q2
  exact q2.1
/-! ### a card as it stands -/
def cardFlds (h b s a : V) : List (Str × V) := putF "_also" a (putF "_see" s (putF "_books" b (putF "_heading" h [])))
theorem cf_eq (h b s a : V) : cardFlds h b s a = ([(("_heading" : Str), h), (("_books" : Str), b), (("_see" : Str), s), (("_also" : Str), a)] : List (Str × V)) := by
  rfl
theorem cf_heading (h b s a : V) : (cardFlds h b s a).lookup ("_heading" : Str) = some h := by rw [cf_eq]; rfl
theorem cf_books (h b s a : V) : (cardFlds h b s a).lookup ("_books" : Str) = some b := by rw [cf_eq]; rfl
theorem cf_see (h b s a : V) : (cardFlds h b s a).lookup ("_see" : Str) = some s := by rw [cf_eq]; rfl
theorem cf_also (h b s a : V) : (cardFlds h b s a).lookup ("_also" : Str) = some a := by rw [cf_eq]; rfl
/-- the card c of the class C stands at p -/
def CardAt (K : PySem.W.Frag) (C : Addr) (H : Hp) (p : Addr) (c : CD) : Prop := ∃ (dx b a : Addr), H p = some (.ins C dx (cardFlds (.str c.heading) (.ref b) (.str c.see) (.ref a))) ∧ SqT K H b (c.books.map V.int) ∧ SqT K H a (c.also.map V.str)
theorem CardAt.imm {C : Addr} {H H' : Hp} {p : Addr} {c : CD} (h : CardAt K C H p c) (s : Imm H H') : CardAt K C H' p c := by
  obtain ⟨dx, b, a, h1, h2, h3⟩ := h
  exact ⟨dx, b, a, s _ _ h1 rfl, s.seqT h2, s.seqT h3⟩
theorem CardAt.same {C : Addr} {H H' : Hp} {p : Addr} {c : CD} (h : CardAt K C H p c) (s : Same H H') : CardAt K C H' p c := h.imm s.imm
/-- the first part of a card that is wrong -/
def headingP : Str := "heading"
def booksP : Str := "books"
def seeP : Str := "see"
def alsoP : Str := "also"
def wrongP (c : CD) : Option Str :=
  if isWord c.heading = false then some headingP
  else if isBooks c.books = false then some booksP
  else if isTarget c.see c.heading = false then some seeP
  else if ¬ c.see = "" ∧ (¬ c.books = [] ∨ ¬ c.also = []) then some seeP
  else if isFurther c.also c.heading = false then some alsoP
  else none
def strOV : Option Str → V
  | none => .non
  | some t => .str t
/-- what is asked of the parts of a card: that they are not too long -/
structure Room4 (c : CD) : Prop where
  h : c.heading.length ≤ 1000
  s : c.see.length ≤ 1000
  b : c.books.length ≤ 1000
  a : c.also.length ≤ 1000
  x : ∀ y ∈ c.also, y.length ≤ 1000
  o : ∀ y ∈ c.also, PyData.strOk y = true
theorem ints_nil (ns : List Int) : (!(PyData.tuple (ns.map PyData.int)).eqv (.tuple [])) = !decide (ns = []) := by
  cases ns <;> rfl
theorem strs_nil (ns : List Str) : (!(PyData.tuple (ns.map PyData.str)).eqv (.tuple [])) = !decide (ns = []) := by
  cases ns <;> rfl
def spWrongPartX (K : PySem.W.Frag) : Sp := fun vs H Q _ => ∃ (c : CD) (b a : Addr), vs = [.str c.heading, .ref b, .str c.see, .ref a] ∧ Room4 c ∧ SqT K H b (c.books.map V.int) ∧ SqT K H a (c.also.map V.str) ∧ ∀ H', Same H H' → Q (strOV (wrongP c)) H'
theorem ok_wrong_part (T : Top K mg) : FnOk P w K mg base CX0 3 T.a_wrong_part T.fd_wrong_part ["heading", "books", "see", "also"] (spWrongPartX K) := by
  refine T.F_wrong_part.ok sc_wrong_part (fun vs H Q E h => ?_) (fun cdv A outer s H vs Q E hr h => ?_)
  · obtain ⟨c, b, a, rfl, _⟩ := h
    rfl
  · obtain ⟨c, b, a, rfl, g, hB, hA, k⟩ := h
    have hu := hu_of hr
    refine ⟨_, (pss_cons (ps_if (pt_not (pt_val (pe_call (ok_is_word T) (hr.mono (by decide)) (by rfl) T.g_is_word T.F_is_word.kp (b_is_word T) .nil pass0 (pa_cons (pv 0) pa_nil)))) (pss_one (ps_ret pe_str)) pss_nil)
      (pss_cons (ps_if (pt_not (pt_val (pe_call (ok_are_books T) (hr.mono (by decide)) (by rfl) T.g_are_books T.F_are_books.kp (b_are_books T) .nil pass0 (pa_cons (pv 1) pa_nil)))) (pss_one (ps_ret pe_str)) pss_nil)
      (pss_cons (ps_if (pt_not (pt_val (pe_call (ok_is_target T) (hr.mono (by decide)) (by rfl) T.g_is_target T.F_is_target.kp (b_is_target T) .nil pass0 (pa_cons (pv 2) (pa_cons (pv 0) pa_nil))))) (pss_one (ps_ret pe_str)) pss_nil)
      (pss_cons (ps_if (PW.pt (pw_and (pt_cmpR op_ne (pv 2) pe_str (nomark _)) (pw_and1 (PW.pt (pw_or (pt_cmpR (op_neD hr.units) (pv 1) (pe_tup pa_nil) (nomark _)) (pw_or1 (pt_cmpR (op_neD hr.units) (pv 3) (pe_tup pa_nil) (nomark _)))))))) (pss_one (ps_ret pe_str)) pss_nil)
      (pss_cons (ps_if (pt_not (pt_val (pe_call (ok_are_further T) (hr.mono (by decide)) (by rfl) T.g_are_further T.F_are_further.kp (b_are_further T) .nil pass0 (pa_cons (pv 3) (pa_cons (pv 0) pa_nil))))) (pss_one (ps_ret pe_str)) pss_nil)
      (pss_one (ps_ret pe_non))))))), ?_⟩
    have kk : ∀ H', Same H H' → Q (strOV (wrongP c)) H' := k
    unfold wrongP at kk
    refine ⟨_, rfl, c.heading, rfl, g.h, fun H1 s1 => ?_⟩
    cases h1 : isWord c.heading with
    | false =>
      rw [if_pos h1] at kk
      repeat walk_at "g1"
      exact kk H1 s1
    | true =>
    rw [if_neg (by rw [h1]; simp)] at kk
    repeat walk_at "g1"
    refine ⟨b, c.books, rfl, s1.seqT hB, g.b, fun H2 s2 => ?_⟩
    have s12 := s1.trans s2
    cases h2 : isBooks c.books with
    | false =>
      rw [if_pos h2] at kk
      repeat walk_at "g1"
      exact kk H2 s12
    | true =>
    rw [if_neg (by rw [h2]; simp)] at kk
    repeat walk_at "g1"
    refine ⟨c.see, c.heading, rfl, g.s, fun H3 s3 => ?_⟩
    have s13 := s12.trans s3
    cases h3 : isTarget c.see c.heading with
    | false =>
      rw [if_pos h3] at kk
      repeat walk_at "g1"
      exact kk H3 s13
    | true =>
    rw [if_neg (by rw [h3]; simp)] at kk
    repeat walk_at "g1"
    by_cases hs : c.see = ""
    · have e : (!decide (V.str c.see = V.str (Str.ofString ""))) = false := by
        rw [hs]
        exact congrArg _ (decide_eq_true rfl)
      rw [e]
      rw [if_neg (fun z => z.1 hs)] at kk
      refine iteF ?_
      repeat walk_at "g1"
      refine ⟨a, c.also, c.heading, rfl, s13.seqT hA, g.a, g.x, fun H5 s5 => ?_⟩
      have s15 := s13.trans s5
      cases h5 : isFurther c.also c.heading with
      | false =>
        rw [if_pos h5] at kk
        repeat walk_at "g1"
        exact kk H5 s15
      | true =>
        rw [if_neg (by rw [h5]; simp)] at kk
        repeat walk_at "g1"
        exact kk H5 s15
    · have e : (!decide (V.str c.see = V.str (Str.ofString ""))) = true := by
        have q : decide (V.str c.see = V.str (Str.ofString "")) = false := decide_eq_false fun z => hs (V.str.inj z)
        rw [q]
        rfl
      rw [e]
      refine iteT ?_
      refine ⟨_, rfl, Nat.zero_le _, fun p hp => ⟨.tuple (c.books.map .int), .tuple [], dp_tInts ((same_new hp).seqT (s13.seqT hB)), dp_nil (SqT.of upd_same), sh_tInts _, rfl, ?_⟩⟩
      have s14 : Same H (upd H3 p (.tup [])) := s13.trans (same_new hp)
      generalize upd H3 p (.tup []) = H4 at *
      rw [ints_nil]
      by_cases hb : c.books = []
      · rw [decide_eq_true hb]
        repeat walk_at "g1"
        refine ⟨Nat.zero_le _, fun p2 hp2 => ⟨.tuple (c.also.map .str), .tuple [], dp_tStrs ((same_new hp2).seqT (s14.seqT hA)), dp_nil (SqT.of upd_same), sh_tStrs _ g.o, rfl, ?_⟩⟩
        have s15 : Same H (upd H4 p2 (.tup [])) := s14.trans (same_new hp2)
        generalize upd H4 p2 (.tup []) = H5 at *
        rw [strs_nil]
        by_cases ha : c.also = []
        · rw [decide_eq_true ha]
          rw [if_neg (fun z => z.2.elim (fun y => y hb) fun y => y ha)] at kk
          repeat walk_at "g1"
          refine ⟨a, c.also, c.heading, rfl, s15.seqT hA, g.a, g.x, fun H6 s6 => ?_⟩
          have s16 := s15.trans s6
          cases h5 : isFurther c.also c.heading with
          | false =>
            rw [if_pos h5] at kk
            repeat walk_at "g1"
            exact kk H6 s16
          | true =>
            rw [if_neg (by rw [h5]; simp)] at kk
            repeat walk_at "g1"
            exact kk H6 s16
        · rw [decide_eq_false ha]
          rw [if_pos ⟨hs, .inr ha⟩] at kk
          repeat walk_at "g1"
          exact kk H5 s15
      · rw [decide_eq_false hb]
        rw [if_pos ⟨hs, .inl hb⟩] at kk
        repeat walk_at "g1"
        exact kk H4 s14
end
section
local macro_rules | `(tactic| walk_at "sl") => `(tactic| first | assumption | exact SqL.of upd_same | exact SqL.of (by assumption) | ((with_reducible apply sql_upd); (walk_at "sl"); (first | assumption | exact Ne.symm (by assumption))))
local macro_rules | `(tactic| walk_at "st") => `(tactic| first | assumption | exact SqT.of upd_same | exact SqT.of (by assumption))
local macro_rules | `(tactic| walk_at "sc") => `(tactic| first | rfl | assumption | (show (0 : Int) < _; first | assumption | decide | omega) | exact Or.inl ⟨by omega, by omega⟩ | exact Or.inr ⟨by omega, by omega⟩ | exact ⟨by decide, by decide⟩ | exact ⟨by decide, by decide, by decide⟩)
local macro_rules | `(tactic| walk_at "g1") => `(tactic| first
  | refine ⟨(_ : V), rfl, ?_⟩
  | refine ⟨(_ : Bool), rfl, ?_⟩
  | refine ⟨(_ : Int), (_ : Int), rfl, rfl, ?_⟩
  | refine ⟨(_ : Int), rfl, ?_⟩
  | refine ⟨(_ : Str), rfl, ?_⟩
  | refine ⟨(_ : Addr), (_ : List V), rfl, Or.inl (by walk_at "sl"), ?_⟩
  | refine ⟨(_ : Addr), (_ : List V), rfl, Or.inr (by walk_at "st"), ?_⟩
  | refine ⟨(_ : Addr), (_ : List V), (_ : Int), (_ : V), rfl, rfl, (by walk_at "sl"), (by first | rfl | assumption), ?_⟩
  | refine ⟨(_ : Addr), (_ : List V), (_ : Int), (_ : V), rfl, rfl, (by walk_at "st"), (by first | rfl | assumption), ?_⟩
  | refine ⟨(_ : Addr), (_ : List V), (_ : Int), (_ : Nat), rfl, rfl, upd_same, rfl, ?_⟩
  | refine ⟨(_ : Addr), (_ : List V), (_ : Int), (_ : Nat), rfl, rfl, (by assumption), rfl, ?_⟩
  | refine ⟨(_ : Addr), (_ : Addr), (_ : Addr), (_ : List (Str × V)), (_ : V), rfl, (by assumption), (by assumption), (by assumption), (by first | assumption | rfl), ?_⟩
  | refine Or.inl ⟨(_ : Int), rfl, ?_⟩
  | refine And.intro (by walk_at "sc") ?_
  | refine iteT ?_
  | refine iteF ?_)
/-! ### Card.__init__, or InvalidCard -/
theorem xd_gen {H1 H2 : Hp} {a dx : Addr} {fs : List (Str × V)} (na : H1 a = none) (nd : H1 dx = none) (h : ∀ b, b ≠ a → b ≠ dx → H2 b = H1 b) : Same H1 (upd (del H2 a) dx (.xd fs)) := fun b o e => by
  have n1 := ne_of_none e na
  have n2 := ne_of_none e nd
  rw [upd_ne n2, del_ne n1, h b n1 n2]
  exact e
def partS : Str := "wrong part of a card: "
theorem part_len : partS.length = 22 := by decide +kernel
def spInitP (C : Addr) : Sp := fun vs H Q _ => ∃ (a : Addr) (t : Str), vs = [.ref a, .str t] ∧ t.length ≤ 1000 ∧ H a = some (exo a C none) ∧ ∀ dx, H dx = none → dx ≠ a → Q .non (upd (upd H dx (exd dx [("part", .str t)])) a (exo a C (some dx)))
theorem ok_InvalidCard_init (T : Top K mg) : FnOk P w K mg base CX0 1 T.a_InvalidCard_init T.fd_InvalidCard_init ["self", "part"] (spInitP T.c_InvalidCard) := by
  refine T.F_InvalidCard_init.ok sc_InvalidCard_init (fun vs H Q E h => ?_) (fun cdv A outer s H vs Q E hr h => ?_)
  · obtain ⟨a, t, rfl, _⟩ := h
    rfl
  · obtain ⟨a, t, rfl, hl, ha, k⟩ := h
    have hu := hu_of hr
    refine ⟨_, (pss_cons (ps_expr (pe_binit ⟨T.bg_SeeError, T.br_SeeError, T.bv_SeeError⟩ (by rfl) T.g_SeeError (pa_cons (pv 0) (pa_cons (pe_joined (PJ.cons pe_str (PJ.cons (pe_fmt (pv 1)) PJ.nil))) pa_nil))))
      (pss_one (ps_ost (pv 0) (pv 1)))), ?_⟩
    refine ⟨_, rfl, partS, rfl, Nat.le_of_lt (sizeLine_of (by rw [PySem.Str.length_append, part_len]; show 0 + _ ≤ _; omega)), ?_⟩
    rw [fstr_empty]
    refine ⟨_, rfl, .inl ⟨t, rfl, Nat.le_of_lt (sizeLine_of (by omega)), t, rfl, Nat.le_of_lt (sizeLine_of (by rw [PySem.Str.length_append, part_len]; omega)), ?_⟩⟩
    refine ⟨a, T.c_InvalidCard, _, rfl, by show 1 ≤ 1000; decide, T.ox_InvalidCard, ha, ?_⟩
    refine ⟨_, rfl, _, rfl, a, T.c_InvalidCard, rfl, T.ox_InvalidCard, T.nf_InvalidCard_part, .inl ⟨ha, fun dx hdx hne => ?_⟩⟩
    exact k dx hdx hne
def spCardInitX (K : PySem.W.Frag) (C cE : Addr) : Sp := fun vs H Q E => ∃ (p dx : Addr) (c : CD) (b a : Addr), vs = [.ref p, .str c.heading, .ref b, .str c.see, .ref a] ∧ H p = some (.ins C dx []) ∧ Room4 c ∧ SqT K H b (c.books.map V.int) ∧ SqT K H a (c.also.map V.str) ∧
  ∀ H', (wrongP c = none → But p H H' → CardAt K C H' p c → Q .non H') ∧ (∀ t dd, wrongP c = some t → Same H H' → H' dd = some (.xd [("part", .str t)]) → E (.ref cE) (some dd) H')
theorem wrongP_len {c : CD} {t : Str} (h : wrongP c = some t) : t.length ≤ 1000 := by
  have q : ∀ x ∈ [headingP, booksP, seeP, alsoP], x.length ≤ 1000 := by decide +kernel
  refine q t ?_
  unfold wrongP at h
  repeat' split at h
  all_goals first
    | (cases h; simp)
    | cases h
theorem okx_Card_init (T : Top K mg) : FnOk P w K mg base (L2.CX P w) 4 T.a_Card_init T.fd_Card_init ["self", "heading", "books", "see", "also"] (spCardInitX K T.c_Card T.c_InvalidCard) := by
  refine T.F_Card_init.ok sc_Card_init (fun vs H Q E h => ?_) (fun cdv A outer s H vs Q E hr h => ?_)
  · obtain ⟨p, dx, c, b, a, rfl, _⟩ := h
    rfl
  · obtain ⟨p, dx, c, b, a, rfl, hp, g, hB, hA, k⟩ := h
    have hu := hu_of hr
    refine ⟨_, (pss_cons (ps_nox (ps_set (i := 5) sc_Card_init.nd rfl (.inl rfl) (pe_call (ok_wrong_part T) (hr.mono (by decide)) (by rfl) T.g_wrong_part T.F_wrong_part.kp (b_wrong_part T) .nil pass0 (pa_cons (pv 1) (pa_cons (pv 2) (pa_cons (pv 3) (pa_cons (pv 4) pa_nil)))))))
      (pss_cons (ps_if (pt_cmpR op_notN (pv 5) pe_non (nomark _)) (pss_one (ps_errO T.ox_InvalidCard T.oi_InvalidCard T.ot_InvalidCard (ok_InvalidCard_init T) (hr.mono (by decide)) (b_InvalidCard_init T) .nil pass0 T.g_InvalidCard (by rfl) (pa_cons (pv 5) pa_nil) rfl rfl rfl rfl rfl)) pss_nil)
      (pss_cons (ps_nox (ps_fld (pv 0) (pv 1) rfl))
      (pss_cons (ps_nox (ps_fld (pv 0) (pv 2) rfl))
      (pss_cons (ps_nox (ps_fld (pv 0) (pv 3) rfl))
      (pss_one (ps_nox (ps_fld (pv 0) (pv 4) rfl)))))))), ?_⟩
    refine ⟨_, rfl, _, rfl, _, rfl, _, rfl, c, b, a, rfl, g, hB, hA, fun H1 s1 => ?_⟩
    cases hw : wrongP c with
    | some t =>
      refine ⟨_, rfl, rfl, _, rfl, ?_⟩
      refine iteT ?_
      refine ⟨_, rfl, by show 1 ≤ 1000; decide, fun a' ha' => ⟨a', t, rfl, wrongP_len hw, upd_same, fun dx' hdx hne => ⟨rfl, dx', _, upd_same, by rw [upd_ne hne, upd_same], by rw [upd_ne hne] at hdx; exact hdx, ?_⟩⟩⟩
      rw [upd_ne hne] at hdx
      exact (k _).2 t dx' hw (s1.trans (xd_gen ha' hdx fun b n1 n2 => by rw [upd_ne n1, upd_ne n2, upd_ne n1])) upd_same
    | none =>
      refine ⟨_, rfl, rfl, _, rfl, ?_⟩
      refine iteF ?_
      have hp1 := s1 _ _ hp
      refine ⟨_, rfl, _, rfl, p, T.c_Card, dx, [], rfl, hp1, T.cl_Card, T.n_Card__heading, (by show 0 < 1000; decide), ?_⟩
      refine ⟨_, rfl, _, rfl, p, T.c_Card, dx, _, rfl, upd_same, T.cl_Card, T.n_Card__books, (by show 1 < 1000; decide), ?_⟩
      refine ⟨_, rfl, _, rfl, p, T.c_Card, dx, _, rfl, upd_same, T.cl_Card, T.n_Card__see, (by show 2 < 1000; decide), ?_⟩
      refine ⟨_, rfl, _, rfl, p, T.c_Card, dx, _, rfl, upd_same, T.cl_Card, T.n_Card__also, (by show 3 < 1000; decide), ?_⟩
      have nb : ∀ {q : Addr} {xs : List V}, SqT K H1 q xs → q ≠ p ∨ True := fun _ => .inr True.intro
      have st : ∀ {q : Addr} {xs : List V} {o : HO}, SqT K H1 q xs → SqT K (upd H1 p o) q xs := fun {q xs o} h => by
        rcases h with (h | ⟨u, h⟩) | h
        · exact .inl (.inl (by rw [upd_ne (ne_of h hp1 (by intro z; cases z))]; exact h))
        · exact .inl (.inr ⟨u, by rw [upd_ne (ne_of h hp1 (by intro z; cases z))]; exact h⟩)
        · exact .inr h
      have e4 : ∀ o1 o2 o3 o4 : HO, upd (upd (upd (upd H1 p o1) p o2) p o3) p o4 = upd H1 p o4 := fun o1 o2 o3 o4 => by rw [upd_upd, upd_upd, upd_upd]
      show Q .non (upd (upd (upd (upd H1 p _) p _) p _) p _)
      rw [e4]
      refine (k _).1 hw (fun q o h n => ?_) ⟨dx, b, a, upd_same, st (s1.seqT hB), st (s1.seqT hA)⟩
      rw [upd_ne n]
      exact s1 _ _ h
end
section
local macro_rules | `(tactic| walk_at "sl") => `(tactic| first | assumption | exact SqL.of upd_same | exact SqL.of (by assumption) | ((with_reducible apply sql_upd); (walk_at "sl"); (first | assumption | exact Ne.symm (by assumption))))
local macro_rules | `(tactic| walk_at "st") => `(tactic| first | assumption | exact SqT.of upd_same | exact SqT.of (by assumption))
local macro_rules | `(tactic| walk_at "sc") => `(tactic| first | rfl | assumption | (show (0 : Int) < _; first | assumption | decide | omega) | exact Or.inl ⟨by omega, by omega⟩ | exact Or.inr ⟨by omega, by omega⟩ | exact ⟨by decide, by decide⟩ | exact ⟨by decide, by decide, by decide⟩)
local macro_rules | `(tactic| walk_at "g1") => `(tactic| first
  | refine ⟨(_ : V), rfl, ?_⟩
  | refine ⟨(_ : Bool), rfl, ?_⟩
  | refine ⟨(_ : Int), (_ : Int), rfl, rfl, ?_⟩
  | refine ⟨(_ : Int), rfl, ?_⟩
  | refine ⟨(_ : Str), rfl, ?_⟩
  | refine ⟨(_ : Addr), (_ : List V), rfl, Or.inl (by walk_at "sl"), ?_⟩
  | refine ⟨(_ : Addr), (_ : List V), rfl, Or.inr (by walk_at "st"), ?_⟩
  | refine ⟨(_ : Addr), (_ : List V), (_ : Int), (_ : V), rfl, rfl, (by walk_at "sl"), (by first | rfl | assumption), ?_⟩
  | refine ⟨(_ : Addr), (_ : List V), (_ : Int), (_ : V), rfl, rfl, (by walk_at "st"), (by first | rfl | assumption), ?_⟩
  | refine ⟨(_ : Addr), (_ : List V), (_ : Int), (_ : Nat), rfl, rfl, upd_same, rfl, ?_⟩
  | refine ⟨(_ : Addr), (_ : List V), (_ : Int), (_ : Nat), rfl, rfl, (by assumption), rfl, ?_⟩
  | refine ⟨(_ : Addr), (_ : Addr), (_ : Addr), (_ : List (Str × V)), (_ : V), rfl, (by assumption), (by assumption), (by assumption), (by first | assumption | rfl), ?_⟩
  | refine Or.inl ⟨(_ : Int), rfl, ?_⟩
  | refine And.intro (by walk_at "sc") ?_
  | refine iteT ?_
  | refine iteF ?_)
/-! ### drawers -/
def drawFlds (t : V) : List (Str × V) := putF "_cards" t []
theorem df_cards (t : V) : (drawFlds t).lookup ("_cards" : Str) = some t := rfl
def spDrawerInitX (K : PySem.W.Frag) (C cI : Addr) : Sp := fun vs H Q E => ∃ (p dx t : Addr) (xs : List V), vs = [.ref p, .ref t] ∧ H p = some (.ins C dx []) ∧ SqT K H t xs ∧ xs.length ≤ 1000 ∧
  (16 < xs.length → E (.ref cI) none H) ∧ (xs.length ≤ 16 → ∀ H', But p H H' → H' p = some (.ins C dx (drawFlds (.ref t))) → Q .non H')
theorem okx_Drawer_init (T : Top K mg) : FnOk P w K mg base (L2.CX P w) 2 T.a_Drawer_init T.fd_Drawer_init ["self", "cards"] (spDrawerInitX K T.c_Drawer T.c_InvalidDrawer) := by
  refine T.F_Drawer_init.okX sc_Drawer_init (fun vs H Q E h => ?_) (fun cdv A outer s H vs Q E hr h => ?_)
  · obtain ⟨p, dx, t, xs, rfl, _⟩ := h
    rfl
  · obtain ⟨p, dx, t, xs, rfl, hp, hT, hl, k1, k2⟩ := h
    have hu := hu_of hr
    refine ⟨_, (pss_cons (ps_if (pt_cmpR op_gt (pe_callB call_len_seq (by rfl) T.m_len (by decide +kernel) (pa_cons (pv 1) pa_nil)) (pe_glob rfl T.g_MOST_CARDS T.r_MOST_CARDS) (nomark _)) (pss_one (ps_err ⟨T.xe_InvalidDrawer, T.xk_InvalidDrawer, T.xs_InvalidDrawer, T.xt_InvalidDrawer⟩ T.g_InvalidDrawer (by rfl) rfl rfl rfl rfl rfl)) pss_nil)
      (pss_one (ps_nox (ps_fld (pv 0) (pe_callTy call_tupleT (by rfl) T.m_tuple (by decide +kernel) (pa_cons (pv 1) pa_nil)) rfl)))), ?_⟩
    repeat walk_at "g1"
    refine ite2 (fun h1 => ?_) (fun h1 => ?_)
    · have q := of_decide_eq_true h1
      exact k1 (by omega)
    · have q : xs.length ≤ 16 := by
        have : ¬ ((16 : Int) < xs.length) := fun z => h1 (decide_eq_true z)
        omega
      repeat walk_at "g1"
      refine ⟨t, xs, rfl, hT, ?_⟩
      repeat walk_at "g1"
      refine ⟨p, T.c_Drawer, dx, [], rfl, hp, T.cl_Drawer, T.n_Drawer__cards, (by show 0 < 1000; decide), ?_⟩
      exact k2 q _ (fun q o h n => by rw [upd_ne n]; exact h) upd_same
end
section
local macro_rules | `(tactic| walk_at "sl") => `(tactic| first | assumption | exact SqL.of upd_same | exact SqL.of (by assumption) | ((with_reducible apply sql_upd); (walk_at "sl"); (first | assumption | exact Ne.symm (by assumption))))
local macro_rules | `(tactic| walk_at "st") => `(tactic| first | assumption | exact SqT.of upd_same | exact SqT.of (by assumption))
local macro_rules | `(tactic| walk_at "sc") => `(tactic| first | rfl | assumption | (show (0 : Int) < _; first | assumption | decide | omega) | exact Or.inl ⟨by omega, by omega⟩ | exact Or.inr ⟨by omega, by omega⟩ | exact ⟨by decide, by decide⟩ | exact ⟨by decide, by decide, by decide⟩)
local macro_rules | `(tactic| walk_at "g1") => `(tactic| first
  | refine ⟨(_ : V), rfl, ?_⟩
  | refine ⟨(_ : Bool), rfl, ?_⟩
  | refine ⟨(_ : Int), (_ : Int), rfl, rfl, ?_⟩
  | refine ⟨(_ : Int), rfl, ?_⟩
  | refine ⟨(_ : Str), rfl, ?_⟩
  | refine ⟨(_ : Addr), (_ : List V), rfl, Or.inl (by walk_at "sl"), ?_⟩
  | refine ⟨(_ : Addr), (_ : List V), rfl, Or.inr (by walk_at "st"), ?_⟩
  | refine ⟨(_ : Addr), (_ : List V), (_ : Int), (_ : V), rfl, rfl, (by walk_at "sl"), (by first | rfl | assumption), ?_⟩
  | refine ⟨(_ : Addr), (_ : List V), (_ : Int), (_ : V), rfl, rfl, (by walk_at "st"), (by first | rfl | assumption), ?_⟩
  | refine ⟨(_ : Addr), (_ : List V), (_ : Int), (_ : Nat), rfl, rfl, upd_same, rfl, ?_⟩
  | refine ⟨(_ : Addr), (_ : List V), (_ : Int), (_ : Nat), rfl, rfl, (by assumption), rfl, ?_⟩
  | refine ⟨(_ : Addr), (_ : Addr), (_ : Addr), (_ : List (Str × V)), (_ : V), rfl, (by assumption), (by assumption), (by assumption), (by first | assumption | rfl), ?_⟩
  | refine Or.inl ⟨(_ : Int), rfl, ?_⟩
  | refine And.intro (by walk_at "sc") ?_
  | refine iteT ?_
  | refine iteF ?_)
/-- the script: never the row -/
def Scr (K : PySem.W.Frag) (H : Hp) (r sc : Addr) (xs : List V) : Prop := (SqL K H sc xs ∧ sc ≠ r) ∨ ∀ H' : Hp, SqL K H' sc xs
theorem Scr.upd {H : Hp} {r sc : Addr} {xs : List V} {o : HO} (h : Scr K H r sc xs) : Scr K (L2.upd H r o) r sc xs := h.imp (fun z => ⟨sql_upd z.1 z.2, z.2⟩) id
theorem Scr.sql {H : Hp} {r sc : Addr} {xs : List V} (h : Scr K H r sc xs) : SqL K H sc xs := h.elim (fun z => z.1) fun z => z H
theorem Scr.new {H : Hp} {r sc : Addr} {xs : List V} {o : HO} (h : SqL K H sc xs) (hr : H r = none) : Scr K (L2.upd H r o) r sc xs := by
  rcases h with (h | ⟨u, h⟩) | h
  · exact .inl ⟨sql_upd (.inl (.inl h)) (ne_of_none h hr), ne_of_none h hr⟩
  · exact .inl ⟨sql_upd (.inl (.inr ⟨u, h⟩)) (ne_of_none h hr), ne_of_none h hr⟩
  · exact .inr fun H' => .inr h
local macro_rules | `(tactic| walk_at "sl") => `(tactic| first | exact Scr.sql (by assumption) | exact Scr.sql (Scr.upd (by assumption)) | exact Scr.sql (Scr.upd (Scr.upd (by assumption))) | exact Scr.sql (Scr.upd (Scr.upd (Scr.upd (by assumption)))))
/-- the law's row: the script, how many were taken, the seed, what is left of a great cell -/
def RowAt (K : PySem.W.Frag) (H : Hp) (r sc : Addr) (ns : List Int) : Prop := ∃ (n1 : Nat) (n2 n3 : Int), H r = some (.lst [.ref sc, .int n1, .int n2, .int n3]) ∧ Scr K H r sc (ns.map V.int) ∧ 0 ≤ n2 ∧ n2 < 2147483647
theorem RowAt.same {H H' : Hp} {r sc : Addr} {ns : List Int} (h : RowAt K H r sc ns) (s : Same H H') : RowAt K H' r sc ns := by
  obtain ⟨n1, n2, n3, h1, h2, h3⟩ := h
  exact ⟨n1, n2, n3, s _ _ h1, h2.imp (fun z => ⟨s.seq z.1, z.2⟩) id, h3⟩
theorem RowAt.at {H : Hp} {r sc : Addr} {ns : List Int} (h : RowAt K H r sc ns) : ∃ o, H r = some o ∧ immO o = false := by
  obtain ⟨n1, n2, n3, h1, _⟩ := h
  exact ⟨_, h1, rfl⟩
theorem RowAt.new {H : Hp} {r sc D : Addr} {ns : List Int} (h : RowAt K H r sc ns) (hD : H D = none) : D ≠ r ∧ (sc ≠ D ∨ ∀ H' : Hp, SqL K H' sc (ns.map V.int)) := by
  obtain ⟨n1, n2, n3, h1, h2, _⟩ := h
  refine ⟨fun e => (by rw [e, h1] at hD; cases hD), ?_⟩
  rcases h2 with ⟨(h | ⟨u, h⟩) | h, _⟩ | h
  · exact .inl (ne_of_none h hD)
  · exact .inl (ne_of_none h hD)
  · exact .inr fun H' => .inr h
  · exact .inr h
theorem RowAt.mut {H : Hp} {r sc D : Addr} {ns : List Int} {o : HO} (h : RowAt K H r sc ns) (hD : D ≠ r ∧ (sc ≠ D ∨ ∀ H' : Hp, SqL K H' sc (ns.map V.int))) : RowAt K (upd H D o) r sc ns := by
  obtain ⟨n1, n2, n3, h1, h2, h3⟩ := h
  refine ⟨n1, n2, n3, kn h1 hD.1.symm, ?_, h3⟩
  rcases hD.2 with h | h
  · exact h2.imp (fun z => ⟨sql_upd z.1 h, z.2⟩) id
  · exact .inr h
def spTaken (K : PySem.W.Frag) : Sp := fun vs H Q _ => ∃ (r sc : Addr) (ns : List Int) (m : Int), vs = [.ref r, .int m] ∧ 0 < m ∧ m < 1000 ∧ RowAt K H r sc ns ∧ ∀ (i : Nat) (H' : Hp), (i : Int) < m → But r H H' → RowAt K H' r sc ns → Q (.int i) H'
theorem ok_llaw_taken (T : Top K mg) : FnOk P w K mg base CX0 1 T.a_llaw_taken T.fd_llaw_taken ["_law_row", "_law_many"] (spTaken K) := by
  refine T.F_llaw_taken.ok sc_llaw_taken (fun vs H Q E h => ?_) (fun cdv A outer s H vs Q E hr h => ?_)
  · obtain ⟨r, sc, ns, m, rfl, _⟩ := h
    rfl
  · obtain ⟨r, sc, ns, m, rfl, hm0, hm1, ⟨n1, n2, n3, hR, hX, h2, h3⟩, k⟩ := h
    have hu := hu_of hr
    have hdv : ∀ i : Int, CDivW i m := fun i => wide_div (b := 10) hm0 (by omega) (by decide) (by decide)
    have hin : ∀ x : Int, ∃ i : Nat, (i : Int) < m ∧ V.int (x % m) = V.int i := fun x => ⟨(x % m).toNat, by
      have h1 := Int.emod_nonneg x (Int.ne_of_gt hm0)
      have h2 := Int.emod_lt_of_pos x hm0
      omega, by
      have h1 := Int.emod_nonneg x (Int.ne_of_gt hm0)
      rw [Int.toNat_of_nonneg h1]⟩
    have hmd : ∀ x : Int, 0 ≤ x % 2147483647 ∧ x % 2147483647 < 2147483647 := fun x => ⟨Int.emod_nonneg x (by decide), Int.emod_lt_of_pos x (by decide)⟩
    refine ⟨_, (pss_cons (ps_if (pt_cmpR op_gt (pe_ix ix_list (pv 0) pe_int (fun _ _ => rfl)) pe_int (nomark _)) (pss_cons (ps_set (i := 2) sc_llaw_taken.nd rfl (.inl rfl) (pe_op op_mod (pe_callTy call_int1 (by rfl) T.m_int (by decide +kernel) (pa_cons (pe_ix ix_list (pv 0) pe_int (fun _ _ => rfl)) pa_nil)) (pv 1)))
        (pss_cons (ps_asg (pe_op op_fdivW (pe_ix ix_list (pv 0) pe_int (fun _ _ => rfl)) (pv 1)) (pg_sub (pv 0) pe_int set_list))
        (pss_one (ps_ret (pv 2))))) pss_nil)
      (pss_cons (ps_asg (pe_op op_add (pe_ix ix_list (pv 0) pe_int (fun _ _ => rfl)) pe_int) (pg_sub (pv 0) pe_int set_list))
      (pss_cons (ps_if (pt_cmpR op_gt (pe_ix ix_list (pv 0) pe_int (fun _ _ => rfl)) (pe_callB call_len_seq (by rfl) T.m_len (by decide +kernel) (pa_cons (pe_ix ix_list (pv 0) pe_int (fun _ _ => rfl)) pa_nil)) (nomark _)) (pss_cons (ps_asg (pe_op op_mod (pe_callTy call_int1 (by rfl) T.m_int (by decide +kernel) (pa_cons (pe_op op_add (pe_op op_mul (pe_ix ix_list (pv 0) pe_int (fun _ _ => rfl)) pe_int) pe_int) pa_nil)) pe_int) (pg_sub (pv 0) pe_int set_list))
        (pss_one (ps_ret (pe_op op_mod (pe_callTy call_int1 (by rfl) T.m_int (by decide +kernel) (pa_cons (pe_op op_fdiv (pe_ix ix_list (pv 0) pe_int (fun _ _ => rfl)) pe_int) pa_nil)) (pv 1))))) pss_nil)
      (pss_cons (ps_set (i := 3) sc_llaw_taken.nd rfl (.inl rfl) (pe_ix ix_list (pe_ix ix_list (pv 0) pe_int (fun _ _ => rfl)) (pe_op op_sub (pe_ix ix_list (pv 0) pe_int (fun _ _ => rfl)) pe_int) (fun _ _ => rfl)))
      (pss_cons (ps_asg (pe_op op_mod (pe_callTy call_int1 (by rfl) T.m_int (by decide +kernel) (pa_cons (pe_op op_add (pe_op op_add (pe_op op_mul (pe_ix ix_list (pv 0) pe_int (fun _ _ => rfl)) pe_int) (pv 3)) pe_int) pa_nil)) pe_int) (pg_sub (pv 0) pe_int set_list))
      (pss_cons (ps_if (pt_cmpR op_ge (pv 3) (pe_op op_pow pe_int pe_int) (nomark _)) (pss_one (ps_asg (pe_op op_fdivW (pv 3) (pv 1)) (pg_sub (pv 0) pe_int set_list))) pss_nil)
      (pss_one (ps_ret (pe_op op_mod (pe_callTy call_int1 (by rfl) T.m_int (by decide +kernel) (pa_cons (pv 3) pa_nil)) (pv 1)))))))))), ?_⟩
    have hd3 := hdv n3
    repeat walk_at "g1"
    refine ite2 (fun _ => ?_) (fun _ => ?_)
    · repeat walk_at "g1"
      obtain ⟨i, hi, e⟩ := hin n3
      show Q (V.int (n3 % m)) _
      rw [e]
      exact k i _ hi But.refl.upd ⟨n1, n2, _, upd_same, hX.upd, h2, h3⟩
    · repeat walk_at "g1"
      have hx := hmd (n2 * 48271 + 11)
      refine ite2 (fun _ => ?_) (fun hlt => ?_)
      · repeat walk_at "g1"
        obtain ⟨i, hi, e⟩ := hin ((n2 * 48271 + 11) % 2147483647 / 7)
        show Q (V.int ((n2 * 48271 + 11) % 2147483647 / 7 % m)) _
        rw [e]
        exact k i _ hi But.refl.upd.upd ⟨n1 + 1, _, n3, upd_same, hX.upd.upd, hx.1, hx.2⟩
      · have hlt' : ¬ ((((ns.map V.int).length : Nat) : Int) < (n1 : Int) + 1) := fun z => hlt (decide_eq_true z)
        rw [List.length_map] at hlt'
        have hn1 : n1 < ns.length := by omega
        have hat : atI (ns.map V.int) ((n1 : Int) + 1 - 1) = some (.int ns[n1]) := by
          rw [Int.add_sub_cancel]
          exact atI_nat (by rw [List.getElem?_map, List.getElem?_eq_getElem hn1]; rfl)
        have hx := hmd (n2 * 48271 + ns[n1] + 11)
        have hdc := hdv ns[n1]
        obtain ⟨i, hi, e⟩ := hin ns[n1]
        repeat walk_at "g1"
        refine ite2 (fun _ => ?_) (fun _ => ?_)
        · repeat walk_at "g1"
          show Q (V.int (ns[n1] % m)) _
          rw [e]
          exact k i _ hi But.refl.upd.upd.upd ⟨n1 + 1, _, _, upd_same, hX.upd.upd.upd, hx.1, hx.2⟩
        · repeat walk_at "g1"
          show Q (V.int (ns[n1] % m)) _
          rw [e]
          exact k i _ hi But.refl.upd.upd ⟨n1 + 1, _, n3, upd_same, hX.upd.upd, hx.1, hx.2⟩
end
section
local macro_rules | `(tactic| walk_at "sl") => `(tactic| first | assumption | exact SqL.of upd_same | exact SqL.of (by assumption) | ((with_reducible apply sql_upd); (walk_at "sl"); (first | assumption | exact Ne.symm (by assumption))))
local macro_rules | `(tactic| walk_at "st") => `(tactic| first | assumption | exact SqT.of upd_same | exact SqT.of (by assumption))
local macro_rules | `(tactic| walk_at "sc") => `(tactic| first | rfl | assumption | (show (0 : Int) < _; first | assumption | decide | omega) | exact Or.inl ⟨by omega, by omega⟩ | exact Or.inr ⟨by omega, by omega⟩ | exact ⟨by decide, by decide⟩ | exact ⟨by decide, by decide, by decide⟩)
local macro_rules | `(tactic| walk_at "g1") => `(tactic| first
  | refine ⟨(_ : V), rfl, ?_⟩
  | refine ⟨(_ : Bool), rfl, ?_⟩
  | refine ⟨(_ : Int), (_ : Int), rfl, rfl, ?_⟩
  | refine ⟨(_ : Int), rfl, ?_⟩
  | refine ⟨(_ : Str), rfl, ?_⟩
  | refine ⟨(_ : Addr), (_ : List V), rfl, Or.inl (by walk_at "sl"), ?_⟩
  | refine ⟨(_ : Addr), (_ : List V), rfl, Or.inr (by walk_at "st"), ?_⟩
  | refine ⟨(_ : Addr), (_ : List V), (_ : Int), (_ : V), rfl, rfl, (by walk_at "sl"), (by first | rfl | assumption), ?_⟩
  | refine ⟨(_ : Addr), (_ : List V), (_ : Int), (_ : V), rfl, rfl, (by walk_at "st"), (by first | rfl | assumption), ?_⟩
  | refine ⟨(_ : Addr), (_ : List V), (_ : Int), (_ : Nat), rfl, rfl, upd_same, rfl, ?_⟩
  | refine ⟨(_ : Addr), (_ : List V), (_ : Int), (_ : Nat), rfl, rfl, (by assumption), rfl, ?_⟩
  | refine ⟨(_ : Addr), (_ : Addr), (_ : Addr), (_ : List (Str × V)), (_ : V), rfl, (by assumption), (by assumption), (by assumption), (by first | assumption | rfl), ?_⟩
  | refine Or.inl ⟨(_ : Int), rfl, ?_⟩
  | refine And.intro (by walk_at "sc") ?_
  | refine iteT ?_
  | refine iteF ?_)
/-! ### how headings are looked up -/
def ltS (a b : Str) : Bool := decide (a.cps.toList < b.cps.toList)
/-- one after another: the place, how many are looked at -/
def along (g : Bool) (h : Str) : Nat → List Str → Option Nat × Nat
  | i, [] => (none, i)
  | i, x :: r => if x = h then (some i, i + 1) else if (g && ltS h x) = true then (none, i + 1) else along g h (i + 1) r
/-- by halves: the place, the places that are looked at -/
def halves (ws : List Str) (h : Str) : Nat → Int → Int → List Int → Option Nat × List Int
  | 0, _, _, ps => (none, ps)
  | n + 1, lo, hi, ps => if lo ≤ hi then
      (if ws[((lo + hi) / 2).toNat]?.getD "" = h then (some ((lo + hi) / 2).toNat, ps ++ [(lo + hi) / 2])
       else if ltS h (ws[((lo + hi) / 2).toNat]?.getD "") = true then halves ws h n lo ((lo + hi) / 2 - 1) (ps ++ [(lo + hi) / 2])
       else halves ws h n ((lo + hi) / 2 + 1) hi (ps ++ [(lo + hi) / 2]))
     else (none, ps)
def upTo (n : Nat) : List Int := (List.range n).map fun (i : Nat) => (i : Int)
def alongOf (ws : List Str) (g : Bool) (h : Str) : Option Nat × List Int := ((along g h 0 ws).1, upTo (along g h 0 ws).2)
def halvesOf (ws : List Str) (h : Str) : Option Nat × List Int := halves ws h (ws.length + 1) 0 ((ws.length : Int) - 1) []
def seekOf (ws : List Str) (rule h : Str) : Option Nat × List Int := if rule = "half" then halvesOf ws h else alongOf ws (decide (rule = "leaf")) h
def onV : Option Nat → V
  | none => .non
  | some i => .int i
/-- what a look-up tells, at t -/
def Seen (K : PySem.W.Frag) (H : Hp) (t : Addr) (r : Option Nat × List Int) : Prop := ∃ p : Addr, SqT K H t [onV r.1, .ref p] ∧ SqT K H p (r.2.map V.int)
theorem Seen.imm {H H' : Hp} {t : Addr} {r : Option Nat × List Int} (h : Seen K H t r) (s : Imm H H') : Seen K H' t r := by
  obtain ⟨p, h1, h2⟩ := h
  exact ⟨p, s.seqT h1, s.seqT h2⟩
theorem rNe_to {x y : V} {b : Bool} {H : Hp} {Q : VK} (s : scal x y = true) (e : (!decide (x = y)) = b) (q : Q (.bl b) H) : rNe x y H Q := ⟨s, by rw [e]; exact q⟩
theorem rEq_to {x y : V} {b : Bool} {H : Hp} {Q : VK} (s : scal x y = true) (e : decide (x = y) = b) (q : Q (.bl b) H) : rEq x y H Q := ⟨s, by rw [e]; exact q⟩
theorem rEqD_to {x y : V} {d1 d2 : PyData} {b : Bool} {H : Hp} {Q : VK} (h1 : Dp K H x d1) (h2 : Dp K H y d2) (s1 : SeqAt.shaped d1 = true) (s2 : SeqAt.shaped d2 = true) (e : d1.eqv d2 = b) (q : Q (.bl b) H) : rEqD K x y H Q := ⟨d1, d2, h1, h2, s1, s2, by rw [e]; exact q⟩
theorem rNeD_to {x y : V} {d1 d2 : PyData} {b : Bool} {H : Hp} {Q : VK} (h1 : Dp K H x d1) (h2 : Dp K H y d2) (s1 : SeqAt.shaped d1 = true) (s2 : SeqAt.shaped d2 = true) (e : (!d1.eqv d2) = b) (q : Q (.bl b) H) : rNeD K x y H Q := ⟨d1, d2, h1, h2, s1, s2, by rw [e]; exact q⟩
theorem rI0_to {f : Int → Int → V} {i j : Int} {v : V} {H : Hp} {Q : VK} (e : f i j = v) (q : Q v H) : rI0 f (.int i) (.int j) H Q := ⟨i, j, rfl, rfl, by rw [e]; exact q⟩
theorem rgV_up (n : Nat) : rgV 0 (n : Int) = (upTo n).map V.int := by
  unfold rgV upTo
  rw [List.map_map]
  show (List.range ((n : Int) - 0).toNat).map _ = _
  rw [Int.sub_zero, Int.toNat_natCast]
  apply List.map_congr_left
  intro i _
  show V.int (0 + (i : Int)) = V.int i
  rw [Int.zero_add]
theorem along_bound (g : Bool) (h : Str) : ∀ (ws : List Str) (i : Nat), (along g h i ws).2 ≤ i + ws.length
  | [], i => Nat.le_refl _
  | x :: r, i => by
    unfold along
    rw [List.length_cons]
    split
    · show i + 1 ≤ _
      omega
    · split
      · show i + 1 ≤ _
        omega
      · have := along_bound g h r (i + 1)
        omega
def rules3 : List Str := ["all", "leaf", "half"]
end
section
local macro_rules | `(tactic| walk_at "sl") => `(tactic| first | assumption | exact SqL.of upd_same | exact SqL.of (by assumption) | ((with_reducible apply sql_upd); (walk_at "sl"); (first | assumption | exact Ne.symm (by assumption))))
local macro_rules | `(tactic| walk_at "st") => `(tactic| first | assumption | exact SqT.of upd_same | exact SqT.of (by assumption))
local macro_rules | `(tactic| walk_at "sc") => `(tactic| first | rfl | assumption | (show (0 : Int) < _; first | assumption | decide | omega) | exact Or.inl ⟨by omega, by omega⟩ | exact Or.inr ⟨by omega, by omega⟩ | exact ⟨by decide, by decide⟩ | exact ⟨by decide, by decide, by decide⟩)
local macro_rules | `(tactic| walk_at "g1") => `(tactic| first
  | refine ⟨(_ : V), rfl, ?_⟩
  | refine ⟨(_ : Bool), rfl, ?_⟩
  | refine ⟨(_ : Int), (_ : Int), rfl, rfl, ?_⟩
  | refine ⟨(_ : Int), rfl, ?_⟩
  | refine ⟨(_ : Str), rfl, ?_⟩
  | refine ⟨(_ : Addr), (_ : List V), rfl, Or.inl (by walk_at "sl"), ?_⟩
  | refine ⟨(_ : Addr), (_ : List V), rfl, Or.inr (by walk_at "st"), ?_⟩
  | refine ⟨(_ : Addr), (_ : List V), (_ : Int), (_ : V), rfl, rfl, (by walk_at "sl"), (by first | rfl | assumption), ?_⟩
  | refine ⟨(_ : Addr), (_ : List V), (_ : Int), (_ : V), rfl, rfl, (by walk_at "st"), (by first | rfl | assumption), ?_⟩
  | refine ⟨(_ : Addr), (_ : List V), (_ : Int), (_ : Nat), rfl, rfl, upd_same, rfl, ?_⟩
  | refine ⟨(_ : Addr), (_ : List V), (_ : Int), (_ : Nat), rfl, rfl, (by assumption), rfl, ?_⟩
  | refine ⟨(_ : Addr), (_ : Addr), (_ : Addr), (_ : List (Str × V)), (_ : V), rfl, (by assumption), (by assumption), (by assumption), (by first | assumption | rfl), ?_⟩
  | refine Or.inl ⟨(_ : Int), rfl, ?_⟩
  | refine And.intro (by walk_at "sc") ?_
  | refine iteT ?_
  | refine iteF ?_)
/-! ### the law's own searcher -/
def hereOf (r : Str) (lo hi : Int) : Int := if r = "half" then (lo + hi - 1) / 2 else lo
def J (ws : List Str) (r h : Str) (lo hi : Int) (ps : List Int) : Prop :=
  (r = "half" ∧ ∃ f, (hi - lo).toNat < f ∧ halvesOf ws h = halves ws h f lo (hi - 1) ps) ∨
  (r ≠ "half" ∧ ((hi = ws.length ∧ ps = upTo lo.toNat ∧ along (decide (r = "leaf")) h 0 ws = along (decide (r = "leaf")) h lo.toNat (ws.drop lo.toNat)) ∨ (hi ≤ lo ∧ alongOf ws (decide (r = "leaf")) h = (none, ps))))
theorem upTo_succ (n : Nat) : upTo (n + 1) = upTo n ++ [(n : Int)] := by
  unfold upTo
  rw [List.range_succ, List.map_append]
  rfl
theorem J_start (ws : List Str) (r h : Str) : J ws r h 0 ws.length [] := by
  by_cases e : r = "half"
  · exact .inl ⟨e, ws.length + 1, by omega, rfl⟩
  · exact .inr ⟨e, .inl ⟨rfl, rfl, rfl⟩⟩
theorem J_stop {ws : List Str} {r h : Str} {lo hi : Int} {ps : List Int} (j : J ws r h lo hi ps) (h0 : 0 ≤ lo) (hs : hi ≤ lo) : seekOf ws r h = (none, ps) := by
  rcases j with ⟨e, f, hf, q⟩ | ⟨e, ⟨h1, h2, h3⟩ | ⟨_, h2⟩⟩
  · unfold seekOf
    rw [if_pos e, q]
    cases f with
    | zero => rfl
    | succ f =>
      show (if lo ≤ hi - 1 then _ else _) = _
      rw [if_neg (by omega)]
  · unfold seekOf
    rw [if_neg e]
    unfold alongOf
    have hl : ws.length ≤ lo.toNat := by omega
    rw [h3, List.drop_eq_nil_of_le hl, h2]
    rfl
  · unfold seekOf
    rw [if_neg e, h2]
theorem J_in {ws : List Str} {r h : Str} {lo hi : Int} {ps : List Int} (j : J ws r h lo hi ps) (h0 : 0 ≤ lo) (hs : lo < hi) (hn : hi ≤ ws.length) : 0 ≤ hereOf r lo hi ∧ lo ≤ hereOf r lo hi ∧ hereOf r lo hi < hi := by
  unfold hereOf
  split
  · omega
  · omega
theorem J_half {ws : List Str} {h : Str} {lo hi : Int} {ps : List Int} {f : Nat} {x : Str} (h0 : 0 ≤ lo) (hs : lo < hi) (hx : ws[((lo + hi - 1) / 2).toNat]? = some x) :
    halves ws h (f + 1) lo (hi - 1) ps = if x = h then (some ((lo + hi - 1) / 2).toNat, ps ++ [(lo + hi - 1) / 2]) else if ltS h x = true then halves ws h f lo ((lo + hi - 1) / 2 - 1) (ps ++ [(lo + hi - 1) / 2]) else halves ws h f ((lo + hi - 1) / 2 + 1) (hi - 1) (ps ++ [(lo + hi - 1) / 2]) := by
  have e : lo + (hi - 1) = lo + hi - 1 := by omega
  show (if lo ≤ hi - 1 then (if ws[((lo + (hi - 1)) / 2).toNat]?.getD "" = h then _ else _) else _) = _
  rw [if_pos (by omega), e, hx]
  rfl
theorem J_along {ws : List Str} {g : Bool} {h : Str} {n : Nat} {x : Str} (hx : ws[n]? = some x) : along g h n (ws.drop n) = if x = h then (some n, n + 1) else if (g && ltS h x) = true then (none, n + 1) else along g h (n + 1) (ws.drop (n + 1)) := by
  have hn := (List.getElem?_eq_some_iff.mp hx).1
  have hd : ws.drop n = x :: ws.drop (n + 1) := by
    rw [List.drop_eq_getElem_cons hn]
    rw [List.getElem?_eq_getElem hn] at hx
    rw [Option.some.inj hx]
  rw [hd]
  rfl
theorem J_hit {ws : List Str} {r h : Str} {lo hi : Int} {ps : List Int} (j : J ws r h lo hi ps) (h0 : 0 ≤ lo) (hs : lo < hi) (hx : ws[(hereOf r lo hi).toNat]? = some h) : seekOf ws r h = (some (hereOf r lo hi).toNat, ps ++ [hereOf r lo hi]) := by
  rcases j with ⟨e, f, hf, q⟩ | ⟨e, ⟨h1, h2, h3⟩ | ⟨h4, _⟩⟩
  · have eh : hereOf r lo hi = (lo + hi - 1) / 2 := if_pos e
    rw [eh] at hx ⊢
    obtain ⟨f, rfl⟩ : ∃ f', f = f' + 1 := ⟨f - 1, by omega⟩
    unfold seekOf
    rw [if_pos e, q, J_half h0 hs hx, if_pos rfl]
  · have eh : hereOf r lo hi = lo := if_neg e
    rw [eh] at hx ⊢
    unfold seekOf
    rw [if_neg e]
    unfold alongOf
    rw [h3, J_along hx, if_pos rfl, upTo_succ, Int.toNat_of_nonneg h0, h2]
  · omega
theorem J_up {ws : List Str} {r h x : Str} {lo hi : Int} {ps : List Int} (hr : r ∈ rules3) (j : J ws r h lo hi ps) (h0 : 0 ≤ lo) (hs : lo < hi) (hx : ws[(hereOf r lo hi).toNat]? = some x) (hne : x ≠ h) (hlt : ltS h x = true) (ha : r ≠ "all") :
    J ws r h lo (if r = "half" then hereOf r lo hi else lo) (ps ++ [hereOf r lo hi]) := by
  rcases j with ⟨e, f, hf, q⟩ | ⟨e, ⟨h1, h2, h3⟩ | ⟨h4, _⟩⟩
  · have eh : hereOf r lo hi = (lo + hi - 1) / 2 := if_pos e
    rw [if_pos e]
    rw [eh] at hx ⊢
    obtain ⟨f, rfl⟩ : ∃ f', f = f' + 1 := ⟨f - 1, by omega⟩
    rw [J_half h0 hs hx, if_neg hne, if_pos hlt] at q
    exact .inl ⟨e, f, by omega, q⟩
  · have eh : hereOf r lo hi = lo := if_neg e
    rw [if_neg e]
    rw [eh] at hx ⊢
    have hl : r = "leaf" := by
      unfold rules3 at hr
      rcases List.mem_cons.mp hr with h | hr
      · exact absurd h ha
      · rcases List.mem_cons.mp hr with h | hr
        · exact h
        · exact absurd (List.mem_singleton.mp hr) e
    refine .inr ⟨e, .inr ⟨Int.le_refl _, ?_⟩⟩
    unfold alongOf
    rw [h3, J_along hx, if_neg hne, if_pos (by rw [decide_eq_true hl, hlt]; rfl), upTo_succ, Int.toNat_of_nonneg h0, h2]
  · omega
theorem J_down {ws : List Str} {r h x : Str} {lo hi : Int} {ps : List Int} (hr : r ∈ rules3) (j : J ws r h lo hi ps) (h0 : 0 ≤ lo) (hs : lo < hi) (hx : ws[(hereOf r lo hi).toNat]? = some x) (hne : x ≠ h) (hno : ¬ (ltS h x = true ∧ r ≠ "all")) :
    J ws r h (hereOf r lo hi + 1) hi (ps ++ [hereOf r lo hi]) := by
  rcases j with ⟨e, f, hf, q⟩ | ⟨e, ⟨h1, h2, h3⟩ | ⟨h4, _⟩⟩
  · have eh : hereOf r lo hi = (lo + hi - 1) / 2 := if_pos e
    have ha : r ≠ "all" := by
      rw [e]
      decide
    rw [eh] at hx ⊢
    obtain ⟨f, rfl⟩ : ∃ f', f = f' + 1 := ⟨f - 1, by omega⟩
    rw [J_half h0 hs hx, if_neg hne, if_neg (fun z => hno ⟨z, ha⟩)] at q
    exact .inl ⟨e, f, by omega, q⟩
  · have eh : hereOf r lo hi = lo := if_neg e
    rw [eh] at hx ⊢
    have hb : ¬ (decide (r = "leaf") && ltS h x) = true := fun z => by
      rw [Bool.and_eq_true] at z
      refine hno ⟨z.2, fun ha => ?_⟩
      have := of_decide_eq_true z.1
      rw [ha] at this
      exact absurd this (by decide)
    rw [J_along hx, if_neg hne, if_neg hb] at h3
    have e1 : (lo + 1).toNat = lo.toNat + 1 := by omega
    refine .inr ⟨e, .inl ⟨h1, ?_, ?_⟩⟩
    · rw [e1, upTo_succ, Int.toNat_of_nonneg h0, h2]
    · rw [e1]
      exact h3
  · omega
theorem tC_to {v : V} {σ : St} {H : Hp} {Q : VK} (q : Q v H) : tC v σ H Q := q
theorem ifE {c : Bool} {ta tb : TE} {σ : St} {H : Hp} {Q : VK} (v : V) (H' : Hp) (q : Q v H') (a : c = true → Q v H' → ta σ H Q) (b : ¬ c = true → Q v H' → tb σ H Q) : if c = true then ta σ H Q else tb σ H Q := by
  split
  · exact a (by assumption) q
  · exact b (by assumption) q
theorem str_dec (a b : Str) : decide (V.str a = V.str b) = decide (a = b) := by
  by_cases e : a = b
  · rw [decide_eq_true e, decide_eq_true (congrArg V.str e)]
  · rw [decide_eq_false e, decide_eq_false fun z => e (V.str.inj z)]
end
section
local macro_rules | `(tactic| walk_at "sl") => `(tactic| first | assumption | exact SqL.of upd_same | exact SqL.of (by assumption) | ((with_reducible apply sql_upd); (walk_at "sl"); (first | assumption | exact Ne.symm (by assumption))))
local macro_rules | `(tactic| walk_at "st") => `(tactic| first | assumption | exact SqT.of upd_same | exact SqT.of (by assumption))
local macro_rules | `(tactic| walk_at "sc") => `(tactic| first | rfl | assumption | (show (0 : Int) < _; first | assumption | decide | omega) | exact Or.inl ⟨by omega, by omega⟩ | exact Or.inr ⟨by omega, by omega⟩ | exact ⟨by decide, by decide⟩ | exact ⟨by decide, by decide, by decide⟩)
local macro_rules | `(tactic| walk_at "g1") => `(tactic| first
  | refine ⟨(_ : V), rfl, ?_⟩
  | refine ⟨(_ : Bool), rfl, ?_⟩
  | refine ⟨(_ : Int), (_ : Int), rfl, rfl, ?_⟩
  | refine ⟨(_ : Int), rfl, ?_⟩
  | refine ⟨(_ : Str), rfl, ?_⟩
  | refine ⟨(_ : Addr), (_ : List V), rfl, Or.inl (by walk_at "sl"), ?_⟩
  | refine ⟨(_ : Addr), (_ : List V), rfl, Or.inr (by walk_at "st"), ?_⟩
  | refine ⟨(_ : Addr), (_ : List V), (_ : Int), (_ : V), rfl, rfl, (by walk_at "sl"), (by first | rfl | assumption), ?_⟩
  | refine ⟨(_ : Addr), (_ : List V), (_ : Int), (_ : V), rfl, rfl, (by walk_at "st"), (by first | rfl | assumption), ?_⟩
  | refine ⟨(_ : Addr), (_ : List V), (_ : Int), (_ : Nat), rfl, rfl, upd_same, rfl, ?_⟩
  | refine ⟨(_ : Addr), (_ : List V), (_ : Int), (_ : Nat), rfl, rfl, (by assumption), rfl, ?_⟩
  | refine ⟨(_ : Addr), (_ : Addr), (_ : Addr), (_ : List (Str × V)), (_ : V), rfl, (by assumption), (by assumption), (by assumption), (by first | assumption | rfl), ?_⟩
  | refine Or.inl ⟨(_ : Int), rfl, ?_⟩
  | refine And.intro (by walk_at "sc") ?_
  | refine iteT ?_
  | refine iteF ?_)
/-! ### words of texts -/
def digits : Str := "0123456789"
def digsM (t : Str) (m : Int) : Bool := (decide ((1 : Int) ≤ t.length) && decide ((t.length : Int) ≤ m)) && t.cps.toList.all fun c => decide (c ∈ digits.cps.toList)
def spDigs : Sp := fun vs H Q _ => ∃ (t : Str) (m : Int), vs = [.str t, .int m] ∧ t.length ≤ 1000 ∧ ∀ H', Same H H' → Q (.bl (digsM t m)) H'
theorem ok_is_digits (T : Top K mg) : FnOk P w K mg base CX0 1 T.a_is_digits T.fd_is_digits ["text", "most"] spDigs := by
  refine T.F_is_digits.ok sc_is_digits (fun vs H Q E h => ?_) (fun cdv A outer s H vs Q E hr h => ?_)
  · obtain ⟨t, m, rfl, _⟩ := h
    rfl
  · obtain ⟨t, m, rfl, hl, k⟩ := h
    have hu := hu_of hr
    refine ⟨_, (pss_one (ps_ret (pe_and (pe_chain op_le op_le pe_int (pe_callB call_len (by rfl) T.m_len (by decide +kernel) (pa_cons (pv 0) pa_nil)) (pv 1)) (pe_one (pe_callB (cr_all rfl) (by rfl) T.m_all (by decide +kernel) (pa_cons (pe_lc (own := [("sign", 2)]) (g := gName 2) (tt := tYes) rfl sc_is_digits.nd (pi_str (pv 0)) (blkOk_by (N := N_is_digits) (sc := defScope s_is_digits) (by decide +kernel)) (fun _ _ _ _ _ => (pg_name (i := 2) sc_is_digits.nd rfl (.inl rfl))) (fun _ _ _ _ _ => pts_nil) (fun _ _ _ _ _ => (pe_cmpR op_in_sign (pv 2) (pe_glob rfl T.g_DIGITS T.r_DIGITS) rfl))) pa_nil)))))), ?_⟩
    refine ⟨_, rfl, _, _, rfl, ⟨by have := sizeLine_of (show t.length ≤ 1000000 by omega); omega, rfl⟩, ?_⟩
    refine ⟨_, _, rfl, rfl, _, rfl, ?_⟩
    have kk := k
    unfold digsM at kk
    by_cases h1 : (1 : Int) ≤ t.length
    · rw [decide_eq_true h1] at kk ⊢
      refine iteT ⟨_, rfl, _, _, rfl, rfl, ?_⟩
      refine ⟨_, rfl, ?_⟩
      by_cases h2 : (t.length : Int) ≤ m
      · rw [decide_eq_true h2] at kk ⊢
        refine iteT ?_
        refine ⟨.str t, rfl, t, rfl, fun D hD => lc_map walk_str (by show t.length ≤ _; omega) hD (fun i => V.bl (decide (t.cps.toList[i]?.getD 0 ∈ digits.cps.toList))) (fun _ _ => trivial) (fun i x H1 H2 hi s1 hy R r => ?_) (fun H1 s1 hd => ?_) gName_mono⟩
        · obtain ⟨rfl, c, hc, rfl⟩ := hy
          refine ⟨rfl, ?_⟩
          refine ⟨_, rfl, c, digits, rfl, rfl, ?_⟩
          have q := r _ (Same.refl _)
          rw [Array.getElem?_toList, hc] at q
          exact q
        · have el : (List.range t.cps.size).map (fun i => V.bl (decide (t.cps.toList[i]?.getD 0 ∈ digits.cps.toList))) = (t.cps.toList.map fun c => decide (c ∈ digits.cps.toList)).map V.bl := by
            rw [List.map_map]
            refine range_map t.cps.toList _ _ fun i x h => ?_
            rw [h]
            rfl
          refine ⟨D, _, rfl, SqL.of (by rw [hd, el]), ?_⟩
          have := kk H1 s1
          rw [List.all_map]
          exact this
      · rw [decide_eq_false h2] at kk ⊢
        refine iteF ?_
        exact kk H (Same.refl H)
    · rw [decide_eq_false h1] at kk ⊢
      refine iteF ⟨_, rfl, iteF ?_⟩
      exact kk H (Same.refl H)
/-- the words that texts have -/
def voc1 : List Str := ["ant", "bee", "cat", "dog", "elk", "fox", "gnu", "see", "card", "also", "1", "2", "3", "300", "10", "999"]
def voc2 : List Str := ["20", "bus", "tram", "rail", "ship", "", "cards", "Bus", "0", "01", "1000", "x", "Tram", "-1", "busbusbus"]
def voc3 : List Str := ["a", "b", "c", "d", "e", "4", "5", "6", "7"]
def voc : List Str := voc1 ++ (voc2 ++ voc3)
def numW (t : Str) : Int := (PySem.intText? t).getD 0
def zeroS : Str := "0"
def bookOk (t : Str) (last : Int) : Bool := digsM t 3 && !Txt.startswith t zeroS && decide (last < numW t)
theorem voc_len : ∀ t ∈ voc, t.length ≤ 16 := by decide +kernel
theorem voc_num : ∀ t ∈ voc, digsM t 3 = true → (PySem.intText? t).isSome = true := by decide +kernel
theorem voc_num' {t : Str} (h : t ∈ voc) (hd : digsM t 3 = true) : PySem.intText? t = some (numW t) := by
  have := voc_num t h hd
  unfold numW
  cases e : PySem.intText? t with
  | none => rw [e] at this; cases this
  | some n => rfl
def spBook : Sp := fun vs H Q _ => ∃ (t : Str) (n : Int), vs = [.str t, .int n] ∧ t ∈ voc ∧ ∀ H', Same H H' → Q (.bl (bookOk t n)) H'
theorem ok_is_book (T : Top K mg) : FnOk P w K mg base CX0 2 T.a_is_book T.fd_is_book ["word", "last"] spBook := by
  refine T.F_is_book.ok sc_is_book (fun vs H Q E h => ?_) (fun cdv A outer s H vs Q E hr h => ?_)
  · obtain ⟨t, n, rfl, _⟩ := h
    rfl
  · obtain ⟨t, n, rfl, hv, k⟩ := h
    have hu := hu_of hr
    refine ⟨_, (pss_cons (ps_if (PW.pt (pw_or (pt_not (pt_val (pe_call (ok_is_digits T) (hr.mono (by decide)) (by rfl) T.g_is_digits T.F_is_digits.kp (b_is_digits T) .nil pass0 (pa_cons (pv 0) (pa_cons (pe_glob rfl T.g_MOST_DIGITS T.r_MOST_DIGITS) pa_nil))))) (pw_or1 (pt_val (pe_m1 PySem.F.slot_str_startswith PySem.F.type_str_startswith mt_startswith (pv 0) pe_str))))) (pss_one (ps_ret pe_bl)) pss_nil)
      (pss_one (ps_ret (pe_cmpR op_gt (pe_callTy call_int_str (by rfl) T.m_int (by decide +kernel) (pa_cons (pv 0) pa_nil)) (pv 1) (nomark _))))), ?_⟩
    have hl := voc_len t hv
    have kk := k
    unfold bookOk at kk
    refine ⟨_, rfl, t, 3, rfl, by omega, fun H1 s1 => ⟨_, rfl, ?_⟩⟩
    cases hd : digsM t 3 with
    | false =>
      rw [hd] at kk
      exact iteT (iteT (kk H1 s1))
    | true =>
      rw [hd] at kk
      refine iteF ?_
      refine ⟨_, rfl, ⟨t, rfl⟩, t, zeroS, rfl, rfl, ?_⟩
      refine ⟨_, rfl, ?_⟩
      cases hz : Txt.startswith t zeroS with
      | true =>
        rw [hz] at kk
        exact iteT (kk H1 s1)
      | false =>
        rw [hz] at kk
        refine iteF ?_
        refine ⟨_, rfl, t, numW t, rfl, voc_num' hv hd, by omega, ?_⟩
        refine ⟨_, rfl, _, _, rfl, rfl, ?_⟩
        exact kk H1 s1
end
section
local macro_rules | `(tactic| walk_at "sl") => `(tactic| first | assumption | exact SqL.of upd_same | exact SqL.of (by assumption) | ((with_reducible apply sql_upd); (walk_at "sl"); (first | assumption | exact Ne.symm (by assumption))))
local macro_rules | `(tactic| walk_at "st") => `(tactic| first | assumption | exact SqT.of upd_same | exact SqT.of (by assumption))
local macro_rules | `(tactic| walk_at "sc") => `(tactic| first | rfl | assumption | (show (0 : Int) < _; first | assumption | decide | omega) | exact Or.inl ⟨by omega, by omega⟩ | exact Or.inr ⟨by omega, by omega⟩ | exact ⟨by decide, by decide⟩ | exact ⟨by decide, by decide, by decide⟩)
local macro_rules | `(tactic| walk_at "g1") => `(tactic| first
  | refine ⟨(_ : V), rfl, ?_⟩
  | refine ⟨(_ : Bool), rfl, ?_⟩
  | refine ⟨(_ : Int), (_ : Int), rfl, rfl, ?_⟩
  | refine ⟨(_ : Int), rfl, ?_⟩
  | refine ⟨(_ : Str), rfl, ?_⟩
  | refine ⟨(_ : Addr), (_ : List V), rfl, Or.inl (by walk_at "sl"), ?_⟩
  | refine ⟨(_ : Addr), (_ : List V), rfl, Or.inr (by walk_at "st"), ?_⟩
  | refine ⟨(_ : Addr), (_ : List V), (_ : Int), (_ : V), rfl, rfl, (by walk_at "sl"), (by first | rfl | assumption), ?_⟩
  | refine ⟨(_ : Addr), (_ : List V), (_ : Int), (_ : V), rfl, rfl, (by walk_at "st"), (by first | rfl | assumption), ?_⟩
  | refine ⟨(_ : Addr), (_ : List V), (_ : Int), (_ : Nat), rfl, rfl, upd_same, rfl, ?_⟩
  | refine ⟨(_ : Addr), (_ : List V), (_ : Int), (_ : Nat), rfl, rfl, (by assumption), rfl, ?_⟩
  | refine ⟨(_ : Addr), (_ : Addr), (_ : Addr), (_ : List (Str × V)), (_ : V), rfl, (by assumption), (by assumption), (by assumption), (by first | assumption | rfl), ?_⟩
  | refine Or.inl ⟨(_ : Int), rfl, ?_⟩
  | refine And.intro (by walk_at "sc") ?_
  | refine iteT ?_
  | refine iteF ?_)
/-! ### what is wrong with a row of words -/
def alsoW : Str := "also"
def seeW : Str := "see"
def cardW : Str := "card"
/-- the first `also` behind the heading, from the index i on -/
def idxFrom : Nat → List Str → Nat
  | i, [] => i
  | i, t :: r => if 1 < i ∧ t = alsoW then i else idxFrom (i + 1) r
def idxAlso (ws : List Str) : Nat := idxFrom 0 ws
theorem idxFrom_ge : ∀ (i : Nat) (ws : List Str), i ≤ idxFrom i ws ∧ idxFrom i ws ≤ i + ws.length
  | i, [] => ⟨Nat.le_refl _, Nat.le_refl _⟩
  | i, t :: r => by
    unfold idxFrom
    rw [List.length_cons]
    split
    · omega
    · have := idxFrom_ge (i + 1) r
      omega
theorem idxFrom_at {i : Nat} {ws : List Str} {t : Str} (h : ws[i]? = some t) (n : Nat) : idxFrom n (ws.drop i) = if 1 < n ∧ t = alsoW then n else idxFrom (n + 1) (ws.drop (i + 1)) := by
  have hn := (List.getElem?_eq_some_iff.mp h).1
  rw [List.drop_eq_getElem_cons hn]
  rw [List.getElem?_eq_getElem hn] at h
  rw [Option.some.inj h]
  rfl
def spIdxAlso (K : PySem.W.Frag) : Sp := fun vs H Q _ => ∃ (l : Addr) (ws : List Str), vs = [.ref l] ∧ SqL K H l (ws.map V.str) ∧ ws.length ≤ 1000 ∧ ∀ H', Same H H' → Q (.int (idxAlso ws : Nat)) H'
theorem ok_index_of_also (T : Top K mg) : FnOk P w K mg base CX0 1 T.a_index_of_also T.fd_index_of_also ["words"] (spIdxAlso K) := by
  refine T.F_index_of_also.ok sc_index_of_also (fun vs H Q E h => ?_) (fun cdv A outer s H vs Q E hr h => ?_)
  · obtain ⟨l, ws, rfl, _⟩ := h
    rfl
  · obtain ⟨l, ws, rfl, hL, hl, k⟩ := h
    have hu := hu_of hr
    refine ⟨_, (pss_cons (ps_for PassesOwn.never rfl (pi_enum (by rfl) T.m_enumerate (pa_cons (pv 0) pa_nil)) (pg_tup rfl (pgs_cons (pg_name (i := 1) sc_index_of_also.nd rfl (.inl rfl)) (pgs_cons (pg_name (i := 2) sc_index_of_also.nd rfl (.inl rfl)) pgs_nil)))
        (pss_one (ps_if (PW.pt (pw_and (pt_cmpR op_gt (pv 1) pe_int (nomark _)) (pw_and1 (pt_cmpR op_eq (pv 2) pe_str (nomark _))))) (pss_one (ps_ret (pv 1))) pss_nil)))
      (pss_one (ps_ret (pe_callB call_len_seq (by rfl) T.m_len (by decide +kernel) (pa_cons (pv 0) pa_nil))))), ?_⟩
    refine ⟨_, rfl, l, _, rfl, hL, for_enum (K := K) (a := l) (xs := ws.map V.str) (fun i σ H1 => ∃ y1 y2, σ = [some (.ref l), y1, y2] ∧ Same H H1 ∧ idxAlso ws = idxFrom i (ws.drop i)) ⟨_, _, rfl, Same.refl _, rfl⟩ (fun i σ H1 _ ⟨_, _, _, s, _⟩ => s.seq hL) (fun i x tp σ H1 hi hP ht => ?_) (fun σ H1 hP => ?_)⟩
    · obtain ⟨y1, y2, rfl, s1, e1⟩ := hP
      rw [List.getElem?_map] at hi
      obtain ⟨t, hti, rfl⟩ := Option.map_eq_some_iff.mp hi
      rw [idxFrom_at hti i] at e1
      have s2 := s1.trans (same_new (o := .tup [.int (i : Nat), .str t]) ht)
      refine ⟨tp, _, rfl, SqT.of upd_same, rfl, _, _, rfl, _, _, rfl, rfl, ?_⟩
      refine ⟨_, rfl, _, _, rfl, rfl, _, rfl, ?_⟩
      by_cases h1 : (1 : Int) < ((i : Nat) : Int)
      · rw [decide_eq_true h1]
        refine iteT ?_
        refine ⟨_, rfl, tC_to (rEq_to (b := decide (t = alsoW)) rfl (str_dec t alsoW) ?_)⟩
        refine ⟨_, rfl, ?_⟩
        by_cases h2 : t = alsoW
        · rw [if_pos ⟨by omega, h2⟩] at e1
          rw [decide_eq_true h2]
          refine iteT ⟨_, rfl, ?_⟩
          rw [e1] at k
          exact k _ s2
        · rw [if_neg fun z => h2 z.2] at e1
          rw [decide_eq_false h2]
          exact iteF ⟨_, _, rfl, s2, e1⟩
      · rw [if_neg fun z => h1 (by omega)] at e1
        rw [decide_eq_false h1]
        exact iteF (iteF ⟨_, _, rfl, s2, e1⟩)
    · obtain ⟨y1, y2, rfl, s1, e1⟩ := hP
      refine ⟨_, rfl, l, _, rfl, .inl (s1.seq hL), ?_⟩
      rw [List.length_map] at e1 ⊢
      rw [List.drop_length] at e1
      have := k H1 s1
      rw [e1] at this
      exact this
/-- an index, or nothing -/
def ixV : Option Nat → V
  | none => .non
  | some i => .int (i : Nat)
def wrongSee (ws : List Str) : Option Nat := if ws.length < 3 ∨ isWord (ws[2]?.getD ("" : Str)) = false then some 2 else if 3 < ws.length then some 3 else none
def spWrong (K : PySem.W.Frag) (f : List Str → Option Nat) (lo : Nat) : Sp := fun vs H Q _ => ∃ (l : Addr) (ws : List Str), vs = [.ref l] ∧ SqL K H l (ws.map V.str) ∧ ws.length ≤ 1000 ∧ lo ≤ ws.length ∧ (∀ t ∈ ws, t ∈ voc) ∧ ∀ H', Same H H' → Q (ixV (f ws)) H'
theorem get_word {ws : List Str} {i : Nat} (h : i < ws.length) : ∃ t, ws[i]? = some t ∧ ws[i]?.getD ("" : Str) = t ∧ t ∈ ws := ⟨ws[i], List.getElem?_eq_getElem h, by rw [List.getElem?_eq_getElem h]; rfl, List.getElem_mem h⟩
theorem ok_wrong_in_see (T : Top K mg) : FnOk P w K mg base CX0 2 T.a_wrong_in_see T.fd_wrong_in_see ["words"] (spWrong K wrongSee 0) := by
  refine T.F_wrong_in_see.ok sc_wrong_in_see (fun vs H Q E h => ?_) (fun cdv A outer s H vs Q E hr h => ?_)
  · obtain ⟨l, ws, rfl, _⟩ := h
    rfl
  · obtain ⟨l, ws, rfl, hL, hl, _, hv, k⟩ := h
    have hu := hu_of hr
    refine ⟨_, (pss_cons (ps_if (PW.pt (pw_or (pt_cmpR op_lt (pe_callB call_len_seq (by rfl) T.m_len (by decide +kernel) (pa_cons (pv 0) pa_nil)) pe_int (nomark _)) (pw_or1 (pt_not (pt_val (pe_call (ok_is_word T) (hr.mono (by decide)) (by rfl) T.g_is_word T.F_is_word.kp (b_is_word T) .nil pass0 (pa_cons (pe_ix ix_list (pv 0) pe_int (fun _ _ => rfl)) pa_nil))))))) (pss_one (ps_ret pe_int)) pss_nil)
      (pss_one (ps_ret (pe_ifExp (pt_cmpR op_gt (pe_callB call_len_seq (by rfl) T.m_len (by decide +kernel) (pa_cons (pv 0) pa_nil)) pe_int (nomark _)) pe_int pe_non)))), ?_⟩
    refine ⟨_, rfl, l, _, rfl, .inl hL, ?_⟩
    rw [List.length_map]
    refine ⟨_, _, rfl, rfl, _, rfl, ?_⟩
    by_cases h1 : ((ws.length : Nat) : Int) < 3
    · rw [decide_eq_true h1]
      refine iteT (iteT ?_)
      have := k H (Same.refl H)
      rw [show wrongSee ws = some 2 from if_pos (.inl (by omega))] at this
      exact this
    · rw [decide_eq_false h1]
      refine iteF ?_
      obtain ⟨t, h2, h3, h4⟩ := get_word (ws := ws) (i := 2) (by omega)
      refine ⟨_, rfl, l, _, ((2 : Nat) : Int), .str t, rfl, rfl, hL, atI_nat (by rw [List.getElem?_map, h2]; rfl), ?_⟩
      refine ⟨t, rfl, by have := voc_len t (hv t h4); omega, fun H1 s1 => ⟨_, rfl, ?_⟩⟩
      have kk := k H1 s1
      unfold wrongSee at kk
      rw [h3] at kk
      cases hw : isWord t with
      | false =>
        rw [if_pos (.inr hw)] at kk
        exact iteT kk
      | true =>
        rw [if_neg (by rw [hw]; intro z; rcases z with z | z; omega; cases z)] at kk
        refine iteF ?_
        refine ⟨_, rfl, l, _, rfl, .inl (s1.seq hL), ?_⟩
        rw [List.length_map]
        refine ⟨_, _, rfl, rfl, _, rfl, ?_⟩
        by_cases h5 : (3 : Int) < ((ws.length : Nat) : Int)
        · rw [decide_eq_true h5]
          rw [if_pos (by omega)] at kk
          exact iteT kk
        · rw [decide_eq_false h5]
          rw [if_neg (by omega)] at kk
          exact iteF kk
/-- books, each greater than the last: the first that is none -/
def wrongBooks : Nat → Int → List Str → Option Nat
  | _, _, [] => none
  | i, last, t :: r => if bookOk t last = true then wrongBooks (i + 1) (numW t) r else some i
def wrongWords : Nat → List Str → Option Nat
  | _, [] => none
  | i, t :: r => if isWord t = true then wrongWords (i + 1) r else some i
def wrongEntry (ws : List Str) : Option Nat := match wrongBooks 2 0 ((ws.take (idxAlso ws)).drop 2) with
  | some i => some i
  | none => if idxAlso ws + 1 = ws.length then some ws.length else wrongWords (idxAlso ws + 1) (ws.drop (idxAlso ws + 1))
theorem wb_at {ws : List Str} {b i : Nat} {t : Str} (h : ws[i]? = some t) (hb : i < b) (j : Nat) (last : Int) : wrongBooks j last ((ws.take b).drop i) = if bookOk t last = true then wrongBooks (j + 1) (numW t) ((ws.take b).drop (i + 1)) else some j := by
  have e : (ws.take b)[i]? = some t := by rw [List.getElem?_take_of_lt hb]; exact h
  have hn := (List.getElem?_eq_some_iff.mp e).1
  rw [List.drop_eq_getElem_cons hn]
  rw [List.getElem?_eq_getElem hn] at e
  rw [Option.some.inj e]
  rfl
theorem ww_at {ws : List Str} {i : Nat} {t : Str} (h : ws[i]? = some t) (j : Nat) : wrongWords j (ws.drop i) = if isWord t = true then wrongWords (j + 1) (ws.drop (i + 1)) else some j := by
  have hn := (List.getElem?_eq_some_iff.mp h).1
  rw [List.drop_eq_getElem_cons hn]
  rw [List.getElem?_eq_getElem hn] at h
  rw [Option.some.inj h]
  rfl
theorem idx_two {ws : List Str} (h : 2 ≤ ws.length) : 2 ≤ idxAlso ws := by
  match ws, h with
  | a :: b :: r, _ =>
    unfold idxAlso idxFrom
    rw [if_neg (by omega)]
    unfold idxFrom
    rw [if_neg (by omega)]
    exact (idxFrom_ge 2 r).1
theorem ok_wrong_in_entry (T : Top K mg) : FnOk P w K mg base CX0 3 T.a_wrong_in_entry T.fd_wrong_in_entry ["words"] (spWrong K wrongEntry 2) := by
  refine T.F_wrong_in_entry.ok sc_wrong_in_entry (fun vs H Q E h => ?_) (fun cdv A outer s H vs Q E hr h => ?_)
  · obtain ⟨l, ws, rfl, _⟩ := h
    rfl
  · obtain ⟨l, ws, rfl, hL, hl, hlo, hv, k⟩ := h
    have hu := hu_of hr
    refine ⟨_, (pss_cons (ps_set (i := 1) sc_wrong_in_entry.nd rfl (.inl rfl) (pe_call (ok_index_of_also T) (hr.mono (by decide)) (by rfl) T.g_index_of_also T.F_index_of_also.kp (b_index_of_also T) .nil pass0 (pa_cons (pv 0) pa_nil)))
      (pss_cons (ps_set (i := 2) sc_wrong_in_entry.nd rfl (.inl rfl) pe_int)
      (pss_cons (ps_for PassesOwn.never rfl (pi_range2 (by rfl) T.m_range (pa_cons pe_int (pa_cons (pv 1) pa_nil))) (pg_name (i := 3) sc_wrong_in_entry.nd rfl (.inl rfl))
        (pss_cons (ps_if (pt_not (pt_val (pe_call (ok_is_book T) (hr.mono (by decide)) (by rfl) T.g_is_book T.F_is_book.kp (b_is_book T) .nil pass0 (pa_cons (pe_ix ix_list (pv 0) (pv 3) (fun _ _ => rfl)) (pa_cons (pv 2) pa_nil))))) (pss_one (ps_ret (pv 3))) pss_nil)
        (pss_one (ps_set (i := 2) sc_wrong_in_entry.nd rfl (.inl rfl) (pe_callTy call_int_str (by rfl) T.m_int (by decide +kernel) (pa_cons (pe_ix ix_list (pv 0) (pv 3) (fun _ _ => rfl)) pa_nil))))))
      (pss_cons (ps_if (pt_cmpR op_eq (pe_op op_add (pv 1) pe_int) (pe_callB call_len_seq (by rfl) T.m_len (by decide +kernel) (pa_cons (pv 0) pa_nil)) (nomark _)) (pss_one (ps_ret (pe_callB call_len_seq (by rfl) T.m_len (by decide +kernel) (pa_cons (pv 0) pa_nil)))) pss_nil)
      (pss_cons (ps_for PassesOwn.never rfl (pi_range2 (by rfl) T.m_range (pa_cons (pe_op op_add (pv 1) pe_int) (pa_cons (pe_callB call_len_seq (by rfl) T.m_len (by decide +kernel) (pa_cons (pv 0) pa_nil)) pa_nil))) (pg_name (i := 3) sc_wrong_in_entry.nd rfl (.inl rfl))
        (pss_one (ps_if (pt_not (pt_val (pe_call (ok_is_word T) (hr.mono (by decide)) (by rfl) T.g_is_word T.F_is_word.kp (b_is_word T) .nil pass0 (pa_cons (pe_ix ix_list (pv 0) (pv 3) (fun _ _ => rfl)) pa_nil)))) (pss_one (ps_ret (pv 3))) pss_nil)))
      (pss_one (ps_ret pe_non))))))), ?_⟩
    refine ⟨_, rfl, l, ws, rfl, hL, hl, fun H1 s1 => ?_⟩
    have h2 := idx_two hlo
    have hge := (idxFrom_ge 0 ws).2
    rw [Nat.zero_add] at hge
    have kk : wrongEntry ws = (match wrongBooks 2 0 ((ws.take (idxAlso ws)).drop 2) with
      | some i => some i
      | none => if idxAlso ws + 1 = ws.length then some ws.length else wrongWords (idxAlso ws + 1) (ws.drop (idxAlso ws + 1))) := by
      unfold wrongEntry
      rfl
    change idxAlso ws ≤ ws.length at hge
    generalize idxAlso ws = b at *
    refine ⟨_, rfl, 2, (b : Nat), rfl, ⟨by decide, by decide, by omega, by omega⟩, for_range (lo := 2) (n := (((b : Nat) : Int) - 2).toNat) (fun i σ H2 => ∃ (last : Int) (y3 : Option V), σ = [some (.ref l), some (.int (b : Nat)), some (.int last), y3] ∧ Same H H2 ∧ wrongBooks 2 0 ((ws.take b).drop 2) = wrongBooks (2 + i) last ((ws.take b).drop (2 + i))) ⟨0, _, rfl, s1, rfl⟩ (fun i σ H2 hi hP => ?_) (fun σ H2 hP => ?_)⟩
    · obtain ⟨last, y3, rfl, s2, e2⟩ := hP
      have hib : 2 + i < b := by omega
      obtain ⟨t, g2, g3, g4⟩ := get_word (ws := ws) (i := 2 + i) (by omega)
      rw [wb_at g2 hib] at e2
      have hix : (2 : Int) + (i : Nat) = ((2 + i : Nat) : Int) := by omega
      have hat : atI (ws.map V.str) (2 + (i : Nat)) = some (.str t) := by rw [hix]; exact atI_nat (by rw [List.getElem?_map, g2]; rfl)
      refine ⟨_, rfl, _, rfl, l, _, _, .str t, rfl, rfl, s2.seq hL, hat, _, rfl, t, last, rfl, hv t g4, fun H3 s3 => ⟨_, rfl, ?_⟩⟩
      have s13 := s2.trans s3
      cases hw : bookOk t last with
      | false =>
        rw [if_neg (by rw [hw]; exact Bool.false_ne_true)] at e2
        refine iteT ⟨_, rfl, ?_⟩
        have := k H3 s13
        rw [kk, e2] at this
        rw [hix]
        exact this
      | true =>
        rw [if_pos hw] at e2
        refine iteF ?_
        have hd : digsM t 3 = true := by
          unfold bookOk at hw
          rw [Bool.and_eq_true, Bool.and_eq_true] at hw
          exact hw.1.1
        refine ⟨_, rfl, _, rfl, l, _, _, .str t, rfl, rfl, s13.seq hL, hat, t, numW t, rfl, voc_num' (hv t g4) hd, by have := voc_len t (hv t g4); omega, ?_⟩
        exact ⟨numW t, _, rfl, s13, e2⟩
    · obtain ⟨last, y3, rfl, s2, e2⟩ := hP
      have hd : (ws.take b).drop (2 + (((b : Nat) : Int) - 2).toNat) = [] := List.drop_eq_nil_of_le (by rw [List.length_take]; omega)
      rw [hd] at e2
      rw [show wrongBooks 2 0 ((ws.take b).drop 2) = none from e2] at kk
      have kk : wrongEntry ws = if b + 1 = ws.length then some ws.length else wrongWords (b + 1) (ws.drop (b + 1)) := kk
      rw [kk] at k
      refine ⟨_, rfl, _, _, rfl, rfl, _, rfl, l, _, rfl, .inl (s2.seq hL), ?_⟩
      rw [List.length_map]
      refine rEq_to (b := decide (b + 1 = ws.length)) rfl (by
        show decide (V.int (((b : Nat) : Int) + 1) = V.int ((ws.length : Nat) : Int)) = _
        rw [show ((b : Nat) : Int) + 1 = ((b + 1 : Nat) : Int) by omega]
        by_cases h : b + 1 = ws.length
        · rw [h, decide_eq_true rfl, decide_eq_true rfl]
        · rw [decide_eq_false h, decide_eq_false fun z => h (by have := V.int.inj z; omega)]) ?_
      refine ⟨_, rfl, ?_⟩
      by_cases h1 : b + 1 = ws.length
      · rw [decide_eq_true h1]
        rw [if_pos h1] at k
        refine iteT ⟨_, rfl, l, _, rfl, .inl (s2.seq hL), ?_⟩
        rw [List.length_map]
        exact k H2 s2
      · rw [decide_eq_false h1]
        rw [if_neg h1] at k
        refine iteF ?_
        refine ⟨_, rfl, _, _, rfl, rfl, _, rfl, l, _, rfl, .inl (s2.seq hL), ?_⟩
        rw [List.length_map]
        refine ⟨((b : Nat) : Int) + 1, (ws.length : Nat), rfl, ⟨by omega, by omega, by omega, by omega⟩, for_range (lo := ((b : Nat) : Int) + 1) (n := (((ws.length : Nat) : Int) - (((b : Nat) : Int) + 1)).toNat) (fun i σ H2 => ∃ (y1 y2 y3 : Option V), σ = [some (.ref l), y1, y2, y3] ∧ Same H H2 ∧ wrongWords (b + 1) (ws.drop (b + 1)) = wrongWords (b + 1 + i) (ws.drop (b + 1 + i))) ⟨_, _, _, rfl, s2, rfl⟩ (fun i σ H3 hi hP => ?_) (fun σ H3 hP => ?_)⟩
        · obtain ⟨y1, y2, y3, rfl, s3, e3⟩ := hP
          obtain ⟨t, g2, g3, g4⟩ := get_word (ws := ws) (i := b + 1 + i) (by omega)
          rw [ww_at g2] at e3
          have hix : (((b : Nat) : Int) + 1) + (i : Nat) = ((b + 1 + i : Nat) : Int) := by omega
          have hat : atI (ws.map V.str) ((((b : Nat) : Int) + 1) + (i : Nat)) = some (.str t) := by rw [hix]; exact atI_nat (by rw [List.getElem?_map, g2]; rfl)
          refine ⟨_, rfl, _, rfl, l, _, _, .str t, rfl, rfl, s3.seq hL, hat, t, rfl, by have := voc_len t (hv t g4); omega, fun H4 s4 => ⟨_, rfl, ?_⟩⟩
          cases hw : isWord t with
          | false =>
            rw [if_neg (by rw [hw]; exact Bool.false_ne_true)] at e3
            refine iteT ⟨_, rfl, ?_⟩
            have := k H4 (s3.trans s4)
            rw [e3] at this
            rw [hix]
            exact this
          | true =>
            rw [if_pos hw] at e3
            exact iteF ⟨_, _, _, rfl, s3.trans s4, e3⟩
        · obtain ⟨y1, y2, y3, rfl, s3, e3⟩ := hP
          have hd3 : ws.drop (b + 1 + (((ws.length : Nat) : Int) - (((b : Nat) : Int) + 1)).toNat) = [] := List.drop_eq_nil_of_le (by omega)
          rw [hd3, show wrongWords (b + 1 + (((ws.length : Nat) : Int) - (((b : Nat) : Int) + 1)).toNat) [] = none from rfl] at e3
          have := k H3 s3
          rw [e3] at this
          exact this
def wrongWord (ws : List Str) : Option Nat :=
  if ws = [] ∨ ¬ (ws[0]?.getD ("" : Str) = seeW ∨ ws[0]?.getD ("" : Str) = cardW) then some 0
  else if ws.length < 2 ∨ isWord (ws[1]?.getD ("" : Str)) = false then some 1
  else if ws[0]?.getD ("" : Str) = seeW then wrongSee ws else wrongEntry ws
theorem in_two (t : Str) : inV (V.str t) [V.str "see", V.str "card"] = decide (t = seeW ∨ t = cardW) := by
  show (eqV (.str "see") (.str t) || (eqV (.str "card") (.str t) || false)) = _
  have e : ∀ x : Str, eqV (.str x) (.str t) = decide (t = x) := fun x => by
    show (x == t) = _
    by_cases h : t = x
    · rw [decide_eq_true h, h]
      exact beq_self_eq_true _
    · rw [decide_eq_false h]
      exact beq_eq_false_iff_ne.mpr fun z => h z.symm
  rw [e, e, Bool.or_false]
  by_cases h1 : t = seeW
  · rw [decide_eq_true (show t = "see" from h1), decide_eq_true (Or.inl h1)]
    rfl
  · by_cases h2 : t = cardW
    · rw [decide_eq_true (show t = "card" from h2), Bool.or_true, decide_eq_true (Or.inr h2)]
    · rw [decide_eq_false (show ¬ t = "see" from h1), decide_eq_false (show ¬ t = "card" from h2), decide_eq_false fun z => z.elim h1 h2]
      rfl
theorem ok_wrong_word (T : Top K mg) : FnOk P w K mg base CX0 4 T.a_wrong_word T.fd_wrong_word ["words"] (spWrong K wrongWord 0) := by
  refine T.F_wrong_word.ok sc_wrong_word (fun vs H Q E h => ?_) (fun cdv A outer s H vs Q E hr h => ?_)
  · obtain ⟨l, ws, rfl, _⟩ := h
    rfl
  · obtain ⟨l, ws, rfl, hL, hl, _, hv, k⟩ := h
    have hu := hu_of hr
    refine ⟨_, (pss_cons (ps_if (PW.pt (pw_or (pt_not (pt_truth (pv 0) (by intro _; rfl))) (pw_or1 (pt_cmpR op_notIn_seq (pe_ix ix_list (pv 0) pe_int (fun _ _ => rfl)) (pe_tup (pa_cons pe_str (pa_cons pe_str pa_nil))) rfl)))) (pss_one (ps_ret pe_int)) pss_nil)
      (pss_cons (ps_if (PW.pt (pw_or (pt_cmpR op_lt (pe_callB call_len_seq (by rfl) T.m_len (by decide +kernel) (pa_cons (pv 0) pa_nil)) pe_int (nomark _)) (pw_or1 (pt_not (pt_val (pe_call (ok_is_word T) (hr.mono (by decide)) (by rfl) T.g_is_word T.F_is_word.kp (b_is_word T) .nil pass0 (pa_cons (pe_ix ix_list (pv 0) pe_int (fun _ _ => rfl)) pa_nil))))))) (pss_one (ps_ret pe_int)) pss_nil)
      (pss_one (ps_ret (pe_ifExp (pt_cmpR op_eq (pe_ix ix_list (pv 0) pe_int (fun _ _ => rfl)) pe_str (nomark _)) (pe_call (ok_wrong_in_see T) (hr.mono (by decide)) (by rfl) T.g_wrong_in_see T.F_wrong_in_see.kp (b_wrong_in_see T) .nil pass0 (pa_cons (pv 0) pa_nil)) (pe_call (ok_wrong_in_entry T) (hr.mono (by decide)) (by rfl) T.g_wrong_in_entry T.F_wrong_in_entry.kp (b_wrong_in_entry T) .nil pass0 (pa_cons (pv 0) pa_nil))))))), ?_⟩
    refine ⟨_, rfl, !(ws.map V.str).isEmpty, .inl ⟨_, hL, rfl⟩, ?_⟩
    by_cases hws : ws = []
    · subst hws
      refine iteT (iteT ?_)
      exact k H (Same.refl H)
    · have hne : ws ≠ [] := hws
      have hlen : 0 < ws.length := List.length_pos_iff.mpr hne
      obtain ⟨t0, h0, h0d, _⟩ := get_word (ws := ws) (i := 0) hlen
      rw [show (!(ws.map V.str).isEmpty) = true by cases ws with | nil => exact absurd rfl hne | cons => rfl]
      refine iteF ?_
      have hat0 : atI (ws.map V.str) ((0 : Nat) : Int) = some (.str t0) := atI_nat (by rw [List.getElem?_map, h0]; rfl)
      refine ⟨_, rfl, l, _, ((0 : Nat) : Int), .str t0, rfl, rfl, hL, hat0, ?_⟩
      refine ⟨by show 2 ≤ sizeLine; decide, fun tp htp => ?_⟩
      have s1 := same_new (o := .tup [.str "see", .str "card"]) htp
      refine ⟨tp, _, rfl, .inr (SqT.of upd_same), rfl, rfl, ?_⟩
      rw [in_two]
      refine ⟨_, rfl, ?_⟩
      have kk : wrongWord ws = (if ws = [] ∨ ¬ (ws[0]?.getD ("" : Str) = seeW ∨ ws[0]?.getD ("" : Str) = cardW) then some 0
        else if ws.length < 2 ∨ isWord (ws[1]?.getD ("" : Str)) = false then some 1
        else if ws[0]?.getD ("" : Str) = seeW then wrongSee ws else wrongEntry ws) := rfl
      rw [h0d] at kk
      by_cases hin : t0 = seeW ∨ t0 = cardW
      · rw [decide_eq_true hin]
        rw [if_neg (by intro z; rcases z with z | z; exact hne z; exact z hin)] at kk
        refine iteF ?_
        generalize upd H tp (.tup [.str "see", .str "card"]) = H1 at *
        refine ⟨_, rfl, l, _, rfl, .inl (s1.seq hL), ?_⟩
        rw [List.length_map]
        refine ⟨_, _, rfl, rfl, _, rfl, ?_⟩
        by_cases h1 : ((ws.length : Nat) : Int) < 2
        · rw [decide_eq_true h1]
          refine iteT (iteT ?_)
          rw [if_pos (.inl (by omega))] at kk
          have := k H1 s1
          rw [kk] at this
          exact this
        · rw [decide_eq_false h1]
          refine iteF ?_
          obtain ⟨t, g2, g3, g4⟩ := get_word (ws := ws) (i := 1) (by omega)
          refine ⟨_, rfl, l, _, ((1 : Nat) : Int), .str t, rfl, rfl, s1.seq hL, atI_nat (by rw [List.getElem?_map, g2]; rfl), ?_⟩
          refine ⟨t, rfl, by have := voc_len t (hv t g4); omega, fun H2 s2 => ⟨_, rfl, ?_⟩⟩
          have s12 := s1.trans s2
          rw [g3] at kk
          cases hw : isWord t with
          | false =>
            rw [if_pos (.inr hw)] at kk
            refine iteT ?_
            have := k H2 s12
            rw [kk] at this
            exact this
          | true =>
            rw [if_neg (by rw [hw]; intro z; rcases z with z | z; omega; cases z)] at kk
            refine iteF ?_
            refine ⟨_, rfl, l, _, ((0 : Nat) : Int), .str t0, rfl, rfl, s12.seq hL, hat0, ?_⟩
            refine tC_to (rEq_to (b := decide (t0 = seeW)) rfl (str_dec t0 seeW) ?_)
            refine ⟨_, rfl, ?_⟩
            by_cases hs : t0 = seeW
            · rw [decide_eq_true hs]
              rw [if_pos hs] at kk
              refine iteT ?_
              refine ⟨_, rfl, l, ws, rfl, s12.seq hL, hl, Nat.zero_le _, hv, fun H3 s3 => ?_⟩
              rw [← kk]
              exact k H3 (s12.trans s3)
            · rw [decide_eq_false hs]
              rw [if_neg hs] at kk
              refine iteF ?_
              refine ⟨_, rfl, l, ws, rfl, s12.seq hL, hl, by omega, hv, fun H3 s3 => ?_⟩
              rw [← kk]
              exact k H3 (s12.trans s3)
      · rw [decide_eq_false hin]
        rw [if_pos (.inr hin)] at kk
        refine iteT ?_
        have := k _ s1
        rw [kk] at this
        exact this
end
section
local macro_rules | `(tactic| walk_at "sl") => `(tactic| first | assumption | exact SqL.of upd_same | exact SqL.of (by assumption) | ((with_reducible apply sql_upd); (walk_at "sl"); (first | assumption | exact Ne.symm (by assumption))))
local macro_rules | `(tactic| walk_at "st") => `(tactic| first | assumption | exact SqT.of upd_same | exact SqT.of (by assumption))
local macro_rules | `(tactic| walk_at "sc") => `(tactic| first | rfl | assumption | (show (0 : Int) < _; first | assumption | decide | omega) | exact Or.inl ⟨by omega, by omega⟩ | exact Or.inr ⟨by omega, by omega⟩ | exact ⟨by decide, by decide⟩ | exact ⟨by decide, by decide, by decide⟩)
local macro_rules | `(tactic| walk_at "g1") => `(tactic| first
  | refine ⟨(_ : V), rfl, ?_⟩
  | refine ⟨(_ : Bool), rfl, ?_⟩
  | refine ⟨(_ : Int), (_ : Int), rfl, rfl, ?_⟩
  | refine ⟨(_ : Int), rfl, ?_⟩
  | refine ⟨(_ : Str), rfl, ?_⟩
  | refine ⟨(_ : Addr), (_ : List V), rfl, Or.inl (by walk_at "sl"), ?_⟩
  | refine ⟨(_ : Addr), (_ : List V), rfl, Or.inr (by walk_at "st"), ?_⟩
  | refine ⟨(_ : Addr), (_ : List V), (_ : Int), (_ : V), rfl, rfl, (by walk_at "sl"), (by first | rfl | assumption), ?_⟩
  | refine ⟨(_ : Addr), (_ : List V), (_ : Int), (_ : V), rfl, rfl, (by walk_at "st"), (by first | rfl | assumption), ?_⟩
  | refine ⟨(_ : Addr), (_ : List V), (_ : Int), (_ : Nat), rfl, rfl, upd_same, rfl, ?_⟩
  | refine ⟨(_ : Addr), (_ : List V), (_ : Int), (_ : Nat), rfl, rfl, (by assumption), rfl, ?_⟩
  | refine ⟨(_ : Addr), (_ : Addr), (_ : Addr), (_ : List (Str × V)), (_ : V), rfl, (by assumption), (by assumption), (by assumption), (by first | assumption | rfl), ?_⟩
  | refine Or.inl ⟨(_ : Int), rfl, ?_⟩
  | refine And.intro (by walk_at "sc") ?_
  | refine iteT ?_
  | refine iteF ?_)
/-! ### the card of a row of words -/
theorem cut_lo_hi (xs : List V) (m n : Nat) : cutV xs (some ((m : Nat) : Int)) (some ((n : Nat) : Int)) = (xs.take n).drop m := by
  unfold cutV
  rw [HT.sIx_nat, HT.sIx_nat, List.drop_take]
  by_cases h : m ≤ xs.length
  · rw [Nat.min_eq_left h]
    by_cases h2 : n ≤ xs.length
    · rw [Nat.min_eq_left h2]
    · rw [Nat.min_eq_right (by omega), List.take_of_length_le (by rw [List.length_drop]; omega), List.take_of_length_le (by rw [List.length_drop]; omega)]
  · rw [Nat.min_eq_right (by omega : xs.length ≤ m), List.drop_eq_nil_of_le (Nat.le_refl _), List.drop_eq_nil_of_le (by omega : xs.length ≤ m), List.take_nil, List.take_nil]
theorem cut_lo (xs : List V) (m : Nat) : cutV xs (some ((m : Nat) : Int)) none = xs.drop m := by
  unfold cutV
  rw [HT.sIx_nat, HT.sIx_none]
  by_cases h : m ≤ xs.length
  · rw [Nat.min_eq_left h, List.take_of_length_le (by rw [List.length_drop]; omega)]
  · rw [Nat.min_eq_right (by omega), List.drop_eq_nil_of_le (Nat.le_refl _), List.drop_eq_nil_of_le (by omega), List.take_nil]
def booksW (ws : List Str) : List Int := ((ws.take (idxAlso ws)).drop 2).map numW
def cardOf (ws : List Str) : CD := if ws[0]?.getD ("" : Str) = seeW then ⟨ws[1]?.getD ("" : Str), [], ws[2]?.getD ("" : Str), []⟩ else ⟨ws[1]?.getD ("" : Str), booksW ws, "", ws.drop (idxAlso ws + 1)⟩
theorem wb_none : ∀ {i : Nat} {last : Int} {l : List Str}, wrongBooks i last l = none → ∀ t ∈ l, digsM t 3 = true
  | _, _, [], _, _, h => nomatch h
  | i, last, t :: r, h, x, hx => by
    unfold wrongBooks at h
    by_cases hb : bookOk t last = true
    · rw [if_pos hb] at h
      rcases List.mem_cons.mp hx with rfl | hx
      · unfold bookOk at hb
        rw [Bool.and_eq_true, Bool.and_eq_true] at hb
        exact hb.1.1
      · exact wb_none h x hx
    · rw [if_neg hb] at h
      cases h
theorem we_none {ws : List Str} (h : wrongEntry ws = none) : ∀ t ∈ (ws.take (idxAlso ws)).drop 2, digsM t 3 = true := by
  unfold wrongEntry at h
  cases e : wrongBooks 2 0 ((ws.take (idxAlso ws)).drop 2) with
  | none => exact wb_none e
  | some i => rw [e] at h; cases h
theorem ws_none {ws : List Str} (h : wrongSee ws = none) : 3 ≤ ws.length := by
  unfold wrongSee at h
  by_cases h1 : ws.length < 3 ∨ isWord (ws[2]?.getD ("" : Str)) = false
  · rw [if_pos h1] at h
    cases h
  · by_cases h2 : ws.length < 3
    · exact absurd (.inl h2) h1
    · omega
theorem ww_none {ws : List Str} (h : wrongWord ws = none) : 2 ≤ ws.length ∧ (ws[0]?.getD ("" : Str) = seeW → 3 ≤ ws.length) ∧ (¬ ws[0]?.getD ("" : Str) = seeW → ∀ t ∈ (ws.take (idxAlso ws)).drop 2, digsM t 3 = true) := by
  unfold wrongWord at h
  by_cases h1 : ws = [] ∨ ¬ (ws[0]?.getD ("" : Str) = seeW ∨ ws[0]?.getD ("" : Str) = cardW)
  · rw [if_pos h1] at h
    cases h
  rw [if_neg h1] at h
  by_cases h2 : ws.length < 2 ∨ isWord (ws[1]?.getD ("" : Str)) = false
  · rw [if_pos h2] at h
    cases h
  rw [if_neg h2] at h
  refine ⟨by by_cases h3 : ws.length < 2; exact absurd (.inl h3) h2; omega, fun h3 => ?_, fun h3 => ?_⟩
  · rw [if_pos h3] at h
    exact ws_none h
  · rw [if_neg h3] at h
    exact we_none h
/-! ### the rows of a text -/
def lfS : Str := "\n"
def blS : Str := " "
def emptyS : Str := ""
theorem refs_of : ∀ (zs : List (Option V)) (P : Nat → Addr → Prop), (∀ (i : Nat) (z : Option V), zs[i]? = some z → ∃ q : Addr, z = some (V.ref q) ∧ P i q) → ∃ qs : List Addr, zs.filterMap id = qs.map V.ref ∧ qs.length = zs.length ∧ ∀ (i : Nat) (q : Addr), qs[i]? = some q → P i q
  | [], _, _ => ⟨[], rfl, rfl, fun _ _ h => nomatch h⟩
  | z :: zs, P, g => by
    obtain ⟨q, rfl, h2⟩ := g 0 z rfl
    obtain ⟨qs, e1, e2, e3⟩ := refs_of zs (fun i => P (i + 1)) fun i z hz => g (i + 1) z hz
    refine ⟨q :: qs, by rw [List.filterMap_cons]; show V.ref q :: zs.filterMap id = _; rw [e1]; rfl, by rw [List.length_cons, List.length_cons, e2], fun i q' h3 => ?_⟩
    cases i with
    | zero =>
      cases h3
      exact h2
    | succ i => exact e3 i q' h3
def rowsOf (t : Str) : List (List Str) := if t = emptyS then [] else (Txt.split t lfS).map fun r => Txt.split r blS
def RowsL (K : PySem.W.Frag) (H : Hp) (q : Addr) (wss : List (List Str)) : Prop := ∃ as : List Addr, SqL K H q (as.map V.ref) ∧ as.length = wss.length ∧ ∀ (i : Nat) (a : Addr) (ws : List Str), as[i]? = some a → wss[i]? = some ws → SqL K H a (ws.map V.str)
theorem RowsL.same {H H' : Hp} {q : Addr} {wss : List (List Str)} (h : RowsL K H q wss) (s : Same H H') : RowsL K H' q wss := by
  obtain ⟨as, h1, h2, h3⟩ := h
  exact ⟨as, s.seq h1, h2, fun i a ws x y => s.seq (h3 i a ws x y)⟩
def spRows (K : PySem.W.Frag) : Sp := fun vs H Q _ => ∃ t : Str, vs = [.str t] ∧ t.length ≤ 900000 ∧ (Txt.split t lfS).length ≤ 1000 ∧ (∀ r ∈ Txt.split t lfS, r.length ≤ 900000) ∧ ∀ q H', Same H H' → RowsL K H' q (rowsOf t) → Q (.ref q) H'
theorem ok_words_by_row (T : Top K mg) : FnOk P w K mg base CX0 1 T.a_words_by_row T.fd_words_by_row ["text"] (spRows K) := by
  refine T.F_words_by_row.ok sc_words_by_row (fun vs H Q E h => ?_) (fun cdv A outer s H vs Q E hr h => ?_)
  · obtain ⟨t, rfl, _⟩ := h
    rfl
  · obtain ⟨t, rfl, hl, hn, hr', k⟩ := h
    have hu := hu_of hr
    refine ⟨_, (pss_cons (ps_if (pt_cmpR op_eq (pv 0) pe_str (nomark _)) (pss_one (ps_ret (pe_lst pa_nil))) pss_nil)
      (pss_one (ps_ret (pe_lc (own := [("row", 1)]) (g := gName 1) (tt := tYes) rfl sc_words_by_row.nd (pi_list (pe_split (pv 0) pe_str)) (blkOk_by (N := N_words_by_row) (sc := defScope s_words_by_row) (by decide +kernel)) (fun _ _ _ _ _ => (pg_name (i := 1) sc_words_by_row.nd rfl (.inl rfl))) (fun _ _ _ _ _ => pts_nil) (fun _ _ _ _ _ => (pe_split (pv 1) pe_str)))))), ?_⟩
    refine ⟨_, rfl, tC_to (rEq_to (b := decide (t = emptyS)) rfl (str_dec t emptyS) ?_)⟩
    refine ⟨_, rfl, ?_⟩
    unfold rowsOf at k
    by_cases h0 : t = emptyS
    · rw [decide_eq_true h0]
      rw [if_pos h0] at k
      refine iteT ⟨Nat.zero_le _, fun p hp => ?_⟩
      exact k p _ (same_new hp) ⟨[], SqL.of upd_same, rfl, fun i a ws h _ => nomatch h⟩
    · rw [decide_eq_false h0]
      rw [if_neg h0] at k
      refine iteF ?_
      have hsz := sizeLine_of (show (1000000 : Nat) ≤ 1000000 by omega)
      refine ⟨_, rfl, ⟨t, rfl⟩, t, lfS, rfl, rfl, rfl, by omega, fun p hp => ?_⟩
      generalize Txt.split t lfS = rs at *
      have s1 : Same H (upd H p (.lst (rs.map V.str))) := same_new hp
      have l1 : SqL K (upd H p (.lst (rs.map V.str))) p (rs.map V.str) := SqL.of upd_same
      generalize upd H p (.lst (rs.map V.str)) = H1 at *
      refine ⟨p, rfl, ⟨_, l1⟩, fun D hD => lc_relB (walk_list (K := K) (a := p) (xs := rs.map V.str)) (by rw [List.length_map]; omega) hD (fun i z H2 => ∃ (q : Addr), z = some (V.ref q) ∧ q ≠ D ∧ ∃ (r : Str), rs[i]? = some r ∧ H2 q = some (.lst ((Txt.split r blS).map V.str))) (fun i z H2 H3 b ⟨q, h1, h2, r, h3, h4⟩ => ⟨q, h1, h2, r, h3, b _ _ h4 h2⟩) (fun H' s' => s'.seq l1) (fun i x H2 H3 hi s2 hDl hy R R0 r1 r0 => ?_) (fun H2 zs s2 hzl hz hd => ?_)⟩
      · obtain ⟨rfl, hx⟩ := hy
        rw [List.getElem?_map] at hx
        obtain ⟨r, hri, rfl⟩ := Option.map_eq_some_iff.mp hx
        refine ⟨rfl, tYes_of ?_⟩
        refine ⟨_, rfl, ⟨r, rfl⟩, r, blS, rfl, rfl, rfl, by have := hr' r (List.mem_of_getElem? hri); omega, fun q hq => ?_⟩
        obtain ⟨acc, hacc⟩ := hDl
        exact r1 _ _ ⟨q, rfl, (fun e => by rw [e, hacc] at hq; cases hq), r, hri, upd_same⟩ (same_new hq)
      · rw [List.length_map] at hzl
        obtain ⟨qs, e1, e2, e3⟩ := refs_of zs (fun i q => q ≠ D ∧ ∃ (r : Str), rs[i]? = some r ∧ H2 q = some (.lst ((Txt.split r blS).map V.str))) hz
        rw [e1] at hd
        refine k D H2 (s1.trans s2) ⟨qs, SqL.of hd, by rw [List.length_map]; omega, fun i a ws h1 h2 => ?_⟩
        obtain ⟨_, r, g1, g2⟩ := e3 i a h1
        rw [List.getElem?_map, g1] at h2
        rw [← Option.some.inj h2]
        exact SqL.of g2
end
section
local macro_rules | `(tactic| walk_at "sl") => `(tactic| first | assumption | exact SqL.of upd_same | exact SqL.of (by assumption) | ((with_reducible apply sql_upd); (walk_at "sl"); (first | assumption | exact Ne.symm (by assumption))))
local macro_rules | `(tactic| walk_at "st") => `(tactic| first | assumption | exact SqT.of upd_same | exact SqT.of (by assumption))
local macro_rules | `(tactic| walk_at "sc") => `(tactic| first | rfl | assumption | (show (0 : Int) < _; first | assumption | decide | omega) | exact Or.inl ⟨by omega, by omega⟩ | exact Or.inr ⟨by omega, by omega⟩ | exact ⟨by decide, by decide⟩ | exact ⟨by decide, by decide, by decide⟩)
local macro_rules | `(tactic| walk_at "g1") => `(tactic| first
  | refine ⟨(_ : V), rfl, ?_⟩
  | refine ⟨(_ : Bool), rfl, ?_⟩
  | refine ⟨(_ : Int), (_ : Int), rfl, rfl, ?_⟩
  | refine ⟨(_ : Int), rfl, ?_⟩
  | refine ⟨(_ : Str), rfl, ?_⟩
  | refine ⟨(_ : Addr), (_ : List V), rfl, Or.inl (by walk_at "sl"), ?_⟩
  | refine ⟨(_ : Addr), (_ : List V), rfl, Or.inr (by walk_at "st"), ?_⟩
  | refine ⟨(_ : Addr), (_ : List V), (_ : Int), (_ : V), rfl, rfl, (by walk_at "sl"), (by first | rfl | assumption), ?_⟩
  | refine ⟨(_ : Addr), (_ : List V), (_ : Int), (_ : V), rfl, rfl, (by walk_at "st"), (by first | rfl | assumption), ?_⟩
  | refine ⟨(_ : Addr), (_ : List V), (_ : Int), (_ : Nat), rfl, rfl, upd_same, rfl, ?_⟩
  | refine ⟨(_ : Addr), (_ : List V), (_ : Int), (_ : Nat), rfl, rfl, (by assumption), rfl, ?_⟩
  | refine ⟨(_ : Addr), (_ : Addr), (_ : Addr), (_ : List (Str × V)), (_ : V), rfl, (by assumption), (by assumption), (by assumption), (by first | assumption | rfl), ?_⟩
  | refine Or.inl ⟨(_ : Int), rfl, ?_⟩
  | refine And.intro (by walk_at "sc") ?_
  | refine iteT ?_
  | refine iteF ?_)
/-! ### InvalidText.__init__ -/
def txt1 : Str := "wrong word of a text: "
def txt2 : Str := " in row "
theorem txt1_len : txt1.length = 22 := by decide +kernel
theorem txt2_len : txt2.length = 8 := by decide +kernel
def strN (p : Nat) : Str := toString ((p : Nat) : Int)
theorem strN_len : ∀ p < 100, (strN p).length ≤ 2 := by decide +kernel
theorem logN : ∀ p < 100, (((p : Nat) : Int)).natAbs.log2 < 1920 := by decide +kernel
def xdW (i j : Nat) : List (Str × V) := [("word", .int (j : Nat)), ("row", .int (i : Nat))]
def spInitRW (C : Addr) : Sp := fun vs H Q _ => ∃ (a : Addr) (r w : Nat), vs = [.ref a, .int (r : Nat), .int (w : Nat)] ∧ r < 100 ∧ w < 100 ∧ H a = some (exo a C none) ∧ ∀ dx, H dx = none → dx ≠ a → Q .non (upd (upd (upd H dx (exd dx [("row", .int (r : Nat))])) a (exo a C (some dx))) dx (exd dx (xdW r w)))
theorem ok_InvalidText_init (T : Top K mg) : FnOk P w K mg base CX0 1 T.a_InvalidText_init T.fd_InvalidText_init ["self", "row", "word"] (spInitRW T.c_InvalidText) := by
  refine T.F_InvalidText_init.ok sc_InvalidText_init (fun vs H Q E h => ?_) (fun cdv A outer s H vs Q E hr h => ?_)
  · obtain ⟨a, r, w, rfl, _⟩ := h
    rfl
  · obtain ⟨a, r, w, rfl, hr1, hw1, ha, k⟩ := h
    have hu := hu_of hr
    refine ⟨_, (pss_cons (ps_expr (pe_binit ⟨T.bg_SeeError, T.br_SeeError, T.bv_SeeError⟩ (by rfl) T.g_SeeError (pa_cons (pv 0) (pa_cons (pe_joined (PJ.cons pe_str (PJ.cons (pe_fmt (pv 2)) (PJ.cons pe_str (PJ.cons (pe_fmt (pv 1)) PJ.nil))))) pa_nil))))
      (pss_cons (ps_ost (pv 0) (pv 1))
      (pss_one (ps_ost (pv 0) (pv 2))))), ?_⟩
    have l1 := strN_len r hr1
    have l2 := strN_len w hw1
    refine ⟨_, rfl, txt1, rfl, Nat.le_of_lt (sizeLine_of (by rw [PySem.Str.length_append, txt1_len]; show 0 + _ ≤ _; omega)), ?_⟩
    rw [fstr_empty]
    refine ⟨_, rfl, .inr ⟨_, rfl, logN w hw1, strN w, rfl, Nat.le_of_lt (sizeLine_of (by rw [PySem.Str.length_append, txt1_len]; omega)), ?_⟩⟩
    refine ⟨txt2, rfl, Nat.le_of_lt (sizeLine_of (by rw [PySem.Str.length_append, PySem.Str.length_append, txt1_len, txt2_len]; omega)), ?_⟩
    refine ⟨_, rfl, .inr ⟨_, rfl, logN r hr1, strN r, rfl, Nat.le_of_lt (sizeLine_of (by rw [PySem.Str.length_append, PySem.Str.length_append, PySem.Str.length_append, txt1_len, txt2_len]; omega)), ?_⟩⟩
    refine ⟨a, T.c_InvalidText, _, rfl, by show 1 ≤ 1000; decide, T.ox_InvalidText, ha, ?_⟩
    refine ⟨_, rfl, _, rfl, a, T.c_InvalidText, rfl, T.ox_InvalidText, T.nf_InvalidText_row, .inl ⟨ha, fun dx hdx hne => ?_⟩⟩
    refine ⟨_, rfl, _, rfl, a, T.c_InvalidText, rfl, T.ox_InvalidText, T.nf_InvalidText_word, .inr ⟨dx, _, upd_same, by rw [upd_ne hne, upd_same], by show 1 ≤ 900; decide, ?_⟩⟩
    exact k dx hdx hne
/-! ### card_by, or InvalidCard -/
theorem kb3_Card (T : Top K mg) : ∃ ds, Vals [.ref T.e_Card_init_2] ds ∧ Binds K T.fd_Card_init ["self", "heading", "books", "see", "also"] ds :=
  T.F_Card_init.binds1 (ps := ["self", "heading", "books", "see", "also"]) 4 2 (by simp) rfl (fun T kV doc pm an cdv ct us its l1 l2 => match us, its, l1, l2 with | [_, _, _, _], [_, _, _], _, _ => ⟨_, rfl, rfl⟩)
theorem kb4_Card (T : Top K mg) : Binds K T.fd_Card_init ["self", "heading", "books", "see", "also"] [] := by
  obtain ⟨ds, h1, h2⟩ := T.F_Card_init.binds1 (ps := ["self", "heading", "books", "see", "also"]) 5 3 (by simp) rfl (fun T kV doc pm an cdv ct us its l1 l2 => match us, its, l1, l2 with | [_, _, _, _, _], [_, _, _], _, _ => ⟨_, rfl, rfl⟩)
  cases h1
  exact h2
theorem voc_ok : ∀ t ∈ voc, PyData.strOk t = true := by decide +kernel
theorem room_of {ws : List Str} (hv : ∀ t ∈ ws, t ∈ voc) (hl : ws.length ≤ 1000) : Room4 (cardOf ws) := by
  have g : ∀ i : Nat, (ws[i]?.getD ("" : Str)).length ≤ 1000 := fun i => by
    cases e : ws[i]? with
    | none => exact Nat.zero_le _
    | some t => exact Nat.le_trans (voc_len t (hv t (List.mem_of_getElem? e))) (by omega)
  unfold cardOf
  split
  · exact ⟨g 1, g 2, Nat.zero_le _, Nat.zero_le _, (fun _ h => nomatch h), (fun _ h => nomatch h)⟩
  · refine ⟨g 1, Nat.zero_le _, ?_, ?_, fun y hy => ?_, fun y hy => ?_⟩
    · show (booksW ws).length ≤ 1000
      unfold booksW
      rw [List.length_map, List.length_drop, List.length_take]
      omega
    · show (ws.drop _).length ≤ 1000
      rw [List.length_drop]
      omega
    · exact Nat.le_trans (voc_len y (hv y (List.mem_of_mem_drop hy))) (by omega)
    · exact voc_ok y (hv y (List.mem_of_mem_drop hy))
def xdP (t : Str) : List (Str × V) := [("part", .str t)]
def spCardByX (K : PySem.W.Frag) (cE : Addr) : Sp := fun vs H Q E => ∃ (l : Addr) (ws : List Str), vs = [.ref l] ∧ SqL K H l (ws.map V.str) ∧ ws.length ≤ 1000 ∧ wrongWord ws = none ∧ (∀ t ∈ ws, t ∈ voc) ∧
  ∀ H', Same H H' → (wrongP (cardOf ws) = none → ∀ q, Q (.ref q) H') ∧ (∀ t dd, wrongP (cardOf ws) = some t → H' dd = some (.xd (xdP t)) → E (.ref cE) (some dd) H')
theorem okx_card_by (T : Top K mg) : FnOk P w K mg base (L2.CX P w) 6 T.a_card_by T.fd_card_by ["words"] (spCardByX K T.c_InvalidCard) := by
  refine T.F_card_by.okX sc_card_by (fun vs H Q E h => ?_) (fun cdv A outer s H vs Q E hr h => ?_)
  · obtain ⟨l, ws, rfl, _⟩ := h
    rfl
  · obtain ⟨l, ws, rfl, hL, hl, hw, hv, k⟩ := h
    have hg := room_of hv hl
    have hu := hu_of hr
    obtain ⟨ds3, hv3, hb3⟩ := kb3_Card T
    obtain ⟨w1, w2, w3⟩ := ww_none hw
    refine ⟨_, (pss_cons (ps_if (pt_cmpR op_eq (pe_ix ix_list (pv 0) pe_int (fun _ _ => rfl)) pe_str (nomark _)) (pss_one (ps_ret (pe_make T.Mk_Card (okx_Card_init T) (hr.mono (by decide)) (by rfl) T.g_Card hb3 hv3 (passX (fun _ _ _ h => h) rfl rfl rfl rfl) (pa_cons (pe_ix ix_list (pv 0) pe_int (fun _ _ => rfl)) (pa_cons (pe_tup pa_nil) (pa_cons (pe_ix ix_list (pv 0) pe_int (fun _ _ => rfl)) pa_nil)))))) pss_nil)
      (pss_cons (ps_nox (ps_set (i := 1) sc_card_by.nd rfl (.inl rfl) (pe_call (ok_index_of_also T) (hr.mono (by decide)) (by rfl) T.g_index_of_also T.F_index_of_also.kp (b_index_of_also T) .nil pass0 (pa_cons (pv 0) pa_nil))))
      (pss_cons (ps_nox (ps_set (i := 2) sc_card_by.nd rfl (.inl rfl) (pe_callTy call_tuple_of (by rfl) T.m_tuple (by decide +kernel) (pa_cons (pe_lc (own := [("word", 3)]) (g := gName 3) (tt := tYes) rfl sc_card_by.nd (pi_list (pe_slice sl_list (pv 0) (po_some pe_int) (po_some (pv 1)))) (blkOk_by (N := N_card_by) (sc := defScope s_card_by) (by decide +kernel)) (fun _ _ _ _ _ => (pg_name (i := 3) sc_card_by.nd rfl (.inl rfl))) (fun _ _ _ _ _ => pts_nil) (fun _ _ _ _ _ => (pe_callTy call_int_str (by rfl) T.m_int (by decide +kernel) (pa_cons (pv 3) pa_nil)))) pa_nil))))
      (pss_one (ps_ret (pe_make T.Mk_Card (okx_Card_init T) (hr.mono (by decide)) (by rfl) T.g_Card (kb4_Card T) .nil (passX (fun _ _ _ h => h) rfl rfl rfl rfl) (pa_cons (pe_ix ix_list (pv 0) pe_int (fun _ _ => rfl)) (pa_cons (pv 2) (pa_cons pe_str (pa_cons (pe_callTy call_tuple_of (by rfl) T.m_tuple (by decide +kernel) (pa_cons (pe_slice sl_list (pv 0) (po_some (pe_op op_add (pv 1) pe_int)) po_none) pa_nil)) pa_nil)))))))))), ?_⟩
    obtain ⟨t0, h0, h0d, h0m⟩ := get_word (ws := ws) (i := 0) (by omega)
    obtain ⟨t1, h1, h1d, h1m⟩ := get_word (ws := ws) (i := 1) (by omega)
    have hat0 : atI (ws.map V.str) ((0 : Nat) : Int) = some (.str t0) := atI_nat (by rw [List.getElem?_map, h0]; rfl)
    have hat1 : atI (ws.map V.str) ((1 : Nat) : Int) = some (.str t1) := atI_nat (by rw [List.getElem?_map, h1]; rfl)
    refine ⟨_, rfl, l, _, ((0 : Nat) : Int), .str t0, rfl, rfl, hL, hat0, ?_⟩
    refine tC_to (rEq_to (b := decide (t0 = seeW)) rfl (str_dec t0 seeW) ?_)
    refine ⟨_, rfl, ?_⟩
    rw [h0d] at w2 w3
    have ec : cardOf ws = if t0 = seeW then ⟨t1, [], ws[2]?.getD ("" : Str), []⟩ else ⟨t1, booksW ws, "", ws.drop (idxAlso ws + 1)⟩ := by
      unfold cardOf
      rw [h0d, h1d]
    by_cases hs : t0 = seeW
    · rw [decide_eq_true hs]
      rw [if_pos hs] at ec
      refine iteT ?_
      obtain ⟨t2, h2, h2d, h2m⟩ := get_word (ws := ws) (i := 2) (by have := w2 hs; omega)
      rw [h2d] at ec
      have hat2 : atI (ws.map V.str) ((2 : Nat) : Int) = some (.str t2) := atI_nat (by rw [List.getElem?_map, h2]; rfl)
      rw [ec] at hg k
      clear ec w2 w3
      refine ⟨_, rfl, l, _, ((1 : Nat) : Int), .str t1, rfl, rfl, hL, hat1, ?_⟩
      refine ⟨Nat.zero_le _, fun tp htp => ?_⟩
      have s1 : Same H (upd H tp (.tup [])) := same_new htp
      have z1 : SqT K (upd H tp (.tup [])) tp (([] : List Int).map V.int) := SqT.of upd_same
      generalize upd H tp (.tup []) = H1 at *
      refine ⟨_, rfl, l, _, ((2 : Nat) : Int), .str t2, rfl, rfl, s1.seq hL, hat2, ?_⟩
      intro q dx hq hdx hne
      have sN : Same H1 (upd (upd H1 dx (.own q)) q (.ins T.c_Card dx [])) := fun b o e => by
        rw [upd_ne (ne_of_none e hq), upd_ne (ne_of_none e hdx)]
        exact e
      refine ⟨q, dx, ⟨t1, [], t2, []⟩, tp, T.e_Card_init_2, rfl, upd_same, hg, sN.seqT z1, T.ek_Card_init_2 _, fun H9 => ⟨fun hn b9 c9 => ⟨rfl, ?_⟩, fun t dd hw s9 e9 => ?_⟩⟩
      · have s9 : Same H1 H9 := fun b o e => b9 b o (sN b o e) (ne_of_none e hq)
        exact (k H9 (s1.trans s9)).1 hn q
      · exact (k H9 (s1.trans (sN.trans s9))).2 t dd hw e9
    · rw [decide_eq_false hs]
      rw [if_neg hs] at ec
      replace w3 := w3 hs
      rw [ec] at hg k
      clear ec w2
      refine iteF ?_
      refine ⟨_, rfl, l, ws, rfl, hL, hl, fun H1 s1 => ?_⟩
      unfold booksW at *
      generalize idxAlso ws = b at *
      refine ⟨_, rfl, 2, rfl, _, rfl, _, rfl, l, _, rfl, s1.seq hL, fun n4 hn4 => ?_⟩
      have ec : cutV (ws.map V.str) (some 2) (some ((b : Nat) : Int)) = ((ws.take b).drop 2).map V.str := by
        rw [show (2 : Int) = ((2 : Nat) : Int) from rfl, cut_lo_hi, List.map_drop, List.map_take]
      rw [ec]
      have s2 : Same H1 (upd H1 n4 (.lst (((ws.take b).drop 2).map V.str))) := same_new hn4
      have l2 : SqL K (upd H1 n4 (.lst (((ws.take b).drop 2).map V.str))) n4 (((ws.take b).drop 2).map V.str) := SqL.of upd_same
      have s12 := s1.trans s2
      have hl2 : ((ws.take b).drop 2).length ≤ 1000 := by rw [List.length_drop, List.length_take]; omega
      have hm2 : ∀ t ∈ (ws.take b).drop 2, t ∈ ws := fun t h => List.mem_of_mem_take (List.mem_of_mem_drop h)
      generalize upd H1 n4 (.lst (((ws.take b).drop 2).map V.str)) = H2 at *
      generalize (ws.take b).drop 2 = bw at *
      clear ec hn4 s1 s2
      refine ⟨n4, rfl, ⟨_, l2⟩, fun D hD => lc_map (walk_list (K := K) (a := n4) (xs := bw.map V.str)) (by rw [List.length_map]; omega) hD (fun i => V.int (numW (bw[i]?.getD ("" : Str)))) (fun H' s' => s'.seq l2) (fun i x H3 H4 hi s3 hy R r => ?_) (fun H3 s3 hd => ?_) gName_mono⟩
      · obtain ⟨rfl, hx⟩ := hy
        rw [List.getElem?_map] at hx
        obtain ⟨t, ht, rfl⟩ := Option.map_eq_some_iff.mp hx
        have hm := List.mem_of_getElem? ht
        refine ⟨rfl, ?_⟩
        refine ⟨_, rfl, t, numW t, rfl, voc_num' (hv t (hm2 t hm)) (w3 t hm), by have := voc_len t (hv t (hm2 t hm)); omega, ?_⟩
        have := r _ (Same.refl _)
        rw [ht] at this
        exact this
      · rw [List.length_map, range_map bw (fun t => V.int (numW t)) _ (fun i x h => by rw [h]; rfl)] at hd
        have hd2 : H3 D = some (.lst ((bw.map numW).map V.int)) := by rw [hd, List.map_map]; rfl
        clear hd
        have s123 := s12.trans s3
        refine ⟨D, _, rfl, .inl ⟨SqL.of hd2, fun tb htb => ?_⟩⟩
        have s4 : Same H3 (upd H3 tb (.tup ((bw.map numW).map V.int))) := same_new htb
        have z4 : SqT K (upd H3 tb (.tup ((bw.map numW).map V.int))) tb ((bw.map numW).map V.int) := SqT.of upd_same
        have s14 := s123.trans s4
        generalize upd H3 tb (.tup ((bw.map numW).map V.int)) = H4 at *
        clear s123 s4 htb hd2 s12 l2 hD s3
        refine ⟨_, rfl, l, _, ((1 : Nat) : Int), .str t1, rfl, rfl, s14.seq hL, hat1, ?_⟩
        refine ⟨_, rfl, _, rfl, _, rfl, _, _, rfl, rfl, _, rfl, l, _, rfl, s14.seq hL, fun n5 hn5 => ?_⟩
        have ec : cutV (ws.map V.str) (some (((b : Nat) : Int) + 1)) none = (ws.drop (b + 1)).map V.str := by
          rw [show ((b : Nat) : Int) + 1 = ((b + 1 : Nat) : Int) by omega, cut_lo, List.map_drop]
        rw [ec]
        have s5 : Same H4 (upd H4 n5 (.lst ((ws.drop (b + 1)).map V.str))) := same_new hn5
        have l5 : SqL K (upd H4 n5 (.lst ((ws.drop (b + 1)).map V.str))) n5 ((ws.drop (b + 1)).map V.str) := SqL.of upd_same
        generalize upd H4 n5 (.lst ((ws.drop (b + 1)).map V.str)) = H5 at *
        generalize ws.drop (b + 1) = aw at *
        refine ⟨n5, _, rfl, .inl ⟨l5, fun ta hta => ?_⟩⟩
        have s6 : Same H5 (upd H5 ta (.tup (aw.map V.str))) := same_new hta
        have z6 : SqT K (upd H5 ta (.tup (aw.map V.str))) ta (aw.map V.str) := SqT.of upd_same
        have z46 := (s5.trans s6).seqT z4
        have s16 := (s14.trans s5).trans s6
        generalize upd H5 ta (.tup (aw.map V.str)) = H6 at *
        clear s5 s6 l5 ec hta hn5 z4 s14
        intro q dx hq hdx hne
        have sN : Same H6 (upd (upd H6 dx (.own q)) q (.ins T.c_Card dx [])) := fun b o e => by
          rw [upd_ne (ne_of_none e hq), upd_ne (ne_of_none e hdx)]
          exact e
        refine ⟨q, dx, ⟨t1, bw.map numW, "", aw⟩, tb, ta, rfl, upd_same, hg, sN.seqT z46, sN.seqT z6, fun H9 => ⟨fun hn b9 c9 => ⟨rfl, ?_⟩, fun t dd hw s9 e9 => ?_⟩⟩
        · have s9 : Same H6 H9 := fun b o e => b9 b o (sN b o e) (ne_of_none e hq)
          exact (k H9 (s16.trans s9)).1 hn q
        · exact (k H9 (s16.trans (sN.trans s9))).2 t dd hw e9
end
section
local macro_rules | `(tactic| walk_at "sl") => `(tactic| first | assumption | exact SqL.of upd_same | exact SqL.of (by assumption) | ((with_reducible apply sql_upd); (walk_at "sl"); (first | assumption | exact Ne.symm (by assumption))))
local macro_rules | `(tactic| walk_at "st") => `(tactic| first | assumption | exact SqT.of upd_same | exact SqT.of (by assumption))
local macro_rules | `(tactic| walk_at "sc") => `(tactic| first | rfl | assumption | (show (0 : Int) < _; first | assumption | decide | omega) | exact Or.inl ⟨by omega, by omega⟩ | exact Or.inr ⟨by omega, by omega⟩ | exact ⟨by decide, by decide⟩ | exact ⟨by decide, by decide, by decide⟩)
local macro_rules | `(tactic| walk_at "g1") => `(tactic| first
  | refine ⟨(_ : V), rfl, ?_⟩
  | refine ⟨(_ : Bool), rfl, ?_⟩
  | refine ⟨(_ : Int), (_ : Int), rfl, rfl, ?_⟩
  | refine ⟨(_ : Int), rfl, ?_⟩
  | refine ⟨(_ : Str), rfl, ?_⟩
  | refine ⟨(_ : Addr), (_ : List V), rfl, Or.inl (by walk_at "sl"), ?_⟩
  | refine ⟨(_ : Addr), (_ : List V), rfl, Or.inr (by walk_at "st"), ?_⟩
  | refine ⟨(_ : Addr), (_ : List V), (_ : Int), (_ : V), rfl, rfl, (by walk_at "sl"), (by first | rfl | assumption), ?_⟩
  | refine ⟨(_ : Addr), (_ : List V), (_ : Int), (_ : V), rfl, rfl, (by walk_at "st"), (by first | rfl | assumption), ?_⟩
  | refine ⟨(_ : Addr), (_ : List V), (_ : Int), (_ : Nat), rfl, rfl, upd_same, rfl, ?_⟩
  | refine ⟨(_ : Addr), (_ : List V), (_ : Int), (_ : Nat), rfl, rfl, (by assumption), rfl, ?_⟩
  | refine ⟨(_ : Addr), (_ : Addr), (_ : Addr), (_ : List (Str × V)), (_ : V), rfl, (by assumption), (by assumption), (by assumption), (by first | assumption | rfl), ?_⟩
  | refine Or.inl ⟨(_ : Int), rfl, ?_⟩
  | refine And.intro (by walk_at "sc") ?_
  | refine iteT ?_
  | refine iteF ?_)
/-! ### parse_drawer, or what it lets out -/
/-- the first wrong word of rows: its row, its index -/
def outW : Nat → List (List Str) → Option (Nat × Nat)
  | _, [] => none
  | i, ws :: r => match wrongWord ws with
    | some j => some (i, j)
    | none => outW (i + 1) r
def outC : List CD → Option Str
  | [] => none
  | c :: r => match wrongP c with
    | some t => some t
    | none => outC r
theorem outW_at {rows : List (List Str)} {i : Nat} {ws : List Str} (h : rows[i]? = some ws) (n : Nat) : outW n (rows.drop i) = match wrongWord ws with
    | some j => some (n, j)
    | none => outW (n + 1) (rows.drop (i + 1)) := by
  have hn := (List.getElem?_eq_some_iff.mp h).1
  rw [List.drop_eq_getElem_cons hn]
  rw [List.getElem?_eq_getElem hn] at h
  rw [Option.some.inj h]
  rfl
theorem outC_at {rows : List (List Str)} {i : Nat} {ws : List Str} (h : rows[i]? = some ws) : outC ((rows.drop i).map cardOf) = match wrongP (cardOf ws) with
    | some t => some t
    | none => outC ((rows.drop (i + 1)).map cardOf) := by
  have hn := (List.getElem?_eq_some_iff.mp h).1
  rw [List.drop_eq_getElem_cons hn]
  rw [List.getElem?_eq_getElem hn] at h
  rw [Option.some.inj h]
  rfl
theorem outW_none : ∀ {n : Nat} {rows : List (List Str)}, outW n rows = none → ∀ ws ∈ rows, wrongWord ws = none
  | _, [], _, _, h => nomatch h
  | n, ws :: r, h, x, hx => by
    unfold outW at h
    cases e : wrongWord ws with
    | some j => rw [e] at h; cases h
    | none =>
      rw [e] at h
      rcases List.mem_cons.mp hx with rfl | hx
      · exact e
      · exact outW_none h x hx
structure Rows4 (rows : List (List Str)) : Prop where
  n : rows.length ≤ 90
  l : ∀ ws ∈ rows, ws.length ≤ 90
  v : ∀ ws ∈ rows, ∀ t ∈ ws, t ∈ voc
/-- what comes of rows of words: an error's wish, or the drawer's -/
def Outs (rows : List (List Str)) (cT cC cD : Addr) (H : Hp) (Q : VK) (E : XK) : Prop :=
  (∀ i j, outW 0 rows = some (i, j) → i < 100 ∧ j < 100 ∧ ∀ H' dd, Same H H' → H' dd = some (.xd (xdW i j)) → E (.ref cT) (some dd) H') ∧
  (outW 0 rows = none → (∀ t, outC (rows.map cardOf) = some t → ∀ H' dd, Same H H' → H' dd = some (.xd (xdP t)) → E (.ref cC) (some dd) H') ∧
    (outC (rows.map cardOf) = none → (16 < rows.length → ∀ H', Same H H' → E (.ref cD) none H') ∧ (rows.length ≤ 16 → ∀ q H', Same H H' → Q (.ref q) H')))
def spParseX (K : PySem.W.Frag) (cT cC cD : Addr) : Sp := fun vs H Q E => ∃ t : Str, vs = [.str t] ∧ t.length ≤ 900000 ∧ (Txt.split t lfS).length ≤ 1000 ∧ (∀ r ∈ Txt.split t lfS, r.length ≤ 900000) ∧ Rows4 (rowsOf t) ∧ Outs (rowsOf t) cT cC cD H Q E
theorem okx_parse_drawer (T : Top K mg) : FnOk P w K mg base (L2.CX P w) 7 T.a_parse_drawer T.fd_parse_drawer ["text"] (spParseX K T.c_InvalidText T.c_InvalidCard T.c_InvalidDrawer) := by
  refine T.F_parse_drawer.okX sc_parse_drawer (fun vs H Q E h => ?_) (fun cdv A outer s H vs Q E hr h => ?_)
  · obtain ⟨t, rfl, _⟩ := h
    rfl
  · obtain ⟨t, rfl, hl, hn, hr', h4, k1, k2⟩ := h
    have hu := hu_of hr
    refine ⟨_, (pss_cons (ps_nox (ps_set (i := 1) sc_parse_drawer.nd rfl (.inl rfl) (pe_call (ok_words_by_row T) (hr.mono (by decide)) (by rfl) T.g_words_by_row T.F_words_by_row.kp (b_words_by_row T) .nil pass0 (pa_cons (pv 0) pa_nil))))
      (pss_cons (ps_for (passes_of rfl) rfl (pi_enum (by rfl) T.m_enumerate (pa_cons (pv 1) pa_nil)) (pg_tup rfl (pgs_cons (pg_name (i := 2) sc_parse_drawer.nd rfl (.inl rfl)) (pgs_cons (pg_name (i := 3) sc_parse_drawer.nd rfl (.inl rfl)) pgs_nil)))
        (pss_cons (ps_nox (ps_set (i := 4) sc_parse_drawer.nd rfl (.inl rfl) (pe_call (ok_wrong_word T) (hr.mono (by decide)) (by rfl) T.g_wrong_word T.F_wrong_word.kp (b_wrong_word T) .nil pass0 (pa_cons (pv 3) pa_nil))))
        (pss_one (ps_if (pt_cmpR op_notN (pv 4) pe_non (nomark _)) (pss_one (ps_errO T.ox_InvalidText T.oi_InvalidText T.ot_InvalidText (ok_InvalidText_init T) (hr.mono (by decide)) (b_InvalidText_init T) .nil pass0 T.g_InvalidText (by rfl) (pa_cons (pv 2) (pa_cons (pv 4) pa_nil)) rfl rfl rfl rfl rfl)) pss_nil))))
      (pss_one (ps_ret (pe_make T.Mk_Drawer (okx_Drawer_init T) (hr.mono (by decide)) (by rfl) T.g_Drawer (b_Drawer_init T) .nil (passX (fun _ _ _ h => h) rfl rfl rfl rfl) (pa_cons (pe_callTy call_tuple_of (by rfl) T.m_tuple (by decide +kernel) (pa_cons (pe_lcX (own := [("words", 3)]) (g := gName 3) (tt := tYes) rfl sc_parse_drawer.nd (pi_list (pv 1)) (blkOk_by (N := N_parse_drawer) (sc := defScope s_parse_drawer) (by decide +kernel)) (fun _ _ _ _ _ => (pg_name (i := 3) sc_parse_drawer.nd rfl (.inl rfl))) (fun _ _ _ _ _ => pts_nil) (fun _ _ _ _ _ => (pe_call (okx_card_by T) (hr.mono (by decide)) (by rfl) T.g_card_by T.F_card_by.kp (b_card_by T) .nil passB (pa_cons (pv 3) pa_nil))) rfl rfl rfl rfl) pa_nil)) pa_nil)))))), ?_⟩
    refine ⟨_, rfl, t, rfl, hl, hn, hr', fun l H1 s1 hR => ?_⟩
    generalize rowsOf t = wss at *
    obtain ⟨as, hA, hAl, hAw⟩ := hR
    have h90 := h4.n
    have row : ∀ {i : Nat} {a : Addr}, as[i]? = some a → ∃ ws, wss[i]? = some ws ∧ ws ∈ wss ∧ SqL K H1 a (ws.map V.str) := fun {i a} h => by
      have hi := (List.getElem?_eq_some_iff.mp h).1
      have e : wss[i]? = some wss[i] := List.getElem?_eq_getElem (by omega)
      exact ⟨_, e, List.mem_of_getElem? e, hAw i a _ h e⟩
    refine ⟨_, rfl, l, _, rfl, hA, for_enum (K := K) (a := l) (xs := as.map V.ref) (fun i σ H2 => ∃ y2 y3 y4, σ = [some (.str t), some (.ref l), y2, y3, y4] ∧ Same H1 H2 ∧ outW 0 wss = outW i (wss.drop i)) ⟨_, _, _, rfl, Same.refl _, rfl⟩ (fun i σ H2 _ ⟨_, _, _, _, s, _⟩ => s.seq hA) (fun i x tp σ H2 hi hP ht => ?_) (fun σ H2 hP => ?_)⟩
    · obtain ⟨y2, y3, y4, rfl, s2, e2⟩ := hP
      rw [List.getElem?_map] at hi
      obtain ⟨a, hai, rfl⟩ := Option.map_eq_some_iff.mp hi
      obtain ⟨ws, hw, hm, hW⟩ := row hai
      have s3 := s2.trans (same_new (o := .tup [.int (i : Nat), .ref a]) ht)
      rw [outW_at hw] at e2
      have hwl := h4.l ws hm
      refine ⟨tp, _, rfl, SqT.of upd_same, rfl, _, _, rfl, _, _, rfl, rfl, ?_⟩
      refine ⟨_, rfl, a, ws, rfl, s3.seq hW, by omega, Nat.zero_le _, h4.v ws hm, fun H3 s4 => ?_⟩
      have s14 := s1.trans (s3.trans s4)
      cases hj : wrongWord ws with
      | some j =>
        rw [hj] at e2
        obtain ⟨q1, q2, q3⟩ := k1 i j e2
        refine ⟨_, rfl, rfl, _, rfl, ?_⟩
        refine iteT ?_
        refine ⟨_, rfl, _, rfl, by show 2 ≤ 1000; decide, fun a' ha' => ⟨a', i, j, rfl, q1, q2, upd_same, fun dx' hdx hne => ⟨rfl, dx', xdW i j, by rw [upd_ne (fun z => hne z.symm), upd_same], upd_same, by rw [upd_ne hne] at hdx; exact hdx, ?_⟩⟩⟩
        rw [upd_ne hne] at hdx
        exact q3 _ dx' (s14.trans (xd_gen ha' hdx fun b n1 n2 => by rw [upd_ne n2, upd_ne n1, upd_ne n2, upd_ne n1])) upd_same
      | none =>
        rw [hj] at e2
        refine ⟨_, rfl, rfl, _, rfl, ?_⟩
        exact iteF ⟨_, _, _, rfl, s3.trans s4, e2⟩
    · obtain ⟨y2, y3, y4, rfl, s2, e2⟩ := hP
      have hA2 := s2.seq hA
      rw [List.length_map, List.drop_eq_nil_of_le (by omega)] at e2
      have e2 : outW 0 wss = none := e2
      obtain ⟨k3, k4⟩ := k2 e2
      have hnw := outW_none e2
      refine ⟨.ref l, rfl, l, rfl, ⟨_, hA2⟩, fun D hD => lc_it (walk_list (K := K) (a := l) (xs := as.map V.ref)) (fun i H3 => Same H2 H3 ∧ (∃ ps : List Addr, ps.length = i ∧ H3 D = some (.lst (ps.map V.ref))) ∧ outC (wss.map cardOf) = outC ((wss.drop i).map cardOf)) ⟨same_new hD, ⟨[], rfl, upd_same⟩, rfl⟩ (fun i H3 _ hP => hP.1.seq hA2) (fun i x H3 H4 hi hP hy => ?_) (fun H3 hP => ?_)⟩
      · obtain ⟨s3, ⟨ps, hpl, e3⟩, ec⟩ := hP
        obtain ⟨rfl, hx⟩ := hy
        rw [List.getElem?_map] at hx
        obtain ⟨a, hai, rfl⟩ := Option.map_eq_some_iff.mp hx
        obtain ⟨ws, hw, hm, hW⟩ := row hai
        rw [outC_at hw] at ec
        have hwl := h4.l ws hm
        have hil := (List.getElem?_eq_some_iff.mp hai).1
        refine ⟨rfl, tYes_of ?_⟩
        refine ⟨_, rfl, a, ws, rfl, (s2.trans s3).seq hW, by omega, hnw ws hm, h4.v ws hm, fun H5 s5 => ⟨fun hok q => ?_, fun p dd hp e5 => ?_⟩⟩
        · rw [hok] at ec
          have e5 := s5 _ _ e3
          exact ⟨_, e5, sizeLine_of (by rw [List.length_map]; omega), same_mut (s3.trans s5) hD, ⟨ps ++ [q], by rw [List.length_append, hpl]; rfl, by rw [upd_same, List.map_append]; rfl⟩, ec⟩
        · rw [hp] at ec
          exact k3 p ec H5 dd ((s1.trans s2).trans (s3.trans s5)) e5
      · obtain ⟨s3, ⟨ps, hpl, e3⟩, ec⟩ := hP
        rw [List.length_map] at hpl
        rw [List.length_map, List.drop_eq_nil_of_le (by omega)] at ec
        have ec : outC (wss.map cardOf) = none := ec
        obtain ⟨k5, k6⟩ := k4 ec
        refine ⟨D, _, rfl, .inl ⟨SqL.of e3, fun u hu' => ?_⟩⟩
        intro x dx hx hdx hne
        have s6 : Same H3 (upd H3 u (.tup (ps.map V.ref))) := same_new hu'
        have s7 : Same (upd H3 u (.tup (ps.map V.ref))) (upd (upd (upd H3 u (.tup (ps.map V.ref))) dx (.own x)) x (.ins T.c_Drawer dx [])) := fun b o e => by
          rw [upd_ne (ne_of_none e hx), upd_ne (ne_of_none e hdx)]
          exact e
        have s17 := ((s1.trans s2).trans (s3.trans s6)).trans s7
        refine ⟨x, dx, u, _, rfl, upd_same, s7.seqT (SqT.of upd_same), by rw [List.length_map]; omega, fun hbig => ?_, fun hsm H7 b7 h7 => ⟨rfl, ?_⟩⟩
        · rw [List.length_map] at hbig
          exact k5 (by omega) _ s17
        · rw [List.length_map] at hsm
          have s8 : Same (upd H3 u (.tup (ps.map V.ref))) H7 := fun b o e => b7 b o (s7 b o e) (ne_of_none e hx)
          exact k6 (by omega) x H7 (((s1.trans s2).trans (s3.trans s6)).trans s8)
end
section
local macro_rules | `(tactic| walk_at "sl") => `(tactic| first | assumption | exact SqL.of upd_same | exact SqL.of (by assumption) | ((with_reducible apply sql_upd); (walk_at "sl"); (first | assumption | exact Ne.symm (by assumption))))
local macro_rules | `(tactic| walk_at "st") => `(tactic| first | assumption | exact SqT.of upd_same | exact SqT.of (by assumption))
local macro_rules | `(tactic| walk_at "sc") => `(tactic| first | rfl | assumption | (show (0 : Int) < _; first | assumption | decide | omega) | exact Or.inl ⟨by omega, by omega⟩ | exact Or.inr ⟨by omega, by omega⟩ | exact ⟨by decide, by decide⟩ | exact ⟨by decide, by decide, by decide⟩)
local macro_rules | `(tactic| walk_at "g1") => `(tactic| first
  | refine ⟨(_ : V), rfl, ?_⟩
  | refine ⟨(_ : Bool), rfl, ?_⟩
  | refine ⟨(_ : Int), (_ : Int), rfl, rfl, ?_⟩
  | refine ⟨(_ : Int), rfl, ?_⟩
  | refine ⟨(_ : Str), rfl, ?_⟩
  | refine ⟨(_ : Addr), (_ : List V), rfl, Or.inl (by walk_at "sl"), ?_⟩
  | refine ⟨(_ : Addr), (_ : List V), rfl, Or.inr (by walk_at "st"), ?_⟩
  | refine ⟨(_ : Addr), (_ : List V), (_ : Int), (_ : V), rfl, rfl, (by walk_at "sl"), (by first | rfl | assumption), ?_⟩
  | refine ⟨(_ : Addr), (_ : List V), (_ : Int), (_ : V), rfl, rfl, (by walk_at "st"), (by first | rfl | assumption), ?_⟩
  | refine ⟨(_ : Addr), (_ : List V), (_ : Int), (_ : Nat), rfl, rfl, upd_same, rfl, ?_⟩
  | refine ⟨(_ : Addr), (_ : List V), (_ : Int), (_ : Nat), rfl, rfl, (by assumption), rfl, ?_⟩
  | refine ⟨(_ : Addr), (_ : Addr), (_ : Addr), (_ : List (Str × V)), (_ : V), rfl, (by assumption), (by assumption), (by assumption), (by first | assumption | rfl), ?_⟩
  | refine Or.inl ⟨(_ : Int), rfl, ?_⟩
  | refine And.intro (by walk_at "sc") ?_
  | refine iteT ?_
  | refine iteF ?_)
/-! ### _law_place: what a text comes to -/
theorem tl_bl : TL.tl blS = [32] := by decide +kernel
theorem tl_lf : TL.tl lfS = [10] := by decide +kernel
def goodR : List Str := ["card bus 1 20 300 also tram", "see rail tram", "card tram", "card ship also bus rail"]
def wrong1 : List (Str × Nat) := [("", 0), ("cards bus", 0), ("card", 1), ("card Bus", 1), ("card  bus", 1), ("card bus 0", 2), ("see", 1)]
def wrong2 : List (Str × Nat) := [("card bus 01", 2), ("card bus 1000", 2), ("card bus 3 3", 3), ("card bus 3 2", 3), ("see bus", 2)]
def wrong3 : List (Str × Nat) := [("card bus x", 2), ("card bus also", 3), ("card bus 1 also", 4), ("card bus also Tram", 3)]
def wrong4 : List (Str × Nat) := [("card bus also tram 1", 4), ("see bus tram 1", 3), ("see bus 1", 2), ("see bus tram also", 3)]
def wrong5 : List (Str × Nat) := [("card bus 1 2 ", 4), (" card bus", 0), ("see bus tram ", 3), ("card busbusbus", 1)]
def wrong6 : List (Str × Nat) := [("card bus -1", 2)]
def wrongR : List (Str × Nat) := wrong1 ++ (wrong2 ++ (wrong3 ++ (wrong4 ++ (wrong5 ++ wrong6))))
def bad1 : List (Str × Str) := [("see bus bus", "see"), ("card bus also bus", "also"), ("card bus also rail rail", "also")]
def bad2 : List (Str × Str) := [("card bus 1 2 3 4 5 6 7", "books"), ("card bus also a b c d e", "also")]
def badR : List (Str × Str) := bad1 ++ bad2
def plainR : List Str := ["card bus", "card"]
def pool : List Str := goodR ++ (plainR ++ (wrongR.map (·.1) ++ badR.map (·.1)))
def wordsR (r : Str) : List Str := Txt.split r blS
structure PoolOk (r : Str) : Prop where
  lf : 10 ∉ TL.tl r
  len : r.length ≤ 60
  few : (wordsR r).length ≤ 90
  v : ∀ t ∈ wordsR r, t ∈ voc
  w : ∀ j, wrongWord (wordsR r) = some j → j < 100
theorem pool_lf : ∀ r ∈ pool, 10 ∉ TL.tl r := by decide +kernel
theorem pool_len : ∀ r ∈ pool, r.length ≤ 60 := by decide +kernel
theorem pool_few : ∀ r ∈ pool, (wordsR r).length ≤ 90 := by decide +kernel
theorem pool_v : ∀ r ∈ pool, ∀ t ∈ wordsR r, t ∈ voc := by decide +kernel
theorem pool_w : ∀ r ∈ pool, (wrongWord (wordsR r)).getD 0 < 100 := by decide +kernel
theorem pool_ok {r : Str} (h : r ∈ pool) : PoolOk r := ⟨pool_lf r h, pool_len r h, pool_few r h, pool_v r h, fun j e => by
  have := pool_w r h
  rw [e] at this
  exact this⟩
theorem joinL_ne {s : List Nat} : ∀ {ps : List (List Nat)}, (∃ p ∈ ps, p ≠ []) → TL.joinL s ps ≠ []
  | [], ⟨_, h, _⟩ => nomatch h
  | [p], ⟨q, h, hq⟩ => by
    rw [List.mem_singleton.mp h] at hq
    exact hq
  | p :: q :: r, ⟨z, hz, hzn⟩ => fun e => by
    have e : p ++ (s ++ TL.joinL s (q :: r)) = [] := e
    rw [List.append_eq_nil_iff, List.append_eq_nil_iff] at e
    rcases List.mem_cons.mp hz with rfl | hz
    · exact hzn e.1
    · exact joinL_ne ⟨z, hz, hzn⟩ e.2.2
theorem join_len (sep : Str) : ∀ ys : List Str, (Str.join sep ys).length ≤ (ys.map (·.length)).sum + ys.length * sep.length
  | [] => by show (Str.empty).length ≤ _; exact Nat.zero_le _
  | [x] => by show x.length ≤ _; simp
  | x :: y :: r => by
    have ih := join_len sep (y :: r)
    show (x ++ sep ++ Str.join sep (y :: r)).length ≤ _
    rw [PySem.Str.length_append, PySem.Str.length_append, List.map_cons, List.sum_cons, List.length_cons, Nat.succ_mul]
    omega
theorem sum_le {ys : List Str} {m : Nat} : (∀ y ∈ ys, y.length ≤ m) → (ys.map (·.length)).sum ≤ m * ys.length := by
  induction ys with
  | nil => exact fun _ => Nat.le_refl _
  | cons y r ih =>
    intro h
    have h1 := h y (.head _)
    have h2 := ih fun z hz => h z (.tail _ hz)
    rw [List.map_cons, List.sum_cons, List.length_cons, Nat.mul_succ]
    omega
structure RowsP (rows : List Str) : Prop where
  n : rows.length ≤ 90
  p : ∀ r ∈ rows, r ∈ pool
  e : ∃ r ∈ rows, TL.tl r ≠ []
theorem RowsP.ne {rows : List Str} (h : RowsP rows) : rows ≠ [] := fun e => by
  obtain ⟨r, hr, _⟩ := h.e
  rw [e] at hr
  cases hr
theorem RowsP.split {rows : List Str} (h : RowsP rows) : Txt.split (Txt.join lfS rows) lfS = rows :=
  TL.split_join tl_lf (by decide +kernel) h.ne fun r hr => pool_lf r (h.p r hr)
theorem RowsP.rows {rows : List Str} (h : RowsP rows) : rowsOf (Txt.join lfS rows) = rows.map wordsR := by
  unfold rowsOf
  rw [if_neg, h.split]
  · rfl
  · intro e
    have : TL.tl (Txt.join lfS rows) = [] := by rw [e]; decide +kernel
    rw [TL.join_eq, TL.tl_join] at this
    obtain ⟨r, hr, hn⟩ := h.e
    exact joinL_ne ⟨TL.tl r, List.mem_map.mpr ⟨r, hr, rfl⟩, hn⟩ this
theorem RowsP.sum {rows : List Str} (h : RowsP rows) : (rows.map (·.length)).sum + rows.length * lfS.length ≤ 10000 := by
  have := sum_le (ys := rows) (m := 60) fun r hr => pool_len r (h.p r hr)
  have := h.n
  rw [show lfS.length = 1 by decide +kernel]
  omega
theorem RowsP.r4 {rows : List Str} (h : RowsP rows) : Rows4 (rows.map wordsR) := ⟨by rw [List.length_map]; exact h.n, fun ws hw => by
    obtain ⟨r, hr, rfl⟩ := List.mem_map.mp hw
    exact pool_few r (h.p r hr), fun ws hw => by
    obtain ⟨r, hr, rfl⟩ := List.mem_map.mp hw
    exact pool_v r (h.p r hr)⟩
theorem outW_lt : ∀ {n : Nat} {rows : List Str} {i j : Nat}, (∀ r ∈ rows, r ∈ pool) → outW n (rows.map wordsR) = some (i, j) → i < n + rows.length ∧ j < 100
  | _, [], _, _, _, e => nomatch e
  | n, r :: rs, i, j, h, e => by
    rw [List.map_cons] at e
    unfold outW at e
    cases w : wrongWord (wordsR r) with
    | some k =>
      rw [w] at e
      cases e
      exact ⟨by rw [List.length_cons]; omega, (pool_ok (h r (.head _))).w _ w⟩
    | none =>
      rw [w] at e
      have := outW_lt (fun x hx => h x (.tail _ hx)) e
      rw [List.length_cons]
      omega
/-- what _law_place answers -/
def outD (rows : List Str) : PyData := match outW 0 (rows.map wordsR) with
  | some (i, j) => .tuple [.int (i : Nat), .int (j : Nat)]
  | none => match outC ((rows.map wordsR).map cardOf) with
    | some t => .tuple [.str "card", .str t]
    | none => if 16 < rows.length then .tuple [.str "drawer", .int 0] else .none
def spPlace (K : PySem.W.Frag) : Sp := fun vs H Q _ => ∃ (l : Addr) (rows : List Str), vs = [.ref l] ∧ SqL K H l (rows.map V.str) ∧ RowsP rows ∧ ∀ v H', Same H H' → Dp K H' v (outD rows) → Q v H'
def rJoin (K : PySem.W.Frag) : V → List V → Hp → VK → Prop := fun x xs H Q => ∃ a p, ∃ ys : List Str, x = .str a ∧ xs = [.ref p] ∧ (SqL K H p (ys.map V.str) ∨ SqT K H p (ys.map V.str)) ∧ (ys.map (·.length)).sum + ys.length * a.length ≤ 16777216 ∧ Q (.str (Txt.join a ys)) H
/-- the call that _law_place tries -/
def teTry (T : Top K mg) : XK → TE := fun Ech => tCall (spParseX K T.c_InvalidText T.c_InvalidCard T.c_InvalidDrawer) [] Ech (tCons (tM1 (rJoin K) (tC (.str "\n")) (tVar 0)) tNil)
theorem ok_llaw_place (T : Top K mg) : FnOk P w K mg base CX0 8 T.a_llaw_place T.fd_llaw_place ["_law_rows"] (spPlace K) := by
  refine T.F_llaw_place.ok sc_llaw_place (fun vs H Q E h => ?_) (fun cdv A outer s H vs Q E hr h => ?_)
  · obtain ⟨l, rows, rfl, _⟩ := h
    rfl
  · obtain ⟨l, rows, rfl, hL, hR, k⟩ := h
    have hu := hu_of hr
    refine ⟨_, (pss_cons (ps_tryA (te := teTry T) (n := "e") (i := 1) rfl rfl rfl sc_llaw_place.nd rfl rfl (.flds rfl T.g_InvalidText (by decide) T.xf_InvalidText T.nf_InvalidText_row T.nf_InvalidText_word (.fld rfl T.g_InvalidCard (by decide) T.xf_InvalidCard T.nf_InvalidCard_part (.num rfl T.g_InvalidDrawer (by decide) .nil))) (by intro W pn xe Ech tk hW; exact (pe_call (okx_parse_drawer T) (hr.mono (by decide)) (by rfl) T.g_parse_drawer T.F_parse_drawer.kp (b_parse_drawer T) .nil (passes_call tk fun cls d σ H z => hW cls d σ H z) (pa_cons (pe_join pe_str (pv 0)) pa_nil))))
      (pss_one (ps_ret pe_non))), ?_⟩
    have hsum := hR.sum
    have hlen : (Txt.join lfS rows).length ≤ 10000 := by
      rw [TL.join_eq]
      exact Nat.le_trans (join_len lfS _) hsum
    refine ⟨⟨_, rfl⟩, _, rfl, lfS, l, rows, rfl, rfl, .inl hL, by omega, ?_⟩
    refine ⟨Txt.join lfS rows, rfl, by omega, by rw [hR.split]; have := hR.n; omega, fun r hr => by rw [hR.split] at hr; have := pool_len r (hR.p r hr); omega, by rw [hR.rows]; exact hR.r4, ?_⟩
    rw [hR.rows]
    unfold outD at k
    refine ⟨fun i j e => ?_, fun e1 => ⟨fun t e2 H' dd s' hd => ?_, fun e2 => ⟨fun hb H' s' => ?_, fun hb q H' s' => ?_⟩⟩⟩
    · obtain ⟨b1, b2⟩ := outW_lt hR.p e
      have := hR.n
      refine ⟨by omega, b2, fun H' dd s' hd => ?_⟩
      rw [e] at k
      refine ⟨true, T.ex_InvalidText_InvalidText, fun _ => ⟨.int (i : Nat), .int (j : Nat), ⟨rfl, dd, _, rfl, hd, rfl⟩, ⟨rfl, dd, _, rfl, hd, rfl⟩, fun t ht => ?_⟩, fun z => nomatch z⟩
      exact k _ _ (s'.trans (same_new ht)) (.tup (SqT.of upd_same) (.cons (.int _) (.cons (.int _) .nil)))
    · rw [e1, e2] at k
      refine ⟨false, T.ex_InvalidCard_InvalidText, (fun z => nomatch z), fun _ => ⟨true, T.ex_InvalidCard_InvalidCard, fun _ => ⟨.str t, ⟨rfl, dd, _, rfl, hd, rfl⟩, fun t' ht => ?_⟩, fun z => nomatch z⟩⟩
      exact k _ _ (s'.trans (same_new ht)) (.tup (SqT.of upd_same) (.cons (.str _) (.cons (.str _) .nil)))
    · rw [List.length_map] at hb
      rw [e1, e2] at k
      have k : ∀ v H', Same H H' → Dp K H' v (if 16 < rows.length then .tuple [.str "drawer", .int 0] else .none) → Q v H' := k
      rw [if_pos hb] at k
      refine ⟨false, T.ex_InvalidDrawer_InvalidText, (fun z => nomatch z), fun _ => ⟨false, T.ex_InvalidDrawer_InvalidCard, (fun z => nomatch z), fun _ => ⟨true, T.ex_InvalidDrawer_InvalidDrawer, fun _ t ht => ?_, fun z => nomatch z⟩⟩⟩
      exact k _ _ (s'.trans (same_new ht)) (.tup (SqT.of upd_same) (.cons (.str _) (.cons (.int _) .nil)))
    · rw [List.length_map] at hb
      rw [e1, e2] at k
      have k : ∀ v H', Same H H' → Dp K H' v (if 16 < rows.length then .tuple [.str "drawer", .int 0] else .none) → Q v H' := k
      rw [if_neg (by omega)] at k
      exact k _ _ s' .non
end
section
local macro_rules | `(tactic| walk_at "sl") => `(tactic| first | assumption | exact SqL.of upd_same | exact SqL.of (by assumption) | ((with_reducible apply sql_upd); (walk_at "sl"); (first | assumption | exact Ne.symm (by assumption))))
local macro_rules | `(tactic| walk_at "st") => `(tactic| first | assumption | exact SqT.of upd_same | exact SqT.of (by assumption))
local macro_rules | `(tactic| walk_at "sc") => `(tactic| first | rfl | assumption | (show (0 : Int) < _; first | assumption | decide | omega) | exact Or.inl ⟨by omega, by omega⟩ | exact Or.inr ⟨by omega, by omega⟩ | exact ⟨by decide, by decide⟩ | exact ⟨by decide, by decide, by decide⟩)
local macro_rules | `(tactic| walk_at "g1") => `(tactic| first
  | refine ⟨(_ : V), rfl, ?_⟩
  | refine ⟨(_ : Bool), rfl, ?_⟩
  | refine ⟨(_ : Int), (_ : Int), rfl, rfl, ?_⟩
  | refine ⟨(_ : Int), rfl, ?_⟩
  | refine ⟨(_ : Str), rfl, ?_⟩
  | refine ⟨(_ : Addr), (_ : List V), rfl, Or.inl (by walk_at "sl"), ?_⟩
  | refine ⟨(_ : Addr), (_ : List V), rfl, Or.inr (by walk_at "st"), ?_⟩
  | refine ⟨(_ : Addr), (_ : List V), (_ : Int), (_ : V), rfl, rfl, (by walk_at "sl"), (by first | rfl | assumption), ?_⟩
  | refine ⟨(_ : Addr), (_ : List V), (_ : Int), (_ : V), rfl, rfl, (by walk_at "st"), (by first | rfl | assumption), ?_⟩
  | refine ⟨(_ : Addr), (_ : List V), (_ : Int), (_ : Nat), rfl, rfl, upd_same, rfl, ?_⟩
  | refine ⟨(_ : Addr), (_ : List V), (_ : Int), (_ : Nat), rfl, rfl, (by assumption), rfl, ?_⟩
  | refine ⟨(_ : Addr), (_ : Addr), (_ : Addr), (_ : List (Str × V)), (_ : V), rfl, (by assumption), (by assumption), (by assumption), (by first | assumption | rfl), ?_⟩
  | refine Or.inl ⟨(_ : Int), rfl, ?_⟩
  | refine And.intro (by walk_at "sc") ?_
  | refine iteT ?_
  | refine iteF ?_)
/-! ### lists of pairs; what the law's texts come to -/
def PairsV (K : PySem.W.Frag) (H : Hp) : List V → List (Str × V) → Prop
  | [], [] => True
  | v :: vs, z :: zs => (∃ t, v = .ref t ∧ SqT K H t [.str z.1, z.2]) ∧ PairsV K H vs zs
  | _, _ => False
theorem PairsV.imm {H H' : Hp} (s : Imm H H') : ∀ {vs : List V} {zs : List (Str × V)}, PairsV K H vs zs → PairsV K H' vs zs
  | [], [], _ => trivial
  | _ :: _, _ :: _, ⟨⟨t, e, h⟩, r⟩ => ⟨⟨t, e, s.seqT h⟩, PairsV.imm s r⟩
theorem PairsV.app {H : Hp} : ∀ {vs : List V} {zs : List (Str × V)} {vs' : List V} {zs' : List (Str × V)}, PairsV K H vs zs → PairsV K H vs' zs' → PairsV K H (vs ++ vs') (zs ++ zs')
  | [], [], _, _, _, h => h
  | _ :: _, _ :: _, _, _, ⟨a, r⟩, h => ⟨a, PairsV.app r h⟩
theorem PairsV.snoc {H H' : Hp} {vs : List V} {zs : List (Str × V)} {t : Addr} (z : Str × V) (h : PairsV K H vs zs) (s : Same H H') (r : SqT K H' t [.str z.1, z.2]) : PairsV K H' (vs ++ [.ref t]) (zs ++ [z]) := (h.imm s.imm).app ⟨⟨t, rfl, r⟩, trivial⟩
theorem PairsV.len {H : Hp} : ∀ {vs : List V} {zs : List (Str × V)}, PairsV K H vs zs → vs.length = zs.length
  | [], [], _ => rfl
  | _ :: _, _ :: _, ⟨_, r⟩ => by rw [List.length_cons, List.length_cons, PairsV.len r]
theorem PairsV.get {H : Hp} : ∀ {vs : List V} {zs : List (Str × V)} {i : Nat}, PairsV K H vs zs → i < zs.length → ∃ t z, vs[i]? = some (.ref t) ∧ zs[i]? = some z ∧ SqT K H t [.str z.1, z.2]
  | [], [], _, _, h => absurd h (Nat.not_lt_zero _)
  | _ :: _, z :: _, 0, ⟨⟨t, e, h⟩, _⟩, _ => ⟨t, z, by rw [e]; rfl, rfl, h⟩
  | _ :: _, _ :: _, i + 1, ⟨_, r⟩, h => PairsV.get (i := i) r (by rw [List.length_cons] at h; omega)
def wrongV : List (Str × V) := wrongR.map fun z => (z.1, .int (z.2 : Nat))
def badV : List (Str × V) := badR.map fun z => (z.1, .str z.2)
def midR (k : Nat) (r : Str) : List Str := goodR.take k ++ [r] ++ goodR.drop k
def cbR : Str := "card bus"
def cR : Str := "card"
def manyR (m : Nat) : List Str := List.replicate m cbR
theorem f_good : outW 0 (goodR.map wordsR) = none ∧ outC ((goodR.map wordsR).map cardOf) = none := by decide +kernel
theorem f_wrong : ∀ k < 5, ∀ z ∈ wrongR, outW 0 ((midR k z.1).map wordsR) = some (k, z.2) := by decide +kernel
theorem f_bad : ∀ k < 5, ∀ z ∈ badR, outW 0 ((midR k z.1).map wordsR) = none ∧ outC (((midR k z.1).map wordsR).map cardOf) = some z.2 := by decide +kernel
theorem f_card : ∀ k < 5, ∀ z ∈ badR, outW 0 ((midR k z.1 ++ [cR]).map wordsR) = some (5, 1) := by decide +kernel
theorem f_many : ∀ m < 5, outW 0 ((manyR (14 + m)).map wordsR) = none ∧ outC (((manyR (14 + m)).map wordsR).map cardOf) = none := by decide +kernel
theorem f_manyb : ∀ m < 5, ∀ z ∈ badR, outW 0 ((manyR (14 + m) ++ [z.1]).map wordsR) = none ∧ outC (((manyR (14 + m) ++ [z.1]).map wordsR).map cardOf) = some z.2 := by decide +kernel
theorem good_pool : ∀ r ∈ goodR, r ∈ pool := fun r h => List.mem_append_left _ h
theorem wrong_pool : ∀ z ∈ wrongR, z.1 ∈ pool := fun z h => List.mem_append_right _ (List.mem_append_right _ (List.mem_append_left _ (List.mem_map.mpr ⟨z, h, rfl⟩)))
theorem bad_pool : ∀ z ∈ badR, z.1 ∈ pool := fun z h => List.mem_append_right _ (List.mem_append_right _ (List.mem_append_right _ (List.mem_map.mpr ⟨z, h, rfl⟩)))
theorem bad_strOk : ∀ z ∈ badR, PyData.strOk z.2 = true := by decide +kernel
theorem cb_pool : cbR ∈ pool := by decide +kernel
theorem c_pool : cR ∈ pool := by decide +kernel
theorem good_ne : ∀ k < 5, ∃ r ∈ goodR.take k ++ goodR.drop k, TL.tl r ≠ [] := fun k _ => ⟨"card tram", by rw [List.take_append_drop]; decide +kernel, by decide +kernel⟩
theorem rp_good : RowsP goodR := ⟨by decide, good_pool, ⟨"card tram", by decide +kernel, by decide +kernel⟩⟩
theorem mid_len (k : Nat) (r : Str) : (midR k r).length = 5 := by
  unfold midR
  rw [List.length_append, List.length_append, List.length_take, List.length_drop]
  show min k 4 + 1 + (4 - k) = 5
  omega
theorem rp_mid {k : Nat} {r : Str} (hr : r ∈ pool) : RowsP (midR k r) := by
  refine ⟨by rw [mid_len]; omega, fun x hx => ?_, ?_⟩
  · unfold midR at hx
    rcases List.mem_append.mp hx with h | h
    · rcases List.mem_append.mp h with h | h
      · exact good_pool x (List.mem_of_mem_take h)
      · rw [List.mem_singleton.mp h]
        exact hr
    · exact good_pool x (List.mem_of_mem_drop h)
  · have hm : ("card tram" : Str) ∈ goodR.take k ++ goodR.drop k := by rw [List.take_append_drop]; decide +kernel
    refine ⟨"card tram", ?_, by decide +kernel⟩
    unfold midR
    rcases List.mem_append.mp hm with h | h
    · exact List.mem_append_left _ (List.mem_append_left _ h)
    · exact List.mem_append_right _ h
theorem RowsP.more {rows : List Str} {r : Str} (h : RowsP rows) (hl : rows.length ≤ 50) (hr : r ∈ pool) : RowsP (rows ++ [r]) := by
  refine ⟨by rw [List.length_append]; show _ + 1 ≤ 90; omega, fun x hx => ?_, ?_⟩
  · rcases List.mem_append.mp hx with q | q
    · exact h.p x q
    · rw [List.mem_singleton.mp q]
      exact hr
  · obtain ⟨x, a, b⟩ := h.e
    exact ⟨x, List.mem_append_left _ a, b⟩
theorem rp_many {m : Nat} (h : m < 5) : RowsP (manyR (14 + m)) := ⟨by unfold manyR; rw [List.length_replicate]; omega, fun r hr => by
    rw [List.eq_of_mem_replicate hr]
    exact cb_pool, ⟨cbR, by unfold manyR; rw [show 14 + m = (13 + m) + 1 by omega, List.replicate_succ]; exact .head _, by decide +kernel⟩⟩
theorem d_text {rows : List Str} {i j : Nat} (h : outW 0 (rows.map wordsR) = some (i, j)) : outD rows = .tuple [.int (i : Nat), .int (j : Nat)] := by
  unfold outD
  rw [h]
theorem d_card {rows : List Str} {t : Str} (h : outW 0 (rows.map wordsR) = none ∧ outC ((rows.map wordsR).map cardOf) = some t) : outD rows = .tuple [.str "card", .str t] := by
  unfold outD
  rw [h.1, h.2]
theorem d_drawer {rows : List Str} (h : outW 0 (rows.map wordsR) = none ∧ outC ((rows.map wordsR).map cardOf) = none) : outD rows = if 16 < rows.length then .tuple [.str "drawer", .int 0] else .none := by
  unfold outD
  rw [h.1, h.2]
theorem mul_cb (m : Nat) : (List.replicate m [V.str cbR]).flatten = (manyR m).map V.str := by
  unfold manyR
  induction m with
  | zero => rfl
  | succ m ih =>
    rw [List.replicate_succ, List.replicate_succ, List.flatten_cons, ih]
    rfl
end
section
local macro_rules | `(tactic| walk_at "sl") => `(tactic| first | assumption | exact SqL.of upd_same | exact SqL.of (by assumption) | ((with_reducible apply sql_upd); (walk_at "sl"); (first | assumption | exact Ne.symm (by assumption))))
local macro_rules | `(tactic| walk_at "st") => `(tactic| first | assumption | exact SqT.of upd_same | exact SqT.of (by assumption))
local macro_rules | `(tactic| walk_at "sc") => `(tactic| first | rfl | assumption | (show (0 : Int) < _; first | assumption | decide | omega) | exact Or.inl ⟨by omega, by omega⟩ | exact Or.inr ⟨by omega, by omega⟩ | exact ⟨by decide, by decide⟩ | exact ⟨by decide, by decide, by decide⟩)
local macro_rules | `(tactic| walk_at "g1") => `(tactic| first
  | refine ⟨(_ : V), rfl, ?_⟩
  | refine ⟨(_ : Bool), rfl, ?_⟩
  | refine ⟨(_ : Int), (_ : Int), rfl, rfl, ?_⟩
  | refine ⟨(_ : Int), rfl, ?_⟩
  | refine ⟨(_ : Str), rfl, ?_⟩
  | refine ⟨(_ : Addr), (_ : List V), rfl, Or.inl (by walk_at "sl"), ?_⟩
  | refine ⟨(_ : Addr), (_ : List V), rfl, Or.inr (by walk_at "st"), ?_⟩
  | refine ⟨(_ : Addr), (_ : List V), (_ : Int), (_ : V), rfl, rfl, (by walk_at "sl"), (by first | rfl | assumption), ?_⟩
  | refine ⟨(_ : Addr), (_ : List V), (_ : Int), (_ : V), rfl, rfl, (by walk_at "st"), (by first | rfl | assumption), ?_⟩
  | refine ⟨(_ : Addr), (_ : List V), (_ : Int), (_ : Nat), rfl, rfl, upd_same, rfl, ?_⟩
  | refine ⟨(_ : Addr), (_ : List V), (_ : Int), (_ : Nat), rfl, rfl, (by assumption), rfl, ?_⟩
  | refine ⟨(_ : Addr), (_ : Addr), (_ : Addr), (_ : List (Str × V)), (_ : V), rfl, (by assumption), (by assumption), (by assumption), (by first | assumption | rfl), ?_⟩
  | refine Or.inl ⟨(_ : Int), rfl, ?_⟩
  | refine And.intro (by walk_at "sc") ?_
  | refine iteT ?_
  | refine iteF ?_)
def wrong1V : List (Str × V) := [("", .int 0), ("cards bus", .int 0), ("card", .int 1), ("card Bus", .int 1), ("card  bus", .int 1), ("card bus 0", .int 2), ("see", .int 1)]
def wrong2V : List (Str × V) := [("card bus 01", .int 2), ("card bus 1000", .int 2), ("card bus 3 3", .int 3), ("card bus 3 2", .int 3), ("see bus", .int 2)]
def wrong3V : List (Str × V) := [("card bus x", .int 2), ("card bus also", .int 3), ("card bus 1 also", .int 4), ("card bus also Tram", .int 3)]
def wrong4V : List (Str × V) := [("card bus also tram 1", .int 4), ("see bus tram 1", .int 3), ("see bus 1", .int 2), ("see bus tram also", .int 3)]
def wrong5V : List (Str × V) := [("card bus 1 2 ", .int 4), (" card bus", .int 0), ("see bus tram ", .int 3), ("card busbusbus", .int 1)]
theorem zsW : ((((wrong1V ++ wrong2V) ++ wrong3V) ++ wrong4V) ++ wrong5V) ++ [(("card bus -1" : Str), V.int 2)] = wrongV := rfl
theorem dp_ii {H : Hp} {v : V} {i j : Int} (d : Dp K H v (.tuple [.int i, .int j])) : ∃ t, v = .ref t ∧ SqT K H t ([i, j].map V.int) := by
  cases d with
  | tup h r =>
    cases r with
    | cons a r =>
      cases a
      cases r with
      | cons b r =>
        cases b
        cases r
        exact ⟨_, rfl, h⟩
theorem dp_ss {H : Hp} {v : V} {i j : Str} (d : Dp K H v (.tuple [.str i, .str j])) : ∃ t, v = .ref t ∧ SqT K H t ([i, j].map V.str) := by
  cases d with
  | tup h r =>
    cases r with
    | cons a r =>
      cases a
      cases r with
      | cons b r =>
        cases b
        cases r
        exact ⟨_, rfl, h⟩
theorem ok2 {z : Str × Str} (h : z ∈ badR) : ∀ x ∈ (["card", z.2] : List Str), PyData.strOk x = true := fun x hx => by
  rcases List.mem_cons.mp hx with rfl | hx
  · decide +kernel
  rw [List.mem_singleton.mp hx]
  exact bad_strOk z h
theorem ints_self (a : List Int) : (!(PyData.tuple (a.map PyData.int)).eqv (.tuple (a.map PyData.int))) = false := by
  have : (PyData.tuple (a.map PyData.int)).eqv (.tuple (a.map PyData.int)) = decide (a = a) := eqv_ints a a
  rw [this, decide_eq_true rfl]
  rfl
theorem strs_self (a : List Str) : (!(PyData.tuple (a.map PyData.str)).eqv (.tuple (a.map PyData.str))) = false := by
  have : (PyData.tuple (a.map PyData.str)).eqv (.tuple (a.map PyData.str)) = decide (a = a) := eqv_strs a a
  rw [this, decide_eq_true rfl]
  rfl
theorem dp_si {H : Hp} {v : V} {i : Str} {j : Int} (d : Dp K H v (.tuple [.str i, .int j])) : ∃ t, v = .ref t ∧ SqT K H t [.str i, .int j] := by
  cases d with
  | tup h r =>
    cases r with
    | cons a r =>
      cases a
      cases r with
      | cons b r =>
        cases b
        cases r
        exact ⟨_, rfl, h⟩
def spLaw (K : PySem.W.Frag) : Sp := fun vs H Q _ => ∃ (a : Addr) (ns : List Int), vs = [.ref a] ∧ SqL K H a (ns.map V.int) ∧ ns.length ≤ 63 ∧ ∀ H', Q (.bl true) H'
theorem ok_law (T : Top K mg) : FnOk P w K mg base CX0 9 T.a_law T.fd_law ["_law_script"] (spLaw K) := by
  refine T.F_law.ok sc_law (fun vs H Q E h => ?_) (fun cdv A outer s H vs Q E hr h => ?_)
  · obtain ⟨a, ns, rfl, _⟩ := h
    rfl
  · obtain ⟨a, ns, rfl, hS, hl, k⟩ := h
    have hu := hu_of hr
    refine ⟨_, (pss_cons (ps_set (i := 1) sc_law.nd rfl (.inl rfl) (pe_lst (pa_cons (pv 0) (pa_cons pe_int (pa_cons pe_int (pa_cons pe_int pa_nil))))))
      (pss_cons (ps_set (i := 2) sc_law.nd rfl (.inl rfl) (pe_lst (pa_cons pe_str (pa_cons pe_str (pa_cons pe_str (pa_cons pe_str pa_nil))))))
      (pss_cons (ps_if (pt_cmpR op_notN (pe_call (ok_llaw_place T) (hr.mono (by decide)) (by rfl) T.g_llaw_place T.F_llaw_place.kp (b_llaw_place T) .nil pass0 (pa_cons (pv 2) pa_nil)) pe_non (nomark _)) (pss_one (ps_ret pe_bl)) pss_nil)
      (pss_cons (ps_set (i := 3) sc_law.nd rfl (.inl rfl) (pe_lst (pa_cons (pe_tup (pa_cons pe_str (pa_cons pe_int pa_nil))) (pa_cons (pe_tup (pa_cons pe_str (pa_cons pe_int pa_nil))) (pa_cons (pe_tup (pa_cons pe_str (pa_cons pe_int pa_nil))) (pa_cons (pe_tup (pa_cons pe_str (pa_cons pe_int pa_nil))) (pa_cons (pe_tup (pa_cons pe_str (pa_cons pe_int pa_nil))) (pa_cons (pe_tup (pa_cons pe_str (pa_cons pe_int pa_nil))) (pa_cons (pe_tup (pa_cons pe_str (pa_cons pe_int pa_nil))) pa_nil)))))))))
      (pss_cons (ps_set (i := 3) sc_law.nd rfl (.inl rfl) (pe_op op_cat (pv 3) (pe_lst (pa_cons (pe_tup (pa_cons pe_str (pa_cons pe_int pa_nil))) (pa_cons (pe_tup (pa_cons pe_str (pa_cons pe_int pa_nil))) (pa_cons (pe_tup (pa_cons pe_str (pa_cons pe_int pa_nil))) (pa_cons (pe_tup (pa_cons pe_str (pa_cons pe_int pa_nil))) (pa_cons (pe_tup (pa_cons pe_str (pa_cons pe_int pa_nil))) pa_nil))))))))
      (pss_cons (ps_set (i := 3) sc_law.nd rfl (.inl rfl) (pe_op op_cat (pv 3) (pe_lst (pa_cons (pe_tup (pa_cons pe_str (pa_cons pe_int pa_nil))) (pa_cons (pe_tup (pa_cons pe_str (pa_cons pe_int pa_nil))) (pa_cons (pe_tup (pa_cons pe_str (pa_cons pe_int pa_nil))) (pa_cons (pe_tup (pa_cons pe_str (pa_cons pe_int pa_nil))) pa_nil)))))))
      (pss_cons (ps_set (i := 3) sc_law.nd rfl (.inl rfl) (pe_op op_cat (pv 3) (pe_lst (pa_cons (pe_tup (pa_cons pe_str (pa_cons pe_int pa_nil))) (pa_cons (pe_tup (pa_cons pe_str (pa_cons pe_int pa_nil))) (pa_cons (pe_tup (pa_cons pe_str (pa_cons pe_int pa_nil))) (pa_cons (pe_tup (pa_cons pe_str (pa_cons pe_int pa_nil))) pa_nil)))))))
      (pss_cons (ps_set (i := 3) sc_law.nd rfl (.inl rfl) (pe_op op_cat (pv 3) (pe_lst (pa_cons (pe_tup (pa_cons pe_str (pa_cons pe_int pa_nil))) (pa_cons (pe_tup (pa_cons pe_str (pa_cons pe_int pa_nil))) (pa_cons (pe_tup (pa_cons pe_str (pa_cons pe_int pa_nil))) (pa_cons (pe_tup (pa_cons pe_str (pa_cons pe_int pa_nil))) pa_nil)))))))
      (pss_cons (ps_expr (pe_bm PySem.F.plainAttrs_list PySem.F.slot_list_append PySem.F.type_list_append mt_append (pv 3) (pa_cons (pe_tup (pa_cons pe_str (pa_cons pe_int pa_nil))) pa_nil)))
      (pss_cons (ps_for PassesOwn.never rfl (pi_range1 (by rfl) T.m_range (pa_cons pe_int pa_nil)) (pg_name (i := 4) sc_law.nd rfl (.inl rfl))
        (pss_cons (ps_asg (pe_ix ix_list (pv 3) (pe_call (ok_llaw_taken T) (hr.mono (by decide)) (by rfl) T.g_llaw_taken T.F_llaw_taken.kp (b_llaw_taken T) .nil pass0 (pa_cons (pv 1) (pa_cons (pe_callB call_len_seq (by rfl) T.m_len (by decide +kernel) (pa_cons (pv 3) pa_nil)) pa_nil))) (fun _ _ => rfl)) (pg_tup rfl (pgs_cons (pg_name (i := 5) sc_law.nd rfl (.inl rfl)) (pgs_cons (pg_name (i := 6) sc_law.nd rfl (.inl rfl)) pgs_nil))))
        (pss_cons (ps_set (i := 7) sc_law.nd rfl (.inl rfl) (pe_call (ok_llaw_taken T) (hr.mono (by decide)) (by rfl) T.g_llaw_taken T.F_llaw_taken.kp (b_llaw_taken T) .nil pass0 (pa_cons (pv 1) (pa_cons pe_int pa_nil))))
        (pss_cons (ps_if (pt_cmpR (op_neD hr.units) (pe_call (ok_llaw_place T) (hr.mono (by decide)) (by rfl) T.g_llaw_place T.F_llaw_place.kp (b_llaw_place T) .nil pass0 (pa_cons (pe_op op_cat (pe_op op_cat (pe_slice sl_list (pv 2) po_none (po_some (pv 7))) (pe_lst (pa_cons (pv 5) pa_nil))) (pe_slice sl_list (pv 2) (po_some (pv 7)) po_none)) pa_nil)) (pe_tup (pa_cons (pv 7) (pa_cons (pv 6) pa_nil))) (nomark _)) (pss_one (ps_ret pe_bl)) pss_nil)
        (pss_cons (ps_set (i := 8) sc_law.nd rfl (.inl rfl) (pe_lst (pa_cons (pe_tup (pa_cons pe_str (pa_cons pe_str pa_nil))) (pa_cons (pe_tup (pa_cons pe_str (pa_cons pe_str pa_nil))) (pa_cons (pe_tup (pa_cons pe_str (pa_cons pe_str pa_nil))) pa_nil)))))
        (pss_cons (ps_set (i := 8) sc_law.nd rfl (.inl rfl) (pe_op op_cat (pv 8) (pe_lst (pa_cons (pe_tup (pa_cons pe_str (pa_cons pe_str pa_nil))) (pa_cons (pe_tup (pa_cons pe_str (pa_cons pe_str pa_nil))) pa_nil)))))
        (pss_cons (ps_asg (pe_ix ix_list (pv 8) (pe_call (ok_llaw_taken T) (hr.mono (by decide)) (by rfl) T.g_llaw_taken T.F_llaw_taken.kp (b_llaw_taken T) .nil pass0 (pa_cons (pv 1) (pa_cons pe_int pa_nil))) (fun _ _ => rfl)) (pg_tup rfl (pgs_cons (pg_name (i := 5) sc_law.nd rfl (.inl rfl)) (pgs_cons (pg_name (i := 9) sc_law.nd rfl (.inl rfl)) pgs_nil))))
        (pss_cons (ps_if (pt_cmpR (op_neD hr.units) (pe_call (ok_llaw_place T) (hr.mono (by decide)) (by rfl) T.g_llaw_place T.F_llaw_place.kp (b_llaw_place T) .nil pass0 (pa_cons (pe_op op_cat (pe_op op_cat (pe_slice sl_list (pv 2) po_none (po_some (pv 7))) (pe_lst (pa_cons (pv 5) pa_nil))) (pe_slice sl_list (pv 2) (po_some (pv 7)) po_none)) pa_nil)) (pe_tup (pa_cons pe_str (pa_cons (pv 9) pa_nil))) (nomark _)) (pss_one (ps_ret pe_bl)) pss_nil)
        (pss_cons (ps_if (pt_cmpR (op_neD hr.units) (pe_call (ok_llaw_place T) (hr.mono (by decide)) (by rfl) T.g_llaw_place T.F_llaw_place.kp (b_llaw_place T) .nil pass0 (pa_cons (pe_op op_cat (pe_op op_cat (pe_op op_cat (pe_slice sl_list (pv 2) po_none (po_some (pv 7))) (pe_lst (pa_cons (pv 5) pa_nil))) (pe_slice sl_list (pv 2) (po_some (pv 7)) po_none)) (pe_lst (pa_cons pe_str pa_nil))) pa_nil)) (pe_tup (pa_cons pe_int (pa_cons pe_int pa_nil))) (nomark _)) (pss_one (ps_ret pe_bl)) pss_nil)
        (pss_cons (ps_set (i := 10) sc_law.nd rfl (.inl rfl) (pe_op op_add pe_int (pe_call (ok_llaw_taken T) (hr.mono (by decide)) (by rfl) T.g_llaw_taken T.F_llaw_taken.kp (b_llaw_taken T) .nil pass0 (pa_cons (pv 1) (pa_cons pe_int pa_nil)))))
        (pss_cons (ps_if (pt_cmpR (op_neD hr.units) (pe_call (ok_llaw_place T) (hr.mono (by decide)) (by rfl) T.g_llaw_place T.F_llaw_place.kp (b_llaw_place T) .nil pass0 (pa_cons (pe_op op_rep (pe_lst (pa_cons pe_str pa_nil)) (pv 10)) pa_nil)) (pe_ifExp (pt_cmpR op_gt (pv 10) pe_int (nomark _)) (pe_tup (pa_cons pe_str (pa_cons pe_int pa_nil))) pe_non) (nomark _)) (pss_one (ps_ret pe_bl)) pss_nil)
        (pss_one (ps_if (pt_cmpR (op_neD hr.units) (pe_call (ok_llaw_place T) (hr.mono (by decide)) (by rfl) T.g_llaw_place T.F_llaw_place.kp (b_llaw_place T) .nil pass0 (pa_cons (pe_op op_cat (pe_op op_rep (pe_lst (pa_cons pe_str pa_nil)) (pv 10)) (pe_lst (pa_cons (pv 5) pa_nil))) pa_nil)) (pe_tup (pa_cons pe_str (pa_cons (pv 9) pa_nil))) (nomark _)) (pss_one (ps_ret pe_bl)) pss_nil)))))))))))))
      (pss_one (ps_ret pe_bl)))))))))))), ?_⟩
    refine ⟨_, rfl, by show 4 ≤ sizeLine; decide, fun rw hrw => ?_⟩
    have R1 : RowAt K (upd H rw (.lst [.ref a, .int 0, .int 0, .int 0])) rw a ns := ⟨0, 0, 0, upd_same, Scr.new hS hrw, by decide, by decide⟩
    generalize upd H rw (.lst [.ref a, .int 0, .int 0, .int 0]) = H1 at *
    clear hrw hS
    have hsz := sizeLine_of (show (1000 : Nat) ≤ 1000000 by omega)
    refine ⟨by show 4 ≤ sizeLine; decide, fun lg hlg => ?_⟩
    have hgr : lg ≠ rw := (R1.new hlg).1
    have R2 := R1.same (same_new (o := .lst [.str "card bus 1 20 300 also tram", .str "see rail tram", .str "card tram", .str "card ship also bus rail"]) hlg)
    have hG : (upd H1 lg (.lst [.str "card bus 1 20 300 also tram", .str "see rail tram", .str "card tram", .str "card ship also bus rail"])) lg = some (.lst (goodR.map V.str)) := upd_same
    generalize upd H1 lg (.lst [.str "card bus 1 20 300 also tram", .str "see rail tram", .str "card tram", .str "card ship also bus rail"]) = H2 at *
    clear R1 hlg
    refine ⟨_, rfl, lg, goodR, rfl, SqL.of hG, rp_good, fun v G0 s0 d0 => ?_⟩
    have e0 : outD goodR = .none := by
      rw [d_drawer f_good]
      rfl
    rw [e0] at d0
    cases d0
    refine ⟨rfl, _, rfl, ?_⟩
    refine iteF ?_
    have R3 := R2.same s0
    have hG0 := s0 _ _ hG
    clear R2 hG s0
    have Pa0 : PairsV K G0 [] [] := trivial
    have Sa0 : Same G0 G0 := Same.refl _
    refine ⟨by show 2 ≤ sizeLine; decide, fun ta1 hta1 => ?_⟩
    have Pa1 := Pa0.snoc (t := ta1) ("", .int 0) (same_new (o := .tup [.str "", .int 0]) hta1) (SqT.of upd_same)
    have Sa1 := Sa0.trans (same_new (o := .tup [.str "", .int 0]) hta1)
    generalize upd G0 ta1 (.tup [.str "", .int 0]) = Ga1 at *
    clear Pa0 Sa0 hta1
    refine ⟨by show 2 ≤ sizeLine; decide, fun ta2 hta2 => ?_⟩
    have Pa2 := Pa1.snoc (t := ta2) ("cards bus", .int 0) (same_new (o := .tup [.str "cards bus", .int 0]) hta2) (SqT.of upd_same)
    have Sa2 := Sa1.trans (same_new (o := .tup [.str "cards bus", .int 0]) hta2)
    generalize upd Ga1 ta2 (.tup [.str "cards bus", .int 0]) = Ga2 at *
    clear Pa1 Sa1 hta2
    refine ⟨by show 2 ≤ sizeLine; decide, fun ta3 hta3 => ?_⟩
    have Pa3 := Pa2.snoc (t := ta3) ("card", .int 1) (same_new (o := .tup [.str "card", .int 1]) hta3) (SqT.of upd_same)
    have Sa3 := Sa2.trans (same_new (o := .tup [.str "card", .int 1]) hta3)
    generalize upd Ga2 ta3 (.tup [.str "card", .int 1]) = Ga3 at *
    clear Pa2 Sa2 hta3
    refine ⟨by show 2 ≤ sizeLine; decide, fun ta4 hta4 => ?_⟩
    have Pa4 := Pa3.snoc (t := ta4) ("card Bus", .int 1) (same_new (o := .tup [.str "card Bus", .int 1]) hta4) (SqT.of upd_same)
    have Sa4 := Sa3.trans (same_new (o := .tup [.str "card Bus", .int 1]) hta4)
    generalize upd Ga3 ta4 (.tup [.str "card Bus", .int 1]) = Ga4 at *
    clear Pa3 Sa3 hta4
    refine ⟨by show 2 ≤ sizeLine; decide, fun ta5 hta5 => ?_⟩
    have Pa5 := Pa4.snoc (t := ta5) ("card  bus", .int 1) (same_new (o := .tup [.str "card  bus", .int 1]) hta5) (SqT.of upd_same)
    have Sa5 := Sa4.trans (same_new (o := .tup [.str "card  bus", .int 1]) hta5)
    generalize upd Ga4 ta5 (.tup [.str "card  bus", .int 1]) = Ga5 at *
    clear Pa4 Sa4 hta5
    refine ⟨by show 2 ≤ sizeLine; decide, fun ta6 hta6 => ?_⟩
    have Pa6 := Pa5.snoc (t := ta6) ("card bus 0", .int 2) (same_new (o := .tup [.str "card bus 0", .int 2]) hta6) (SqT.of upd_same)
    have Sa6 := Sa5.trans (same_new (o := .tup [.str "card bus 0", .int 2]) hta6)
    generalize upd Ga5 ta6 (.tup [.str "card bus 0", .int 2]) = Ga6 at *
    clear Pa5 Sa5 hta6
    refine ⟨by show 2 ≤ sizeLine; decide, fun ta7 hta7 => ?_⟩
    have Pa7 := Pa6.snoc (t := ta7) ("see", .int 1) (same_new (o := .tup [.str "see", .int 1]) hta7) (SqT.of upd_same)
    have Sa7 := Sa6.trans (same_new (o := .tup [.str "see", .int 1]) hta7)
    generalize upd Ga6 ta7 (.tup [.str "see", .int 1]) = Ga7 at *
    clear Pa6 Sa6 hta7
    refine ⟨by show 7 ≤ sizeLine; decide, fun la hla => ?_⟩
    have ea : (upd Ga7 la (.lst [.ref ta1, .ref ta2, .ref ta3, .ref ta4, .ref ta5, .ref ta6, .ref ta7])) la = some (.lst [.ref ta1, .ref ta2, .ref ta3, .ref ta4, .ref ta5, .ref ta6, .ref ta7]) := upd_same
    have San := Sa7.trans (same_new (o := .lst [.ref ta1, .ref ta2, .ref ta3, .ref ta4, .ref ta5, .ref ta6, .ref ta7]) hla)
    have Pan : PairsV K (upd Ga7 la (.lst [.ref ta1, .ref ta2, .ref ta3, .ref ta4, .ref ta5, .ref ta6, .ref ta7])) [.ref ta1, .ref ta2, .ref ta3, .ref ta4, .ref ta5, .ref ta6, .ref ta7] [("", .int 0), ("cards bus", .int 0), ("card", .int 1), ("card Bus", .int 1), ("card  bus", .int 1), ("card bus 0", .int 2), ("see", .int 1)] := Pa7.imm (same_new (o := .lst [.ref ta1, .ref ta2, .ref ta3, .ref ta4, .ref ta5, .ref ta6, .ref ta7]) hla).imm
    generalize upd Ga7 la (.lst [.ref ta1, .ref ta2, .ref ta3, .ref ta4, .ref ta5, .ref ta6, .ref ta7]) = GaE at *
    clear Pa7 Sa7 hla
    have Rc := R3.same San
    have hGc := San _ _ hG0
    obtain ⟨va, ea, Pa⟩ : ∃ vs, GaE la = some (.lst vs) ∧ PairsV K GaE vs wrong1V := ⟨_, ea, Pan⟩
    clear R3 hG0 San Pan
    refine ⟨_, rfl, ?_⟩
    have Pb0 : PairsV K GaE [] [] := trivial
    have Sb0 : Same GaE GaE := Same.refl _
    refine ⟨by show 2 ≤ sizeLine; decide, fun tb1 htb1 => ?_⟩
    have Pb1 := Pb0.snoc (t := tb1) ("card bus 01", .int 2) (same_new (o := .tup [.str "card bus 01", .int 2]) htb1) (SqT.of upd_same)
    have Sb1 := Sb0.trans (same_new (o := .tup [.str "card bus 01", .int 2]) htb1)
    generalize upd GaE tb1 (.tup [.str "card bus 01", .int 2]) = Gb1 at *
    clear Pb0 Sb0 htb1
    refine ⟨by show 2 ≤ sizeLine; decide, fun tb2 htb2 => ?_⟩
    have Pb2 := Pb1.snoc (t := tb2) ("card bus 1000", .int 2) (same_new (o := .tup [.str "card bus 1000", .int 2]) htb2) (SqT.of upd_same)
    have Sb2 := Sb1.trans (same_new (o := .tup [.str "card bus 1000", .int 2]) htb2)
    generalize upd Gb1 tb2 (.tup [.str "card bus 1000", .int 2]) = Gb2 at *
    clear Pb1 Sb1 htb2
    refine ⟨by show 2 ≤ sizeLine; decide, fun tb3 htb3 => ?_⟩
    have Pb3 := Pb2.snoc (t := tb3) ("card bus 3 3", .int 3) (same_new (o := .tup [.str "card bus 3 3", .int 3]) htb3) (SqT.of upd_same)
    have Sb3 := Sb2.trans (same_new (o := .tup [.str "card bus 3 3", .int 3]) htb3)
    generalize upd Gb2 tb3 (.tup [.str "card bus 3 3", .int 3]) = Gb3 at *
    clear Pb2 Sb2 htb3
    refine ⟨by show 2 ≤ sizeLine; decide, fun tb4 htb4 => ?_⟩
    have Pb4 := Pb3.snoc (t := tb4) ("card bus 3 2", .int 3) (same_new (o := .tup [.str "card bus 3 2", .int 3]) htb4) (SqT.of upd_same)
    have Sb4 := Sb3.trans (same_new (o := .tup [.str "card bus 3 2", .int 3]) htb4)
    generalize upd Gb3 tb4 (.tup [.str "card bus 3 2", .int 3]) = Gb4 at *
    clear Pb3 Sb3 htb4
    refine ⟨by show 2 ≤ sizeLine; decide, fun tb5 htb5 => ?_⟩
    have Pb5 := Pb4.snoc (t := tb5) ("see bus", .int 2) (same_new (o := .tup [.str "see bus", .int 2]) htb5) (SqT.of upd_same)
    have Sb5 := Sb4.trans (same_new (o := .tup [.str "see bus", .int 2]) htb5)
    generalize upd Gb4 tb5 (.tup [.str "see bus", .int 2]) = Gb5 at *
    clear Pb4 Sb4 htb5
    refine ⟨by show 5 ≤ sizeLine; decide, fun lb hlb => ?_⟩
    have eb : (upd Gb5 lb (.lst [.ref tb1, .ref tb2, .ref tb3, .ref tb4, .ref tb5])) lb = some (.lst [.ref tb1, .ref tb2, .ref tb3, .ref tb4, .ref tb5]) := upd_same
    have Sbn := Sb5.trans (same_new (o := .lst [.ref tb1, .ref tb2, .ref tb3, .ref tb4, .ref tb5]) hlb)
    have Pbn : PairsV K (upd Gb5 lb (.lst [.ref tb1, .ref tb2, .ref tb3, .ref tb4, .ref tb5])) [.ref tb1, .ref tb2, .ref tb3, .ref tb4, .ref tb5] [("card bus 01", .int 2), ("card bus 1000", .int 2), ("card bus 3 3", .int 3), ("card bus 3 2", .int 3), ("see bus", .int 2)] := Pb5.imm (same_new (o := .lst [.ref tb1, .ref tb2, .ref tb3, .ref tb4, .ref tb5]) hlb).imm
    generalize upd Gb5 lb (.lst [.ref tb1, .ref tb2, .ref tb3, .ref tb4, .ref tb5]) = GbE at *
    clear Pb5 Sb5 hlb
    refine ⟨la, lb, _, _, rfl, rfl, Sbn _ _ ea, eb, by rw [Pa.len]; show 7 + 5 ≤ sizeLine; omega, fun mb hmb => ?_⟩
    obtain ⟨wb, fb, Qb⟩ : ∃ vs, (upd GbE mb (.lst (va ++ [.ref tb1, .ref tb2, .ref tb3, .ref tb4, .ref tb5]))) mb = some (.lst vs) ∧ PairsV K (upd GbE mb (.lst (va ++ [.ref tb1, .ref tb2, .ref tb3, .ref tb4, .ref tb5]))) vs (wrong1V ++ wrong2V) := ⟨_, upd_same, (((Pa).imm Sbn.imm).app Pbn).imm (same_new hmb).imm⟩
    have nb := (Rc.same Sbn).new hmb
    have gb : lg ≠ mb := ne_of_none (Sbn _ _ hGc) hmb
    have Ub := Sbn.trans (same_new (o := .lst (va ++ [.ref tb1, .ref tb2, .ref tb3, .ref tb4, .ref tb5])) hmb)
    replace Rc := Rc.same Ub
    replace hGc := Ub _ _ hGc
    generalize upd GbE mb (.lst (va ++ [.ref tb1, .ref tb2, .ref tb3, .ref tb4, .ref tb5])) = Kb at *
    clear ea Pa eb Sbn Pbn hmb Ub
    refine ⟨_, rfl, ?_⟩
    have Pc0 : PairsV K Kb [] [] := trivial
    have Sc0 : Same Kb Kb := Same.refl _
    refine ⟨by show 2 ≤ sizeLine; decide, fun tc1 htc1 => ?_⟩
    have Pc1 := Pc0.snoc (t := tc1) ("card bus x", .int 2) (same_new (o := .tup [.str "card bus x", .int 2]) htc1) (SqT.of upd_same)
    have Sc1 := Sc0.trans (same_new (o := .tup [.str "card bus x", .int 2]) htc1)
    generalize upd Kb tc1 (.tup [.str "card bus x", .int 2]) = Gc1 at *
    clear Pc0 Sc0 htc1
    refine ⟨by show 2 ≤ sizeLine; decide, fun tc2 htc2 => ?_⟩
    have Pc2 := Pc1.snoc (t := tc2) ("card bus also", .int 3) (same_new (o := .tup [.str "card bus also", .int 3]) htc2) (SqT.of upd_same)
    have Sc2 := Sc1.trans (same_new (o := .tup [.str "card bus also", .int 3]) htc2)
    generalize upd Gc1 tc2 (.tup [.str "card bus also", .int 3]) = Gc2 at *
    clear Pc1 Sc1 htc2
    refine ⟨by show 2 ≤ sizeLine; decide, fun tc3 htc3 => ?_⟩
    have Pc3 := Pc2.snoc (t := tc3) ("card bus 1 also", .int 4) (same_new (o := .tup [.str "card bus 1 also", .int 4]) htc3) (SqT.of upd_same)
    have Sc3 := Sc2.trans (same_new (o := .tup [.str "card bus 1 also", .int 4]) htc3)
    generalize upd Gc2 tc3 (.tup [.str "card bus 1 also", .int 4]) = Gc3 at *
    clear Pc2 Sc2 htc3
    refine ⟨by show 2 ≤ sizeLine; decide, fun tc4 htc4 => ?_⟩
    have Pc4 := Pc3.snoc (t := tc4) ("card bus also Tram", .int 3) (same_new (o := .tup [.str "card bus also Tram", .int 3]) htc4) (SqT.of upd_same)
    have Sc4 := Sc3.trans (same_new (o := .tup [.str "card bus also Tram", .int 3]) htc4)
    generalize upd Gc3 tc4 (.tup [.str "card bus also Tram", .int 3]) = Gc4 at *
    clear Pc3 Sc3 htc4
    refine ⟨by show 4 ≤ sizeLine; decide, fun lc hlc => ?_⟩
    have ec : (upd Gc4 lc (.lst [.ref tc1, .ref tc2, .ref tc3, .ref tc4])) lc = some (.lst [.ref tc1, .ref tc2, .ref tc3, .ref tc4]) := upd_same
    have Scn := Sc4.trans (same_new (o := .lst [.ref tc1, .ref tc2, .ref tc3, .ref tc4]) hlc)
    have Pcn : PairsV K (upd Gc4 lc (.lst [.ref tc1, .ref tc2, .ref tc3, .ref tc4])) [.ref tc1, .ref tc2, .ref tc3, .ref tc4] [("card bus x", .int 2), ("card bus also", .int 3), ("card bus 1 also", .int 4), ("card bus also Tram", .int 3)] := Pc4.imm (same_new (o := .lst [.ref tc1, .ref tc2, .ref tc3, .ref tc4]) hlc).imm
    generalize upd Gc4 lc (.lst [.ref tc1, .ref tc2, .ref tc3, .ref tc4]) = GcE at *
    clear Pc4 Sc4 hlc
    refine ⟨mb, lc, _, _, rfl, rfl, Scn _ _ fb, ec, by rw [Qb.len]; show 12 + 4 ≤ sizeLine; omega, fun mc hmc => ?_⟩
    obtain ⟨wc, fc, Qc⟩ : ∃ vs, (upd GcE mc (.lst (wb ++ [.ref tc1, .ref tc2, .ref tc3, .ref tc4]))) mc = some (.lst vs) ∧ PairsV K (upd GcE mc (.lst (wb ++ [.ref tc1, .ref tc2, .ref tc3, .ref tc4]))) vs ((wrong1V ++ wrong2V) ++ wrong3V) := ⟨_, upd_same, (((Qb).imm Scn.imm).app Pcn).imm (same_new hmc).imm⟩
    have nc := (Rc.same Scn).new hmc
    have gc : lg ≠ mc := ne_of_none (Scn _ _ hGc) hmc
    have Uc := Scn.trans (same_new (o := .lst (wb ++ [.ref tc1, .ref tc2, .ref tc3, .ref tc4])) hmc)
    replace Rc := Rc.same Uc
    replace hGc := Uc _ _ hGc
    generalize upd GcE mc (.lst (wb ++ [.ref tc1, .ref tc2, .ref tc3, .ref tc4])) = Kc at *
    clear fb Qb ec Scn Pcn hmc Uc
    refine ⟨_, rfl, ?_⟩
    have Pd0 : PairsV K Kc [] [] := trivial
    have Sd0 : Same Kc Kc := Same.refl _
    refine ⟨by show 2 ≤ sizeLine; decide, fun td1 htd1 => ?_⟩
    have Pd1 := Pd0.snoc (t := td1) ("card bus also tram 1", .int 4) (same_new (o := .tup [.str "card bus also tram 1", .int 4]) htd1) (SqT.of upd_same)
    have Sd1 := Sd0.trans (same_new (o := .tup [.str "card bus also tram 1", .int 4]) htd1)
    generalize upd Kc td1 (.tup [.str "card bus also tram 1", .int 4]) = Gd1 at *
    clear Pd0 Sd0 htd1
    refine ⟨by show 2 ≤ sizeLine; decide, fun td2 htd2 => ?_⟩
    have Pd2 := Pd1.snoc (t := td2) ("see bus tram 1", .int 3) (same_new (o := .tup [.str "see bus tram 1", .int 3]) htd2) (SqT.of upd_same)
    have Sd2 := Sd1.trans (same_new (o := .tup [.str "see bus tram 1", .int 3]) htd2)
    generalize upd Gd1 td2 (.tup [.str "see bus tram 1", .int 3]) = Gd2 at *
    clear Pd1 Sd1 htd2
    refine ⟨by show 2 ≤ sizeLine; decide, fun td3 htd3 => ?_⟩
    have Pd3 := Pd2.snoc (t := td3) ("see bus 1", .int 2) (same_new (o := .tup [.str "see bus 1", .int 2]) htd3) (SqT.of upd_same)
    have Sd3 := Sd2.trans (same_new (o := .tup [.str "see bus 1", .int 2]) htd3)
    generalize upd Gd2 td3 (.tup [.str "see bus 1", .int 2]) = Gd3 at *
    clear Pd2 Sd2 htd3
    refine ⟨by show 2 ≤ sizeLine; decide, fun td4 htd4 => ?_⟩
    have Pd4 := Pd3.snoc (t := td4) ("see bus tram also", .int 3) (same_new (o := .tup [.str "see bus tram also", .int 3]) htd4) (SqT.of upd_same)
    have Sd4 := Sd3.trans (same_new (o := .tup [.str "see bus tram also", .int 3]) htd4)
    generalize upd Gd3 td4 (.tup [.str "see bus tram also", .int 3]) = Gd4 at *
    clear Pd3 Sd3 htd4
    refine ⟨by show 4 ≤ sizeLine; decide, fun ld hld => ?_⟩
    have ed : (upd Gd4 ld (.lst [.ref td1, .ref td2, .ref td3, .ref td4])) ld = some (.lst [.ref td1, .ref td2, .ref td3, .ref td4]) := upd_same
    have Sdn := Sd4.trans (same_new (o := .lst [.ref td1, .ref td2, .ref td3, .ref td4]) hld)
    have Pdn : PairsV K (upd Gd4 ld (.lst [.ref td1, .ref td2, .ref td3, .ref td4])) [.ref td1, .ref td2, .ref td3, .ref td4] [("card bus also tram 1", .int 4), ("see bus tram 1", .int 3), ("see bus 1", .int 2), ("see bus tram also", .int 3)] := Pd4.imm (same_new (o := .lst [.ref td1, .ref td2, .ref td3, .ref td4]) hld).imm
    generalize upd Gd4 ld (.lst [.ref td1, .ref td2, .ref td3, .ref td4]) = GdE at *
    clear Pd4 Sd4 hld
    refine ⟨mc, ld, _, _, rfl, rfl, Sdn _ _ fc, ed, by rw [Qc.len]; show 16 + 4 ≤ sizeLine; omega, fun md hmd => ?_⟩
    obtain ⟨wd, fd, Qd⟩ : ∃ vs, (upd GdE md (.lst (wc ++ [.ref td1, .ref td2, .ref td3, .ref td4]))) md = some (.lst vs) ∧ PairsV K (upd GdE md (.lst (wc ++ [.ref td1, .ref td2, .ref td3, .ref td4]))) vs (((wrong1V ++ wrong2V) ++ wrong3V) ++ wrong4V) := ⟨_, upd_same, (((Qc).imm Sdn.imm).app Pdn).imm (same_new hmd).imm⟩
    have nd := (Rc.same Sdn).new hmd
    have gd : lg ≠ md := ne_of_none (Sdn _ _ hGc) hmd
    have Ud := Sdn.trans (same_new (o := .lst (wc ++ [.ref td1, .ref td2, .ref td3, .ref td4])) hmd)
    replace Rc := Rc.same Ud
    replace hGc := Ud _ _ hGc
    generalize upd GdE md (.lst (wc ++ [.ref td1, .ref td2, .ref td3, .ref td4])) = Kd at *
    clear fc Qc ed Sdn Pdn hmd Ud
    refine ⟨_, rfl, ?_⟩
    have Pe0 : PairsV K Kd [] [] := trivial
    have Se0 : Same Kd Kd := Same.refl _
    refine ⟨by show 2 ≤ sizeLine; decide, fun te1 hte1 => ?_⟩
    have Pe1 := Pe0.snoc (t := te1) ("card bus 1 2 ", .int 4) (same_new (o := .tup [.str "card bus 1 2 ", .int 4]) hte1) (SqT.of upd_same)
    have Se1 := Se0.trans (same_new (o := .tup [.str "card bus 1 2 ", .int 4]) hte1)
    generalize upd Kd te1 (.tup [.str "card bus 1 2 ", .int 4]) = Ge1 at *
    clear Pe0 Se0 hte1
    refine ⟨by show 2 ≤ sizeLine; decide, fun te2 hte2 => ?_⟩
    have Pe2 := Pe1.snoc (t := te2) (" card bus", .int 0) (same_new (o := .tup [.str " card bus", .int 0]) hte2) (SqT.of upd_same)
    have Se2 := Se1.trans (same_new (o := .tup [.str " card bus", .int 0]) hte2)
    generalize upd Ge1 te2 (.tup [.str " card bus", .int 0]) = Ge2 at *
    clear Pe1 Se1 hte2
    refine ⟨by show 2 ≤ sizeLine; decide, fun te3 hte3 => ?_⟩
    have Pe3 := Pe2.snoc (t := te3) ("see bus tram ", .int 3) (same_new (o := .tup [.str "see bus tram ", .int 3]) hte3) (SqT.of upd_same)
    have Se3 := Se2.trans (same_new (o := .tup [.str "see bus tram ", .int 3]) hte3)
    generalize upd Ge2 te3 (.tup [.str "see bus tram ", .int 3]) = Ge3 at *
    clear Pe2 Se2 hte3
    refine ⟨by show 2 ≤ sizeLine; decide, fun te4 hte4 => ?_⟩
    have Pe4 := Pe3.snoc (t := te4) ("card busbusbus", .int 1) (same_new (o := .tup [.str "card busbusbus", .int 1]) hte4) (SqT.of upd_same)
    have Se4 := Se3.trans (same_new (o := .tup [.str "card busbusbus", .int 1]) hte4)
    generalize upd Ge3 te4 (.tup [.str "card busbusbus", .int 1]) = Ge4 at *
    clear Pe3 Se3 hte4
    refine ⟨by show 4 ≤ sizeLine; decide, fun le hle => ?_⟩
    have ee : (upd Ge4 le (.lst [.ref te1, .ref te2, .ref te3, .ref te4])) le = some (.lst [.ref te1, .ref te2, .ref te3, .ref te4]) := upd_same
    have Sen := Se4.trans (same_new (o := .lst [.ref te1, .ref te2, .ref te3, .ref te4]) hle)
    have Pen : PairsV K (upd Ge4 le (.lst [.ref te1, .ref te2, .ref te3, .ref te4])) [.ref te1, .ref te2, .ref te3, .ref te4] [("card bus 1 2 ", .int 4), (" card bus", .int 0), ("see bus tram ", .int 3), ("card busbusbus", .int 1)] := Pe4.imm (same_new (o := .lst [.ref te1, .ref te2, .ref te3, .ref te4]) hle).imm
    generalize upd Ge4 le (.lst [.ref te1, .ref te2, .ref te3, .ref te4]) = GeE at *
    clear Pe4 Se4 hle
    refine ⟨md, le, _, _, rfl, rfl, Sen _ _ fd, ee, by rw [Qd.len]; show 20 + 4 ≤ sizeLine; omega, fun me hme => ?_⟩
    obtain ⟨we, fe, Qe⟩ : ∃ vs, (upd GeE me (.lst (wd ++ [.ref te1, .ref te2, .ref te3, .ref te4]))) me = some (.lst vs) ∧ PairsV K (upd GeE me (.lst (wd ++ [.ref te1, .ref te2, .ref te3, .ref te4]))) vs ((((wrong1V ++ wrong2V) ++ wrong3V) ++ wrong4V) ++ wrong5V) := ⟨_, upd_same, (((Qd).imm Sen.imm).app Pen).imm (same_new hme).imm⟩
    have ne := (Rc.same Sen).new hme
    have ge : lg ≠ me := ne_of_none (Sen _ _ hGc) hme
    have Ue := Sen.trans (same_new (o := .lst (wd ++ [.ref te1, .ref te2, .ref te3, .ref te4])) hme)
    replace Rc := Rc.same Ue
    replace hGc := Ue _ _ hGc
    generalize upd GeE me (.lst (wd ++ [.ref te1, .ref te2, .ref te3, .ref te4])) = Ke at *
    clear fd Qd ee Sen Pen hme Ue
    refine ⟨_, rfl, .inl ⟨rfl, _, SqL.of fe⟩, ?_⟩
    refine ⟨by show 2 ≤ sizeLine; decide, fun tz htz => ?_⟩
    have Uz := same_new (o := .tup [.str "card bus -1", .int 2]) htz
    replace Rc := Rc.same Uz
    replace hGc := Uz _ _ hGc
    have ez := Uz _ _ fe
    have Pz := Qe.snoc (t := tz) ("card bus -1", .int 2) Uz (SqT.of upd_same)
    generalize upd Ke tz (.tup [.str "card bus -1", .int 2]) = Kz at *
    clear fe Qe Uz htz
    refine ⟨me, we, _, rfl, rfl, ez, by show we.length < _; have h24 := Pz.len; rw [List.length_append] at h24; have : (((((wrong1V ++ wrong2V) ++ wrong3V) ++ wrong4V) ++ wrong5V) ++ [(("card bus -1" : Str), V.int 2)]).length = 25 := rfl; rw [this] at h24; omega, ?_⟩
    have Rd : RowAt K (upd Kz me (.lst (we ++ [.ref tz]))) rw a ns := Rc.mut ne
    have hGd : (upd Kz me (.lst (we ++ [.ref tz]))) lg = some (.lst (goodR.map V.str)) := by rw [upd_ne ge]; exact hGc
    obtain ⟨wz, eW, PW⟩ : ∃ vs, (upd Kz me (.lst (we ++ [.ref tz]))) me = some (.lst vs) ∧ PairsV K (upd Kz me (.lst (we ++ [.ref tz]))) vs wrongV := ⟨_, upd_same, zsW ▸ Pz.imm (Imm.refl.mut ez rfl)⟩
    generalize upd Kz me (.lst (we ++ [.ref tz])) = H3 at *
    clear Rc hGc Pz ez
    have hwl : wz.length = 25 := PW.len
    refine ⟨_, rfl, by decide, by decide, for_range (lo := 0) (n := 10) (fun i σ H4 => ∃ y4 y5 y6 y7 y8 y9 y10, σ = [some (.ref a), some (.ref rw), some (.ref lg), some (.ref me), y4, y5, y6, y7, y8, y9, y10] ∧ RowAt K H4 rw a ns ∧ H4 lg = some (.lst (goodR.map V.str)) ∧ H4 me = some (.lst wz) ∧ PairsV K H4 wz wrongV)
      ⟨_, _, _, _, _, _, _, rfl, Rd, hGd, eW, PW⟩ (fun ti σ H4 _ hP => ?_) (fun σ H4 hP => ?_)⟩
    · clear Rd hGd eW PW
      obtain ⟨y4, y5, y6, y7, y8, y9, y10, rfl, R, g, w, P⟩ := hP
      refine ⟨_, rfl, _, rfl, _, rfl, me, _, rfl, .inl (SqL.of w), ?_⟩
      rw [hwl]
      refine ⟨rw, a, ns, 25, rfl, by decide, by decide, R, fun n H5 hn b5 R' => ?_⟩
      obtain ⟨ob5, hob5, hib5⟩ := R.at
      have imb5 := b5.imm hob5 hib5
      replace P := P.imm imb5
      replace g := b5 _ _ g hgr
      replace w := b5 _ _ w ne.1
      clear R hob5 hib5
      rename RowAt K H5 rw a ns => R
      obtain ⟨t, z, q1, q2, q3⟩ := P.get (i := n) (by show n < 25; omega)
      refine ⟨me, wz, (n : Nat), .ref t, rfl, rfl, SqL.of w, atI_nat q1, ?_⟩
      refine ⟨t, _, rfl, q3, rfl, _, _, rfl, _, _, rfl, rfl, ?_⟩
      unfold wrongV at q2
      rw [List.getElem?_map] at q2
      obtain ⟨zz, q4, rfl⟩ := Option.map_eq_some_iff.mp q2
      have hz := List.mem_of_getElem? q4
      clear q1 q2 q3 q4
      refine ⟨_, rfl, rw, a, ns, 5, rfl, by decide, by decide, R, fun kk H6 hk b6 R' => ?_⟩
      obtain ⟨ob6, hob6, hib6⟩ := R.at
      have imb6 := b6.imm hob6 hib6
      replace P := P.imm imb6
      replace g := b6 _ _ g hgr
      replace w := b6 _ _ w ne.1
      clear R hob6 hib6
      rename RowAt K H6 rw a ns => R
      have hk5 : kk < 5 := by omega
      refine ⟨_, rfl, _, rfl, _, rfl, lg, _, rfl, SqL.of g, fun pu hpu => ?_⟩
      rw [cut_take, ← List.map_take]
      have Au : Same H6 (upd H6 pu (.lst ((goodR.take kk).map V.str))) := same_new hpu
      have au : (upd H6 pu (.lst ((goodR.take kk).map V.str))) pu = some (.lst ((goodR.take kk).map V.str)) := upd_same
      generalize upd H6 pu (.lst ((goodR.take kk).map V.str)) = Xu at *
      refine ⟨_, rfl, by show 1 ≤ sizeLine; decide, fun qu hqu => ?_⟩
      have Bu : Same Xu (upd Xu qu (.lst [.str zz.1])) := same_new hqu
      have bu : (upd Xu qu (.lst [.str zz.1])) qu = some (.lst [.str zz.1]) := upd_same
      generalize upd Xu qu (.lst [.str zz.1]) = Yu at *
      refine ⟨pu, qu, _, _, rfl, rfl, Bu _ _ au, bu, by rw [List.length_map, List.length_take]; show min kk 4 + 1 ≤ sizeLine; omega, fun cu hcu => ?_⟩
      have Cu : Same Yu (upd Yu cu (.lst ((goodR.take kk).map V.str ++ [.str zz.1]))) := same_new hcu
      have c1u : (upd Yu cu (.lst ((goodR.take kk).map V.str ++ [.str zz.1]))) cu = some (.lst ((goodR.take kk).map V.str ++ [.str zz.1])) := upd_same
      generalize upd Yu cu (.lst ((goodR.take kk).map V.str ++ [.str zz.1])) = Zu at *
      have ABCu := (Au.trans Bu).trans Cu
      refine ⟨_, rfl, _, rfl, _, rfl, lg, _, rfl, SqL.of (ABCu _ _ g), fun du hdu => ?_⟩
      rw [cut_lo, ← List.map_drop]
      have Du : Same Zu (upd Zu du (.lst ((goodR.drop kk).map V.str))) := same_new hdu
      have d1u : (upd Zu du (.lst ((goodR.drop kk).map V.str))) du = some (.lst ((goodR.drop kk).map V.str)) := upd_same
      generalize upd Zu du (.lst ((goodR.drop kk).map V.str)) = Vu at *
      refine ⟨cu, du, _, _, rfl, rfl, Du _ _ c1u, d1u, by rw [List.length_append, List.length_map, List.length_map, List.length_take, List.length_drop]; show min kk 4 + 1 + (4 - kk) ≤ sizeLine; omega, fun fu hfu => ?_⟩
      have Fu : Same Vu (upd Vu fu (.lst ((goodR.take kk).map V.str ++ [.str zz.1] ++ (goodR.drop kk).map V.str))) := same_new hfu
      have f1u : (upd Vu fu (.lst ((goodR.take kk).map V.str ++ [.str zz.1] ++ (goodR.drop kk).map V.str))) fu = some (.lst ((midR kk zz.1).map V.str)) := by
        unfold midR
        rw [upd_same, List.map_append, List.map_append]
        rfl
      generalize upd Vu fu (.lst ((goodR.take kk).map V.str ++ [.str zz.1] ++ (goodR.drop kk).map V.str)) = H7 at *
      have Mu : Same H6 H7 := (ABCu.trans Du).trans Fu
      clear Au au Bu bu Cu c1u ABCu Du d1u Fu hpu hqu hcu hdu hfu
      replace R := R.same Mu
      replace g := Mu _ _ g
      replace w := Mu _ _ w
      replace P := P.imm Mu.imm
      refine ⟨fu, midR kk zz.1, rfl, SqL.of f1u, rp_mid (wrong_pool zz hz), fun v H8 s8 d => ?_⟩
      rw [d_text (f_wrong kk hk5 zz hz)] at d
      obtain ⟨tv, rfl, hv⟩ := dp_ii d
      replace R := R.same s8
      replace g := s8 _ _ g
      replace w := s8 _ _ w
      replace P := P.imm s8.imm
      refine ⟨_, rfl, _, rfl, by show 2 ≤ sizeLine; decide, fun tt htt => ?_⟩
      have s9 := same_new (o := .tup [.int (kk : Nat), .int (zz.2 : Nat)]) htt
      refine rNeD_to (b := false) (dp_tInts (s9.seqT hv)) (dp_tInts (ns := [((kk : Nat) : Int), ((zz.2 : Nat) : Int)]) (SqT.of upd_same)) (sh_tInts _) (sh_tInts _) (ints_self _) ?_
      replace R := R.same s9
      replace g := s9 _ _ g
      replace w := s9 _ _ w
      replace P := P.imm s9.imm
      generalize upd H8 tt (.tup [.int (kk : Nat), .int (zz.2 : Nat)]) = H9 at *
      refine ⟨_, rfl, iteF ?_⟩
      clear s8 s9 hv d Mu f1u htt
      have Px0 : PairsV K H9 [] [] := trivial
      have Sx0 : Same H9 H9 := Same.refl _
      refine ⟨by show 2 ≤ sizeLine; decide, fun tx1 htx1 => ?_⟩
      have Px1 := Px0.snoc (t := tx1) ("see bus bus", .str "see") (same_new (o := .tup [.str "see bus bus", .str "see"]) htx1) (SqT.of upd_same)
      have Sx1 := Sx0.trans (same_new (o := .tup [.str "see bus bus", .str "see"]) htx1)
      generalize upd H9 tx1 (.tup [.str "see bus bus", .str "see"]) = Ha1 at *
      clear Px0 Sx0 htx1
      refine ⟨by show 2 ≤ sizeLine; decide, fun tx2 htx2 => ?_⟩
      have Px2 := Px1.snoc (t := tx2) ("card bus also bus", .str "also") (same_new (o := .tup [.str "card bus also bus", .str "also"]) htx2) (SqT.of upd_same)
      have Sx2 := Sx1.trans (same_new (o := .tup [.str "card bus also bus", .str "also"]) htx2)
      generalize upd Ha1 tx2 (.tup [.str "card bus also bus", .str "also"]) = Ha2 at *
      clear Px1 Sx1 htx2
      refine ⟨by show 2 ≤ sizeLine; decide, fun tx3 htx3 => ?_⟩
      have Px3 := Px2.snoc (t := tx3) ("card bus also rail rail", .str "also") (same_new (o := .tup [.str "card bus also rail rail", .str "also"]) htx3) (SqT.of upd_same)
      have Sx3 := Sx2.trans (same_new (o := .tup [.str "card bus also rail rail", .str "also"]) htx3)
      generalize upd Ha2 tx3 (.tup [.str "card bus also rail rail", .str "also"]) = Ha3 at *
      clear Px2 Sx2 htx3
      refine ⟨by show 3 ≤ sizeLine; decide, fun lx hlx => ?_⟩
      have ex : (upd Ha3 lx (.lst [.ref tx1, .ref tx2, .ref tx3])) lx = some (.lst [.ref tx1, .ref tx2, .ref tx3]) := upd_same
      have Sxn := Sx3.trans (same_new (o := .lst [.ref tx1, .ref tx2, .ref tx3]) hlx)
      have Pxn : PairsV K (upd Ha3 lx (.lst [.ref tx1, .ref tx2, .ref tx3])) [.ref tx1, .ref tx2, .ref tx3] [("see bus bus", .str "see"), ("card bus also bus", .str "also"), ("card bus also rail rail", .str "also")] := Px3.imm (same_new (o := .lst [.ref tx1, .ref tx2, .ref tx3]) hlx).imm
      generalize upd Ha3 lx (.lst [.ref tx1, .ref tx2, .ref tx3]) = HaE at *
      clear Px3 Sx3 hlx
      replace R := R.same Sxn
      replace g := Sxn _ _ g
      replace w := Sxn _ _ w
      replace P := P.imm Sxn.imm
      refine ⟨_, rfl, ?_⟩
      have Py0 : PairsV K HaE [] [] := trivial
      have Sy0 : Same HaE HaE := Same.refl _
      refine ⟨by show 2 ≤ sizeLine; decide, fun ty1 hty1 => ?_⟩
      have Py1 := Py0.snoc (t := ty1) ("card bus 1 2 3 4 5 6 7", .str "books") (same_new (o := .tup [.str "card bus 1 2 3 4 5 6 7", .str "books"]) hty1) (SqT.of upd_same)
      have Sy1 := Sy0.trans (same_new (o := .tup [.str "card bus 1 2 3 4 5 6 7", .str "books"]) hty1)
      generalize upd HaE ty1 (.tup [.str "card bus 1 2 3 4 5 6 7", .str "books"]) = Hb1 at *
      clear Py0 Sy0 hty1
      refine ⟨by show 2 ≤ sizeLine; decide, fun ty2 hty2 => ?_⟩
      have Py2 := Py1.snoc (t := ty2) ("card bus also a b c d e", .str "also") (same_new (o := .tup [.str "card bus also a b c d e", .str "also"]) hty2) (SqT.of upd_same)
      have Sy2 := Sy1.trans (same_new (o := .tup [.str "card bus also a b c d e", .str "also"]) hty2)
      generalize upd Hb1 ty2 (.tup [.str "card bus also a b c d e", .str "also"]) = Hb2 at *
      clear Py1 Sy1 hty2
      refine ⟨by show 2 ≤ sizeLine; decide, fun ly hly => ?_⟩
      have ey : (upd Hb2 ly (.lst [.ref ty1, .ref ty2])) ly = some (.lst [.ref ty1, .ref ty2]) := upd_same
      have Syn := Sy2.trans (same_new (o := .lst [.ref ty1, .ref ty2]) hly)
      have Pyn : PairsV K (upd Hb2 ly (.lst [.ref ty1, .ref ty2])) [.ref ty1, .ref ty2] [("card bus 1 2 3 4 5 6 7", .str "books"), ("card bus also a b c d e", .str "also")] := Py2.imm (same_new (o := .lst [.ref ty1, .ref ty2]) hly).imm
      generalize upd Hb2 ly (.lst [.ref ty1, .ref ty2]) = HbE at *
      clear Py2 Sy2 hly
      replace R := R.same Syn
      replace g := Syn _ _ g
      replace w := Syn _ _ w
      replace P := P.imm Syn.imm
      refine ⟨lx, ly, _, _, rfl, rfl, Syn _ _ ex, ey, by show 3 + 2 ≤ sizeLine; omega, fun lb hlb => ?_⟩
      have Ub := same_new (o := .lst ([.ref tx1, .ref tx2, .ref tx3] ++ [.ref ty1, .ref ty2])) hlb
      obtain ⟨bz, eb, PB⟩ : ∃ vs, (upd HbE lb (.lst ([.ref tx1, .ref tx2, .ref tx3] ++ [.ref ty1, .ref ty2]))) lb = some (.lst vs) ∧ PairsV K (upd HbE lb (.lst ([.ref tx1, .ref tx2, .ref tx3] ++ [.ref ty1, .ref ty2]))) vs badV := ⟨_, upd_same, ((Pxn.imm Syn.imm).app Pyn).imm Ub.imm⟩
      have nlb : lb ≠ rw := (R.new hlb).1
      replace R := R.same Ub
      replace g := Ub _ _ g
      replace w := Ub _ _ w
      replace P := P.imm Ub.imm
      generalize upd HbE lb (.lst ([.ref tx1, .ref tx2, .ref tx3] ++ [.ref ty1, .ref ty2])) = J0 at *
      clear Pxn Pyn Sxn Syn ex ey hlb Ub
      refine ⟨_, rfl, _, rfl, ?_⟩
      refine ⟨rw, a, ns, 5, rfl, by decide, by decide, R, fun n2 J1 hn2 b10 R' => ?_⟩
      obtain ⟨ob10, hob10, hib10⟩ := R.at
      have imb10 := b10.imm hob10 hib10
      replace P := P.imm imb10
      replace PB := PB.imm imb10
      replace eb := b10 _ _ eb nlb
      replace g := b10 _ _ g hgr
      replace w := b10 _ _ w ne.1
      clear R hob10 hib10
      rename RowAt K J1 rw a ns => R
      obtain ⟨t2, z2, q1, q2, q3⟩ := PB.get (i := n2) (by show n2 < 5; omega)
      refine ⟨lb, bz, (n2 : Nat), .ref t2, rfl, rfl, SqL.of eb, atI_nat q1, ?_⟩
      refine ⟨t2, _, rfl, q3, rfl, _, _, rfl, _, _, rfl, rfl, ?_⟩
      unfold badV at q2
      rw [List.getElem?_map] at q2
      obtain ⟨bb, q4, rfl⟩ := Option.map_eq_some_iff.mp q2
      have hb := List.mem_of_getElem? q4
      clear q1 q2 q3 q4 PB eb
      refine ⟨_, rfl, _, rfl, _, rfl, lg, _, rfl, SqL.of g, fun pv hpv => ?_⟩
      rw [cut_take, ← List.map_take]
      have Av : Same J1 (upd J1 pv (.lst ((goodR.take kk).map V.str))) := same_new hpv
      have av : (upd J1 pv (.lst ((goodR.take kk).map V.str))) pv = some (.lst ((goodR.take kk).map V.str)) := upd_same
      generalize upd J1 pv (.lst ((goodR.take kk).map V.str)) = Xv at *
      refine ⟨_, rfl, by show 1 ≤ sizeLine; decide, fun qv hqv => ?_⟩
      have Bv : Same Xv (upd Xv qv (.lst [.str bb.1])) := same_new hqv
      have bv : (upd Xv qv (.lst [.str bb.1])) qv = some (.lst [.str bb.1]) := upd_same
      generalize upd Xv qv (.lst [.str bb.1]) = Yv at *
      refine ⟨pv, qv, _, _, rfl, rfl, Bv _ _ av, bv, by rw [List.length_map, List.length_take]; show min kk 4 + 1 ≤ sizeLine; omega, fun cv hcv => ?_⟩
      have Cv : Same Yv (upd Yv cv (.lst ((goodR.take kk).map V.str ++ [.str bb.1]))) := same_new hcv
      have c1v : (upd Yv cv (.lst ((goodR.take kk).map V.str ++ [.str bb.1]))) cv = some (.lst ((goodR.take kk).map V.str ++ [.str bb.1])) := upd_same
      generalize upd Yv cv (.lst ((goodR.take kk).map V.str ++ [.str bb.1])) = Zv at *
      have ABCv := (Av.trans Bv).trans Cv
      refine ⟨_, rfl, _, rfl, _, rfl, lg, _, rfl, SqL.of (ABCv _ _ g), fun dv hdv => ?_⟩
      rw [cut_lo, ← List.map_drop]
      have Dv : Same Zv (upd Zv dv (.lst ((goodR.drop kk).map V.str))) := same_new hdv
      have d1v : (upd Zv dv (.lst ((goodR.drop kk).map V.str))) dv = some (.lst ((goodR.drop kk).map V.str)) := upd_same
      generalize upd Zv dv (.lst ((goodR.drop kk).map V.str)) = Vv at *
      refine ⟨cv, dv, _, _, rfl, rfl, Dv _ _ c1v, d1v, by rw [List.length_append, List.length_map, List.length_map, List.length_take, List.length_drop]; show min kk 4 + 1 + (4 - kk) ≤ sizeLine; omega, fun fv hfv => ?_⟩
      have Fv : Same Vv (upd Vv fv (.lst ((goodR.take kk).map V.str ++ [.str bb.1] ++ (goodR.drop kk).map V.str))) := same_new hfv
      have f1v : (upd Vv fv (.lst ((goodR.take kk).map V.str ++ [.str bb.1] ++ (goodR.drop kk).map V.str))) fv = some (.lst ((midR kk bb.1).map V.str)) := by
        unfold midR
        rw [upd_same, List.map_append, List.map_append]
        rfl
      generalize upd Vv fv (.lst ((goodR.take kk).map V.str ++ [.str bb.1] ++ (goodR.drop kk).map V.str)) = J2 at *
      have Mv : Same J1 J2 := (ABCv.trans Dv).trans Fv
      clear Av av Bv bv Cv c1v ABCv Dv d1v Fv hpv hqv hcv hdv hfv
      replace R := R.same Mv
      replace g := Mv _ _ g
      replace w := Mv _ _ w
      replace P := P.imm Mv.imm
      refine ⟨fv, midR kk bb.1, rfl, SqL.of f1v, rp_mid (bad_pool bb hb), fun v J3 s13 dA => ?_⟩
      replace R := R.same s13
      replace g := s13 _ _ g
      replace w := s13 _ _ w
      replace P := P.imm s13.imm
      rw [d_card (f_bad kk hk5 bb hb)] at dA
      obtain ⟨tvA, rfl, hvA⟩ := dp_ss dA
      refine ⟨_, rfl, by show 2 ≤ sizeLine; decide, fun ttA httA => ?_⟩
      have s9A := same_new (o := .tup [.str "card", .str bb.2]) httA
      refine rNeD_to (b := false) (dp_tStrs (s9A.seqT hvA)) (dp_tStrs (ws := ["card", bb.2]) (SqT.of upd_same)) (sh_tStrs _ (ok2 hb)) (sh_tStrs _ (ok2 hb)) (strs_self _) ?_
      replace R := R.same s9A
      replace g := s9A _ _ g
      replace w := s9A _ _ w
      replace P := P.imm s9A.imm
      generalize upd J3 ttA (.tup [.str "card", .str bb.2]) = J4 at *
      refine ⟨_, rfl, iteF ?_⟩
      clear s13 s9A hvA dA Mv f1v httA
      refine ⟨_, rfl, _, rfl, _, rfl, lg, _, rfl, SqL.of g, fun pw hpw => ?_⟩
      rw [cut_take, ← List.map_take]
      have Aw : Same J4 (upd J4 pw (.lst ((goodR.take kk).map V.str))) := same_new hpw
      have aw : (upd J4 pw (.lst ((goodR.take kk).map V.str))) pw = some (.lst ((goodR.take kk).map V.str)) := upd_same
      generalize upd J4 pw (.lst ((goodR.take kk).map V.str)) = Xw at *
      refine ⟨_, rfl, by show 1 ≤ sizeLine; decide, fun qw hqw => ?_⟩
      have Bw : Same Xw (upd Xw qw (.lst [.str bb.1])) := same_new hqw
      have bw : (upd Xw qw (.lst [.str bb.1])) qw = some (.lst [.str bb.1]) := upd_same
      generalize upd Xw qw (.lst [.str bb.1]) = Yw at *
      refine ⟨pw, qw, _, _, rfl, rfl, Bw _ _ aw, bw, by rw [List.length_map, List.length_take]; show min kk 4 + 1 ≤ sizeLine; omega, fun cw hcw => ?_⟩
      have Cw : Same Yw (upd Yw cw (.lst ((goodR.take kk).map V.str ++ [.str bb.1]))) := same_new hcw
      have c1w : (upd Yw cw (.lst ((goodR.take kk).map V.str ++ [.str bb.1]))) cw = some (.lst ((goodR.take kk).map V.str ++ [.str bb.1])) := upd_same
      generalize upd Yw cw (.lst ((goodR.take kk).map V.str ++ [.str bb.1])) = Zw at *
      have ABCw := (Aw.trans Bw).trans Cw
      refine ⟨_, rfl, _, rfl, _, rfl, lg, _, rfl, SqL.of (ABCw _ _ g), fun dw hdw => ?_⟩
      rw [cut_lo, ← List.map_drop]
      have Dw : Same Zw (upd Zw dw (.lst ((goodR.drop kk).map V.str))) := same_new hdw
      have d1w : (upd Zw dw (.lst ((goodR.drop kk).map V.str))) dw = some (.lst ((goodR.drop kk).map V.str)) := upd_same
      generalize upd Zw dw (.lst ((goodR.drop kk).map V.str)) = Vw at *
      refine ⟨cw, dw, _, _, rfl, rfl, Dw _ _ c1w, d1w, by rw [List.length_append, List.length_map, List.length_map, List.length_take, List.length_drop]; show min kk 4 + 1 + (4 - kk) ≤ sizeLine; omega, fun fw hfw => ?_⟩
      have Fw : Same Vw (upd Vw fw (.lst ((goodR.take kk).map V.str ++ [.str bb.1] ++ (goodR.drop kk).map V.str))) := same_new hfw
      have f1w : (upd Vw fw (.lst ((goodR.take kk).map V.str ++ [.str bb.1] ++ (goodR.drop kk).map V.str))) fw = some (.lst ((midR kk bb.1).map V.str)) := by
        unfold midR
        rw [upd_same, List.map_append, List.map_append]
        rfl
      generalize upd Vw fw (.lst ((goodR.take kk).map V.str ++ [.str bb.1] ++ (goodR.drop kk).map V.str)) = J5 at *
      have Mw : Same J4 J5 := (ABCw.trans Dw).trans Fw
      clear Aw aw Bw bw Cw c1w ABCw Dw d1w Fw hpw hqw hcw hdw hfw
      replace R := R.same Mw
      replace g := Mw _ _ g
      replace w := Mw _ _ w
      replace P := P.imm Mw.imm
      refine ⟨by show 1 ≤ sizeLine; decide, fun l6 hl6 => ?_⟩
      have s14 : Same J5 (upd J5 l6 (.lst [.str "card"])) := same_new hl6
      have e14 : (upd J5 l6 (.lst [.str "card"])) l6 = some (.lst [.str "card"]) := upd_same
      replace R := R.same s14
      replace g := s14 _ _ g
      replace w := s14 _ _ w
      replace P := P.imm s14.imm
      refine ⟨fw, l6, _, _, rfl, rfl, s14 _ _ f1w, e14, by rw [List.length_map, mid_len]; show 5 + 1 ≤ sizeLine; omega, fun l7 hl7 => ?_⟩
      have e15 : (upd (upd J5 l6 (.lst [.str "card"])) l7 (.lst ((midR kk bb.1).map V.str ++ [.str "card"]))) l7 = some (.lst ((midR kk bb.1 ++ [cR]).map V.str)) := by
        rw [upd_same, List.map_append]
        rfl
      have s15 := same_new (o := .lst ((midR kk bb.1).map V.str ++ [.str "card"])) hl7
      replace R := R.same s15
      replace g := s15 _ _ g
      replace w := s15 _ _ w
      replace P := P.imm s15.imm
      generalize upd (upd J5 l6 (.lst [.str "card"])) l7 (.lst ((midR kk bb.1).map V.str ++ [.str "card"])) = J6 at *
      refine ⟨l7, midR kk bb.1 ++ [cR], rfl, SqL.of e15, (rp_mid (bad_pool bb hb)).more (by rw [mid_len]; omega) c_pool, fun v J7 s17 dB => ?_⟩
      rw [d_text (f_card kk hk5 bb hb)] at dB
      obtain ⟨tvB, rfl, hvB⟩ := dp_ii dB
      replace R := R.same s17
      replace g := s17 _ _ g
      replace w := s17 _ _ w
      replace P := P.imm s17.imm
      refine ⟨by show 2 ≤ sizeLine; decide, fun ttB httB => ?_⟩
      have s18 := same_new (o := .tup [.int 5, .int 1]) httB
      refine rNeD_to (b := false) (dp_tInts (s18.seqT hvB)) (dp_tInts (ns := [5, 1]) (SqT.of upd_same)) (sh_tInts _) (sh_tInts _) (by exact ints_self [5, 1]) ?_
      replace R := R.same s18
      replace g := s18 _ _ g
      replace w := s18 _ _ w
      replace P := P.imm s18.imm
      generalize upd J7 ttB (.tup [.int 5, .int 1]) = J8 at *
      refine ⟨_, rfl, iteF ?_⟩
      clear s14 e14 s15 e15 s17 s18 hvB dB Mw f1w httB hl6 hl7
      refine ⟨_, rfl, rw, a, ns, 5, rfl, by decide, by decide, R, fun n3 J9 hn3 b20 R' => ?_⟩
      obtain ⟨ob20, hob20, hib20⟩ := R.at
      have imb20 := b20.imm hob20 hib20
      replace P := P.imm imb20
      replace g := b20 _ _ g hgr
      replace w := b20 _ _ w ne.1
      clear R hob20 hib20
      rename RowAt K J9 rw a ns => R
      refine ⟨_, _, rfl, rfl, ?_⟩
      have hm5 : n3 < 5 := by omega
      have hml : (manyR (14 + n3)).length = 14 + n3 := List.length_replicate
      refine ⟨by show 1 ≤ sizeLine; decide, fun rs hrs => ?_⟩
      have As : Same J9 (upd J9 rs (.lst [.str "card bus"])) := same_new hrs
      have as : (upd J9 rs (.lst [.str "card bus"])) rs = some (.lst [.str cbR]) := upd_same
      generalize upd J9 rs (.lst [.str "card bus"]) = Xs at *
      refine ⟨_, rfl, rs, _, _, rfl, rfl, as, by omega, by omega, by show 1 * _ ≤ _; omega, fun ps hps => ?_⟩
      rw [show ((14 : Int) + ((n3 : Nat) : Int)).toNat = 14 + n3 by omega, mul_cb]
      have Bs : Same Xs (upd Xs ps (.lst ((manyR (14 + n3)).map V.str))) := same_new hps
      have bs : (upd Xs ps (.lst ((manyR (14 + n3)).map V.str))) ps = some (.lst ((manyR (14 + n3)).map V.str)) := upd_same
      generalize upd Xs ps (.lst ((manyR (14 + n3)).map V.str)) = Ys at *
      have Ms := As.trans Bs
      clear As as Bs hrs hps
      replace R := R.same Ms
      replace g := Ms _ _ g
      replace w := Ms _ _ w
      replace P := P.imm Ms.imm
      refine ⟨ps, manyR (14 + n3), rfl, SqL.of bs, rp_many hm5, fun v L0 s30 dC => ?_⟩
      rw [d_drawer (f_many n3 hm5), hml] at dC
      replace R := R.same s30
      replace g := s30 _ _ g
      replace w := s30 _ _ w
      replace P := P.imm s30.imm
      refine ⟨_, rfl, _, _, rfl, rfl, _, rfl, ?_⟩
      clear Ms bs
      by_cases h16 : 16 < 14 + n3
      · rw [if_pos h16] at dC
        obtain ⟨tvC, rfl, hvC⟩ := dp_si dC
        rw [decide_eq_true (show (16 : Int) < 14 + ((n3 : Nat) : Int) by omega)]
        refine iteT ⟨by show 2 ≤ sizeLine; decide, fun ttC httC => ?_⟩
        have s31 := same_new (o := .tup [.str "drawer", .int 0]) httC
        refine rNeD_to (b := false) (.tup (s31.seqT hvC) (.cons (.str _) (.cons (.int _) .nil))) (.tup (xs := [.str "drawer", .int 0]) (SqT.of upd_same) (.cons (.str _) (.cons (.int _) .nil))) (by decide +kernel) (by decide +kernel) (by decide +kernel) ?_
        replace R := R.same s31
        replace g := s31 _ _ g
        replace w := s31 _ _ w
        replace P := P.imm s31.imm
        generalize upd L0 ttC (.tup [.str "drawer", .int 0]) = L1 at *
        refine ⟨_, rfl, iteF ?_⟩
        clear s30 s31 hvC dC httC
        refine ⟨by show 1 ≤ sizeLine; decide, fun rh hrh => ?_⟩
        have Ah : Same L1 (upd L1 rh (.lst [.str "card bus"])) := same_new hrh
        have ah : (upd L1 rh (.lst [.str "card bus"])) rh = some (.lst [.str cbR]) := upd_same
        generalize upd L1 rh (.lst [.str "card bus"]) = Xh at *
        refine ⟨_, rfl, rh, _, _, rfl, rfl, ah, by omega, by omega, by show 1 * _ ≤ _; omega, fun ph hph => ?_⟩
        rw [show ((14 : Int) + ((n3 : Nat) : Int)).toNat = 14 + n3 by omega, mul_cb]
        have Bh : Same Xh (upd Xh ph (.lst ((manyR (14 + n3)).map V.str))) := same_new hph
        have bh : (upd Xh ph (.lst ((manyR (14 + n3)).map V.str))) ph = some (.lst ((manyR (14 + n3)).map V.str)) := upd_same
        generalize upd Xh ph (.lst ((manyR (14 + n3)).map V.str)) = Yh at *
        have Mh := Ah.trans Bh
        clear Ah ah Bh hrh hph
        replace R := R.same Mh
        replace g := Mh _ _ g
        replace w := Mh _ _ w
        replace P := P.imm Mh.imm
        refine ⟨_, rfl, by show 1 ≤ sizeLine; decide, fun l8 hl8 => ?_⟩
        have s40 : Same Yh (upd Yh l8 (.lst [.str bb.1])) := same_new hl8
        have e40 : (upd Yh l8 (.lst [.str bb.1])) l8 = some (.lst [.str bb.1]) := upd_same
        replace R := R.same s40
        replace g := s40 _ _ g
        replace w := s40 _ _ w
        replace P := P.imm s40.imm
        generalize upd Yh l8 (.lst [.str bb.1]) = L2' at *
        refine ⟨ph, l8, _, _, rfl, rfl, s40 _ _ bh, e40, by rw [List.length_map, hml]; show 14 + n3 + 1 ≤ sizeLine; omega, fun l9 hl9 => ?_⟩
        have e41 : (upd L2' l9 (.lst ((manyR (14 + n3)).map V.str ++ [.str bb.1]))) l9 = some (.lst ((manyR (14 + n3) ++ [bb.1]).map V.str)) := by
          rw [upd_same, List.map_append]
          rfl
        have s41 := same_new (o := .lst ((manyR (14 + n3)).map V.str ++ [.str bb.1])) hl9
        replace R := R.same s41
        replace g := s41 _ _ g
        replace w := s41 _ _ w
        replace P := P.imm s41.imm
        generalize upd L2' l9 (.lst ((manyR (14 + n3)).map V.str ++ [.str bb.1])) = L3 at *
        refine ⟨l9, manyR (14 + n3) ++ [bb.1], rfl, SqL.of e41, (rp_many hm5).more (by rw [hml]; omega) (bad_pool bb hb), fun v L4 s42 dD => ?_⟩
        replace R := R.same s42
        replace g := s42 _ _ g
        replace w := s42 _ _ w
        replace P := P.imm s42.imm
        rw [d_card (f_manyb n3 hm5 bb hb)] at dD
        obtain ⟨tvD, rfl, hvD⟩ := dp_ss dD
        refine ⟨_, rfl, by show 2 ≤ sizeLine; decide, fun ttD httD => ?_⟩
        have s9D := same_new (o := .tup [.str "card", .str bb.2]) httD
        refine rNeD_to (b := false) (dp_tStrs (s9D.seqT hvD)) (dp_tStrs (ws := ["card", bb.2]) (SqT.of upd_same)) (sh_tStrs _ (ok2 hb)) (sh_tStrs _ (ok2 hb)) (strs_self _) ?_
        replace R := R.same s9D
        replace g := s9D _ _ g
        replace w := s9D _ _ w
        replace P := P.imm s9D.imm
        refine ⟨_, rfl, iteF ?_⟩
        exact ⟨_, _, _, _, _, _, _, rfl, R, g, w, P⟩
      · rw [if_neg h16] at dC
        cases dC
        rw [decide_eq_false (show ¬ (16 : Int) < 14 + ((n3 : Nat) : Int) by omega)]
        refine iteF ?_
        refine tC_to (rNeD_to (b := false) .non .non rfl rfl rfl ?_)
        refine ⟨_, rfl, iteF ?_⟩
        clear s30
        refine ⟨by show 1 ≤ sizeLine; decide, fun rh hrh => ?_⟩
        have Ah : Same L0 (upd L0 rh (.lst [.str "card bus"])) := same_new hrh
        have ah : (upd L0 rh (.lst [.str "card bus"])) rh = some (.lst [.str cbR]) := upd_same
        generalize upd L0 rh (.lst [.str "card bus"]) = Xh at *
        refine ⟨_, rfl, rh, _, _, rfl, rfl, ah, by omega, by omega, by show 1 * _ ≤ _; omega, fun ph hph => ?_⟩
        rw [show ((14 : Int) + ((n3 : Nat) : Int)).toNat = 14 + n3 by omega, mul_cb]
        have Bh : Same Xh (upd Xh ph (.lst ((manyR (14 + n3)).map V.str))) := same_new hph
        have bh : (upd Xh ph (.lst ((manyR (14 + n3)).map V.str))) ph = some (.lst ((manyR (14 + n3)).map V.str)) := upd_same
        generalize upd Xh ph (.lst ((manyR (14 + n3)).map V.str)) = Yh at *
        have Mh := Ah.trans Bh
        clear Ah ah Bh hrh hph
        replace R := R.same Mh
        replace g := Mh _ _ g
        replace w := Mh _ _ w
        replace P := P.imm Mh.imm
        refine ⟨_, rfl, by show 1 ≤ sizeLine; decide, fun l8 hl8 => ?_⟩
        have s40 : Same Yh (upd Yh l8 (.lst [.str bb.1])) := same_new hl8
        have e40 : (upd Yh l8 (.lst [.str bb.1])) l8 = some (.lst [.str bb.1]) := upd_same
        replace R := R.same s40
        replace g := s40 _ _ g
        replace w := s40 _ _ w
        replace P := P.imm s40.imm
        generalize upd Yh l8 (.lst [.str bb.1]) = L2' at *
        refine ⟨ph, l8, _, _, rfl, rfl, s40 _ _ bh, e40, by rw [List.length_map, hml]; show 14 + n3 + 1 ≤ sizeLine; omega, fun l9 hl9 => ?_⟩
        have e41 : (upd L2' l9 (.lst ((manyR (14 + n3)).map V.str ++ [.str bb.1]))) l9 = some (.lst ((manyR (14 + n3) ++ [bb.1]).map V.str)) := by
          rw [upd_same, List.map_append]
          rfl
        have s41 := same_new (o := .lst ((manyR (14 + n3)).map V.str ++ [.str bb.1])) hl9
        replace R := R.same s41
        replace g := s41 _ _ g
        replace w := s41 _ _ w
        replace P := P.imm s41.imm
        generalize upd L2' l9 (.lst ((manyR (14 + n3)).map V.str ++ [.str bb.1])) = L3 at *
        refine ⟨l9, manyR (14 + n3) ++ [bb.1], rfl, SqL.of e41, (rp_many hm5).more (by rw [hml]; omega) (bad_pool bb hb), fun v L4 s42 dD => ?_⟩
        replace R := R.same s42
        replace g := s42 _ _ g
        replace w := s42 _ _ w
        replace P := P.imm s42.imm
        rw [d_card (f_manyb n3 hm5 bb hb)] at dD
        obtain ⟨tvD, rfl, hvD⟩ := dp_ss dD
        refine ⟨_, rfl, by show 2 ≤ sizeLine; decide, fun ttD httD => ?_⟩
        have s9D := same_new (o := .tup [.str "card", .str bb.2]) httD
        refine rNeD_to (b := false) (dp_tStrs (s9D.seqT hvD)) (dp_tStrs (ws := ["card", bb.2]) (SqT.of upd_same)) (sh_tStrs _ (ok2 hb)) (sh_tStrs _ (ok2 hb)) (strs_self _) ?_
        replace R := R.same s9D
        replace g := s9D _ _ g
        replace w := s9D _ _ w
        replace P := P.imm s9D.imm
        refine ⟨_, rfl, iteF ?_⟩
        exact ⟨_, _, _, _, _, _, _, rfl, R, g, w, P⟩
    · obtain ⟨y4, y5, y6, y7, y8, y9, y10, rfl, _⟩ := hP
      exact k H4
end
end
end My
namespace My
open PySem L2
theorem all_mk {l : PySem.W.OpenLaw} {w : World} {K : PySem.W.Frag} {h : Heap} {mg : Str → Option Value} {fa : Addr}
    {t_LETTERS : Tok} {t_DIGITS : Tok} {t_LONGEST_WORD : Tok} {t_MOST_BOOKS : Tok} {t_LAST_BOOK : Tok} {t_MOST_ALSO : Tok} {t_MOST_CARDS : Tok} {t_MOST_DIGITS : Tok} {f_InvalidCard_init : Addr} {oc_InvalidCard_init : Value} {od_InvalidCard_init : Option Addr} {an_InvalidCard_init : Option Addr} {sl_InvalidCard_init : Array (Option Value)} {kV_InvalidCard_init : Value} {dc_InvalidCard_init : Value} {pm_InvalidCard_init : Value} {cd_InvalidCard_init : Value} {ct_InvalidCard_init : Value} {f_InvalidText_init : Addr} {oc_InvalidText_init : Value} {od_InvalidText_init : Option Addr} {an_InvalidText_init : Option Addr} {sl_InvalidText_init : Array (Option Value)} {kV_InvalidText_init : Value} {dc_InvalidText_init : Value} {pm_InvalidText_init : Value} {cd_InvalidText_init : Value} {ct_InvalidText_init : Value} {f_is_word : Addr} {oc_is_word : Value} {od_is_word : Option Addr} {an_is_word : Option Addr} {sl_is_word : Array (Option Value)} {kV_is_word : Value} {dc_is_word : Value} {pm_is_word : Value} {cd_is_word : Value} {ct_is_word : Value} {f_is_number : Addr} {oc_is_number : Value} {od_is_number : Option Addr} {an_is_number : Option Addr} {sl_is_number : Array (Option Value)} {kV_is_number : Value} {dc_is_number : Value} {pm_is_number : Value} {cd_is_number : Value} {ct_is_number : Value} {f_is_digits : Addr} {oc_is_digits : Value} {od_is_digits : Option Addr} {an_is_digits : Option Addr} {sl_is_digits : Array (Option Value)} {kV_is_digits : Value} {dc_is_digits : Value} {pm_is_digits : Value} {cd_is_digits : Value} {ct_is_digits : Value} {f_are_books : Addr} {oc_are_books : Value} {od_are_books : Option Addr} {an_are_books : Option Addr} {sl_are_books : Array (Option Value)} {kV_are_books : Value} {dc_are_books : Value} {pm_are_books : Value} {cd_are_books : Value} {ct_are_books : Value} {f_is_target : Addr} {oc_is_target : Value} {od_is_target : Option Addr} {an_is_target : Option Addr} {sl_is_target : Array (Option Value)} {kV_is_target : Value} {dc_is_target : Value} {pm_is_target : Value} {cd_is_target : Value} {ct_is_target : Value} {f_are_further : Addr} {oc_are_further : Value} {od_are_further : Option Addr} {an_are_further : Option Addr} {sl_are_further : Array (Option Value)} {kV_are_further : Value} {dc_are_further : Value} {pm_are_further : Value} {cd_are_further : Value} {ct_are_further : Value} {f_wrong_part : Addr} {oc_wrong_part : Value} {od_wrong_part : Option Addr} {an_wrong_part : Option Addr} {sl_wrong_part : Array (Option Value)} {kV_wrong_part : Value} {dc_wrong_part : Value} {pm_wrong_part : Value} {cd_wrong_part : Value} {ct_wrong_part : Value} {f_Card_init : Addr} {de_Card_init_0 : Addr} {de_Card_init_2 : Addr} {do_e_Card_init_2 : Option Addr} {dm_e_Card_init_2 : Nat} {dl_e_Card_init_2 : Array (Option Value)} {oc_Card_init : Value} {od_Card_init : Option Addr} {an_Card_init : Option Addr} {sl_Card_init : Array (Option Value)} {kV_Card_init : Value} {dc_Card_init : Value} {pm_Card_init : Value} {cd_Card_init : Value} {ct_Card_init : Value} {dT_Card_init : Addr} {dc0_Card_init : Value} {dd_Card_init : Option Addr} {dn_Card_init : Nat} {ds_Card_init : Array (Option Value)} {du_Card_init_1 : Tok} {f_Drawer_init : Addr} {oc_Drawer_init : Value} {od_Drawer_init : Option Addr} {an_Drawer_init : Option Addr} {sl_Drawer_init : Array (Option Value)} {kV_Drawer_init : Value} {dc_Drawer_init : Value} {pm_Drawer_init : Value} {cd_Drawer_init : Value} {ct_Drawer_init : Value} {f_words_by_row : Addr} {oc_words_by_row : Value} {od_words_by_row : Option Addr} {an_words_by_row : Option Addr} {sl_words_by_row : Array (Option Value)} {kV_words_by_row : Value} {dc_words_by_row : Value} {pm_words_by_row : Value} {cd_words_by_row : Value} {ct_words_by_row : Value} {f_is_book : Addr} {oc_is_book : Value} {od_is_book : Option Addr} {an_is_book : Option Addr} {sl_is_book : Array (Option Value)} {kV_is_book : Value} {dc_is_book : Value} {pm_is_book : Value} {cd_is_book : Value} {ct_is_book : Value} {f_index_of_also : Addr} {oc_index_of_also : Value} {od_index_of_also : Option Addr} {an_index_of_also : Option Addr} {sl_index_of_also : Array (Option Value)} {kV_index_of_also : Value} {dc_index_of_also : Value} {pm_index_of_also : Value} {cd_index_of_also : Value} {ct_index_of_also : Value} {f_wrong_in_see : Addr} {oc_wrong_in_see : Value} {od_wrong_in_see : Option Addr} {an_wrong_in_see : Option Addr} {sl_wrong_in_see : Array (Option Value)} {kV_wrong_in_see : Value} {dc_wrong_in_see : Value} {pm_wrong_in_see : Value} {cd_wrong_in_see : Value} {ct_wrong_in_see : Value} {f_wrong_in_entry : Addr} {oc_wrong_in_entry : Value} {od_wrong_in_entry : Option Addr} {an_wrong_in_entry : Option Addr} {sl_wrong_in_entry : Array (Option Value)} {kV_wrong_in_entry : Value} {dc_wrong_in_entry : Value} {pm_wrong_in_entry : Value} {cd_wrong_in_entry : Value} {ct_wrong_in_entry : Value} {f_wrong_word : Addr} {oc_wrong_word : Value} {od_wrong_word : Option Addr} {an_wrong_word : Option Addr} {sl_wrong_word : Array (Option Value)} {kV_wrong_word : Value} {dc_wrong_word : Value} {pm_wrong_word : Value} {cd_wrong_word : Value} {ct_wrong_word : Value} {f_card_by : Addr} {oc_card_by : Value} {od_card_by : Option Addr} {an_card_by : Option Addr} {sl_card_by : Array (Option Value)} {kV_card_by : Value} {dc_card_by : Value} {pm_card_by : Value} {cd_card_by : Value} {ct_card_by : Value} {f_parse_drawer : Addr} {oc_parse_drawer : Value} {od_parse_drawer : Option Addr} {an_parse_drawer : Option Addr} {sl_parse_drawer : Array (Option Value)} {kV_parse_drawer : Value} {dc_parse_drawer : Value} {pm_parse_drawer : Value} {cd_parse_drawer : Value} {ct_parse_drawer : Value} {f_llaw_taken : Addr} {oc_llaw_taken : Value} {od_llaw_taken : Option Addr} {an_llaw_taken : Option Addr} {sl_llaw_taken : Array (Option Value)} {kV_llaw_taken : Value} {dc_llaw_taken : Value} {pm_llaw_taken : Value} {cd_llaw_taken : Value} {ct_llaw_taken : Value} {f_llaw_place : Addr} {oc_llaw_place : Value} {od_llaw_place : Option Addr} {an_llaw_place : Option Addr} {sl_llaw_place : Array (Option Value)} {kV_llaw_place : Value} {dc_llaw_place : Value} {pm_llaw_place : Value} {cd_llaw_place : Value} {ct_llaw_place : Value} {f_law : Addr} {oc_law : Value} {od_law : Option Addr} {an_law : Option Addr} {sl_law : Array (Option Value)} {kV_law : Value} {dc_law : Value} {pm_law : Value} {cd_law : Value} {ct_law : Value} {C_SeeError : Addr} {C_InvalidCard : Addr} {on_InvalidCard : Str} {oq_InvalidCard : Str} {oN_InvalidCard : Addr} {obs_InvalidCard : List Value} {obm_InvalidCard : List Value} {osn_InvalidCard : List Str} {osu_InvalidCard : List Value} {oab_InvalidCard : Bool} {oco_InvalidCard : Option Bool} {odd_InvalidCard : Option Addr} {ok0_InvalidCard : Option Value} {ok1_InvalidCard : Option Value} {ok2_InvalidCard : Option Value} {ok3_InvalidCard : Option Value} {ok5_InvalidCard : Option Value} {C_InvalidDrawer : Addr} {C_InvalidText : Addr} {on_InvalidText : Str} {oq_InvalidText : Str} {oN_InvalidText : Addr} {obs_InvalidText : List Value} {obm_InvalidText : List Value} {osn_InvalidText : List Str} {osu_InvalidText : List Value} {oab_InvalidText : Bool} {oco_InvalidText : Option Bool} {odd_InvalidText : Option Addr} {ok0_InvalidText : Option Value} {ok1_InvalidText : Option Value} {ok2_InvalidText : Option Value} {ok3_InvalidText : Option Value} {ok5_InvalidText : Option Value} {C_Card : Addr} {C_Drawer : Addr}
    (X : K.In h) (G : h.Ns mainGlobals mg) (hfa : mg "law" = some (.ref fa))
    (z_all : PySem.W.nsIn K mainGlobals "all" = some none)
    (z_bool : PySem.W.nsIn K mainGlobals "bool" = some none)
    (z_enumerate : PySem.W.nsIn K mainGlobals "enumerate" = some none)
    (z_int : PySem.W.nsIn K mainGlobals "int" = some none)
    (z_isinstance : PySem.W.nsIn K mainGlobals "isinstance" = some none)
    (z_len : PySem.W.nsIn K mainGlobals "len" = some none)
    (z_range : PySem.W.nsIn K mainGlobals "range" = some none)
    (z_set : PySem.W.nsIn K mainGlobals "set" = some none)
    (z_str : PySem.W.nsIn K mainGlobals "str" = some none)
    (z_tuple : PySem.W.nsIn K mainGlobals "tuple" = some none)
    (z_zip : PySem.W.nsIn K mainGlobals "zip" = some none)
    (zc_LETTERS : PySem.W.nsIn K mainGlobals "LETTERS" = some (some (.str "abcdefghijklmnopqrstuvwxyz" t_LETTERS)))
    (zc_DIGITS : PySem.W.nsIn K mainGlobals "DIGITS" = some (some (.str "0123456789" t_DIGITS)))
    (zc_LONGEST_WORD : PySem.W.nsIn K mainGlobals "LONGEST_WORD" = some (some (.int (8) t_LONGEST_WORD)))
    (zc_MOST_BOOKS : PySem.W.nsIn K mainGlobals "MOST_BOOKS" = some (some (.int (6) t_MOST_BOOKS)))
    (zc_LAST_BOOK : PySem.W.nsIn K mainGlobals "LAST_BOOK" = some (some (.int (999) t_LAST_BOOK)))
    (zc_MOST_ALSO : PySem.W.nsIn K mainGlobals "MOST_ALSO" = some (some (.int (4) t_MOST_ALSO)))
    (zc_MOST_CARDS : PySem.W.nsIn K mainGlobals "MOST_CARDS" = some (some (.int (16) t_MOST_CARDS)))
    (zc_MOST_DIGITS : PySem.W.nsIn K mainGlobals "MOST_DIGITS" = some (some (.int (3) t_MOST_DIGITS)))
    (l_InvalidCard_init : K.lookup f_InvalidCard_init = some ⟨oc_InvalidCard_init, od_InvalidCard_init, .func (PySem.W.fnOf "__init__" "InvalidCard.__init__" (defArgs s_InvalidCard_init) (defBody s_InvalidCard_init) (defScope s_InvalidCard_init) .none kV_InvalidCard_init dc_InvalidCard_init pm_InvalidCard_init an_InvalidCard_init cd_InvalidCard_init ct_InvalidCard_init), sl_InvalidCard_init⟩)
    (c_InvalidCard_init : PySem.W.codeIn K cd_InvalidCard_init "InvalidCard.__init__" = true)
    (k_InvalidCard_init : PySem.W.keepIn K (.ref f_InvalidCard_init) = true)
    (l_InvalidText_init : K.lookup f_InvalidText_init = some ⟨oc_InvalidText_init, od_InvalidText_init, .func (PySem.W.fnOf "__init__" "InvalidText.__init__" (defArgs s_InvalidText_init) (defBody s_InvalidText_init) (defScope s_InvalidText_init) .none kV_InvalidText_init dc_InvalidText_init pm_InvalidText_init an_InvalidText_init cd_InvalidText_init ct_InvalidText_init), sl_InvalidText_init⟩)
    (c_InvalidText_init : PySem.W.codeIn K cd_InvalidText_init "InvalidText.__init__" = true)
    (k_InvalidText_init : PySem.W.keepIn K (.ref f_InvalidText_init) = true)
    (l_is_word : K.lookup f_is_word = some ⟨oc_is_word, od_is_word, .func (PySem.W.fnOf "is_word" "is_word" (defArgs s_is_word) (defBody s_is_word) (defScope s_is_word) .none kV_is_word dc_is_word pm_is_word an_is_word cd_is_word ct_is_word), sl_is_word⟩)
    (c_is_word : PySem.W.codeIn K cd_is_word "is_word" = true)
    (k_is_word : PySem.W.keepIn K (.ref f_is_word) = true)
    (n_is_word : PySem.W.nsIn K mainGlobals "is_word" = some (some (.ref f_is_word)))
    (l_is_number : K.lookup f_is_number = some ⟨oc_is_number, od_is_number, .func (PySem.W.fnOf "is_number" "is_number" (defArgs s_is_number) (defBody s_is_number) (defScope s_is_number) .none kV_is_number dc_is_number pm_is_number an_is_number cd_is_number ct_is_number), sl_is_number⟩)
    (c_is_number : PySem.W.codeIn K cd_is_number "is_number" = true)
    (k_is_number : PySem.W.keepIn K (.ref f_is_number) = true)
    (n_is_number : PySem.W.nsIn K mainGlobals "is_number" = some (some (.ref f_is_number)))
    (l_is_digits : K.lookup f_is_digits = some ⟨oc_is_digits, od_is_digits, .func (PySem.W.fnOf "is_digits" "is_digits" (defArgs s_is_digits) (defBody s_is_digits) (defScope s_is_digits) .none kV_is_digits dc_is_digits pm_is_digits an_is_digits cd_is_digits ct_is_digits), sl_is_digits⟩)
    (c_is_digits : PySem.W.codeIn K cd_is_digits "is_digits" = true)
    (k_is_digits : PySem.W.keepIn K (.ref f_is_digits) = true)
    (n_is_digits : PySem.W.nsIn K mainGlobals "is_digits" = some (some (.ref f_is_digits)))
    (l_are_books : K.lookup f_are_books = some ⟨oc_are_books, od_are_books, .func (PySem.W.fnOf "are_books" "are_books" (defArgs s_are_books) (defBody s_are_books) (defScope s_are_books) .none kV_are_books dc_are_books pm_are_books an_are_books cd_are_books ct_are_books), sl_are_books⟩)
    (c_are_books : PySem.W.codeIn K cd_are_books "are_books" = true)
    (k_are_books : PySem.W.keepIn K (.ref f_are_books) = true)
    (n_are_books : PySem.W.nsIn K mainGlobals "are_books" = some (some (.ref f_are_books)))
    (l_is_target : K.lookup f_is_target = some ⟨oc_is_target, od_is_target, .func (PySem.W.fnOf "is_target" "is_target" (defArgs s_is_target) (defBody s_is_target) (defScope s_is_target) .none kV_is_target dc_is_target pm_is_target an_is_target cd_is_target ct_is_target), sl_is_target⟩)
    (c_is_target : PySem.W.codeIn K cd_is_target "is_target" = true)
    (k_is_target : PySem.W.keepIn K (.ref f_is_target) = true)
    (n_is_target : PySem.W.nsIn K mainGlobals "is_target" = some (some (.ref f_is_target)))
    (l_are_further : K.lookup f_are_further = some ⟨oc_are_further, od_are_further, .func (PySem.W.fnOf "are_further" "are_further" (defArgs s_are_further) (defBody s_are_further) (defScope s_are_further) .none kV_are_further dc_are_further pm_are_further an_are_further cd_are_further ct_are_further), sl_are_further⟩)
    (c_are_further : PySem.W.codeIn K cd_are_further "are_further" = true)
    (k_are_further : PySem.W.keepIn K (.ref f_are_further) = true)
    (n_are_further : PySem.W.nsIn K mainGlobals "are_further" = some (some (.ref f_are_further)))
    (l_wrong_part : K.lookup f_wrong_part = some ⟨oc_wrong_part, od_wrong_part, .func (PySem.W.fnOf "wrong_part" "wrong_part" (defArgs s_wrong_part) (defBody s_wrong_part) (defScope s_wrong_part) .none kV_wrong_part dc_wrong_part pm_wrong_part an_wrong_part cd_wrong_part ct_wrong_part), sl_wrong_part⟩)
    (c_wrong_part : PySem.W.codeIn K cd_wrong_part "wrong_part" = true)
    (k_wrong_part : PySem.W.keepIn K (.ref f_wrong_part) = true)
    (n_wrong_part : PySem.W.nsIn K mainGlobals "wrong_part" = some (some (.ref f_wrong_part)))
    (hk_Card_init_2 : K.lookup de_Card_init_2 = some ⟨.type "tuple", do_e_Card_init_2, .seq #[] dm_e_Card_init_2, dl_e_Card_init_2⟩)
    (l_Card_init : K.lookup f_Card_init = some ⟨oc_Card_init, od_Card_init, .func (PySem.W.fnOf "__init__" "Card.__init__" (defArgs s_Card_init) (defBody s_Card_init) (defScope s_Card_init) (.ref dT_Card_init) kV_Card_init dc_Card_init pm_Card_init an_Card_init cd_Card_init ct_Card_init), sl_Card_init⟩)
    (c_Card_init : PySem.W.codeIn K cd_Card_init "Card.__init__" = true)
    (k_Card_init : PySem.W.keepIn K (.ref f_Card_init) = true)
    (dk_Card_init : K.lookup dT_Card_init = some ⟨dc0_Card_init, dd_Card_init, .seq #[.ref de_Card_init_0, .str "" du_Card_init_1, .ref de_Card_init_2] dn_Card_init, ds_Card_init⟩)
    (l_Drawer_init : K.lookup f_Drawer_init = some ⟨oc_Drawer_init, od_Drawer_init, .func (PySem.W.fnOf "__init__" "Drawer.__init__" (defArgs s_Drawer_init) (defBody s_Drawer_init) (defScope s_Drawer_init) .none kV_Drawer_init dc_Drawer_init pm_Drawer_init an_Drawer_init cd_Drawer_init ct_Drawer_init), sl_Drawer_init⟩)
    (c_Drawer_init : PySem.W.codeIn K cd_Drawer_init "Drawer.__init__" = true)
    (k_Drawer_init : PySem.W.keepIn K (.ref f_Drawer_init) = true)
    (l_words_by_row : K.lookup f_words_by_row = some ⟨oc_words_by_row, od_words_by_row, .func (PySem.W.fnOf "words_by_row" "words_by_row" (defArgs s_words_by_row) (defBody s_words_by_row) (defScope s_words_by_row) .none kV_words_by_row dc_words_by_row pm_words_by_row an_words_by_row cd_words_by_row ct_words_by_row), sl_words_by_row⟩)
    (c_words_by_row : PySem.W.codeIn K cd_words_by_row "words_by_row" = true)
    (k_words_by_row : PySem.W.keepIn K (.ref f_words_by_row) = true)
    (n_words_by_row : PySem.W.nsIn K mainGlobals "words_by_row" = some (some (.ref f_words_by_row)))
    (l_is_book : K.lookup f_is_book = some ⟨oc_is_book, od_is_book, .func (PySem.W.fnOf "is_book" "is_book" (defArgs s_is_book) (defBody s_is_book) (defScope s_is_book) .none kV_is_book dc_is_book pm_is_book an_is_book cd_is_book ct_is_book), sl_is_book⟩)
    (c_is_book : PySem.W.codeIn K cd_is_book "is_book" = true)
    (k_is_book : PySem.W.keepIn K (.ref f_is_book) = true)
    (n_is_book : PySem.W.nsIn K mainGlobals "is_book" = some (some (.ref f_is_book)))
    (l_index_of_also : K.lookup f_index_of_also = some ⟨oc_index_of_also, od_index_of_also, .func (PySem.W.fnOf "index_of_also" "index_of_also" (defArgs s_index_of_also) (defBody s_index_of_also) (defScope s_index_of_also) .none kV_index_of_also dc_index_of_also pm_index_of_also an_index_of_also cd_index_of_also ct_index_of_also), sl_index_of_also⟩)
    (c_index_of_also : PySem.W.codeIn K cd_index_of_also "index_of_also" = true)
    (k_index_of_also : PySem.W.keepIn K (.ref f_index_of_also) = true)
    (n_index_of_also : PySem.W.nsIn K mainGlobals "index_of_also" = some (some (.ref f_index_of_also)))
    (l_wrong_in_see : K.lookup f_wrong_in_see = some ⟨oc_wrong_in_see, od_wrong_in_see, .func (PySem.W.fnOf "wrong_in_see" "wrong_in_see" (defArgs s_wrong_in_see) (defBody s_wrong_in_see) (defScope s_wrong_in_see) .none kV_wrong_in_see dc_wrong_in_see pm_wrong_in_see an_wrong_in_see cd_wrong_in_see ct_wrong_in_see), sl_wrong_in_see⟩)
    (c_wrong_in_see : PySem.W.codeIn K cd_wrong_in_see "wrong_in_see" = true)
    (k_wrong_in_see : PySem.W.keepIn K (.ref f_wrong_in_see) = true)
    (n_wrong_in_see : PySem.W.nsIn K mainGlobals "wrong_in_see" = some (some (.ref f_wrong_in_see)))
    (l_wrong_in_entry : K.lookup f_wrong_in_entry = some ⟨oc_wrong_in_entry, od_wrong_in_entry, .func (PySem.W.fnOf "wrong_in_entry" "wrong_in_entry" (defArgs s_wrong_in_entry) (defBody s_wrong_in_entry) (defScope s_wrong_in_entry) .none kV_wrong_in_entry dc_wrong_in_entry pm_wrong_in_entry an_wrong_in_entry cd_wrong_in_entry ct_wrong_in_entry), sl_wrong_in_entry⟩)
    (c_wrong_in_entry : PySem.W.codeIn K cd_wrong_in_entry "wrong_in_entry" = true)
    (k_wrong_in_entry : PySem.W.keepIn K (.ref f_wrong_in_entry) = true)
    (n_wrong_in_entry : PySem.W.nsIn K mainGlobals "wrong_in_entry" = some (some (.ref f_wrong_in_entry)))
    (l_wrong_word : K.lookup f_wrong_word = some ⟨oc_wrong_word, od_wrong_word, .func (PySem.W.fnOf "wrong_word" "wrong_word" (defArgs s_wrong_word) (defBody s_wrong_word) (defScope s_wrong_word) .none kV_wrong_word dc_wrong_word pm_wrong_word an_wrong_word cd_wrong_word ct_wrong_word), sl_wrong_word⟩)
    (c_wrong_word : PySem.W.codeIn K cd_wrong_word "wrong_word" = true)
    (k_wrong_word : PySem.W.keepIn K (.ref f_wrong_word) = true)
    (n_wrong_word : PySem.W.nsIn K mainGlobals "wrong_word" = some (some (.ref f_wrong_word)))
    (l_card_by : K.lookup f_card_by = some ⟨oc_card_by, od_card_by, .func (PySem.W.fnOf "card_by" "card_by" (defArgs s_card_by) (defBody s_card_by) (defScope s_card_by) .none kV_card_by dc_card_by pm_card_by an_card_by cd_card_by ct_card_by), sl_card_by⟩)
    (c_card_by : PySem.W.codeIn K cd_card_by "card_by" = true)
    (k_card_by : PySem.W.keepIn K (.ref f_card_by) = true)
    (n_card_by : PySem.W.nsIn K mainGlobals "card_by" = some (some (.ref f_card_by)))
    (l_parse_drawer : K.lookup f_parse_drawer = some ⟨oc_parse_drawer, od_parse_drawer, .func (PySem.W.fnOf "parse_drawer" "parse_drawer" (defArgs s_parse_drawer) (defBody s_parse_drawer) (defScope s_parse_drawer) .none kV_parse_drawer dc_parse_drawer pm_parse_drawer an_parse_drawer cd_parse_drawer ct_parse_drawer), sl_parse_drawer⟩)
    (c_parse_drawer : PySem.W.codeIn K cd_parse_drawer "parse_drawer" = true)
    (k_parse_drawer : PySem.W.keepIn K (.ref f_parse_drawer) = true)
    (n_parse_drawer : PySem.W.nsIn K mainGlobals "parse_drawer" = some (some (.ref f_parse_drawer)))
    (l_llaw_taken : K.lookup f_llaw_taken = some ⟨oc_llaw_taken, od_llaw_taken, .func (PySem.W.fnOf "_law_taken" "_law_taken" (defArgs s_llaw_taken) (defBody s_llaw_taken) (defScope s_llaw_taken) .none kV_llaw_taken dc_llaw_taken pm_llaw_taken an_llaw_taken cd_llaw_taken ct_llaw_taken), sl_llaw_taken⟩)
    (c_llaw_taken : PySem.W.codeIn K cd_llaw_taken "_law_taken" = true)
    (k_llaw_taken : PySem.W.keepIn K (.ref f_llaw_taken) = true)
    (n_llaw_taken : PySem.W.nsIn K mainGlobals "_law_taken" = some (some (.ref f_llaw_taken)))
    (l_llaw_place : K.lookup f_llaw_place = some ⟨oc_llaw_place, od_llaw_place, .func (PySem.W.fnOf "_law_place" "_law_place" (defArgs s_llaw_place) (defBody s_llaw_place) (defScope s_llaw_place) .none kV_llaw_place dc_llaw_place pm_llaw_place an_llaw_place cd_llaw_place ct_llaw_place), sl_llaw_place⟩)
    (c_llaw_place : PySem.W.codeIn K cd_llaw_place "_law_place" = true)
    (k_llaw_place : PySem.W.keepIn K (.ref f_llaw_place) = true)
    (n_llaw_place : PySem.W.nsIn K mainGlobals "_law_place" = some (some (.ref f_llaw_place)))
    (l_law : K.lookup f_law = some ⟨oc_law, od_law, .func (PySem.W.fnOf "law" "law" (defArgs s_law) (defBody s_law) (defScope s_law) .none kV_law dc_law pm_law an_law cd_law ct_law), sl_law⟩)
    (c_law : PySem.W.codeIn K cd_law "law" = true)
    (k_law : PySem.W.keepIn K (.ref f_law) = true)
    (n_law : PySem.W.nsIn K mainGlobals "law" = some (some (.ref f_law)))
    (n_SeeError : PySem.W.nsIn K mainGlobals "SeeError" = some (some (.ref C_SeeError)))
    (zbbg_SeeError : PySem.W.specialIn K (.ref C_SeeError) "__getattribute__" = some (some (.builtin "type.__getattribute__")))
    (zbbr_SeeError : PySem.W.readsIn K C_SeeError (.type "type") = true)
    (zbbv_SeeError : PySem.W.findCls K (.ref C_SeeError) (.type "type") "__init__" = some (.val (.builtin "ValueError.__init__")))
    (n_InvalidCard : PySem.W.nsIn K mainGlobals "InvalidCard" = some (some (.ref C_InvalidCard)))
    (zox1_InvalidCard : K.lookup C_InvalidCard = some (PySem.excClassObj on_InvalidCard oq_InvalidCard C_InvalidCard oN_InvalidCard obs_InvalidCard obm_InvalidCard true osn_InvalidCard osu_InvalidCard oab_InvalidCard oco_InvalidCard odd_InvalidCard ok0_InvalidCard ok1_InvalidCard ok2_InvalidCard ok3_InvalidCard ok5_InvalidCard "ValueError.__new__"))
    (zq_ox2_InvalidCard : PySem.HandSPX.refsVE obm_InvalidCard = true)
    (zox3_InvalidCard : PySem.W.findIn K (.ref C_InvalidCard) "__setattr__" = some (some (.builtin "object.__setattr__")))
    (zox4_InvalidCard : PySem.W.subIn K (.ref C_InvalidCard) (.type "BaseException") = some true)
    (zox5_InvalidCard : PySem.W.typeIn K (.ref C_InvalidCard) = some (.type "type"))
    (zox6_InvalidCard : PySem.W.keepIn K (.ref C_InvalidCard) = true)
    (zoi_InvalidCard : PySem.W.findIn K (.ref C_InvalidCard) "__init__" = some (some (.ref f_InvalidCard_init)))
    (zot_InvalidCard : PySem.W.typeIn K (.ref f_InvalidCard_init) = some (.type "function"))
    (znf_InvalidCard_part : PySem.W.findIn K (.ref C_InvalidCard) "part" = some none)
    (zxg_InvalidCard : PySem.W.findIn K (.ref C_InvalidCard) "__getattribute__" = some (some (.builtin "BaseException.__getattribute__")))
    (zxa_InvalidCard : PySem.W.findIn K (.ref C_InvalidCard) "__getattr__" = some none)
    (zxb_InvalidCard : PySem.W.subIn K (.ref C_InvalidCard) (.type "BaseException") = some true)
    (zxd_InvalidCard : PySem.W.hasDictIn K C_InvalidCard = true)
    (n_InvalidDrawer : PySem.W.nsIn K mainGlobals "InvalidDrawer" = some (some (.ref C_InvalidDrawer)))
    (zxe_InvalidDrawer : PySem.W.excIn K C_InvalidDrawer [.type "ValueError", .type "Exception", .type "BaseException", .type "object"] "ValueError.__new__" = true)
    (zxk_InvalidDrawer : PySem.W.keepIn K (.ref C_InvalidDrawer) = true)
    (zxs_InvalidDrawer : PySem.W.subIn K (.ref C_InvalidDrawer) (.type "BaseException") = some true)
    (zxt_InvalidDrawer : PySem.W.typeIn K (.ref C_InvalidDrawer) = some (.type "type"))
    (n_InvalidText : PySem.W.nsIn K mainGlobals "InvalidText" = some (some (.ref C_InvalidText)))
    (zox1_InvalidText : K.lookup C_InvalidText = some (PySem.excClassObj on_InvalidText oq_InvalidText C_InvalidText oN_InvalidText obs_InvalidText obm_InvalidText true osn_InvalidText osu_InvalidText oab_InvalidText oco_InvalidText odd_InvalidText ok0_InvalidText ok1_InvalidText ok2_InvalidText ok3_InvalidText ok5_InvalidText "ValueError.__new__"))
    (zq_ox2_InvalidText : PySem.HandSPX.refsVE obm_InvalidText = true)
    (zox3_InvalidText : PySem.W.findIn K (.ref C_InvalidText) "__setattr__" = some (some (.builtin "object.__setattr__")))
    (zox4_InvalidText : PySem.W.subIn K (.ref C_InvalidText) (.type "BaseException") = some true)
    (zox5_InvalidText : PySem.W.typeIn K (.ref C_InvalidText) = some (.type "type"))
    (zox6_InvalidText : PySem.W.keepIn K (.ref C_InvalidText) = true)
    (zoi_InvalidText : PySem.W.findIn K (.ref C_InvalidText) "__init__" = some (some (.ref f_InvalidText_init)))
    (zot_InvalidText : PySem.W.typeIn K (.ref f_InvalidText_init) = some (.type "function"))
    (znf_InvalidText_row : PySem.W.findIn K (.ref C_InvalidText) "row" = some none)
    (znf_InvalidText_word : PySem.W.findIn K (.ref C_InvalidText) "word" = some none)
    (zxg_InvalidText : PySem.W.findIn K (.ref C_InvalidText) "__getattribute__" = some (some (.builtin "BaseException.__getattribute__")))
    (zxa_InvalidText : PySem.W.findIn K (.ref C_InvalidText) "__getattr__" = some none)
    (zxb_InvalidText : PySem.W.subIn K (.ref C_InvalidText) (.type "BaseException") = some true)
    (zxd_InvalidText : PySem.W.hasDictIn K C_InvalidText = true)
    (n_Card : PySem.W.nsIn K mainGlobals "Card" = some (some (.ref C_Card)))
    (cg_Card : PySem.W.plainGet K C_Card Str.empty = true)
    (ch_Card : PySem.W.hasDictIn K C_Card = true)
    (cp_Card : PySem.W.plainOver K C_Card = true)
    (cs_Card : PySem.W.findIn K (.ref C_Card) "__setattr__" = some (some (.builtin "object.__setattr__")))
    (na_Card__heading : PySem.W.findIn K (.ref C_Card) "_heading" = some none)
    (na_Card__books : PySem.W.findIn K (.ref C_Card) "_books" = some none)
    (na_Card__see : PySem.W.findIn K (.ref C_Card) "_see" = some none)
    (na_Card__also : PySem.W.findIn K (.ref C_Card) "_also" = some none)
    (mk1_Card : PySem.W.makesIn K C_Card = true)
    (mk2_Card : PySem.W.findIn K (.ref C_Card) "__init__" = some (some (.ref f_Card_init)))
    (mk3_Card : PySem.W.isFn K (.ref f_Card_init) = true)
    (mk4_Card : PySem.W.keepIn K (.ref C_Card) = true)
    (n_Drawer : PySem.W.nsIn K mainGlobals "Drawer" = some (some (.ref C_Drawer)))
    (cg_Drawer : PySem.W.plainGet K C_Drawer Str.empty = true)
    (ch_Drawer : PySem.W.hasDictIn K C_Drawer = true)
    (cp_Drawer : PySem.W.plainOver K C_Drawer = true)
    (cs_Drawer : PySem.W.findIn K (.ref C_Drawer) "__setattr__" = some (some (.builtin "object.__setattr__")))
    (na_Drawer__cards : PySem.W.findIn K (.ref C_Drawer) "_cards" = some none)
    (mk1_Drawer : PySem.W.makesIn K C_Drawer = true)
    (mk2_Drawer : PySem.W.findIn K (.ref C_Drawer) "__init__" = some (some (.ref f_Drawer_init)))
    (mk3_Drawer : PySem.W.isFn K (.ref f_Drawer_init) = true)
    (mk4_Drawer : PySem.W.keepIn K (.ref C_Drawer) = true)
    (zs_InvalidCard_InvalidCard : PySem.W.subIn K (.ref C_InvalidCard) (.type "BaseException") = some true)
    (zi_InvalidCard_InvalidCard : PySem.W.isClsIn K C_InvalidCard = true)
    (zt_InvalidCard_InvalidCard : PySem.W.typeIn K (.ref C_InvalidCard) = some (.type "type"))
    (zq_InvalidCard_InvalidCard : PySem.W.subIn K (.ref C_InvalidCard) (.ref C_InvalidCard) = some true)
    (zs_InvalidCard_InvalidText : PySem.W.subIn K (.ref C_InvalidText) (.type "BaseException") = some true)
    (zi_InvalidCard_InvalidText : PySem.W.isClsIn K C_InvalidText = true)
    (zt_InvalidCard_InvalidText : PySem.W.typeIn K (.ref C_InvalidText) = some (.type "type"))
    (zq_InvalidCard_InvalidText : PySem.W.subIn K (.ref C_InvalidCard) (.ref C_InvalidText) = some false)
    (zs_InvalidDrawer_InvalidCard : PySem.W.subIn K (.ref C_InvalidCard) (.type "BaseException") = some true)
    (zi_InvalidDrawer_InvalidCard : PySem.W.isClsIn K C_InvalidCard = true)
    (zt_InvalidDrawer_InvalidCard : PySem.W.typeIn K (.ref C_InvalidCard) = some (.type "type"))
    (zq_InvalidDrawer_InvalidCard : PySem.W.subIn K (.ref C_InvalidDrawer) (.ref C_InvalidCard) = some false)
    (zs_InvalidDrawer_InvalidDrawer : PySem.W.subIn K (.ref C_InvalidDrawer) (.type "BaseException") = some true)
    (zi_InvalidDrawer_InvalidDrawer : PySem.W.isClsIn K C_InvalidDrawer = true)
    (zt_InvalidDrawer_InvalidDrawer : PySem.W.typeIn K (.ref C_InvalidDrawer) = some (.type "type"))
    (zq_InvalidDrawer_InvalidDrawer : PySem.W.subIn K (.ref C_InvalidDrawer) (.ref C_InvalidDrawer) = some true)
    (zs_InvalidDrawer_InvalidText : PySem.W.subIn K (.ref C_InvalidText) (.type "BaseException") = some true)
    (zi_InvalidDrawer_InvalidText : PySem.W.isClsIn K C_InvalidText = true)
    (zt_InvalidDrawer_InvalidText : PySem.W.typeIn K (.ref C_InvalidText) = some (.type "type"))
    (zq_InvalidDrawer_InvalidText : PySem.W.subIn K (.ref C_InvalidDrawer) (.ref C_InvalidText) = some false)
    (zs_InvalidText_InvalidText : PySem.W.subIn K (.ref C_InvalidText) (.type "BaseException") = some true)
    (zi_InvalidText_InvalidText : PySem.W.isClsIn K C_InvalidText = true)
    (zt_InvalidText_InvalidText : PySem.W.typeIn K (.ref C_InvalidText) = some (.type "type"))
    (zq_InvalidText_InvalidText : PySem.W.subIn K (.ref C_InvalidText) (.ref C_InvalidText) = some true)
    : ∃ fd : FuncData, (∀ (s : Shared) (v : Value), BindsTo s fd ⟨[v], []⟩ [("_law_script", v)]) ∧ ∀ base : Heap, K.In base → base.Ns mainGlobals mg → FnOk l.prog w K mg base CX0 9 fa fd ["_law_script"] (spLaw K) := by
  have e : fa = f_law := by
    have z := hfa.symm.trans (PySem.W.mg_of X G n_law)
    cases z
    rfl
  have T : ∃ T : Top K mg, T.a_law = f_law ∧ T.fd_law = PySem.W.fnOf "law" "law" (defArgs s_law) (defBody s_law) (defScope s_law) .none kV_law dc_law pm_law an_law cd_law ct_law := ⟨{
    m_all := PySem.W.mg_none_of X G z_all
    m_bool := PySem.W.mg_none_of X G z_bool
    m_enumerate := PySem.W.mg_none_of X G z_enumerate
    m_int := PySem.W.mg_none_of X G z_int
    m_isinstance := PySem.W.mg_none_of X G z_isinstance
    m_len := PySem.W.mg_none_of X G z_len
    m_range := PySem.W.mg_none_of X G z_range
    m_set := PySem.W.mg_none_of X G z_set
    m_str := PySem.W.mg_none_of X G z_str
    m_tuple := PySem.W.mg_none_of X G z_tuple
    m_zip := PySem.W.mg_none_of X G z_zip
    v_LETTERS := .str "abcdefghijklmnopqrstuvwxyz" t_LETTERS
    g_LETTERS := PySem.W.mg_of X G zc_LETTERS
    r_LETTERS := ⟨_, rfl⟩
    v_DIGITS := .str "0123456789" t_DIGITS
    g_DIGITS := PySem.W.mg_of X G zc_DIGITS
    r_DIGITS := ⟨_, rfl⟩
    v_LONGEST_WORD := .int (8) t_LONGEST_WORD
    g_LONGEST_WORD := PySem.W.mg_of X G zc_LONGEST_WORD
    r_LONGEST_WORD := ⟨_, rfl⟩
    v_MOST_BOOKS := .int (6) t_MOST_BOOKS
    g_MOST_BOOKS := PySem.W.mg_of X G zc_MOST_BOOKS
    r_MOST_BOOKS := ⟨_, rfl⟩
    v_LAST_BOOK := .int (999) t_LAST_BOOK
    g_LAST_BOOK := PySem.W.mg_of X G zc_LAST_BOOK
    r_LAST_BOOK := ⟨_, rfl⟩
    v_MOST_ALSO := .int (4) t_MOST_ALSO
    g_MOST_ALSO := PySem.W.mg_of X G zc_MOST_ALSO
    r_MOST_ALSO := ⟨_, rfl⟩
    v_MOST_CARDS := .int (16) t_MOST_CARDS
    g_MOST_CARDS := PySem.W.mg_of X G zc_MOST_CARDS
    r_MOST_CARDS := ⟨_, rfl⟩
    v_MOST_DIGITS := .int (3) t_MOST_DIGITS
    g_MOST_DIGITS := PySem.W.mg_of X G zc_MOST_DIGITS
    r_MOST_DIGITS := ⟨_, rfl⟩
    a_InvalidCard_init := f_InvalidCard_init
    fd_InvalidCard_init := PySem.W.fnOf "__init__" "InvalidCard.__init__" (defArgs s_InvalidCard_init) (defBody s_InvalidCard_init) (defScope s_InvalidCard_init) .none kV_InvalidCard_init dc_InvalidCard_init pm_InvalidCard_init an_InvalidCard_init cd_InvalidCard_init ct_InvalidCard_init
    F_InvalidCard_init := fun_mk (st := s_InvalidCard_init) l_InvalidCard_init c_InvalidCard_init k_InvalidCard_init
    a_InvalidText_init := f_InvalidText_init
    fd_InvalidText_init := PySem.W.fnOf "__init__" "InvalidText.__init__" (defArgs s_InvalidText_init) (defBody s_InvalidText_init) (defScope s_InvalidText_init) .none kV_InvalidText_init dc_InvalidText_init pm_InvalidText_init an_InvalidText_init cd_InvalidText_init ct_InvalidText_init
    F_InvalidText_init := fun_mk (st := s_InvalidText_init) l_InvalidText_init c_InvalidText_init k_InvalidText_init
    a_is_word := f_is_word
    fd_is_word := PySem.W.fnOf "is_word" "is_word" (defArgs s_is_word) (defBody s_is_word) (defScope s_is_word) .none kV_is_word dc_is_word pm_is_word an_is_word cd_is_word ct_is_word
    F_is_word := fun_mk (st := s_is_word) l_is_word c_is_word k_is_word
    g_is_word := PySem.W.mg_of X G n_is_word
    a_is_number := f_is_number
    fd_is_number := PySem.W.fnOf "is_number" "is_number" (defArgs s_is_number) (defBody s_is_number) (defScope s_is_number) .none kV_is_number dc_is_number pm_is_number an_is_number cd_is_number ct_is_number
    F_is_number := fun_mk (st := s_is_number) l_is_number c_is_number k_is_number
    g_is_number := PySem.W.mg_of X G n_is_number
    a_is_digits := f_is_digits
    fd_is_digits := PySem.W.fnOf "is_digits" "is_digits" (defArgs s_is_digits) (defBody s_is_digits) (defScope s_is_digits) .none kV_is_digits dc_is_digits pm_is_digits an_is_digits cd_is_digits ct_is_digits
    F_is_digits := fun_mk (st := s_is_digits) l_is_digits c_is_digits k_is_digits
    g_is_digits := PySem.W.mg_of X G n_is_digits
    a_are_books := f_are_books
    fd_are_books := PySem.W.fnOf "are_books" "are_books" (defArgs s_are_books) (defBody s_are_books) (defScope s_are_books) .none kV_are_books dc_are_books pm_are_books an_are_books cd_are_books ct_are_books
    F_are_books := fun_mk (st := s_are_books) l_are_books c_are_books k_are_books
    g_are_books := PySem.W.mg_of X G n_are_books
    a_is_target := f_is_target
    fd_is_target := PySem.W.fnOf "is_target" "is_target" (defArgs s_is_target) (defBody s_is_target) (defScope s_is_target) .none kV_is_target dc_is_target pm_is_target an_is_target cd_is_target ct_is_target
    F_is_target := fun_mk (st := s_is_target) l_is_target c_is_target k_is_target
    g_is_target := PySem.W.mg_of X G n_is_target
    a_are_further := f_are_further
    fd_are_further := PySem.W.fnOf "are_further" "are_further" (defArgs s_are_further) (defBody s_are_further) (defScope s_are_further) .none kV_are_further dc_are_further pm_are_further an_are_further cd_are_further ct_are_further
    F_are_further := fun_mk (st := s_are_further) l_are_further c_are_further k_are_further
    g_are_further := PySem.W.mg_of X G n_are_further
    a_wrong_part := f_wrong_part
    fd_wrong_part := PySem.W.fnOf "wrong_part" "wrong_part" (defArgs s_wrong_part) (defBody s_wrong_part) (defScope s_wrong_part) .none kV_wrong_part dc_wrong_part pm_wrong_part an_wrong_part cd_wrong_part ct_wrong_part
    F_wrong_part := fun_mk (st := s_wrong_part) l_wrong_part c_wrong_part k_wrong_part
    g_wrong_part := PySem.W.mg_of X G n_wrong_part
    a_Card_init := f_Card_init
    e_Card_init_0 := de_Card_init_0
    e_Card_init_2 := de_Card_init_2
    ek_Card_init_2 := fun H => .inr ⟨_, #[], _, hk_Card_init_2, rfl, rfl, Nat.zero_le _, .nil⟩
    fd_Card_init := PySem.W.fnOf "__init__" "Card.__init__" (defArgs s_Card_init) (defBody s_Card_init) (defScope s_Card_init) (.ref dT_Card_init) kV_Card_init dc_Card_init pm_Card_init an_Card_init cd_Card_init ct_Card_init
    F_Card_init := ⟨⟨_, _, _, _, _, _, _, _, _, _, rfl, l_Card_init, c_Card_init, .inr ⟨by simp, _, _, [.ref de_Card_init_0, .str "" du_Card_init_1, .ref de_Card_init_2], _, rfl, dk_Card_init, rfl, .cons rfl (.cons ⟨_, rfl⟩ (.cons rfl (.nil)))⟩, .inl rfl⟩, k_Card_init⟩
    a_Drawer_init := f_Drawer_init
    fd_Drawer_init := PySem.W.fnOf "__init__" "Drawer.__init__" (defArgs s_Drawer_init) (defBody s_Drawer_init) (defScope s_Drawer_init) .none kV_Drawer_init dc_Drawer_init pm_Drawer_init an_Drawer_init cd_Drawer_init ct_Drawer_init
    F_Drawer_init := fun_mk (st := s_Drawer_init) l_Drawer_init c_Drawer_init k_Drawer_init
    a_words_by_row := f_words_by_row
    fd_words_by_row := PySem.W.fnOf "words_by_row" "words_by_row" (defArgs s_words_by_row) (defBody s_words_by_row) (defScope s_words_by_row) .none kV_words_by_row dc_words_by_row pm_words_by_row an_words_by_row cd_words_by_row ct_words_by_row
    F_words_by_row := fun_mk (st := s_words_by_row) l_words_by_row c_words_by_row k_words_by_row
    g_words_by_row := PySem.W.mg_of X G n_words_by_row
    a_is_book := f_is_book
    fd_is_book := PySem.W.fnOf "is_book" "is_book" (defArgs s_is_book) (defBody s_is_book) (defScope s_is_book) .none kV_is_book dc_is_book pm_is_book an_is_book cd_is_book ct_is_book
    F_is_book := fun_mk (st := s_is_book) l_is_book c_is_book k_is_book
    g_is_book := PySem.W.mg_of X G n_is_book
    a_index_of_also := f_index_of_also
    fd_index_of_also := PySem.W.fnOf "index_of_also" "index_of_also" (defArgs s_index_of_also) (defBody s_index_of_also) (defScope s_index_of_also) .none kV_index_of_also dc_index_of_also pm_index_of_also an_index_of_also cd_index_of_also ct_index_of_also
    F_index_of_also := fun_mk (st := s_index_of_also) l_index_of_also c_index_of_also k_index_of_also
    g_index_of_also := PySem.W.mg_of X G n_index_of_also
    a_wrong_in_see := f_wrong_in_see
    fd_wrong_in_see := PySem.W.fnOf "wrong_in_see" "wrong_in_see" (defArgs s_wrong_in_see) (defBody s_wrong_in_see) (defScope s_wrong_in_see) .none kV_wrong_in_see dc_wrong_in_see pm_wrong_in_see an_wrong_in_see cd_wrong_in_see ct_wrong_in_see
    F_wrong_in_see := fun_mk (st := s_wrong_in_see) l_wrong_in_see c_wrong_in_see k_wrong_in_see
    g_wrong_in_see := PySem.W.mg_of X G n_wrong_in_see
    a_wrong_in_entry := f_wrong_in_entry
    fd_wrong_in_entry := PySem.W.fnOf "wrong_in_entry" "wrong_in_entry" (defArgs s_wrong_in_entry) (defBody s_wrong_in_entry) (defScope s_wrong_in_entry) .none kV_wrong_in_entry dc_wrong_in_entry pm_wrong_in_entry an_wrong_in_entry cd_wrong_in_entry ct_wrong_in_entry
    F_wrong_in_entry := fun_mk (st := s_wrong_in_entry) l_wrong_in_entry c_wrong_in_entry k_wrong_in_entry
    g_wrong_in_entry := PySem.W.mg_of X G n_wrong_in_entry
    a_wrong_word := f_wrong_word
    fd_wrong_word := PySem.W.fnOf "wrong_word" "wrong_word" (defArgs s_wrong_word) (defBody s_wrong_word) (defScope s_wrong_word) .none kV_wrong_word dc_wrong_word pm_wrong_word an_wrong_word cd_wrong_word ct_wrong_word
    F_wrong_word := fun_mk (st := s_wrong_word) l_wrong_word c_wrong_word k_wrong_word
    g_wrong_word := PySem.W.mg_of X G n_wrong_word
    a_card_by := f_card_by
    fd_card_by := PySem.W.fnOf "card_by" "card_by" (defArgs s_card_by) (defBody s_card_by) (defScope s_card_by) .none kV_card_by dc_card_by pm_card_by an_card_by cd_card_by ct_card_by
    F_card_by := fun_mk (st := s_card_by) l_card_by c_card_by k_card_by
    g_card_by := PySem.W.mg_of X G n_card_by
    a_parse_drawer := f_parse_drawer
    fd_parse_drawer := PySem.W.fnOf "parse_drawer" "parse_drawer" (defArgs s_parse_drawer) (defBody s_parse_drawer) (defScope s_parse_drawer) .none kV_parse_drawer dc_parse_drawer pm_parse_drawer an_parse_drawer cd_parse_drawer ct_parse_drawer
    F_parse_drawer := fun_mk (st := s_parse_drawer) l_parse_drawer c_parse_drawer k_parse_drawer
    g_parse_drawer := PySem.W.mg_of X G n_parse_drawer
    a_llaw_taken := f_llaw_taken
    fd_llaw_taken := PySem.W.fnOf "_law_taken" "_law_taken" (defArgs s_llaw_taken) (defBody s_llaw_taken) (defScope s_llaw_taken) .none kV_llaw_taken dc_llaw_taken pm_llaw_taken an_llaw_taken cd_llaw_taken ct_llaw_taken
    F_llaw_taken := fun_mk (st := s_llaw_taken) l_llaw_taken c_llaw_taken k_llaw_taken
    g_llaw_taken := PySem.W.mg_of X G n_llaw_taken
    a_llaw_place := f_llaw_place
    fd_llaw_place := PySem.W.fnOf "_law_place" "_law_place" (defArgs s_llaw_place) (defBody s_llaw_place) (defScope s_llaw_place) .none kV_llaw_place dc_llaw_place pm_llaw_place an_llaw_place cd_llaw_place ct_llaw_place
    F_llaw_place := fun_mk (st := s_llaw_place) l_llaw_place c_llaw_place k_llaw_place
    g_llaw_place := PySem.W.mg_of X G n_llaw_place
    a_law := f_law
    fd_law := PySem.W.fnOf "law" "law" (defArgs s_law) (defBody s_law) (defScope s_law) .none kV_law dc_law pm_law an_law cd_law ct_law
    F_law := fun_mk (st := s_law) l_law c_law k_law
    g_law := PySem.W.mg_of X G n_law
    c_SeeError := C_SeeError
    g_SeeError := PySem.W.mg_of X G n_SeeError
    bg_SeeError := zbbg_SeeError
    br_SeeError := zbbr_SeeError
    bv_SeeError := zbbv_SeeError
    c_InvalidCard := C_InvalidCard
    g_InvalidCard := PySem.W.mg_of X G n_InvalidCard
    ox_InvalidCard := ⟨⟨_, _, _, _, _, _, _, _, _, _, _, _, _, _, _, zox1_InvalidCard, zq_ox2_InvalidCard⟩, zox3_InvalidCard, zox4_InvalidCard, zox5_InvalidCard, zox6_InvalidCard⟩
    oi_InvalidCard := zoi_InvalidCard
    ot_InvalidCard := zot_InvalidCard
    nf_InvalidCard_part := znf_InvalidCard_part
    xf_InvalidCard := ⟨zxg_InvalidCard, zxa_InvalidCard, zxb_InvalidCard, zxd_InvalidCard⟩
    c_InvalidDrawer := C_InvalidDrawer
    g_InvalidDrawer := PySem.W.mg_of X G n_InvalidDrawer
    xe_InvalidDrawer := zxe_InvalidDrawer
    xk_InvalidDrawer := zxk_InvalidDrawer
    xs_InvalidDrawer := zxs_InvalidDrawer
    xt_InvalidDrawer := zxt_InvalidDrawer
    c_InvalidText := C_InvalidText
    g_InvalidText := PySem.W.mg_of X G n_InvalidText
    ox_InvalidText := ⟨⟨_, _, _, _, _, _, _, _, _, _, _, _, _, _, _, zox1_InvalidText, zq_ox2_InvalidText⟩, zox3_InvalidText, zox4_InvalidText, zox5_InvalidText, zox6_InvalidText⟩
    oi_InvalidText := zoi_InvalidText
    ot_InvalidText := zot_InvalidText
    nf_InvalidText_row := znf_InvalidText_row
    nf_InvalidText_word := znf_InvalidText_word
    xf_InvalidText := ⟨zxg_InvalidText, zxa_InvalidText, zxb_InvalidText, zxd_InvalidText⟩
    c_Card := C_Card
    g_Card := PySem.W.mg_of X G n_Card
    cl_Card := ⟨cg_Card, ch_Card, cp_Card, cs_Card⟩
    n_Card__heading := na_Card__heading
    n_Card__books := na_Card__books
    n_Card__see := na_Card__see
    n_Card__also := na_Card__also
    Mk_Card := ⟨mk1_Card, mk2_Card, mk3_Card, mk4_Card⟩
    c_Drawer := C_Drawer
    g_Drawer := PySem.W.mg_of X G n_Drawer
    cl_Drawer := ⟨cg_Drawer, ch_Drawer, cp_Drawer, cs_Drawer⟩
    n_Drawer__cards := na_Drawer__cards
    Mk_Drawer := ⟨mk1_Drawer, mk2_Drawer, mk3_Drawer, mk4_Drawer⟩
    ex_InvalidCard_InvalidCard := exm_by zs_InvalidCard_InvalidCard zi_InvalidCard_InvalidCard zt_InvalidCard_InvalidCard zq_InvalidCard_InvalidCard
    ex_InvalidCard_InvalidText := exm_by zs_InvalidCard_InvalidText zi_InvalidCard_InvalidText zt_InvalidCard_InvalidText zq_InvalidCard_InvalidText
    ex_InvalidDrawer_InvalidCard := exm_by zs_InvalidDrawer_InvalidCard zi_InvalidDrawer_InvalidCard zt_InvalidDrawer_InvalidCard zq_InvalidDrawer_InvalidCard
    ex_InvalidDrawer_InvalidDrawer := exm_by zs_InvalidDrawer_InvalidDrawer zi_InvalidDrawer_InvalidDrawer zt_InvalidDrawer_InvalidDrawer zq_InvalidDrawer_InvalidDrawer
    ex_InvalidDrawer_InvalidText := exm_by zs_InvalidDrawer_InvalidText zi_InvalidDrawer_InvalidText zt_InvalidDrawer_InvalidText zq_InvalidDrawer_InvalidText
    ex_InvalidText_InvalidText := exm_by zs_InvalidText_InvalidText zi_InvalidText_InvalidText zt_InvalidText_InvalidText zq_InvalidText_InvalidText
    }, rfl, rfl⟩
  obtain ⟨T, e1, e2⟩ := T
  refine ⟨T.fd_law, fun s v => ?_, fun base _ _ => ?_⟩
  · rw [e2]
    exact .of_eq rfl
  · rw [e, ← e1]
    exact ok_law T
end My
open PySem PySem.W PyProof.Rows
set_option maxRecDepth 100000 in
set_option maxHeartbeats 0 in
theorem PySem.Challenge.cw_seerings_k49_texts_rejected_holds : PySem.Challenge.rw_seerings_k49_texts_rejected.Holds := by
  w_on; o_law; k_head; (case hw => w_witness2)
  k_fill
  refine L2.walk_of (l := PySem.Challenge.rw_seerings_k49_texts_rejected) (n := 63) (k := 9) (x := "_law_script") (CX := fun _ => L2.CX0) (sp := fun w => My.spLaw _) rfl (by decide) rfl ⟨rfl, by decide, by decide⟩ (fun w h Y => PySem.W.kIn_of Y) ?F (fun _ _ a ns hl _ hS => ⟨a, ns, rfl, hS, hl, fun _ => rfl⟩) (fun _ _ _ _ _ h => h)
  case F =>
    intro w mg fa h KX G hmg
    refine' My.all_mk KX G hmg ?z_all ?z_bool ?z_enumerate ?z_int ?z_isinstance ?z_len ?z_range ?z_set ?z_str ?z_tuple ?z_zip ?zc_LETTERS ?zc_DIGITS ?zc_LONGEST_WORD ?zc_MOST_BOOKS ?zc_LAST_BOOK ?zc_MOST_ALSO ?zc_MOST_CARDS ?zc_MOST_DIGITS ?l_InvalidCard_init ?c_InvalidCard_init ?k_InvalidCard_init ?l_InvalidText_init ?c_InvalidText_init ?k_InvalidText_init ?l_is_word ?c_is_word ?k_is_word ?n_is_word ?l_is_number ?c_is_number ?k_is_number ?n_is_number ?l_is_digits ?c_is_digits ?k_is_digits ?n_is_digits ?l_are_books ?c_are_books ?k_are_books ?n_are_books ?l_is_target ?c_is_target ?k_is_target ?n_is_target ?l_are_further ?c_are_further ?k_are_further ?n_are_further ?l_wrong_part ?c_wrong_part ?k_wrong_part ?n_wrong_part ?hk_Card_init_2 ?l_Card_init ?c_Card_init ?k_Card_init ?dk_Card_init ?l_Drawer_init ?c_Drawer_init ?k_Drawer_init ?l_words_by_row ?c_words_by_row ?k_words_by_row ?n_words_by_row ?l_is_book ?c_is_book ?k_is_book ?n_is_book ?l_index_of_also ?c_index_of_also ?k_index_of_also ?n_index_of_also ?l_wrong_in_see ?c_wrong_in_see ?k_wrong_in_see ?n_wrong_in_see ?l_wrong_in_entry ?c_wrong_in_entry ?k_wrong_in_entry ?n_wrong_in_entry ?l_wrong_word ?c_wrong_word ?k_wrong_word ?n_wrong_word ?l_card_by ?c_card_by ?k_card_by ?n_card_by ?l_parse_drawer ?c_parse_drawer ?k_parse_drawer ?n_parse_drawer ?l_llaw_taken ?c_llaw_taken ?k_llaw_taken ?n_llaw_taken ?l_llaw_place ?c_llaw_place ?k_llaw_place ?n_llaw_place ?l_law ?c_law ?k_law ?n_law ?n_SeeError ?zbbg_SeeError ?zbbr_SeeError ?zbbv_SeeError ?n_InvalidCard ?zox1_InvalidCard ?zq_ox2_InvalidCard ?zox3_InvalidCard ?zox4_InvalidCard ?zox5_InvalidCard ?zox6_InvalidCard ?zoi_InvalidCard ?zot_InvalidCard ?znf_InvalidCard_part ?zxg_InvalidCard ?zxa_InvalidCard ?zxb_InvalidCard ?zxd_InvalidCard ?n_InvalidDrawer ?zxe_InvalidDrawer ?zxk_InvalidDrawer ?zxs_InvalidDrawer ?zxt_InvalidDrawer ?n_InvalidText ?zox1_InvalidText ?zq_ox2_InvalidText ?zox3_InvalidText ?zox4_InvalidText ?zox5_InvalidText ?zox6_InvalidText ?zoi_InvalidText ?zot_InvalidText ?znf_InvalidText_row ?znf_InvalidText_word ?zxg_InvalidText ?zxa_InvalidText ?zxb_InvalidText ?zxd_InvalidText ?n_Card ?cg_Card ?ch_Card ?cp_Card ?cs_Card ?na_Card__heading ?na_Card__books ?na_Card__see ?na_Card__also ?mk1_Card ?mk2_Card ?mk3_Card ?mk4_Card ?n_Drawer ?cg_Drawer ?ch_Drawer ?cp_Drawer ?cs_Drawer ?na_Drawer__cards ?mk1_Drawer ?mk2_Drawer ?mk3_Drawer ?mk4_Drawer ?zs_InvalidCard_InvalidCard ?zi_InvalidCard_InvalidCard ?zt_InvalidCard_InvalidCard ?zq_InvalidCard_InvalidCard ?zs_InvalidCard_InvalidText ?zi_InvalidCard_InvalidText ?zt_InvalidCard_InvalidText ?zq_InvalidCard_InvalidText ?zs_InvalidDrawer_InvalidCard ?zi_InvalidDrawer_InvalidCard ?zt_InvalidDrawer_InvalidCard ?zq_InvalidDrawer_InvalidCard ?zs_InvalidDrawer_InvalidDrawer ?zi_InvalidDrawer_InvalidDrawer ?zt_InvalidDrawer_InvalidDrawer ?zq_InvalidDrawer_InvalidDrawer ?zs_InvalidDrawer_InvalidText ?zi_InvalidDrawer_InvalidText ?zt_InvalidDrawer_InvalidText ?zq_InvalidDrawer_InvalidText ?zs_InvalidText_InvalidText ?zi_InvalidText_InvalidText ?zt_InvalidText_InvalidText ?zq_InvalidText_InvalidText
    (case z_all => k_is)
    (case z_bool => k_is)
    (case z_enumerate => k_is)
    (case z_int => k_is)
    (case z_isinstance => k_is)
    (case z_len => k_is)
    (case z_range => k_is)
    (case z_set => k_is)
    (case z_str => k_is)
    (case z_tuple => k_is)
    (case z_zip => k_is)
    (case zc_LETTERS => k_is)
    (case zc_DIGITS => k_is)
    (case zc_LONGEST_WORD => k_is)
    (case zc_MOST_BOOKS => k_is)
    (case zc_LAST_BOOK => k_is)
    (case zc_MOST_ALSO => k_is)
    (case zc_MOST_CARDS => k_is)
    (case zc_MOST_DIGITS => k_is)
    (case n_is_word => k_is)
    (case n_is_number => k_is)
    (case n_is_digits => k_is)
    (case n_are_books => k_is)
    (case n_is_target => k_is)
    (case n_are_further => k_is)
    (case n_wrong_part => k_is)
    (case n_words_by_row => k_is)
    (case n_is_book => k_is)
    (case n_index_of_also => k_is)
    (case n_wrong_in_see => k_is)
    (case n_wrong_in_entry => k_is)
    (case n_wrong_word => k_is)
    (case n_card_by => k_is)
    (case n_parse_drawer => k_is)
    (case n_llaw_taken => k_is)
    (case n_llaw_place => k_is)
    (case n_law => k_is)
    (case n_SeeError => k_is)
    (case n_InvalidCard => k_is)
    (case n_InvalidDrawer => k_is)
    (case n_InvalidText => k_is)
    (case n_Card => k_is)
    (case n_Drawer => k_is)
    (case mk2_Card => k_is)
    (case mk2_Drawer => k_is)
    (case zoi_InvalidCard => k_is)
    (case zoi_InvalidText => k_is)
    (case l_InvalidCard_init => k_is)
    (case l_InvalidText_init => k_is)
    (case l_is_word => k_is)
    (case l_is_number => k_is)
    (case l_is_digits => k_is)
    (case l_are_books => k_is)
    (case l_is_target => k_is)
    (case l_are_further => k_is)
    (case l_wrong_part => k_is)
    (case l_Card_init => k_is)
    (case l_Drawer_init => k_is)
    (case l_words_by_row => k_is)
    (case l_is_book => k_is)
    (case l_index_of_also => k_is)
    (case l_wrong_in_see => k_is)
    (case l_wrong_in_entry => k_is)
    (case l_wrong_word => k_is)
    (case l_card_by => k_is)
    (case l_parse_drawer => k_is)
    (case l_llaw_taken => k_is)
    (case l_llaw_place => k_is)
    (case l_law => k_is)
    (case dk_Card_init => k_is)
    (case c_InvalidCard_init => k_is)
    (case k_InvalidCard_init => k_is)
    (case c_InvalidText_init => k_is)
    (case k_InvalidText_init => k_is)
    (case c_is_word => k_is)
    (case k_is_word => k_is)
    (case c_is_number => k_is)
    (case k_is_number => k_is)
    (case c_is_digits => k_is)
    (case k_is_digits => k_is)
    (case c_are_books => k_is)
    (case k_are_books => k_is)
    (case c_is_target => k_is)
    (case k_is_target => k_is)
    (case c_are_further => k_is)
    (case k_are_further => k_is)
    (case c_wrong_part => k_is)
    (case k_wrong_part => k_is)
    (case hk_Card_init_2 => k_is)
    (case c_Card_init => k_is)
    (case k_Card_init => k_is)
    (case c_Drawer_init => k_is)
    (case k_Drawer_init => k_is)
    (case c_words_by_row => k_is)
    (case k_words_by_row => k_is)
    (case c_is_book => k_is)
    (case k_is_book => k_is)
    (case c_index_of_also => k_is)
    (case k_index_of_also => k_is)
    (case c_wrong_in_see => k_is)
    (case k_wrong_in_see => k_is)
    (case c_wrong_in_entry => k_is)
    (case k_wrong_in_entry => k_is)
    (case c_wrong_word => k_is)
    (case k_wrong_word => k_is)
    (case c_card_by => k_is)
    (case k_card_by => k_is)
    (case c_parse_drawer => k_is)
    (case k_parse_drawer => k_is)
    (case c_llaw_taken => k_is)
    (case k_llaw_taken => k_is)
    (case c_llaw_place => k_is)
    (case k_llaw_place => k_is)
    (case c_law => k_is)
    (case k_law => k_is)
    (case zbbg_SeeError => k_is)
    (case zbbr_SeeError => k_is)
    (case zbbv_SeeError => k_is)
    (case zox1_InvalidCard => k_is)
    (case zq_ox2_InvalidCard => (first | rfl | k_is))
    (case zox3_InvalidCard => k_is)
    (case zox4_InvalidCard => k_is)
    (case zox5_InvalidCard => k_is)
    (case zox6_InvalidCard => k_is)
    (case zot_InvalidCard => k_is)
    (case znf_InvalidCard_part => k_is)
    (case zxg_InvalidCard => k_is)
    (case zxa_InvalidCard => k_is)
    (case zxb_InvalidCard => k_is)
    (case zxd_InvalidCard => k_is)
    (case zxe_InvalidDrawer => k_exc)
    (case zxk_InvalidDrawer => k_is)
    (case zxs_InvalidDrawer => k_is)
    (case zxt_InvalidDrawer => k_is)
    (case zox1_InvalidText => k_is)
    (case zq_ox2_InvalidText => (first | rfl | k_is))
    (case zox3_InvalidText => k_is)
    (case zox4_InvalidText => k_is)
    (case zox5_InvalidText => k_is)
    (case zox6_InvalidText => k_is)
    (case zot_InvalidText => k_is)
    (case znf_InvalidText_row => k_is)
    (case znf_InvalidText_word => k_is)
    (case zxg_InvalidText => k_is)
    (case zxa_InvalidText => k_is)
    (case zxb_InvalidText => k_is)
    (case zxd_InvalidText => k_is)
    (case cg_Card => k_is)
    (case ch_Card => k_is)
    (case cp_Card => k_is)
    (case cs_Card => k_is)
    (case na_Card__heading => k_is)
    (case na_Card__books => k_is)
    (case na_Card__see => k_is)
    (case na_Card__also => k_is)
    (case mk1_Card => k_is)
    (case mk3_Card => k_is)
    (case mk4_Card => k_is)
    (case cg_Drawer => k_is)
    (case ch_Drawer => k_is)
    (case cp_Drawer => k_is)
    (case cs_Drawer => k_is)
    (case na_Drawer__cards => k_is)
    (case mk1_Drawer => k_is)
    (case mk3_Drawer => k_is)
    (case mk4_Drawer => k_is)
    (case zs_InvalidCard_InvalidCard => k_is)
    (case zi_InvalidCard_InvalidCard => k_is)
    (case zt_InvalidCard_InvalidCard => k_is)
    (case zq_InvalidCard_InvalidCard => (first | rfl | k_is))
    (case zs_InvalidCard_InvalidText => k_is)
    (case zi_InvalidCard_InvalidText => k_is)
    (case zt_InvalidCard_InvalidText => k_is)
    (case zq_InvalidCard_InvalidText => (first | rfl | k_is))
    (case zs_InvalidDrawer_InvalidCard => k_is)
    (case zi_InvalidDrawer_InvalidCard => k_is)
    (case zt_InvalidDrawer_InvalidCard => k_is)
    (case zq_InvalidDrawer_InvalidCard => (first | rfl | k_is))
    (case zs_InvalidDrawer_InvalidDrawer => k_is)
    (case zi_InvalidDrawer_InvalidDrawer => k_is)
    (case zt_InvalidDrawer_InvalidDrawer => k_is)
    (case zq_InvalidDrawer_InvalidDrawer => (first | rfl | k_is))
    (case zs_InvalidDrawer_InvalidText => k_is)
    (case zi_InvalidDrawer_InvalidText => k_is)
    (case zt_InvalidDrawer_InvalidText => k_is)
    (case zq_InvalidDrawer_InvalidText => (first | rfl | k_is))
    (case zs_InvalidText_InvalidText => k_is)
    (case zi_InvalidText_InvalidText => k_is)
    (case zt_InvalidText_InvalidText => k_is)
    (case zq_InvalidText_InvalidText => (first | rfl | k_is))
