import PyProof.Rows.All
import Wide.All
import OpenK.AllK
import Wide.FinOn
import HandS.ForMost
import HandS.Wide
import HandS.Property
import HandS.ExcInit
import HandS.ExcField
import HandS.IsInst
import HandS.Defaults
import HandS.MakeKw
import HandS.Style
import HandS.TupAny
import HandS.Zip
import HandS.Strs
import HandS.SortKw
import HandS.Conv
import PySem.Challenge.RW_seerings_k51_codes_rejected
import HandS.Walk
import HandS.Iter
import KE.GoesMore
import KE.GoesEnum
import PyProof.P3Eq
import KE.DataMinMax
import HandS.SetFor
import HandS.OwnEq
import HandS.More
import HandS.SetKeys
import HandS.Sort
import HandS.Lambda
import KE.SortKeyHeap
import HandS.SetBool
import HandS.DictComp
import KE.DataEq
import HandS.Words
import HandS.Text
import HandS.FStr
import HandS.ExcOwn
import HandS.TryMany
import HandS.WordsExc
import HandS.Comp
import HandS.Replace
import HandS.EndTab
set_option Elab.async false
set_option linter.all false
set_option maxRecDepth 100000
set_option maxHeartbeats 4000000
namespace My
open PySem L2
def top (i : Nat) : Stmt := PySem.Challenge.pw_seerings_k51_codes_rejected.main.body.getD i (.Pass ⟨0, 0, 0, 0⟩)
abbrev s_InvalidCard_init : Stmt := inClass (top 3) 0
abbrev N_InvalidCard_init : List Str := ["self", "part"]
theorem sc_InvalidCard_init : FnScope N_InvalidCard_init ["self", "part"] (defScope s_InvalidCard_init) := ⟨rfl, rfl, rfl, by decide +kernel, rfl, by decide +kernel, by decide +kernel⟩
abbrev s_DecodeError_init : Stmt := inClass (top 6) 0
abbrev N_DecodeError_init : List Str := ["self", "offset"]
theorem sc_DecodeError_init : FnScope N_DecodeError_init ["self", "offset"] (defScope s_DecodeError_init) := ⟨rfl, rfl, rfl, by decide +kernel, rfl, by decide +kernel, by decide +kernel⟩
abbrev s_is_word : Stmt := top 10
abbrev N_is_word : List Str := ["text", "letter"]
theorem sc_is_word : FnScope N_is_word ["text"] (defScope s_is_word) := ⟨rfl, rfl, rfl, by decide +kernel, rfl, by decide +kernel, by decide +kernel⟩
abbrev s_is_number : Stmt := top 11
abbrev N_is_number : List Str := ["number", "least", "greatest"]
theorem sc_is_number : FnScope N_is_number ["number", "least", "greatest"] (defScope s_is_number) := ⟨rfl, rfl, rfl, by decide +kernel, rfl, by decide +kernel, by decide +kernel⟩
abbrev s_are_books : Stmt := top 17
abbrev N_are_books : List Str := ["books", "book", "later"]
theorem sc_are_books : FnScope N_are_books ["books"] (defScope s_are_books) := ⟨rfl, rfl, rfl, by decide +kernel, rfl, by decide +kernel, by decide +kernel⟩
abbrev s_is_target : Stmt := top 18
abbrev N_is_target : List Str := ["see", "heading"]
theorem sc_is_target : FnScope N_is_target ["see", "heading"] (defScope s_is_target) := ⟨rfl, rfl, rfl, by decide +kernel, rfl, by decide +kernel, by decide +kernel⟩
abbrev s_are_further : Stmt := top 19
abbrev N_are_further : List Str := ["also", "heading", "word"]
theorem sc_are_further : FnScope N_are_further ["also", "heading"] (defScope s_are_further) := ⟨rfl, rfl, rfl, by decide +kernel, rfl, by decide +kernel, by decide +kernel⟩
abbrev s_wrong_part : Stmt := top 20
abbrev N_wrong_part : List Str := ["heading", "books", "see", "also"]
theorem sc_wrong_part : FnScope N_wrong_part ["heading", "books", "see", "also"] (defScope s_wrong_part) := ⟨rfl, rfl, rfl, by decide +kernel, rfl, by decide +kernel, by decide +kernel⟩
abbrev s_Card_init : Stmt := inClass (top 21) 0
abbrev N_Card_init : List Str := ["self", "heading", "books", "see", "also", "part"]
theorem sc_Card_init : FnScope N_Card_init ["self", "heading", "books", "see", "also"] (defScope s_Card_init) := ⟨rfl, rfl, rfl, by decide +kernel, rfl, by decide +kernel, by decide +kernel⟩
abbrev s_Card_heading : Stmt := inClass (top 21) 1
abbrev N_Card_heading : List Str := ["self"]
theorem sc_Card_heading : FnScope N_Card_heading ["self"] (defScope s_Card_heading) := ⟨rfl, rfl, rfl, by decide +kernel, rfl, by decide +kernel, by decide +kernel⟩
abbrev s_Card_books : Stmt := inClass (top 21) 2
abbrev N_Card_books : List Str := ["self"]
theorem sc_Card_books : FnScope N_Card_books ["self"] (defScope s_Card_books) := ⟨rfl, rfl, rfl, by decide +kernel, rfl, by decide +kernel, by decide +kernel⟩
abbrev s_Card_see : Stmt := inClass (top 21) 3
abbrev N_Card_see : List Str := ["self"]
theorem sc_Card_see : FnScope N_Card_see ["self"] (defScope s_Card_see) := ⟨rfl, rfl, rfl, by decide +kernel, rfl, by decide +kernel, by decide +kernel⟩
abbrev s_Card_also : Stmt := inClass (top 21) 4
abbrev N_Card_also : List Str := ["self"]
theorem sc_Card_also : FnScope N_Card_also ["self"] (defScope s_Card_also) := ⟨rfl, rfl, rfl, by decide +kernel, rfl, by decide +kernel, by decide +kernel⟩
abbrev s_Card_leads : Stmt := inClass (top 21) 5
abbrev N_Card_leads : List Str := ["self"]
theorem sc_Card_leads : FnScope N_Card_leads ["self"] (defScope s_Card_leads) := ⟨rfl, rfl, rfl, by decide +kernel, rfl, by decide +kernel, by decide +kernel⟩
abbrev s_Drawer_init : Stmt := inClass (top 24) 0
abbrev N_Drawer_init : List Str := ["self", "cards"]
theorem sc_Drawer_init : FnScope N_Drawer_init ["self", "cards"] (defScope s_Drawer_init) := ⟨rfl, rfl, rfl, by decide +kernel, rfl, by decide +kernel, by decide +kernel⟩
abbrev s_Drawer_cards : Stmt := inClass (top 24) 1
abbrev N_Drawer_cards : List Str := ["self"]
theorem sc_Drawer_cards : FnScope N_Drawer_cards ["self"] (defScope s_Drawer_cards) := ⟨rfl, rfl, rfl, by decide +kernel, rfl, by decide +kernel, by decide +kernel⟩
abbrev s_Drawer_len : Stmt := inClass (top 24) 7
abbrev N_Drawer_len : List Str := ["self"]
theorem sc_Drawer_len : FnScope N_Drawer_len ["self"] (defScope s_Drawer_len) := ⟨rfl, rfl, rfl, by decide +kernel, rfl, by decide +kernel, by decide +kernel⟩
abbrev s_codes_of_word : Stmt := top 28
abbrev N_codes_of_word : List Str := ["word", "letter"]
theorem sc_codes_of_word : FnScope N_codes_of_word ["word"] (defScope s_codes_of_word) := ⟨rfl, rfl, rfl, by decide +kernel, rfl, by decide +kernel, by decide +kernel⟩
abbrev s_codes_of_card : Stmt := top 29
abbrev N_codes_of_card : List Str := ["card", "codes", "book", "heading"]
theorem sc_codes_of_card : FnScope N_codes_of_card ["card"] (defScope s_codes_of_card) := ⟨rfl, rfl, rfl, by decide +kernel, rfl, by decide +kernel, by decide +kernel⟩
abbrev s_checksum_of : Stmt := top 30
abbrev N_checksum_of : List Str := ["codes", "checksum", "code"]
theorem sc_checksum_of : FnScope N_checksum_of ["codes"] (defScope s_checksum_of) := ⟨rfl, rfl, rfl, by decide +kernel, rfl, by decide +kernel, by decide +kernel⟩
abbrev s_encode_drawer : Stmt := top 31
abbrev N_encode_drawer : List Str := ["drawer", "codes", "card"]
theorem sc_encode_drawer : FnScope N_encode_drawer ["drawer"] (defScope s_encode_drawer) := ⟨rfl, rfl, rfl, by decide +kernel, rfl, by decide +kernel, by decide +kernel⟩
abbrev s_Reader_init : Stmt := inClass (top 32) 0
abbrev N_Reader_init : List Str := ["self", "codes"]
theorem sc_Reader_init : FnScope N_Reader_init ["self", "codes"] (defScope s_Reader_init) := ⟨rfl, rfl, rfl, by decide +kernel, rfl, by decide +kernel, by decide +kernel⟩
abbrev s_Reader_read_number : Stmt := inClass (top 32) 1
abbrev N_Reader_read_number : List Str := ["self", "least", "greatest", "number"]
theorem sc_Reader_read_number : FnScope N_Reader_read_number ["self", "least", "greatest"] (defScope s_Reader_read_number) := ⟨rfl, rfl, rfl, by decide +kernel, rfl, by decide +kernel, by decide +kernel⟩
abbrev s_Reader_read_word : Stmt := inClass (top 32) 2
abbrev N_Reader_read_word : List Str := ["self", "many", "letters", "_"]
theorem sc_Reader_read_word : FnScope N_Reader_read_word ["self"] (defScope s_Reader_read_word) := ⟨rfl, rfl, rfl, by decide +kernel, rfl, by decide +kernel, by decide +kernel⟩
abbrev s_Reader_read_book : Stmt := inClass (top 32) 3
abbrev N_Reader_read_book : List Str := ["self", "last", "offset", "quotient", "book"]
theorem sc_Reader_read_book : FnScope N_Reader_read_book ["self", "last"] (defScope s_Reader_read_book) := ⟨rfl, rfl, rfl, by decide +kernel, rfl, by decide +kernel, by decide +kernel⟩
abbrev s_Reader_read_parts : Stmt := inClass (top 32) 4
abbrev N_Reader_read_parts : List Str := ["self", "heading", "many", "books", "_", "also"]
theorem sc_Reader_read_parts : FnScope N_Reader_read_parts ["self"] (defScope s_Reader_read_parts) := ⟨rfl, rfl, rfl, by decide +kernel, rfl, by decide +kernel, by decide +kernel⟩
abbrev s_decode_drawer : Stmt := top 33
abbrev N_decode_drawer : List Str := ["values", "reader", "many", "rows", "_", "checksum", "heading", "books", "see", "also"]
theorem sc_decode_drawer : FnScope N_decode_drawer ["values"] (defScope s_decode_drawer) := ⟨rfl, rfl, rfl, by decide +kernel, rfl, by decide +kernel, by decide +kernel⟩
abbrev s_llaw_taken : Stmt := top 35
abbrev N_llaw_taken : List Str := ["_law_row", "_law_many", "_law_found", "_law_cell"]
theorem sc_llaw_taken : FnScope N_llaw_taken ["_law_row", "_law_many"] (defScope s_llaw_taken) := ⟨rfl, rfl, rfl, by decide +kernel, rfl, by decide +kernel, by decide +kernel⟩
abbrev s_llaw_card : Stmt := top 36
abbrev N_llaw_card : List Str := ["_law_row", "_law_names", "_law_name", "_law_pick", "_law_others", "_law_more", "_law_other", "_law_one"]
theorem sc_llaw_card : FnScope N_llaw_card ["_law_row"] (defScope s_llaw_card) := ⟨rfl, rfl, rfl, by decide +kernel, rfl, by decide +kernel, by decide +kernel⟩
abbrev s_llaw_drawer : Stmt := top 37
abbrev N_llaw_drawer : List Str := ["_law_row", "_law_most", "_law_found", "_law_k"]
theorem sc_llaw_drawer : FnScope N_llaw_drawer ["_law_row", "_law_most"] (defScope s_llaw_drawer) := ⟨rfl, rfl, rfl, by decide +kernel, rfl, by decide +kernel, by decide +kernel⟩
abbrev s_llaw_checked : Stmt := top 38
abbrev N_llaw_checked : List Str := ["_law_items", "_law_check", "_law_item"]
theorem sc_llaw_checked : FnScope N_llaw_checked ["_law_items"] (defScope s_llaw_checked) := ⟨rfl, rfl, rfl, by decide +kernel, rfl, by decide +kernel, by decide +kernel⟩
abbrev s_llaw_offset : Stmt := top 39
abbrev N_llaw_offset : List Str := ["_law_values", "e"]
theorem sc_llaw_offset : FnScope N_llaw_offset ["_law_values"] (defScope s_llaw_offset) := ⟨rfl, rfl, rfl, by decide +kernel, rfl, by decide +kernel, by decide +kernel⟩
abbrev s_law : Stmt := top 40
abbrev N_law : List Str := ["_law_script", "_law_row", "_law_turn", "_law_values", "_law_k", "_law_last", "_law_bad", "_law_base", "_law_pairs", "_law_item", "_law_at"]
theorem sc_law : FnScope N_law ["_law_script"] (defScope s_law) := ⟨rfl, rfl, rfl, by decide +kernel, rfl, by decide +kernel, by decide +kernel⟩
structure Top (K : PySem.W.Frag) (mg : Str → Option Value) where
  m_all : mg "all" = none
  m_bool : mg "bool" = none
  m_int : mg "int" = none
  m_isinstance : mg "isinstance" = none
  m_len : mg "len" = none
  m_list : mg "list" = none
  m_range : mg "range" = none
  m_set : mg "set" = none
  m_sorted : mg "sorted" = none
  m_str : mg "str" = none
  m_tuple : mg "tuple" = none
  m_zip : mg "zip" = none
  v_LETTERS : Value
  g_LETTERS : mg "LETTERS" = some v_LETTERS
  r_LETTERS : RelV (.str "abcdefghijklmnopqrstuvwxyz") v_LETTERS
  v_LONGEST_WORD : Value
  g_LONGEST_WORD : mg "LONGEST_WORD" = some v_LONGEST_WORD
  r_LONGEST_WORD : RelV (.int 8) v_LONGEST_WORD
  v_MOST_BOOKS : Value
  g_MOST_BOOKS : mg "MOST_BOOKS" = some v_MOST_BOOKS
  r_MOST_BOOKS : RelV (.int 6) v_MOST_BOOKS
  v_LAST_BOOK : Value
  g_LAST_BOOK : mg "LAST_BOOK" = some v_LAST_BOOK
  r_LAST_BOOK : RelV (.int 999) v_LAST_BOOK
  v_MOST_ALSO : Value
  g_MOST_ALSO : mg "MOST_ALSO" = some v_MOST_ALSO
  r_MOST_ALSO : RelV (.int 4) v_MOST_ALSO
  v_MOST_CARDS : Value
  g_MOST_CARDS : mg "MOST_CARDS" = some v_MOST_CARDS
  r_MOST_CARDS : RelV (.int 16) v_MOST_CARDS
  v_MARK : Value
  g_MARK : mg "MARK" = some v_MARK
  r_MARK : RelV (.int 97) v_MARK
  v_FIRST_CHECKSUM : Value
  g_FIRST_CHECKSUM : mg "FIRST_CHECKSUM" = some v_FIRST_CHECKSUM
  r_FIRST_CHECKSUM : RelV (.int 7) v_FIRST_CHECKSUM
  a_InvalidCard_init : Addr
  fd_InvalidCard_init : FuncData
  F_InvalidCard_init : Fun K "__init__" "InvalidCard.__init__" s_InvalidCard_init a_InvalidCard_init fd_InvalidCard_init
  a_DecodeError_init : Addr
  fd_DecodeError_init : FuncData
  F_DecodeError_init : Fun K "__init__" "DecodeError.__init__" s_DecodeError_init a_DecodeError_init fd_DecodeError_init
  a_is_word : Addr
  fd_is_word : FuncData
  F_is_word : Fun K "is_word" "is_word" s_is_word a_is_word fd_is_word
  g_is_word : mg "is_word" = some (.ref a_is_word)
  a_is_number : Addr
  fd_is_number : FuncData
  F_is_number : Fun K "is_number" "is_number" s_is_number a_is_number fd_is_number
  g_is_number : mg "is_number" = some (.ref a_is_number)
  a_are_books : Addr
  fd_are_books : FuncData
  F_are_books : Fun K "are_books" "are_books" s_are_books a_are_books fd_are_books
  g_are_books : mg "are_books" = some (.ref a_are_books)
  a_is_target : Addr
  fd_is_target : FuncData
  F_is_target : Fun K "is_target" "is_target" s_is_target a_is_target fd_is_target
  g_is_target : mg "is_target" = some (.ref a_is_target)
  a_are_further : Addr
  fd_are_further : FuncData
  F_are_further : Fun K "are_further" "are_further" s_are_further a_are_further fd_are_further
  g_are_further : mg "are_further" = some (.ref a_are_further)
  a_wrong_part : Addr
  fd_wrong_part : FuncData
  F_wrong_part : Fun K "wrong_part" "wrong_part" s_wrong_part a_wrong_part fd_wrong_part
  g_wrong_part : mg "wrong_part" = some (.ref a_wrong_part)
  a_Card_init : Addr
  e_Card_init_0 : Addr
  e_Card_init_2 : Addr
  ek_Card_init_2 : ∀ H : Hp, SqT K H e_Card_init_2 []
  fd_Card_init : FuncData
  F_Card_init : FunD K "__init__" "Card.__init__" (defArgs s_Card_init) (defBody s_Card_init) (defScope s_Card_init) [.ref e_Card_init_0, .str "", .ref e_Card_init_2] [] a_Card_init fd_Card_init
  a_Card_heading : Addr
  fd_Card_heading : FuncData
  F_Card_heading : Fun K "heading" "Card.heading" s_Card_heading a_Card_heading fd_Card_heading
  a_Card_books : Addr
  fd_Card_books : FuncData
  F_Card_books : Fun K "books" "Card.books" s_Card_books a_Card_books fd_Card_books
  a_Card_see : Addr
  fd_Card_see : FuncData
  F_Card_see : Fun K "see" "Card.see" s_Card_see a_Card_see fd_Card_see
  a_Card_also : Addr
  fd_Card_also : FuncData
  F_Card_also : Fun K "also" "Card.also" s_Card_also a_Card_also fd_Card_also
  a_Card_leads : Addr
  fd_Card_leads : FuncData
  F_Card_leads : Fun K "leads" "Card.leads" s_Card_leads a_Card_leads fd_Card_leads
  a_Drawer_init : Addr
  fd_Drawer_init : FuncData
  F_Drawer_init : Fun K "__init__" "Drawer.__init__" s_Drawer_init a_Drawer_init fd_Drawer_init
  a_Drawer_cards : Addr
  fd_Drawer_cards : FuncData
  F_Drawer_cards : Fun K "cards" "Drawer.cards" s_Drawer_cards a_Drawer_cards fd_Drawer_cards
  a_Drawer_len : Addr
  fd_Drawer_len : FuncData
  F_Drawer_len : Fun K "__len__" "Drawer.__len__" s_Drawer_len a_Drawer_len fd_Drawer_len
  a_codes_of_word : Addr
  fd_codes_of_word : FuncData
  F_codes_of_word : Fun K "codes_of_word" "codes_of_word" s_codes_of_word a_codes_of_word fd_codes_of_word
  g_codes_of_word : mg "codes_of_word" = some (.ref a_codes_of_word)
  a_codes_of_card : Addr
  fd_codes_of_card : FuncData
  F_codes_of_card : Fun K "codes_of_card" "codes_of_card" s_codes_of_card a_codes_of_card fd_codes_of_card
  g_codes_of_card : mg "codes_of_card" = some (.ref a_codes_of_card)
  a_checksum_of : Addr
  fd_checksum_of : FuncData
  F_checksum_of : Fun K "checksum_of" "checksum_of" s_checksum_of a_checksum_of fd_checksum_of
  g_checksum_of : mg "checksum_of" = some (.ref a_checksum_of)
  a_encode_drawer : Addr
  fd_encode_drawer : FuncData
  F_encode_drawer : Fun K "encode_drawer" "encode_drawer" s_encode_drawer a_encode_drawer fd_encode_drawer
  g_encode_drawer : mg "encode_drawer" = some (.ref a_encode_drawer)
  a_Reader_init : Addr
  fd_Reader_init : FuncData
  F_Reader_init : Fun K "__init__" "Reader.__init__" s_Reader_init a_Reader_init fd_Reader_init
  a_Reader_read_number : Addr
  fd_Reader_read_number : FuncData
  F_Reader_read_number : Fun K "read_number" "Reader.read_number" s_Reader_read_number a_Reader_read_number fd_Reader_read_number
  a_Reader_read_word : Addr
  fd_Reader_read_word : FuncData
  F_Reader_read_word : Fun K "read_word" "Reader.read_word" s_Reader_read_word a_Reader_read_word fd_Reader_read_word
  a_Reader_read_book : Addr
  fd_Reader_read_book : FuncData
  F_Reader_read_book : Fun K "read_book" "Reader.read_book" s_Reader_read_book a_Reader_read_book fd_Reader_read_book
  a_Reader_read_parts : Addr
  fd_Reader_read_parts : FuncData
  F_Reader_read_parts : Fun K "read_parts" "Reader.read_parts" s_Reader_read_parts a_Reader_read_parts fd_Reader_read_parts
  a_decode_drawer : Addr
  fd_decode_drawer : FuncData
  F_decode_drawer : Fun K "decode_drawer" "decode_drawer" s_decode_drawer a_decode_drawer fd_decode_drawer
  g_decode_drawer : mg "decode_drawer" = some (.ref a_decode_drawer)
  a_llaw_taken : Addr
  fd_llaw_taken : FuncData
  F_llaw_taken : Fun K "_law_taken" "_law_taken" s_llaw_taken a_llaw_taken fd_llaw_taken
  g_llaw_taken : mg "_law_taken" = some (.ref a_llaw_taken)
  a_llaw_card : Addr
  fd_llaw_card : FuncData
  F_llaw_card : Fun K "_law_card" "_law_card" s_llaw_card a_llaw_card fd_llaw_card
  g_llaw_card : mg "_law_card" = some (.ref a_llaw_card)
  a_llaw_drawer : Addr
  fd_llaw_drawer : FuncData
  F_llaw_drawer : Fun K "_law_drawer" "_law_drawer" s_llaw_drawer a_llaw_drawer fd_llaw_drawer
  g_llaw_drawer : mg "_law_drawer" = some (.ref a_llaw_drawer)
  a_llaw_checked : Addr
  fd_llaw_checked : FuncData
  F_llaw_checked : Fun K "_law_checked" "_law_checked" s_llaw_checked a_llaw_checked fd_llaw_checked
  g_llaw_checked : mg "_law_checked" = some (.ref a_llaw_checked)
  a_llaw_offset : Addr
  fd_llaw_offset : FuncData
  F_llaw_offset : Fun K "_law_offset" "_law_offset" s_llaw_offset a_llaw_offset fd_llaw_offset
  g_llaw_offset : mg "_law_offset" = some (.ref a_llaw_offset)
  a_law : Addr
  fd_law : FuncData
  F_law : Fun K "law" "law" s_law a_law fd_law
  g_law : mg "law" = some (.ref a_law)
  c_SeeError : Addr
  g_SeeError : mg "SeeError" = some (.ref c_SeeError)
  bg_SeeError : PySem.W.specialIn K (.ref c_SeeError) "__getattribute__" = some (some (.builtin "type.__getattribute__"))
  br_SeeError : PySem.W.readsIn K c_SeeError (.type "type") = true
  bv_SeeError : PySem.W.findCls K (.ref c_SeeError) (.type "type") "__init__" = some (.val (.builtin "ValueError.__init__"))
  c_InvalidCard : Addr
  g_InvalidCard : mg "InvalidCard" = some (.ref c_InvalidCard)
  ox_InvalidCard : OexC K c_InvalidCard
  oi_InvalidCard : PySem.W.findIn K (.ref c_InvalidCard) "__init__" = some (some (.ref a_InvalidCard_init))
  ot_InvalidCard : PySem.W.typeIn K (.ref a_InvalidCard_init) = some (.type "function")
  nf_InvalidCard_part : PySem.W.findIn K (.ref c_InvalidCard) "part" = some none
  xf_InvalidCard : XfC K c_InvalidCard
  c_DecodeError : Addr
  g_DecodeError : mg "DecodeError" = some (.ref c_DecodeError)
  ox_DecodeError : OexC K c_DecodeError
  oi_DecodeError : PySem.W.findIn K (.ref c_DecodeError) "__init__" = some (some (.ref a_DecodeError_init))
  ot_DecodeError : PySem.W.typeIn K (.ref a_DecodeError_init) = some (.type "function")
  nf_DecodeError_offset : PySem.W.findIn K (.ref c_DecodeError) "offset" = some none
  xf_DecodeError : XfC K c_DecodeError
  c_Card : Addr
  g_Card : mg "Card" = some (.ref c_Card)
  cl_Card : Cls K c_Card
  n_Card__heading : NoAttr K c_Card "_heading"
  n_Card__books : NoAttr K c_Card "_books"
  n_Card__see : NoAttr K c_Card "_see"
  n_Card__also : NoAttr K c_Card "_also"
  Mk_Card : Mk K c_Card a_Card_init
  p_Card_heading : Addr
  P_Card_heading : PropOf K c_Card "heading" p_Card_heading a_Card_heading
  p_Card_books : Addr
  P_Card_books : PropOf K c_Card "books" p_Card_books a_Card_books
  p_Card_see : Addr
  P_Card_see : PropOf K c_Card "see" p_Card_see a_Card_see
  p_Card_also : Addr
  P_Card_also : PropOf K c_Card "also" p_Card_also a_Card_also
  p_Card_leads : Addr
  P_Card_leads : PropOf K c_Card "leads" p_Card_leads a_Card_leads
  c_Drawer : Addr
  g_Drawer : mg "Drawer" = some (.ref c_Drawer)
  cl_Drawer : Cls K c_Drawer
  n_Drawer__cards : NoAttr K c_Drawer "_cards"
  Mk_Drawer : Mk K c_Drawer a_Drawer_init
  p_Drawer_cards : Addr
  P_Drawer_cards : PropOf K c_Drawer "cards" p_Drawer_cards a_Drawer_cards
  M_Drawer_len : Meth K c_Drawer "__len__" a_Drawer_len
  c_Reader : Addr
  g_Reader : mg "Reader" = some (.ref c_Reader)
  cl_Reader : Cls K c_Reader
  n_Reader_codes : NoAttr K c_Reader "codes"
  n_Reader_offset : NoAttr K c_Reader "offset"
  Mk_Reader : Mk K c_Reader a_Reader_init
  M_Reader_read_number : Meth K c_Reader "read_number" a_Reader_read_number
  M_Reader_read_word : Meth K c_Reader "read_word" a_Reader_read_word
  M_Reader_read_book : Meth K c_Reader "read_book" a_Reader_read_book
  M_Reader_read_parts : Meth K c_Reader "read_parts" a_Reader_read_parts
  ex_InvalidCard_DecodeError : PySem.W.exmOne K (.ref c_InvalidCard) (.ref c_DecodeError) = some false
  ex_InvalidCard_InvalidCard : PySem.W.exmOne K (.ref c_InvalidCard) (.ref c_InvalidCard) = some true
  ex_DecodeError_DecodeError : PySem.W.exmOne K (.ref c_DecodeError) (.ref c_DecodeError) = some true
theorem b_InvalidCard_init {K : PySem.W.Frag} {mg : Str → Option Value} (T : Top K mg) : Binds K T.fd_InvalidCard_init ["self", "part"] [] := T.F_InvalidCard_init.binds (ps := ["self", "part"]) fun _ _ _ _ _ _ us hl => match us, hl with | [_, _], _ => rfl
theorem b_DecodeError_init {K : PySem.W.Frag} {mg : Str → Option Value} (T : Top K mg) : Binds K T.fd_DecodeError_init ["self", "offset"] [] := T.F_DecodeError_init.binds (ps := ["self", "offset"]) fun _ _ _ _ _ _ us hl => match us, hl with | [_, _], _ => rfl
theorem b_is_word {K : PySem.W.Frag} {mg : Str → Option Value} (T : Top K mg) : Binds K T.fd_is_word ["text"] [] := T.F_is_word.binds (ps := ["text"]) fun _ _ _ _ _ _ us hl => match us, hl with | [_], _ => rfl
theorem b_is_number {K : PySem.W.Frag} {mg : Str → Option Value} (T : Top K mg) : Binds K T.fd_is_number ["number", "least", "greatest"] [] := T.F_is_number.binds (ps := ["number", "least", "greatest"]) fun _ _ _ _ _ _ us hl => match us, hl with | [_, _, _], _ => rfl
theorem b_are_books {K : PySem.W.Frag} {mg : Str → Option Value} (T : Top K mg) : Binds K T.fd_are_books ["books"] [] := T.F_are_books.binds (ps := ["books"]) fun _ _ _ _ _ _ us hl => match us, hl with | [_], _ => rfl
theorem b_is_target {K : PySem.W.Frag} {mg : Str → Option Value} (T : Top K mg) : Binds K T.fd_is_target ["see", "heading"] [] := T.F_is_target.binds (ps := ["see", "heading"]) fun _ _ _ _ _ _ us hl => match us, hl with | [_, _], _ => rfl
theorem b_are_further {K : PySem.W.Frag} {mg : Str → Option Value} (T : Top K mg) : Binds K T.fd_are_further ["also", "heading"] [] := T.F_are_further.binds (ps := ["also", "heading"]) fun _ _ _ _ _ _ us hl => match us, hl with | [_, _], _ => rfl
theorem b_wrong_part {K : PySem.W.Frag} {mg : Str → Option Value} (T : Top K mg) : Binds K T.fd_wrong_part ["heading", "books", "see", "also"] [] := T.F_wrong_part.binds (ps := ["heading", "books", "see", "also"]) fun _ _ _ _ _ _ us hl => match us, hl with | [_, _, _, _], _ => rfl
theorem b_Card_heading {K : PySem.W.Frag} {mg : Str → Option Value} (T : Top K mg) : Binds K T.fd_Card_heading ["self"] [] := T.F_Card_heading.binds (ps := ["self"]) fun _ _ _ _ _ _ us hl => match us, hl with | [_], _ => rfl
theorem b_Card_books {K : PySem.W.Frag} {mg : Str → Option Value} (T : Top K mg) : Binds K T.fd_Card_books ["self"] [] := T.F_Card_books.binds (ps := ["self"]) fun _ _ _ _ _ _ us hl => match us, hl with | [_], _ => rfl
theorem b_Card_see {K : PySem.W.Frag} {mg : Str → Option Value} (T : Top K mg) : Binds K T.fd_Card_see ["self"] [] := T.F_Card_see.binds (ps := ["self"]) fun _ _ _ _ _ _ us hl => match us, hl with | [_], _ => rfl
theorem b_Card_also {K : PySem.W.Frag} {mg : Str → Option Value} (T : Top K mg) : Binds K T.fd_Card_also ["self"] [] := T.F_Card_also.binds (ps := ["self"]) fun _ _ _ _ _ _ us hl => match us, hl with | [_], _ => rfl
theorem b_Card_leads {K : PySem.W.Frag} {mg : Str → Option Value} (T : Top K mg) : Binds K T.fd_Card_leads ["self"] [] := T.F_Card_leads.binds (ps := ["self"]) fun _ _ _ _ _ _ us hl => match us, hl with | [_], _ => rfl
theorem b_Drawer_init {K : PySem.W.Frag} {mg : Str → Option Value} (T : Top K mg) : Binds K T.fd_Drawer_init ["self", "cards"] [] := T.F_Drawer_init.binds (ps := ["self", "cards"]) fun _ _ _ _ _ _ us hl => match us, hl with | [_, _], _ => rfl
theorem b_Drawer_cards {K : PySem.W.Frag} {mg : Str → Option Value} (T : Top K mg) : Binds K T.fd_Drawer_cards ["self"] [] := T.F_Drawer_cards.binds (ps := ["self"]) fun _ _ _ _ _ _ us hl => match us, hl with | [_], _ => rfl
theorem b_Drawer_len {K : PySem.W.Frag} {mg : Str → Option Value} (T : Top K mg) : Binds K T.fd_Drawer_len ["self"] [] := T.F_Drawer_len.binds (ps := ["self"]) fun _ _ _ _ _ _ us hl => match us, hl with | [_], _ => rfl
theorem b_codes_of_word {K : PySem.W.Frag} {mg : Str → Option Value} (T : Top K mg) : Binds K T.fd_codes_of_word ["word"] [] := T.F_codes_of_word.binds (ps := ["word"]) fun _ _ _ _ _ _ us hl => match us, hl with | [_], _ => rfl
theorem b_codes_of_card {K : PySem.W.Frag} {mg : Str → Option Value} (T : Top K mg) : Binds K T.fd_codes_of_card ["card"] [] := T.F_codes_of_card.binds (ps := ["card"]) fun _ _ _ _ _ _ us hl => match us, hl with | [_], _ => rfl
theorem b_checksum_of {K : PySem.W.Frag} {mg : Str → Option Value} (T : Top K mg) : Binds K T.fd_checksum_of ["codes"] [] := T.F_checksum_of.binds (ps := ["codes"]) fun _ _ _ _ _ _ us hl => match us, hl with | [_], _ => rfl
theorem b_encode_drawer {K : PySem.W.Frag} {mg : Str → Option Value} (T : Top K mg) : Binds K T.fd_encode_drawer ["drawer"] [] := T.F_encode_drawer.binds (ps := ["drawer"]) fun _ _ _ _ _ _ us hl => match us, hl with | [_], _ => rfl
theorem b_Reader_init {K : PySem.W.Frag} {mg : Str → Option Value} (T : Top K mg) : Binds K T.fd_Reader_init ["self", "codes"] [] := T.F_Reader_init.binds (ps := ["self", "codes"]) fun _ _ _ _ _ _ us hl => match us, hl with | [_, _], _ => rfl
theorem b_Reader_read_number {K : PySem.W.Frag} {mg : Str → Option Value} (T : Top K mg) : Binds K T.fd_Reader_read_number ["self", "least", "greatest"] [] := T.F_Reader_read_number.binds (ps := ["self", "least", "greatest"]) fun _ _ _ _ _ _ us hl => match us, hl with | [_, _, _], _ => rfl
theorem b_Reader_read_word {K : PySem.W.Frag} {mg : Str → Option Value} (T : Top K mg) : Binds K T.fd_Reader_read_word ["self"] [] := T.F_Reader_read_word.binds (ps := ["self"]) fun _ _ _ _ _ _ us hl => match us, hl with | [_], _ => rfl
theorem b_Reader_read_book {K : PySem.W.Frag} {mg : Str → Option Value} (T : Top K mg) : Binds K T.fd_Reader_read_book ["self", "last"] [] := T.F_Reader_read_book.binds (ps := ["self", "last"]) fun _ _ _ _ _ _ us hl => match us, hl with | [_, _], _ => rfl
theorem b_Reader_read_parts {K : PySem.W.Frag} {mg : Str → Option Value} (T : Top K mg) : Binds K T.fd_Reader_read_parts ["self"] [] := T.F_Reader_read_parts.binds (ps := ["self"]) fun _ _ _ _ _ _ us hl => match us, hl with | [_], _ => rfl
theorem b_decode_drawer {K : PySem.W.Frag} {mg : Str → Option Value} (T : Top K mg) : Binds K T.fd_decode_drawer ["values"] [] := T.F_decode_drawer.binds (ps := ["values"]) fun _ _ _ _ _ _ us hl => match us, hl with | [_], _ => rfl
theorem b_llaw_taken {K : PySem.W.Frag} {mg : Str → Option Value} (T : Top K mg) : Binds K T.fd_llaw_taken ["_law_row", "_law_many"] [] := T.F_llaw_taken.binds (ps := ["_law_row", "_law_many"]) fun _ _ _ _ _ _ us hl => match us, hl with | [_, _], _ => rfl
theorem b_llaw_card {K : PySem.W.Frag} {mg : Str → Option Value} (T : Top K mg) : Binds K T.fd_llaw_card ["_law_row"] [] := T.F_llaw_card.binds (ps := ["_law_row"]) fun _ _ _ _ _ _ us hl => match us, hl with | [_], _ => rfl
theorem b_llaw_drawer {K : PySem.W.Frag} {mg : Str → Option Value} (T : Top K mg) : Binds K T.fd_llaw_drawer ["_law_row", "_law_most"] [] := T.F_llaw_drawer.binds (ps := ["_law_row", "_law_most"]) fun _ _ _ _ _ _ us hl => match us, hl with | [_, _], _ => rfl
theorem b_llaw_checked {K : PySem.W.Frag} {mg : Str → Option Value} (T : Top K mg) : Binds K T.fd_llaw_checked ["_law_items"] [] := T.F_llaw_checked.binds (ps := ["_law_items"]) fun _ _ _ _ _ _ us hl => match us, hl with | [_], _ => rfl
theorem b_llaw_offset {K : PySem.W.Frag} {mg : Str → Option Value} (T : Top K mg) : Binds K T.fd_llaw_offset ["_law_values"] [] := T.F_llaw_offset.binds (ps := ["_law_values"]) fun _ _ _ _ _ _ us hl => match us, hl with | [_], _ => rfl
theorem b_law {K : PySem.W.Frag} {mg : Str → Option Value} (T : Top K mg) : Binds K T.fd_law ["_law_script"] [] := T.F_law.binds (ps := ["_law_script"]) fun _ _ _ _ _ _ us hl => match us, hl with | [_], _ => rfl
end My
namespace My
open PySem L2
section
variable {K : PySem.W.Frag} {H H' H1 H2 : Hp} {a b p r : Addr} {o o' : HO} {xs ys : List V}
/-! ### what stands stays -/
theorem sql_upd (h : SqL K H a xs) (n : a ≠ p) : SqL K (upd H p o) a xs := by
  rcases h with (h | ⟨u, h⟩) | h
  · exact .inl (.inl (by rw [upd_ne n]; exact h))
  · exact .inl (.inr ⟨u, by rw [upd_ne n]; exact h⟩)
  · exact .inr h
theorem sqt_upd (h : SqT K H a xs) (n : a ≠ p) : SqT K (upd H p o) a xs := by
  rcases h with (h | ⟨u, h⟩) | h
  · exact .inl (.inl (by rw [upd_ne n]; exact h))
  · exact .inl (.inr ⟨u, by rw [upd_ne n]; exact h⟩)
  · exact .inr h
theorem _root_.L2.Same.seqT (e : Same H H') (h : SqT K H a xs) : SqT K H' a xs := by
  rcases h with (h | ⟨o, h⟩) | h
  · exact .inl (.inl (e _ _ h))
  · exact .inl (.inr ⟨o, e _ _ h⟩)
  · exact .inr h
theorem same_new (n : H p = none) : Same H (upd H p o) := fun b x e => by
  rw [upd_ne (ne_of_none e n)]
  exact e
/-- an object that H does not know may change -/
theorem same_mut (e : Same H H') (n : H p = none) : Same H (upd H' p o) := fun b x h => by
  rw [upd_ne (ne_of_none h n)]
  exact e b x h
theorem kp (h : H r = some o) (n : H p = none) : upd H p o' r = some o := by
  rw [upd_ne (ne_of_none h n)]
  exact h
theorem kn (h : H r = some o) (n : r ≠ p) : upd H p o' r = some o := by
  rw [upd_ne n]
  exact h
/-- all but one -/
def But (r : Addr) (H H' : Hp) : Prop := ∀ b o, H b = some o → b ≠ r → H' b = some o
theorem But.refl : But r H H := fun _ _ h _ => h
theorem But.trans (a : But r H H1) (b : But r H1 H2) : But r H H2 := fun c o h n => b c o (a c o h n) n
theorem But.upd (a : But r H H1) : But r H (L2.upd H1 r o) := fun c x h n => by
  rw [upd_ne n]
  exact a c x h n
theorem But.same (a : But r H H1) (b : Same H1 H2) : But r H H2 := fun c o h n => b c o (a c o h n)
theorem _root_.L2.Same.but (a : Same H H1) : But r H H1 := fun c o h _ => a c o h
theorem But.seq (e : But r H H') (n : a ≠ r) (h : SqL K H a xs) : SqL K H' a xs := by
  rcases h with (h | ⟨o, h⟩) | h
  · exact .inl (.inl (e _ _ h n))
  · exact .inl (.inr ⟨o, e _ _ h n⟩)
  · exact .inr h
theorem But.seqT (e : But r H H') (n : a ≠ r) (h : SqT K H a xs) : SqT K H' a xs := by
  rcases h with (h | ⟨o, h⟩) | h
  · exact .inl (.inl (e _ _ h n))
  · exact .inl (.inr ⟨o, e _ _ h n⟩)
  · exact .inr h
theorem But.free (e : But r H H') (hr : ∃ o, H r = some o) {l : Addr} (h : H' l = none) (hr' : ∃ o, H' r = some o) : H l = none := by
  cases q : H l with
  | none => rfl
  | some o =>
    by_cases z : l = r
    · subst z
      obtain ⟨o, ho⟩ := hr'
      rw [h] at ho
      cases ho
    · rw [e l o q z] at h
      cases h
/-- what never changes stays -/
def immO : HO → Bool
  | .tup _ => true
  | .ins _ _ _ => true
  | .frz _ _ => true
  | .own _ => true
  | _ => false
def Imm (H H' : Hp) : Prop := ∀ b o, H b = some o → immO o = true → H' b = some o
theorem Imm.refl : Imm H H := fun _ _ h _ => h
theorem Imm.trans (a : Imm H H1) (b : Imm H1 H2) : Imm H H2 := fun c o h n => b c o (a c o h n) n
theorem _root_.L2.Same.imm (a : Same H H1) : Imm H H1 := fun c o h _ => a c o h
theorem But.imm (a : But r H H1) (h : H r = some o) (n : immO o = false) : Imm H H1 := fun c u hc hu => a c u hc fun e => by
  subst e
  rw [h] at hc
  cases hc
  rw [n] at hu
  cases hu
theorem Imm.mut (a : Imm H H1) (h : H1 p = some o) (n : immO o = false) : Imm H (upd H1 p o') := fun c u hc hu => by
  have h1 := a c u hc hu
  rw [upd_ne (fun e => by
    subst e
    rw [h] at h1
    cases h1
    rw [n] at hu
    cases hu)]
  exact h1
theorem Imm.new (a : Imm H H1) (h : H1 p = none) : Imm H (upd H1 p o') := fun c u hc hu => by
  rw [upd_ne (ne_of_none (a c u hc hu) h)]
  exact a c u hc hu
theorem Imm.seqT (e : Imm H H') (h : SqT K H a xs) : SqT K H' a xs := by
  rcases h with (h | ⟨o, h⟩) | h
  · exact .inl (.inl (e _ _ h rfl))
  · exact .inl (.inr ⟨o, e _ _ h rfl⟩)
  · exact .inr h
theorem sizeLine_of {n : Nat} (h : n ≤ 1000000) : n < sizeLine := Nat.lt_of_le_of_lt h (by decide)
/-- a comprehension whose turns change nothing that stands: what it makes, turn by turn -/
theorem lc_rel {J : It} {n : Nat} {G : Hp → Prop} {Y : Nat → Hp → V → Hp → Prop} (w : Walk J n G Y) {g : TG} {tt : TT} {te : TE} {vs : List Nat} {σ : St} {D : Addr} {Qd : Hp → Prop} (hn : n ≤ 1000000) (hD : H1 D = none)
    (Rl : Nat → Option V → Hp → Prop) (mono : ∀ i z H H', Imm H H' → Rl i z H → Rl i z H') (hG : ∀ H, Same H1 H → G H)
    (hs : ∀ i x H H', i < n → Same H1 H → Y i H x H' → ∀ (R : V → Hp → Prop) (R0 : Hp → Prop), (∀ y H4, Rl i (some y) H4 → Same H H4 → R y H4) → (∀ H3, Rl i none H3 → Same H H3 → R0 H3) →
      g x (wipe σ vs) H' fun σ2 H2 => wipe σ2 vs = wipe σ vs ∧ tt σ2 H2 fun b H3 => if b = true then te σ2 H3 R else R0 H3)
    (hd : ∀ H (zs : List (Option V)), Same H1 H → zs.length = n → (∀ i z, zs[i]? = some z → Rl i z H) → H D = some (.lst (zs.filterMap id)) → Qd H) :
    ∃ W : Nat → Nat → Hp → Prop, (∃ m, W 0 m (upd H1 D (.lst []))) ∧ ∀ i m H, W i m H →
      (J.stop i H ∧ Qd H) ∨ (J.go i H ∧ ∃ Nx : Hp → Prop, (∀ H', Nx H' → ∃ m', m' < m ∧ W (i + 1) m' H') ∧ ∀ x H', J.yld i H x H' → g x (wipe σ vs) H' fun σ2 H2 => wipe σ2 vs = wipe σ vs ∧ tt σ2 H2 fun b H3 =>
        if b = true then te σ2 H3 fun y H4 => ∃ acc, H4 D = some (.lst acc) ∧ acc.length < sizeLine ∧ Nx (upd H4 D (.lst (acc ++ [y]))) else Nx H3) := by
  have fl : ∀ zs : List (Option V), (zs.filterMap id).length ≤ zs.length := fun zs => List.length_filterMap_le _ _
  have get_app : ∀ (zs : List (Option V)) (z : Option V) (j : Nat) (y : Option V), (zs ++ [z])[j]? = some y → zs[j]? = some y ∨ (j = zs.length ∧ y = z) := fun zs z j y h => by
    by_cases hj : j < zs.length
    · rw [List.getElem?_append_left hj] at h
      exact .inl h
    · rw [List.getElem?_append_right (by omega)] at h
      have hj2 : j - zs.length = 0 := by
        cases e : j - zs.length with
        | zero => rfl
        | succ k => rw [e] at h; simp at h
      rw [hj2] at h
      exact .inr ⟨by omega, (Option.some.inj h).symm⟩
  refine lc_it w (fun i H => ∃ zs : List (Option V), zs.length = i ∧ Same H1 H ∧ (∀ j z, zs[j]? = some z → Rl j z H) ∧ H D = some (.lst (zs.filterMap id)))
    ⟨[], rfl, same_new hD, fun j z h => by simp at h, upd_same⟩ (fun i H _ ⟨_, _, s, _⟩ => hG H s) ?_ (fun H ⟨zs, l, s, r, e⟩ => hd H zs s l r e)
  rintro i x H H' hi ⟨zs, l, s, r, e⟩ hy
  refine hs i x H H' hi s hy _ _ (fun y H4 hr s4 => ?_) (fun H3 hr s3 => ?_)
  · refine ⟨zs.filterMap id, s4 _ _ e, sizeLine_of (by have := fl zs; omega), zs ++ [some y], by rw [List.length_append, l]; rfl, same_mut (s.trans s4) hD, fun j z h => ?_, ?_⟩
    · have im : Imm H (upd H4 D (.lst (zs.filterMap id ++ [y]))) := s4.imm.mut (s4 _ _ e) rfl
      have im4 : Imm H4 (upd H4 D (.lst (zs.filterMap id ++ [y]))) := Imm.refl.mut (s4 _ _ e) rfl
      rcases get_app zs _ j z h with h | ⟨rfl, rfl⟩
      · exact mono j z _ _ im (r j z h)
      · rw [l]
        exact mono i _ _ _ im4 hr
    · rw [upd_same, List.filterMap_append]
      rfl
  · refine ⟨zs ++ [none], by rw [List.length_append, l]; rfl, s.trans s3, fun j z h => ?_, ?_⟩
    · rcases get_app zs _ j z h with h | ⟨rfl, rfl⟩
      · exact mono j z _ _ s3.imm (r j z h)
      · rw [l]
        exact hr
    · rw [s3 _ _ e, List.filterMap_append]
      simp
/-- .. of values that a function tells -/
theorem lc_fn {J : It} {n : Nat} {G : Hp → Prop} {Y : Nat → Hp → V → Hp → Prop} (w : Walk J n G Y) {g : TG} {tt : TT} {te : TE} {vs : List Nat} {σ : St} {D : Addr} {Qd : Hp → Prop} (hn : n ≤ 1000000) (hD : H1 D = none)
    (f : Nat → Option V) (hG : ∀ H, Same H1 H → G H)
    (hs : ∀ i x H H', i < n → Same H1 H → Y i H x H' → ∀ (R : V → Hp → Prop) (R0 : Hp → Prop), (∀ y H4, f i = some y → Same H H4 → R y H4) → (∀ H3, f i = none → Same H H3 → R0 H3) →
      g x (wipe σ vs) H' fun σ2 H2 => wipe σ2 vs = wipe σ vs ∧ tt σ2 H2 fun b H3 => if b = true then te σ2 H3 R else R0 H3)
    (hd : ∀ H, Same H1 H → H D = some (.lst ((List.range n).filterMap f)) → Qd H) :
    ∃ W : Nat → Nat → Hp → Prop, (∃ m, W 0 m (upd H1 D (.lst []))) ∧ ∀ i m H, W i m H →
      (J.stop i H ∧ Qd H) ∨ (J.go i H ∧ ∃ Nx : Hp → Prop, (∀ H', Nx H' → ∃ m', m' < m ∧ W (i + 1) m' H') ∧ ∀ x H', J.yld i H x H' → g x (wipe σ vs) H' fun σ2 H2 => wipe σ2 vs = wipe σ vs ∧ tt σ2 H2 fun b H3 =>
        if b = true then te σ2 H3 fun y H4 => ∃ acc, H4 D = some (.lst acc) ∧ acc.length < sizeLine ∧ Nx (upd H4 D (.lst (acc ++ [y]))) else Nx H3) := by
  refine lc_rel w hn hD (fun i z _ => f i = z) (fun _ _ _ _ _ h => h) hG hs fun H zs s l r e => hd H s ?_
  have ez : zs = (List.range n).map f := by
    apply List.ext_getElem?
    intro i
    rw [List.getElem?_map]
    cases h : zs[i]? with
    | none =>
      rw [List.getElem?_eq_none_iff] at h
      rw [List.getElem?_eq_none (by rw [List.length_range]; omega)]
      rfl
    | some z =>
      have hi := (List.getElem?_eq_some_iff.mp h).1
      rw [List.getElem?_range (by omega)]
      exact (congrArg some (r i z h)).symm
  rw [e, ez, List.filterMap_map]
  rfl
/-- .. without a test -/
theorem lc_map {J : It} {n : Nat} {G : Hp → Prop} {Y : Nat → Hp → V → Hp → Prop} (w : Walk J n G Y) {g : TG} {te : TE} {vs : List Nat} {σ : St} {D : Addr} {Qd : Hp → Prop} (hn : n ≤ 1000000) (hD : H1 D = none)
    (f : Nat → V) (hG : ∀ H, Same H1 H → G H)
    (hs : ∀ i x H H', i < n → Same H1 H → Y i H x H' → ∀ R : V → Hp → Prop, (∀ H4, Same H H4 → R (f i) H4) → g x (wipe σ vs) H' fun σ2 H2 => wipe σ2 vs = wipe σ vs ∧ te σ2 H2 R)
    (hd : ∀ H, Same H1 H → H D = some (.lst ((List.range n).map f)) → Qd H) (hg : ∀ x σ H (A B : St → Hp → Prop), (∀ σ2 H2, A σ2 H2 → B σ2 H2) → g x σ H A → g x σ H B) :
    ∃ W : Nat → Nat → Hp → Prop, (∃ m, W 0 m (upd H1 D (.lst []))) ∧ ∀ i m H, W i m H →
      (J.stop i H ∧ Qd H) ∨ (J.go i H ∧ ∃ Nx : Hp → Prop, (∀ H', Nx H' → ∃ m', m' < m ∧ W (i + 1) m' H') ∧ ∀ x H', J.yld i H x H' → g x (wipe σ vs) H' fun σ2 H2 => wipe σ2 vs = wipe σ vs ∧ tYes σ2 H2 fun b H3 =>
        if b = true then te σ2 H3 fun y H4 => ∃ acc, H4 D = some (.lst acc) ∧ acc.length < sizeLine ∧ Nx (upd H4 D (.lst (acc ++ [y]))) else Nx H3) := by
  refine lc_fn w hn hD (fun i => some (f i)) hG (fun i x H H' hi s hy R R0 r1 r0 => hg _ _ _ _ _ (fun σ2 H2 h => ⟨h.1, ?_⟩) (hs i x H H' hi s hy R fun H4 s4 => r1 _ _ rfl s4)) (fun H s e => hd H s (by rw [e, List.filterMap_eq_map']))
  show (if true = true then te σ2 H2 R else R0 H2)
  rw [if_pos rfl]
  exact h.2
theorem gName_mono {k : Nat} : ∀ (x : V) (σ : St) (H : Hp) (A B : St → Hp → Prop), (∀ σ2 H2, A σ2 H2 → B σ2 H2) → gName k x σ H A → gName k x σ H B := fun _ _ _ _ _ h a => h _ _ a
theorem range_get {α : Type} (l : List α) : (List.range l.length).filterMap (fun i => l[i]?) = l := by
  induction l with
  | nil => rfl
  | cons x r ih =>
    rw [List.length_cons, List.range_succ_eq_map, List.filterMap_cons]
    show x :: _ = _
    rw [List.filterMap_map]
    exact congrArg (x :: ·) ih
theorem range_map {α β : Type} (l : List α) (f : α → β) (g : Nat → β) (h : ∀ i x, l[i]? = some x → g i = f x) : (List.range l.length).map g = l.map f := by
  apply List.ext_getElem?
  intro i
  rw [List.getElem?_map, List.getElem?_map]
  cases e : l[i]? with
  | none =>
    rw [List.getElem?_eq_none_iff] at e
    rw [List.getElem?_eq_none (by rw [List.length_range]; omega)]
    rfl
  | some x =>
    rw [List.getElem?_range (List.getElem?_eq_some_iff.mp e).1]
    exact congrArg some (h i x e)
theorem range_fm {α β : Type} (l : List α) (f : α → Option β) (g : Nat → Option β) (h : ∀ i x, l[i]? = some x → g i = f x) : (List.range l.length).filterMap g = l.filterMap f := by
  have e : (List.range l.length).map g = l.map f := range_map l f g h
  have e1 : (List.range l.length).filterMap g = ((List.range l.length).map g).filterMap id := by rw [List.filterMap_map]; rfl
  have e2 : l.filterMap f = (l.map f).filterMap id := by rw [List.filterMap_map]; rfl
  rw [e1, e2, e]
end
end My
namespace My
open PySem PySem.Spec PyProof.Rows L2
/-! ### enumerate(tuple): by the library's Draws -/
def IteT (K : PySem.W.Frag) (a : Addr) : It :=
  ⟨fun i H => ∃ (xs : List V) (x : V), SqT K H a xs ∧ xs[i]? = some x,
   fun i H v H' => ∃ T x, v = .ref T ∧ H T = none ∧ H' = upd H T (.tup [.int (i : Nat), x]) ∧ ∀ xs, SqT K H a xs → xs[i]? = some x,
   fun i H => ∃ xs : List V, SqT K H a xs ∧ xs.length = i⟩
theorem turn_enumT {P : Program} {w : World} {K : PySem.W.Frag} {elts : List Expr} {kk : Nat} {tpos : Pos} (a e it : Addr) (hei : e ≠ it) (hea : e ≠ a) (hai : a ≠ it) :
    Turn P w K (.Tuple elts kk tpos) (IteT K a) [e, it] e (fun i h => (∃ old, IsEnum h e it ((i : Nat) : Int) old) ∧ h.IsTupleIter it a i) where
  mem := by simp
  obj := fun i h st b hb => by
    obtain ⟨⟨old, he⟩, ⟨o, ho, hc, hd⟩⟩ := st
    rcases (by simpa using hb : b = e ∨ b = it) with rfl | rfl
    · exact ⟨_, he, fun v q => nomatch q⟩
    · exact ⟨o, ho, fun v q => by rw [hd] at q; cases q⟩
  keep := fun i h h' st k => by
    obtain ⟨⟨old, he⟩, hi⟩ := st
    exact ⟨⟨old, k e (by simp) _ he⟩, hi.at fun o q => k it (by simp) o q⟩
  item := by
    intro X hP hw hK hc i pins s σ H E I hf st hg
    subst hP hw hK
    obtain ⟨⟨old, he⟩, hit⟩ := st
    obtain ⟨xs, x, hq, hx⟩ := hg
    obtain ⟨its, rv, p, hz⟩ := I.tuple hq
    obtain ⟨u, hu, ru⟩ := rv.get hx
    have lt_e : e < s.heap.objs.size := Heap.lt_size he
    have lt_i : it < s.heap.objs.size := by
      obtain ⟨_, q, _⟩ := hit
      exact Heap.lt_size q
    have hlt : i < its.toArray.size := by
      have := (List.getElem?_eq_some_iff.mp hu).1
      simpa using this
    have D : Draws X.prog X.w X.A.in1 it [it, a] its.toArray.size (fun i v => its.toArray[i]? = some v) (fun i h => h.IsTupleIter it a i ∧ h.IsTuple a its.toArray) :=
      Draws.tuple (show X.A.in1.handled = none from I.ok.hd hc) it a hai its.toArray
    refine wpAny_pyNext_enum_itemD D he ⟨hit, p⟩ hlt hei (by simp [hei, hea]) fun x' h' tk hx' ho hst' hT hsz hk => ?_
    obtain rfl : x' = u := by
      have e1 : its.toArray[i]? = some u := by simpa using hu
      exact Option.some.inj (hx'.symm.trans e1)
    refine ⟨_, rfl, wpAny_letOwnedTupleGo_enum (s := { s with heap := h', toks := tk + 1 }) ho fun h'' he' sb => ?_⟩
    have hT2 := (sb.2 _ (Nat.ne_of_gt lt_e)).trans hT
    have new : ObjOk X.prog X.w (upd H s.heap.objs.size (.tup [.int (i : Nat), x])) h'' s.heap.objs.size (.tup [.int (i : Nat), x]) :=
      ⟨by show 2 ≤ sizeLine; decide, [.int i tk, x'], .cons ⟨_, rfl⟩ (.cons ru .nil), ⟨_, hT2, rfl, _, rfl⟩⟩
    have I1 : Inv X pins σ (upd H s.heap.objs.size (.tup [.int (i : Nat), x])) { s with heap := h'', toks := tk + 1 } :=
      I.turnedNew (ch := [e, it]) (fun b ob hb q => (sb.2 b (fun z => hb (by simp [z]))).trans (hk b ob (fun z => hb (by simp [z])) (fun z => hb (by simp [z])) q)) hf (Nat.le_refl _) new
    refine ⟨.ref s.heap.objs.size, _, I1, rfl, ⟨_, x, rfl, I.hok.fresh (Nat.le_refl _), rfl, fun ys hy => by rw [I.tuple_inj hy hq]; exact hx⟩, ⟨⟨x', ?_⟩, ?_⟩, fun b hb => ?_⟩
    · have e1 : ((i + 1 : Nat) : Int) = (i : Int) + 1 := by omega
      rw [e1]
      exact he'
    · exact hst'.1.at fun o q => (sb.2 it (Ne.symm hei)).trans q
    · have lt_b : b < s.heap.objs.size := by
        rcases (by simpa using hb : b = e ∨ b = it) with z | z
        · rw [z]; exact lt_e
        · rw [z]; exact lt_i
      rw [upd_ne (Nat.ne_of_lt lt_b)]
      exact (hf b hb).1
  done := by
    intro X hP hw hK hc i pins s σ H E I hf st hg
    subst hP hw hK
    obtain ⟨⟨old, he⟩, hit⟩ := st
    obtain ⟨xs, hq, hx⟩ := hg
    obtain ⟨its, rv, p, hz⟩ := I.tuple hq
    obtain ⟨f0, f1, f2, f3, f4, f5⟩ := hf it (by simp)
    have hl := rv.length
    obtain rfl : i = its.toArray.size := by rw [← hx, hl, List.size_toArray]
    have D : Draws X.prog X.w X.A.in1 it [it, a] its.toArray.size (fun i v => its.toArray[i]? = some v) (fun i h => h.IsTupleIter it a i ∧ h.IsTuple a its.toArray) :=
      Draws.tuple (show X.A.in1.handled = none from I.ok.hd hc) it a hai its.toArray
    exact wpAny_pyNext_enum_endD D he ⟨hit, p⟩ fun h' eb => ⟨rfl, I.turned (t' := s.toks) (fun b o hb q => eb b o hb q) f0 f1 f3 f4 f5⟩
  self := fun A i s Q E st h => let ⟨⟨_, he⟩, _⟩ := st; wpAny_pyIter_enum he h
set_option maxHeartbeats 1000000 in
/-- enumerate(v), whatever v begins with -/
theorem meets_en1 {v : Value} {o : Obj} {H : Heap → Prop} (B : Begins v o H) :
    Meets (Builtin.«enumerate.__new__» ⟨[.type "enumerate", v], []⟩) (fun _ R s => H s.heap ∧
      R (.ok (.ret (.ref (s.heap.push o).objs.size))) { s with heap := (s.heap.push o).push { cls := .type "enumerate", data := .fields #[.none, .bool false, .ref s.heap.objs.size, rawInt 0, .none, .none] } }) :=
  .of_wp fun prog w A R s h => by
    obtain ⟨hp, g, d, tk, os⟩ := s
    obtain ⟨h1, h⟩ := h
    have hs := sub_enumerate
    have q1 : ∀ {A' : Around} {E : Value → Shared → Prop} {Q : Value → Shared → Prop}, Q (.ref hp.objs.size) ⟨hp.push o, g, d, tk, os⟩ → wpAny (model prog w) A' (pyIter v) Q E ⟨hp, g, d, tk, os⟩ :=
      fun q => B.iter prog w _ _ ⟨hp, g, d, tk, os⟩ _ h1 q
    wp_walk using q1
    refine wpAny_stack_any fun st => wpAny_pure ?_
    split
    · rename_i c _ _ _ _ _
      cases (c == Value.type "enumerate") <;> (wp_walk using q1; exact ⟨_, rfl, h⟩)
    · wp_walk using q1
      exact ⟨_, rfl, h⟩
theorem call_en1 {prog : Program} {w : World} {A : Around} {E : Value → Shared → Prop} {s : Shared} {v : Value} {o : Obj} {H : Heap → Prop} {Q : Value → Shared → Prop} (B : Begins v o H) (h1 : H s.heap)
    (h : ∀ h', IsEnum h' (s.heap.objs.size + 1) s.heap.objs.size 0 .none → h'.get? s.heap.objs.size = some o →
      (∀ b o, s.heap.get? b = some o → h'.get? b = some o) → Q (.ref (s.heap.objs.size + 1)) { s with heap := h' }) :
    wpAny (model prog w) A (call (.type "enumerate") [v]) Q E s := by
  refine callType_new F.called_enumerate (by decide) (F.typeCall_enumerate_1 _) (F.newCall_enumerate_1 _) (fun obj => F.args_object_init_2 obj _) F.entry_enumerate_new (meets_en1 B) ⟨h1, ?_⟩
  have hz : (s.heap.push o).objs.size = s.heap.objs.size + 1 := Heap.size_push ..
  show _ ∧ _
  rw [hz]
  have he : IsEnum ((s.heap.push o).push { cls := .type "enumerate", data := .fields #[.none, .bool false, .ref s.heap.objs.size, rawInt 0, .none, .none] }) (s.heap.objs.size + 1) s.heap.objs.size 0 .none := by
    have q := Heap.get?_push_size (s.heap.push o) (o := { cls := .type "enumerate", data := .fields #[.none, .bool false, .ref s.heap.objs.size, rawInt 0, .none, .none] }) rfl
    rw [hz] at q
    exact q
  exact ⟨⟨_, he, rfl⟩, h _ he (Heap.get?_push_of_some _ (Heap.get?_push_size _ B.free)) fun b o x => Heap.get?_push_of_some _ (Heap.get?_push_of_some _ x)⟩
def iEnumT (K : PySem.W.Frag) (ta : TA) : TI := fun σ H R => ta σ H fun vs H1 => ∃ a xs, vs = [.ref a] ∧ SqT K H1 a xs ∧ R (IteT K a) H1
theorem pi_enumT {X : Cx} {e : Expr} {ta : TA} {p pos tpos : Pos} {elts : List Expr} {kk : Nat} (hg : Gl X "enumerate") (hm : X.mg "enumerate" = none) (ha : PA X [e] ta) (hs : starEach [e] X.env = [(false, eval e X.env)] := by rfl) :
    PI X (.Tuple elts kk tpos) (.Call (.Name "enumerate" p) [e] [] pos) (iEnumT X.K ta) := by
  refine ⟨fun pins s σ H R I h => ?_⟩
  refine Call_ (ld_blt I hg hm boot_enumerate (PyProof.Rows.callWith_type1 (thn (ha.run pos pins s σ H _ I h) fun us s1 ⟨vs, H1, I1, r1, q1⟩ => ?_) hs rfl))
  obtain ⟨a, xs, ex, hq, q⟩ := q1
  subst ex
  cases r1 with
  | cons r rr =>
    cases rr
    cases r
    obtain ⟨its, rv, p', hz⟩ := I1.tuple hq
    have lt_a : a < s1.heap.objs.size := by
      obtain ⟨o1, ho1, _⟩ := id p'
      exact Heap.lt_size ho1
    refine call_en1 (begins_tuple a its.toArray) (show s1.heap.IsTuple a its.toArray from p') fun h' he hit hk => wpAny_pyIter_enum he ?_
    have I2 : Inv X pins σ H1 { s1 with heap := h' } := I1.kept (t' := s1.toks) hk
    refine ⟨s1.heap.objs.size + 1, [s1.heap.objs.size + 1, s1.heap.objs.size], _, _, H1, rfl, I2, turn_enumT a (s1.heap.objs.size + 1) s1.heap.objs.size (Nat.succ_ne_self _) (fun z => absurd lt_a (by rw [← z]; exact Nat.not_lt_of_le (Nat.le_succ _))) (Nat.ne_of_lt lt_a), ⟨⟨.none, he⟩, ⟨_, hit, rfl, rfl⟩⟩, fun b hb => ?_, q⟩
    have hle : s1.heap.objs.size ≤ b := by
      rcases (by simpa using hb : b = s1.heap.objs.size + 1 ∨ b = s1.heap.objs.size) with z | z
      · rw [z]; exact Nat.le_add_right _ _
      · rw [z]; exact Nat.le_refl _
    exact I1.fpOk hle (I1.hok.fresh hle)
theorem walk_enumT {K : PySem.W.Frag} {a : Addr} {xs : List V} : Walk (IteT K a) xs.length (fun H => SqT K H a xs) (YPair (fun i => some (.int (i : Nat))) (fun i => xs[i]?)) := by
  refine ⟨fun i _ hi q => ⟨xs, xs[i], q, by simp [hi]⟩, fun _ q => ⟨xs, q, rfl⟩, fun i H v H' _ q y => ?_⟩
  obtain ⟨T, x, h1, h2, h3, h4⟩ := y
  exact ⟨T, .int (i : Nat), x, h1, h2, h3, rfl, h4 xs q⟩
theorem walk_zipT {K : PySem.W.Frag} {a b : Addr} {xs ys : List V} {n : Nat} (hn : n = min xs.length ys.length) : Walk (RZ.ItzT K a b) n (fun H => SqT K H a xs ∧ SqT K H b ys) (YPair (fun i => xs[i]?) (fun i => ys[i]?)) := by
  subst hn
  refine ⟨fun i _ hi q => ?_, fun _ q => ⟨xs, ys, q.1, q.2, by omega⟩, fun i H v H' _ q y => ?_⟩
  · exact ⟨xs, ys, xs[i], ys[i], q.1, q.2, List.getElem?_eq_getElem (by omega), List.getElem?_eq_getElem (by omega)⟩
  · obtain ⟨T, x, z, h1, h2, h3, h4, h5⟩ := y
    exact ⟨T, x, z, h1, h2, h3, h4 xs q.1, h5 ys q.2⟩
/-- the class of a tuple -/
theorem ty_tup {K : PySem.W.Frag} {H : Hp} {a : Addr} {xs : List V} (h : SqT K H a xs) : TyX K H (.ref a) (.type "tuple") := by
  rcases h with (h | ⟨u, h⟩) | ⟨o, its, n, hk, hc, _⟩
  · exact .base (.tup h)
  · exact .fTuple h
  · exact .kTuple hk hc
end My
namespace My
open PySem L2
section
variable {K : PySem.W.Frag} {H H' : Hp} {a b : Addr}
/-! ### data that stands: what == asks -/
theorem dpAll_ints : ∀ ns : List Int, DpAll K H (ns.map V.int) (ns.map PyData.int)
  | [] => .nil
  | n :: r => .cons (.int n) (dpAll_ints r)
theorem dpAll_strs : ∀ ws : List Str, DpAll K H (ws.map V.str) (ws.map PyData.str)
  | [] => .nil
  | x :: r => .cons (.str x) (dpAll_strs r)
theorem dp_tInts {ns : List Int} (h : SqT K H a (ns.map V.int)) : Dp K H (.ref a) (.tuple (ns.map PyData.int)) := .tup h (dpAll_ints ns)
theorem dp_lInts {ns : List Int} (h : SqL K H a (ns.map V.int)) : Dp K H (.ref a) (.list (ns.map PyData.int)) := .lst h (dpAll_ints ns)
theorem dp_tStrs {ws : List Str} (h : SqT K H a (ws.map V.str)) : Dp K H (.ref a) (.tuple (ws.map PyData.str)) := .tup h (dpAll_strs ws)
theorem dp_lStrs {ws : List Str} (h : SqL K H a (ws.map V.str)) : Dp K H (.ref a) (.list (ws.map PyData.str)) := .lst h (dpAll_strs ws)
theorem dp_nil (h : SqT K H a []) : Dp K H (.ref a) (.tuple []) := .tup h .nil
theorem can_ints : ∀ ns : List Int, PyData.canLayAll0 (ns.map PyData.int) = true
  | [] => rfl
  | _ :: r => can_ints r
theorem dep_ints : ∀ ns : List Int, PyData.depthAll (ns.map PyData.int) = 0
  | [] => rfl
  | _ :: r => by
    show max 0 (PyData.depthAll (r.map PyData.int)) = 0
    rw [dep_ints r]
    rfl
theorem sh_tInts (ns : List Int) : SeqAt.shaped (.tuple (ns.map PyData.int)) = true := by
  show (PyData.canLayAll0 (ns.map PyData.int) && decide (PyData.depthAll (ns.map PyData.int) + 1 ≤ 64)) = true
  rw [can_ints, dep_ints]
  rfl
theorem sh_lInts (ns : List Int) : SeqAt.shaped (.list (ns.map PyData.int)) = true := by
  show (PyData.canLayAll0 (ns.map PyData.int) && decide (PyData.depthAll (ns.map PyData.int) + 1 ≤ 64)) = true
  rw [can_ints, dep_ints]
  rfl
theorem can_strs : ∀ ws : List Str, (∀ x ∈ ws, PyData.strOk x = true) → PyData.canLayAll0 (ws.map PyData.str) = true
  | [], _ => rfl
  | x :: r, h => by
    show (PyData.strOk x && PyData.canLayAll0 (r.map PyData.str)) = true
    rw [h x (List.mem_cons_self ..), can_strs r fun y hy => h y (List.mem_cons_of_mem _ hy)]
    rfl
theorem dep_strs : ∀ ws : List Str, PyData.depthAll (ws.map PyData.str) = 0
  | [] => rfl
  | _ :: r => by
    show max 0 (PyData.depthAll (r.map PyData.str)) = 0
    rw [dep_strs r]
    rfl
theorem sh_tStrs (ws : List Str) (h : ∀ x ∈ ws, PyData.strOk x = true) : SeqAt.shaped (.tuple (ws.map PyData.str)) = true := by
  show (PyData.canLayAll0 (ws.map PyData.str) && decide (PyData.depthAll (ws.map PyData.str) + 1 ≤ 64)) = true
  rw [can_strs ws h, dep_strs]
  rfl
theorem sh_lStrs (ws : List Str) (h : ∀ x ∈ ws, PyData.strOk x = true) : SeqAt.shaped (.list (ws.map PyData.str)) = true := by
  show (PyData.canLayAll0 (ws.map PyData.str) && decide (PyData.depthAll (ws.map PyData.str) + 1 ≤ 64)) = true
  rw [can_strs ws h, dep_strs]
  rfl
theorem eqv_ints : ∀ ns ms : List Int, PyData.eqvAll (ns.map PyData.int) (ms.map PyData.int) = decide (ns = ms)
  | [], [] => rfl
  | [], _ :: _ => rfl
  | _ :: _, [] => rfl
  | n :: r, m :: q => by
    show ((n == m) && PyData.eqvAll (r.map PyData.int) (q.map PyData.int)) = _
    rw [eqv_ints r q]
    by_cases e : n = m
    · subst e
      by_cases e2 : r = q
      · subst e2
        simp
      · rw [decide_eq_false e2, decide_eq_false (fun z => e2 (List.cons.inj z).2), Bool.and_false]
    · rw [decide_eq_false (fun z => e (List.cons.inj z).1), beq_eq_false_iff_ne.mpr e, Bool.false_and]
theorem eqv_strs : ∀ ns ms : List Str, PyData.eqvAll (ns.map PyData.str) (ms.map PyData.str) = decide (ns = ms)
  | [], [] => rfl
  | [], _ :: _ => rfl
  | _ :: _, [] => rfl
  | n :: r, m :: q => by
    show ((n == m) && PyData.eqvAll (r.map PyData.str) (q.map PyData.str)) = _
    rw [eqv_strs r q]
    by_cases e : n = m
    · subst e
      by_cases e2 : r = q
      · subst e2
        simp
      · rw [decide_eq_false e2, decide_eq_false (fun z => e2 (List.cons.inj z).2), Bool.and_false]
    · rw [decide_eq_false (fun z => e (List.cons.inj z).1), beq_eq_false_iff_ne.mpr e, Bool.false_and]
end
end My
namespace My
open PySem PySem.Spec PyProof.Rows L2
/-! ### max(xs, default=d) -/
def maxOr (d : Int) : List Int → Int
  | [] => d
  | x :: r => r.foldl max x
def rMaxD (K : PySem.W.Frag) : List V → List V → Hp → VK → Prop := fun vs zs H Q => ∃ (a : Addr) (ns : List Int) (d : Int), vs = [.ref a] ∧ zs = [.int d] ∧ SqL K H a (ns.map V.int) ∧ Q (.int (maxOr d ns)) H
theorem cr_maxD {X : Cx} (hc : X.calm = true) (hu : X.A.units + 64 < cLine) : CallRK X (.builtin "max") [Str.ofString "default"] (rMaxD X.K) := by
  intro pins s σ H vs zs us ws Q I r rz h
  obtain ⟨a, ns, d, rfl, rfl, hs, q⟩ := h
  obtain rfl := Vals.ref1 r
  obtain ⟨w1, rfl, t, rfl⟩ := vals1 rz
  obtain ⟨its, rv, hl, hz⟩ := I.list hs
  obtain ⟨as, hr⟩ := Dp.readsAll I (ns.map PyData.int) _ its (dpAll_ints ns) rv
  have al : PySem.W.AlikeAll (ns.map PyData.int) := by
    constructor
    · intro x hx y hy
      obtain ⟨i, _, rfl⟩ := List.mem_map.mp hx
      obtain ⟨j, _, rfl⟩ := List.mem_map.mp hy
      rfl
    · intro x hx
      obtain ⟨i, _, rfl⟩ := List.mem_map.mp hx
      intro z
      cases z
  refine PySem.W.max_list_default (I.ok.hd hc) hl.isList (by simpa using hr) al (by rw [dep_ints]; omega) (fun e h' tk hk => ?_) (fun y ys i v h' tk bs e hv hR hk => ?_)
  · have e' : ns = [] := List.map_eq_nil_iff.mp e
    subst e'
    exact ⟨.int d, H, I.kept hk, ⟨_, rfl⟩, q⟩
  · cases ns with
    | nil => cases e
    | cons n r =>
      obtain ⟨rfl, rfl⟩ := List.cons.inj e
      rw [PySem.W.maxD_ints] at hR
      cases hR with
      | int j t => exact ⟨.int _, H, I.kept hk, ⟨_, rfl⟩, q⟩
theorem maxOr_ge {d : Int} : ∀ {ns : List Int} {y : Int}, y ∈ ns → y ≤ maxOr d ns
  | x :: r, y, h => by
    have key : ∀ (r : List Int) (x y : Int), (y = x ∨ y ∈ r) → y ≤ r.foldl max x := by
      intro r
      induction r with
      | nil =>
        intro x y h
        rcases h with rfl | h
        · exact Int.le_refl _
        · cases h
      | cons z r ih =>
        intro x y h
        show y ≤ r.foldl max (max x z)
        rcases h with rfl | h
        · exact Int.le_trans (Int.le_max_left _ _) (ih _ _ (.inl rfl))
        · rcases List.mem_cons.mp h with rfl | h
          · exact Int.le_trans (Int.le_max_right _ _) (ih _ _ (.inl rfl))
          · exact ih _ _ (.inr h)
    exact key r x y (List.mem_cons.mp h)
theorem maxOr_mem {d : Int} : ∀ {ns : List Int}, ns ≠ [] → maxOr d ns ∈ ns
  | [], h => absurd rfl h
  | x :: r, _ => by
    have key : ∀ (r : List Int) (x : Int), r.foldl max x = x ∨ r.foldl max x ∈ r := by
      intro r
      induction r with
      | nil => exact fun x => .inl rfl
      | cons z r ih =>
        intro x
        show r.foldl max (max x z) = x ∨ r.foldl max (max x z) ∈ z :: r
        rcases ih (max x z) with e | e
        · rw [e]
          rcases Int.le_total x z with h | h
          · rw [Int.max_eq_right h]
            exact .inr (List.mem_cons_self ..)
          · rw [Int.max_eq_left h]
            exact .inl rfl
        · exact .inr (List.mem_cons_of_mem _ e)
    rcases key r x with e | e
    · show r.foldl max x ∈ x :: r
      rw [e]
      exact List.mem_cons_self ..
    · exact List.mem_cons_of_mem _ e
end My
namespace My
open PySem PySem.Spec PyProof.Rows L2
/-! ### rules with the written part told (for blocks of comprehensions) -/
section
variable {X : Cx} {K : PySem.W.Frag}
theorem ix_listK (h : X.K = K) : IxR X (rIxL K) := by
  subst h
  exact ix_list
theorem ix_tupK (h : X.K = K) : IxR X (rIxT K) := by
  subst h
  exact ix_tup
theorem ix_seqK (h : X.K = K) : IxR X (rIx K) := by
  subst h
  exact ix_seq
theorem op_in_seqK (h : X.K = K) : OpR X (compareOp .In) (rIn K false) := by
  subst h
  exact op_in_seq
theorem op_notIn_seqK (h : X.K = K) : OpR X (compareOp .NotIn) (rIn K true) := by
  subst h
  exact op_notIn_seq
theorem op_eqDK (h : X.K = K) (hu : X.A.units + 64 < cLine) : OpR X (compareOp .Eq) (rEqD K) := by
  subst h
  exact op_eqD hu
theorem op_neDK (h : X.K = K) (hu : X.A.units + 64 < cLine) : OpR X (compareOp .NotEq) (rNeD K) := by
  subst h
  exact op_neD hu
theorem call_len_seqK (h : X.K = K) : CallR X (.builtin "len") (fun xs H Q => ∃ p ys, xs = [.ref p] ∧ (SqL K H p ys ∨ SqT K H p ys) ∧ Q (.int ys.length) H) := by
  subst h
  exact call_len_seq
theorem call_list_ofK (h : X.K = K) : CallR X (.type "list") (fun xs H Q => ∃ p ys, xs = [.ref p] ∧ (SqL K H p ys ∨ SqT K H p ys) ∧ ∀ l, H l = none → Q (.ref l) (upd H l (.lst ys))) := by
  subst h
  exact call_list_of
theorem call_tuple_ofK (h : X.K = K) : CallR X (.type "tuple") (fun xs H Q => ∃ p ys, xs = [.ref p] ∧ ((SqL K H p ys ∧ ∀ l, H l = none → Q (.ref l) (upd H l (.tup ys))) ∨ (SqT K H p ys ∧ Q (.ref p) H))) := by
  subst h
  exact call_tuple_of
theorem sl_listK (h : X.K = K) : SlR X (rSlL K) := by
  subst h
  exact sl_list
theorem sl_tupAK (h : X.K = K) : SlR X (rSlA K) := by
  subst h
  exact sl_tupA
theorem cr_allK (h : X.K = K) (hc : X.calm = true) : CallR X (.builtin "all") (rAll K) := by
  subst h
  exact cr_all hc
theorem cr_anyK (h : X.K = K) (hc : X.calm = true) : CallR X (.builtin "any") (rAny K) := by
  subst h
  exact cr_any hc
theorem pe_fldK {ta : TE} {e : Expr} {f : Str} {pos : Pos} (h : X.K = K) (he : PE X e ta) (hb : attributeBase e f X.env (eval e X.env) = eval e X.env) : PE X (.Attribute e f pos) (tFld K ta f) := by
  subst h
  exact pe_fld he hb
end
theorem op_catAK {X : Cx} {K : PySem.W.Frag} (h : X.K = K) : OpR X (binaryOp .Add) (rCatA K) := by
  subst h
  exact op_catA
theorem tYes_of {te : TE} {σ : L2.St} {H : Hp} {R : VK} {R0 : Hp → Prop} (h : te σ H R) : tYes σ H fun b H3 => if b = true then te σ H3 R else R0 H3 := by
  show (if true = true then te σ H R else R0 H)
  rw [if_pos rfl]
  exact h
/-! ### enumerate of a list or a tuple -/
def iEnumA (K : PySem.W.Frag) (ta : TA) : TI := fun σ H R => ta σ H fun vs H1 => ∃ a xs, vs = [.ref a] ∧ ∃ H0, Same H0 H1 ∧ (SqL K H0 a xs ∨ SqT K H0 a xs) ∧
  ∀ (J : It) (G : Hp → Prop), Walk J xs.length G (YPair (fun i => some (.int (i : Nat))) (fun i => xs[i]?)) → (∀ H', Same H0 H' → G H') → R J H1
theorem pi_enumA {X : Cx} {e : Expr} {ta : TA} {p pos tpos : Pos} {elts : List Expr} {kk : Nat} (hg : Gl X "enumerate") (hm : X.mg "enumerate" = none) (ha : PA X [e] ta) (hs : starEach [e] X.env = [(false, eval e X.env)] := by rfl) :
    PI X (.Tuple elts kk tpos) (.Call (.Name "enumerate" p) [e] [] pos) (iEnumA X.K ta) := by
  refine ⟨fun pins s σ H R I h => ?_⟩
  refine Call_ (ld_blt I hg hm boot_enumerate (PyProof.Rows.callWith_type1 (thn (ha.run pos pins s σ H _ I h) fun us s1 ⟨vs, H1, I1, r1, q1⟩ => ?_) hs rfl))
  obtain ⟨a, xs, ex, q⟩ := q1
  subst ex
  cases r1 with
  | cons r rr =>
    cases rr
    cases r
    have fr : ∀ b, b ∈ [s1.heap.objs.size + 1, s1.heap.objs.size] → FpOk X pins H1 b := fun b hb => by
      have hle : s1.heap.objs.size ≤ b := by
        rcases (by simpa using hb : b = s1.heap.objs.size + 1 ∨ b = s1.heap.objs.size) with z | z
        · rw [z]; exact Nat.le_add_right _ _
        · rw [z]; exact Nat.le_refl _
      exact I1.fpOk hle (I1.hok.fresh hle)
    obtain ⟨H0, s0, hq0, q0⟩ := q
    rcases hq0 with hq0 | hq0
    · have hq := s0.seq hq0
      have q := q0 _ _ (walk_enum (K := X.K) (a := a) (xs := xs)) fun H' s' => s'.seq hq0
      obtain ⟨its, rv, p', hz⟩ := I1.list hq
      refine call_enumerate_list p'.isList fun h' he hit hsz hk => wpAny_pyIter_enum he ?_
      have I2 : Inv X pins σ H1 { s1 with heap := h' } := I1.kept (t' := s1.toks) hk
      exact ⟨s1.heap.objs.size + 1, [s1.heap.objs.size + 1, s1.heap.objs.size], _, _, H1, rfl, I2, turn_enum a (s1.heap.objs.size + 1) s1.heap.objs.size, ⟨⟨.none, he⟩, hit, Nat.succ_ne_self _⟩, fr, q⟩
    · have hq := s0.seqT hq0
      have q := q0 _ _ (walk_enumT (K := X.K) (a := a) (xs := xs)) fun H' s' => s'.seqT hq0
      obtain ⟨its, rv, p', hz⟩ := I1.tuple hq
      have lt_a : a < s1.heap.objs.size := by
        obtain ⟨o1, ho1, _⟩ := id p'
        exact Heap.lt_size ho1
      refine call_en1 (begins_tuple a its.toArray) (show s1.heap.IsTuple a its.toArray from p') fun h' he hit hk => wpAny_pyIter_enum he ?_
      have I2 : Inv X pins σ H1 { s1 with heap := h' } := I1.kept (t' := s1.toks) hk
      exact ⟨s1.heap.objs.size + 1, [s1.heap.objs.size + 1, s1.heap.objs.size], _, _, H1, rfl, I2, turn_enumT a (s1.heap.objs.size + 1) s1.heap.objs.size (Nat.succ_ne_self _) (fun z => absurd lt_a (by rw [← z]; exact Nat.not_lt_of_le (Nat.le_succ _))) (Nat.ne_of_lt lt_a), ⟨⟨.none, he⟩, ⟨_, hit, rfl, rfl⟩⟩, fr, q⟩
end My
namespace My
open PySem PySem.Spec PyProof.Rows L2
/-! ### set(t) of a tuple of ints, kept as an object -/
theorem nodup_len {α : Type} [DecidableEq α] {ks ns : List α} (h1 : ks.Nodup) (h2 : ns.Nodup) (h : ∀ k, k ∈ ks ↔ k ∈ ns) : ks.length = ns.length :=
  ((List.perm_ext_iff_of_nodup h1 h2).mpr h).length_eq
def rSetTI (K : PySem.W.Frag) (w : World) : List V → Hp → VK → Prop := fun xs H Q => ∃ (l : Addr) (ns : List Int), xs = [.ref l] ∧ SqT K H l (ns.map V.int) ∧ ns.length ≤ 1000 ∧
  ∀ (p : Addr) (ks : List Int), H p = none → ks.Nodup → (∀ k, k ∈ ks ↔ k ∈ ns) → Q (.ref p) (upd H p (SetO w p (fun j => decide (j ∈ ns)) ks.length))
section
variable {X : Cx}
theorem call_setTI (hc : X.calm = true) : CallR X (.type "set") (rSetTI X.K X.w) := by
  intro pins s σ H xs us Q I r h
  obtain ⟨l, ns, rfl, hq, hl, q⟩ := h
  obtain rfl := Vals.ref1 r
  obtain ⟨its, rv, pt, hz⟩ := I.tuple hq
  refine call_set_tupI ns (I.ok.hd hc) (show s.heap.IsTuple l its.toArray from pt) (ints_of_vals rv) (by unfold scanBound; omega) fun h' tk c R hcn k => ?_
  have hn : H s.heap.objs.size = none := I.hok.fresh (Nat.le_refl _)
  obtain ⟨ks, h1, h2, h3⟩ : ∃ ks : List Int, ks.Nodup ∧ (∀ k, k ∈ ks ↔ k ∈ ns) ∧ ks.length = c := by
    obtain ⟨o, es, ep, t, _, _, _, _, nd, hm, _, _, hn, _⟩ := R
    refine ⟨es.toList.map keyOf, nd, fun k => ?_, ?_⟩
    · rw [← hm k, decide_eq_true_eq]
    · rw [List.length_map, Array.length_toList, hn]
  subst h3
  exact ⟨.ref s.heap.objs.size, _, I.laid (t' := tk) k (Nat.le_refl _) (setO_new R), rfl, q _ ks hn h1 h2⟩
/-- len(s) of a set of ints -/
def rLenSO (w : World) : List V → Hp → VK → Prop := fun xs H Q => ∃ (a : Addr) (S : Int → Bool) (n : Nat), xs = [.ref a] ∧ H a = some (SetO w a S n) ∧ n ≤ 4000 ∧ Q (.int n) H
theorem call_lenSO : CallR X (.builtin "len") (rLenSO X.w) := by
  intro pins s σ H xs us Q I r h
  obtain ⟨a, S, n, rfl, ha, hl, q⟩ := h
  obtain rfl := Vals.ref1 r
  obtain ⟨o, es, ep, t, ho, hex, hd, _, _, _, _, hf, hn, _⟩ := setO_get I ha
  exact call_len_set ho hex hd hf (by rw [hn]; omega) ⟨.int n, H, I.tok _, ⟨_, by rw [hn]⟩, q⟩
theorem call_setTIK {K : PySem.W.Frag} {w : World} (h : X.K = K) (h2 : X.w = w) (hc : X.calm = true) : CallR X (.type "set") (rSetTI K w) := by
  subst h h2
  exact call_setTI hc
end
end My
namespace My
open PySem L2
/-! ### o[i] and len(o) by own methods -/
section
variable {X : Cx}
def inCx (X : Cx) : Cx := { X with A := X.A.in1 }
theorem ok_in (o : X.Ok) : (inCx X).Ok := ⟨o.mod, o.kind, o.glob, o.blt, o.above, o.inj, o.has, o.cab, o.hd, o.frames, o.stk, o.exf, o.bs, o.bsz, o.noex, o.exfs, o.funs, o.frf⟩
theorem ok_out (n : (inCx X).Ok) : X.Ok := ⟨n.mod, n.kind, n.glob, n.blt, n.above, n.inj, n.has, n.cab, n.hd, n.frames, n.stk, n.exf, n.bs, n.bsz, n.noex, n.exfs, n.funs, n.frf⟩
theorem inv_in {pins : List (Addr × Obj)} {σ : St} {H : Hp} {s : Shared} (I : L2.Inv X pins σ H s) : L2.Inv (inCx X) pins σ H s := ⟨ok_in I.ok, I.os, I.bare, I.base, I.loc, I.cell, I.free, I.freeC, I.pin, I.hok, I.len⟩
theorem inv_out {pins : List (Addr × Obj)} {σ : St} {H : Hp} {s : Shared} (I : L2.Inv (inCx X) pins σ H s) : L2.Inv X pins σ H s := ⟨ok_out I.ok, I.os, I.bare, I.base, I.loc, I.cell, I.free, I.freeC, I.pin, I.hok, I.len⟩
theorem passes_in {CX : CXT} {E : XK} (p : Passes CX X E) : Passes CX (inCx X) E := fun pins σ H s e s' I c => p pins σ H s e s' (inv_out I) c
def tItem (C : Addr) (sp : Sp) (E : XK) (ta tb : TE) : TE := fun σ H Q => ta σ H fun x H1 => tb σ H1 fun y H2 => ∃ (a dx : Addr) (fs : List (Str × V)), x = .ref a ∧ H2 a = some (.ins C dx fs) ∧ sp [.ref a, y] H2 Q E
theorem pe_item {CX : CXT} {k : Nat} {f C : Addr} {fd : FuncData} {ps : List Str} {sp : Sp} {E : XK} {ta tb : TE} {a b : PySem.Expr} {pos : Pos} (ha : PE X a ta) (hb : PE X b tb) (m : Meth X.K C "__getitem__" f) (fi : W.fnIn X.K f = true)
    (F : FnOk X.prog X.w X.K X.mg X.base CX k f fd ps sp) (hr : Room (k + 1) X.A) (bd : Binds X.K fd ps []) (px : Passes CX X E)
    (hs : ∀ (x : Addr) (i : Value), subscripted b true (.ref x) i = runValue (Code.builtin "lifetime.subscript" { pos := [.ref x, i] }) := by intros; with_unfolding_all rfl) : PE X (.Subscript a b pos) (tItem C sp E ta tb) := by
  refine ⟨fun pins s σ H Q I h => ?_⟩
  refine PyProof.Rows.Subscript_ (thn (ha.run pins s σ H _ I h) fun u s1 ⟨x, H1, I1, rx, q1⟩ => ?_)
  refine thn (hb.run pins s1 σ H1 _ I1 q1) fun v s2 ⟨y, H2, I2, ry, q2⟩ => ?_
  obtain ⟨p, dx, fs, rfl, hp, hsp⟩ := q2
  obtain rfl : u = .ref p := rx
  obtain ⟨mm, fr⟩ := I2.fr
  obtain ⟨mA, om, _⟩ := ins_get I2.hok hp
  obtain ⟨od, ia, _⟩ := om.look
  refine W.sub_K fr I2.ok.mod.kin ia m.at_ fi m.fn ?_ (hs p v)
  have q := run_fn (X := inCx X) F hr.in1 bd .nil (passes_in px) (inv_in I2) (vs := [.ref p, y]) (.cons rfl (.cons ry .nil)) (Q := Q) (by rw [List.append_nil]; exact hsp)
  exact thn q fun z s3 ⟨v3, H3, I3, r3, q3⟩ => ⟨v3, H3, inv_out I3, r3, q3⟩
theorem call_lenOwn {CX : CXT} {k : Nat} {f C : Addr} {fd : FuncData} {ps : List Str} {sp : Sp} {E : XK} (m : Meth X.K C "__len__" f)
    (F : FnOk X.prog X.w X.K X.mg X.base CX k f fd ps sp) (hr : Room (k + 1) X.A) (bd : Binds X.K fd ps []) (px : Passes CX X E) :
    CallR X (.builtin "len") (fun xs H Q => ∃ (a dx : Addr) (fs : List (Str × V)), xs = [.ref a] ∧ H a = some (.ins C dx fs) ∧ sp [.ref a] H (fun v H' => ∃ n : Int, v = .int n ∧ 0 ≤ n ∧ n < 2 ^ 63 ∧ Q (.int n) H') E) := by
  intro pins s σ H xs us Q I r h
  obtain ⟨p, dx, fs, rfl, hp, hsp⟩ := h
  obtain rfl := Vals.ref1 r
  obtain ⟨mm, fr⟩ := I.fr
  obtain ⟨mA, om, _⟩ := ins_get I.hok hp
  obtain ⟨od, ia, _⟩ := om.look
  refine W.len_K fr I.ok.mod.kin ia m.at_ m.fn ?_
  have q := run_fn (X := inCx X) F hr.in1 bd .nil (passes_in px) (inv_in I) (vs := [.ref p]) (.cons rfl .nil) (Q := fun v H' => ∃ n : Int, v = .int n ∧ 0 ≤ n ∧ n < 2 ^ 63 ∧ Q (.int n) H') (by rw [List.append_nil]; exact hsp)
  refine thn q fun z s3 ⟨v3, H3, I3, r3, q3⟩ => ?_
  obtain ⟨n, rfl, h0, h1, hq⟩ := q3
  obtain ⟨t, rfl⟩ := r3
  exact ⟨⟨h0, h1⟩, .int n, H3, (inv_out I3).tok _, ⟨_, rfl⟩, hq⟩
end
end My
namespace My
open PySem PySem.Spec PyProof.Rows L2
/-! ### sets of one kind, led: what they hold, that their places rise -/
section
variable {P : Program} {w : World} {κ : Type} [DecidableEq κ] {knd : KeyKind P w κ} {A : Around} {E : Value → Shared → Prop} {s : Shared} {a : Addr}
def Apart (knd : KeyKind P w κ) (e e' : Int × Value) : Prop := ∀ k, knd.is k e.snd = true → knd.is k e'.snd = true → False
def SetG (knd : KeyKind P w κ) (h : Heap) (a : Addr) (S : κ → Bool) (n : Nat) : Prop := ∃ o es ep t, h.get? a = some o ∧ o.ExactSet ∧ o.data = Data.set es ep t ∧ ElemsOf knd es.toList ∧ (∀ k, S k = true ↔ ∃ e, e ∈ es.toList ∧ knd.is k e.snd = true) ∧
  es.toList.Pairwise (Apart knd) ∧ es.size < scanBound ∧ t.fits es.size = true ∧ es.size = n ∧ Ris t.place.toList ∧ (w.params.followText "set-order" = true ∨ t.led = true)
theorem put_data {o : Obj} {es es' : Array (Int × Value)} {ep : Nat} {t t' : SetTable} (h : o.data = Data.set es ep t) (x : o.ExactSet) : (Obj.putSet es' t' o).data = Data.set es' (ep + 1) t' ∧ (Obj.putSet es' t' o).ExactSet ∧ (Obj.putSet es' t' o).isFreed = false := by
  obtain ⟨c, d, dt, sl⟩ := o
  obtain rfl : dt = Data.set es ep t := h
  exact ⟨rfl, x, rfl⟩
theorem same_put {h : Heap} {f : Obj → Obj} : Heap.SameBut a h (h.update a f) := ⟨Heap.size_update .., fun b n => Heap.get?_update_ne h b a f n⟩
theorem apart_perm {l l' : List (Int × Value)} (p : l.Perm l') (h : l'.Pairwise (Apart knd)) : l.Pairwise (Apart knd) :=
  (p.symm.pairwise_iff (fun {x y} (q : Apart knd x y) k h1 h2 => q k h2 h1)).mp h
theorem elems_perm {l l' : List (Int × Value)} (p : l.Perm l') (h : ElemsOf knd l') : ElemsOf knd l := fun e he => h e (p.mem_iff.mp he)
theorem setG_tail {g : Bool → Sem Unit} (hg : ∀ (b : Bool) (s₁ : Shared) (Q' : Unit → Shared → Prop), Q' () s₁ → wpAny (model P w) A (g b) Q' E s₁) {o : Obj} {es : Array (Int × Value)} {ep : Nat} {t : SetTable} (ho : s.heap.get? a = some o) (hx : o.ExactSet) (hd : o.data = Data.set es ep t)
    {es1 : Array (Int × Value)} {t2 : SetTable} {S' : κ → Bool} (he : ElemsOf knd es1.toList) (hS : ∀ k, S' k = true ↔ ∃ e, e ∈ es1.toList ∧ knd.is k e.snd = true) (hp : es1.toList.Pairwise (Apart knd)) (hz : es1.size < scanBound) (hf : t2.fits es1.size = true) (hr : Ris t2.place.toList) (hl : w.params.followText "set-order" = true ∨ t2.led = true)
    {wasDummy : Bool} {R : Option Bool → Shared → Prop} (k : ∀ h', Heap.SameBut a s.heap h' → SetG knd h' a S' es1.size → R (some true) { s with heap := h' }) :
    wpAny (model P w) A (do
      storeSet a es1 t2
      if (!wasDummy && t2.tooFull) = true then do
          g (relayAll t2 es1 (SetTable.grown es1.size)).snd.snd
          storeSet a (relayAll t2 es1 (SetTable.grown es1.size)).fst (relayAll t2 es1 (SetTable.grown es1.size)).snd.fst
          pure (some true)
        else pure (some true)) R E s := by
  have hb : ∀ n, n < scanBound → n ≤ sizeLine := fun n h => Nat.le_of_lt (Nat.lt_of_lt_of_le h (by decide))
  refine wpAny_bind (wpAny_storeSet_of ho hd ?_ (hb _ hz))
  obtain ⟨d1, x1, f1⟩ := put_data (es' := es1) (t' := t2) hd hx
  have h1 : (s.heap.update a (Obj.putSet es1 t2)).get? a = some (Obj.putSet es1 t2 o) := Heap.get?_update_self _ ho f1
  split
  · refine wpAny_bind (hg _ _ _ ?_)
    have pm := relayAll_perm t2 es1 (SetTable.grown es1.size)
    have ft := relayAll_fits t2 es1 (SetTable.grown es1.size)
    have rs := relayAll_ris t2 es1 (SetTable.grown es1.size)
    have ld := relayAll_led t2 es1 (SetTable.grown es1.size)
    generalize (relayAll t2 es1 (SetTable.grown es1.size)).fst = es2 at *
    generalize (relayAll t2 es1 (SetTable.grown es1.size)).snd.fst = t3 at *
    have sz : es2.size = es1.size := by
      have := pm.length_eq
      rwa [Array.length_toList, Array.length_toList] at this
    refine wpAny_bind (wpAny_storeSet_of h1 d1 ?_ (by rw [sz]; exact hb _ hz))
    refine wpAny_pure ?_
    obtain ⟨d2, x2, f2⟩ := put_data (es' := es2) (t' := t3) d1 x1
    refine k _ ⟨by rw [Heap.size_update, Heap.size_update], fun b n => by rw [Heap.get?_update_ne _ _ _ _ n, Heap.get?_update_ne _ _ _ _ n]⟩ ⟨_, es2, _, t3, Heap.get?_update_self _ h1 f2, x2, d2, elems_perm pm he, fun k => ?_, apart_perm pm hp, by rw [sz]; exact hz, ft, sz, rs, by rw [ld]; exact hl⟩
    rw [hS k]
    exact ⟨fun ⟨e, m, i⟩ => ⟨e, pm.mem_iff.mpr m, i⟩, fun ⟨e, m, i⟩ => ⟨e, pm.mem_iff.mp m, i⟩⟩
  · refine wpAny_pure ?_
    exact k _ same_put ⟨_, es1, _, t2, h1, x1, d1, he, hS, hp, hz, hf, rfl, hr, hl⟩
theorem gwAny {M : Model} {g : Bool → Sem Unit} {b : Bool} {Q : Unit → Shared → Prop} (h0 : g false = pure ()) (h1 : g true = rule "set.scan.the-table-gave-way") (q : Q () s) : wpAny M A (g b) Q E s := by
  cases b with
  | false =>
    rw [h0]
    exact wpAny_pure q
  | true =>
    rw [h1]
    exact wpAny_rule q
theorem setG_add_hashed {S : κ → Bool} {n : Nat} {k : κ} {x : Value} {Q : Bool → Shared → Prop} (hk : knd.is k x = true) (hsc : x.scannable = true) (hS : SetG knd s.heap a S n) (hn : n + 1 < scanBound)
    (c : ∀ h', Heap.SameBut a s.heap h' → SetG knd h' a (fun k' => S k' || decide (k' = k)) (if S k = true then n else n + 1) → Q (!S k) { s with heap := h' }) :
    wpAny (model P w) A (setAddHashed a x (knd.hash k)) Q E s := by
  obtain ⟨o, es, ep, t, ho, hx, hd, he, hm, hp, hz, hf, hsz, hr, hl⟩ := hS
  unfold setAddHashed
  refine wpAny_holding ?_
  unfold setAddHashedIn
  refine wpAny_bind (wpAny_setState_of ho hd hf ?_)
  have hbs := byScan_of (knd := knd) hsc hz he
  show wpAny _ _ (if byScan x es = true then _ else _) _ _ _
  rw [if_pos hbs]
  refine wpAny_bind ?_
  unfold setAddByScan
  refine wpAny_bind (wpAny_rule ?_)
  refine wpAny_bind (wpAny_setScan_of hk ho hd hf he ?_)
  cases hfi : List.findIdx? (fun e => knd.is k e.snd) es.toList with
  | some j =>
    refine wpAny_pure (wpAny_pure ?_)
    have hin : S k = true := by
      rw [hm k]
      obtain ⟨hj, hi, _⟩ := List.findIdx?_eq_some_iff_getElem.mp hfi
      exact ⟨_, List.getElem_mem hj, hi⟩
    have q := c s.heap ⟨rfl, fun _ _ => rfl⟩ ⟨o, es, ep, t, ho, hx, hd, he, fun k' => ?_, hp, hz, hf, by rw [if_pos hin]; exact hsz, hr, hl⟩
    · rw [hin] at q
      exact q
    · rw [← hm k', Bool.or_eq_true, decide_eq_true_eq]
      exact ⟨fun h => h.elim id fun e => by rw [e]; exact hin, .inl⟩
  | none =>
    have hout : S k = false := by
      cases q : S k with
      | false => rfl
      | true =>
        obtain ⟨e, em, ei⟩ := (hm k).mp q
        have := List.findIdx?_eq_none_iff.mp hfi e em
        rw [ei] at this
        cases this
    have pm := layNew_perm t es (knd.hash k) x
    have ft := layNew_fits t es (knd.hash k) x
    have ld := layNew_led t es (knd.hash k) x
    have rs := layNew_ris t es (knd.hash k) x hr
    dsimp only
    generalize layNew t es (knd.hash k) x = r at pm ft ld rs ⊢
    obtain ⟨es1, t1, wd, gv⟩ := r
    replace pm : es1.toList.Perm (es.push (knd.hash k, x)).toList := pm
    replace ft : t1.fits es1.size = true := ft
    replace ld : t1.led = t.led := ld
    replace rs : Ris t1.place.toList := rs
    have tl : (es.push (knd.hash k, x)).toList = es.toList ++ [(knd.hash k, x)] := Array.toList_push ..
    rw [tl] at pm
    have sz : es1.size = n + 1 := by
      have := pm.length_eq
      rw [Array.length_toList, List.length_append, Array.length_toList, hsz] at this
      exact this
    have he1 : ElemsOf knd es1.toList := elems_perm pm fun e hm' => by
      rcases List.mem_append.mp hm' with h | h
      · exact he e h
      · rw [List.mem_singleton.mp h]
        exact ⟨⟨k, hk, rfl⟩, hsc⟩
    have hS1 : ∀ k', (S k' || decide (k' = k)) = true ↔ ∃ e, e ∈ es1.toList ∧ knd.is k' e.snd = true := fun k' => by
      rw [Bool.or_eq_true, decide_eq_true_eq, hm k']
      constructor
      · rintro (⟨e, m, i⟩ | rfl)
        · exact ⟨e, pm.mem_iff.mpr (List.mem_append_left _ m), i⟩
        · exact ⟨_, pm.mem_iff.mpr (List.mem_append_right _ (List.mem_singleton.mpr rfl)), hk⟩
      · rintro ⟨e, m, i⟩
        rcases List.mem_append.mp (pm.mem_iff.mp m) with h | h
        · exact .inl ⟨e, h, i⟩
        · rw [List.mem_singleton.mp h] at i
          exact .inr (knd.inj _ _ _ i hk)
    have hp1 : es1.toList.Pairwise (Apart knd) := apart_perm pm (List.pairwise_append.mpr ⟨hp, List.pairwise_singleton _ _, fun e m e' m' k' h1 h2 => by
      rw [List.mem_singleton.mp m'] at h2
      have := knd.inj _ _ _ h2 hk
      subst this
      have z := (hm k').mpr ⟨e, m, h1⟩
      rw [hout] at z
      cases z⟩)
    have hz1 : es1.size < scanBound := by rw [sz]; exact hn
    have c' : ∀ h', Heap.SameBut a s.heap h' → SetG knd h' a (fun k' => S k' || decide (k' = k)) es1.size → Q true { s with heap := h' } := fun h' sb sg => by
      have q := c h' sb (by rw [hout, if_neg (by decide), ← sz]; exact sg)
      rw [hout] at q
      exact q
    dsimp only
    refine wpAny_bind (gwAny rfl rfl ?_)
    have T2 : ∀ b : Bool, (if b = true then t1 else { t1 with plain := false } : SetTable).fits es1.size = true ∧ Ris (if b = true then t1 else { t1 with plain := false } : SetTable).place.toList ∧ (w.params.followText "set-order" = true ∨ (if b = true then t1 else { t1 with plain := false } : SetTable).led = true) := fun b => by
      rw [← ld] at hl
      cases b with
      | true => exact ⟨ft, rs, hl⟩
      | false => exact ⟨ft, rs, hl⟩
    split
    · rw [hashByValue_scannable 8 hsc]
      refine wpAny_bind (wpAny_pure ?_)
      obtain ⟨q1, q2, q3⟩ := T2 (plainKind x)
      exact setG_tail (fun b s₁ Q' q => gwAny rfl rfl q) ho hx hd he1 hS1 hp1 hz1 q1 q2 q3 fun h' sb sg => wpAny_pure (c' h' sb sg)
    · refine wpAny_bind (wpAny_pure ?_)
      obtain ⟨q1, q2, q3⟩ := T2 true
      exact setG_tail (fun b s₁ Q' q => gwAny rfl rfl q) ho hx hd he1 hS1 hp1 hz1 q1 q2 q3 fun h' sb sg => wpAny_pure (c' h' sb sg)
theorem SetG.stay {h h' : Heap} {S : κ → Bool} {n : Nat} (q : SetG knd h a S n) (k : ∀ o, h.get? a = some o → h'.get? a = some o) : SetG knd h' a S n := by
  obtain ⟨o, es, ep, t, ho, r⟩ := q
  exact ⟨o, es, ep, t, k o ho, r⟩
theorem SetG.to {h : Heap} {S S' : κ → Bool} {n : Nat} (q : SetG knd h a S n) (e : ∀ k, S k = S' k) : SetG knd h a S' n := by
  rw [← funext e]
  exact q
theorem setG_update {I : Addr} {fp wr : List Addr} {G : Array GenState → Array GenState → Prop} {n : Nat} {Pv : Nat → Value → Prop} {St : Nat → Shared → Prop} {R : Result → Shared → Prop} (W : WalksS P w A.in1 I fp wr G n Pv St) (S : Addr) (hS : ¬ S ∈ fp) (ks : List κ) (hn : n = ks.length) (hb : ks.length + 1 < scanBound)
    (hv : ∀ i v, Pv i v → ∃ k, ks[i]? = some k ∧ knd.is k v = true ∧ v.scannable = true) : ∀ (d i : Nat) (s : Shared), n - i = d → i ≤ n → St i s → (∃ c, c ≤ i ∧ SetG knd s.heap S (fun j => decide (j ∈ ks.take i)) c) →
    (∀ s' c, Moved (S :: wr) G s s' → c ≤ n → SetG knd s'.heap S (fun j => decide (j ∈ ks)) c → R (Except.ok (Flow.ret Value.none)) s') → codeAny (model P w) A (Code.builtin "set.update.loop" { pos := [Value.ref S, Value.ref I] }) R s
  | 0, i, s, e, hi, hSt, ⟨c, hc, hG⟩, k => by
    obtain rfl : i = n := by omega
    refine codeAny_builtin PyProof.Rows.F.entry_set_update_loop ?_
    rw [Around.under_plain rfl (by with_unfolding_all rfl)]
    refine wpAny_bind (W.done s _ _ hSt fun s' mv => ?_)
    refine wpAny_pure ?_
    have hw : ¬ S ∈ wr := fun z => hS (W.sub S z)
    refine k s' c ⟨fun b o nb => mv.heap b o fun z => nb (List.mem_cons_of_mem _ z), mv.gens, mv.drawn, mv.os, mv.toks⟩ hc ((hG.stay fun o => mv.heap S o hw).to fun j => ?_)
    rw [List.take_of_length_le (by omega)]
  | d + 1, i, s, e, hi, hSt, ⟨c, hc, hG⟩, k => by
    refine codeAny_builtin PyProof.Rows.F.entry_set_update_loop ?_
    rw [Around.under_plain rfl (by with_unfolding_all rfl)]
    refine wpAny_bind (W.item i s _ _ (by omega) hSt fun v s' hp hSt' mv => ?_)
    obtain ⟨key, hk, his, hsc⟩ := hv i v hp
    have hw : ¬ S ∈ wr := fun z => hS (W.sub S z)
    have hG' := hG.stay (h' := s'.heap) fun o => mv.heap S o hw
    refine wpAny_bind (wpAny_holding (wpAny_holding ?_))
    refine wpAny_bind (knd.pyHash his ?_)
    refine setG_add_hashed (s := { s' with toks := s'.toks + 1 }) his hsc hG' (by omega) fun h'' sb sg => ?_
    refine wpAny_pure ?_
    refine And.intro (Code.quiet_builtin _ (by decide +kernel)) ?_
    have hil := (List.getElem?_eq_some_iff.mp hk).1
    have htk : ks.take (i + 1) = ks.take i ++ [key] := by
      rw [List.take_add_one, hk]
      rfl
    refine setG_update W S hS ks hn hb hv d (i + 1) _ (by omega) (by omega) (W.frame (i + 1) s' h'' (s'.toks + 1) hSt' (Nat.le_succ _) fun b hb o ho => ?_) ⟨_, ?_, sg.to fun j => ?_⟩ fun s3 c3 mv3 hc3 hg3 => ?_
    · rw [sb.2 b fun z => hS (z ▸ hb)]
      exact ho
    · split <;> omega
    · rw [htk]
      by_cases z : j ∈ ks.take i
      · rw [decide_eq_true z, Bool.true_or, decide_eq_true (List.mem_append_left _ z)]
      · by_cases z2 : j = key
        · rw [decide_eq_true z2, Bool.or_true, decide_eq_true (List.mem_append_right _ (List.mem_singleton.mpr z2))]
        · rw [decide_eq_false z, decide_eq_false z2, decide_eq_false (fun q => (List.mem_append.mp q).elim z fun q => z2 (List.mem_singleton.mp q))]
          rfl
    · refine k s3 c3 ⟨fun b o nb ho => ?_, W.gtrans _ _ _ mv.gens mv3.gens, mv3.drawn.trans mv.drawn, mv3.os.trans mv.os, Nat.le_trans mv.toks (Nat.le_trans (Nat.le_succ _) mv3.toks)⟩ hc3 hg3
      refine mv3.heap b o nb ?_
      rw [sb.2 b fun z => nb (by rw [z]; exact List.mem_cons_self ..)]
      exact mv.heap b o (fun z => nb (List.mem_cons_of_mem _ z)) ho
end
end My
namespace My
open PySem PySem.Spec PyProof.Rows L2
section
variable {P : Program} {w : World} {κ : Type} [DecidableEq κ] {knd : KeyKind P w κ} {A : Around} {E : Value → Shared → Prop} {s : Shared} {a : Addr}
def freshSet (w : World) : Obj := { cls := Value.type "set", data := Data.set #[] 0 (SetTable.fresh 0 0 !w.params.followText "set-order") }
theorem setG_fresh {h : Heap} {S : Addr} (hS : h.get? S = some (freshSet w)) (ks : List κ) : SetG knd h S (fun j => decide (j ∈ ks.take 0)) 0 := by
  refine ⟨freshSet w, #[], 0, _, hS, ⟨rfl, rfl, rfl⟩, rfl, (fun e (he : e ∈ ([] : List (Int × Value))) => nomatch he), fun k => ?_, List.Pairwise.nil, by decide, rfl, rfl, List.Pairwise.nil, ?_⟩
  · rw [List.take_zero]
    exact ⟨fun q => absurd (of_decide_eq_true q) (List.not_mem_nil), fun ⟨e, he, _⟩ => absurd he (List.not_mem_nil)⟩
  · cases q : w.params.followText "set-order" with
    | true => exact .inl rfl
    | false => exact .inr rfl
theorem setG_init {S l : Addr} {items : Array Value} (ks : List κ) {Φ : PySem.Fin → Shared → Prop} (hh : A.handled = none) (hS : s.heap.get? S = some (freshSet w)) (hl : s.heap.IsList l items) (hv : ∀ (i : Nat) (v : Value), items[i]? = some v → ∃ k, ks[i]? = some k ∧ knd.is k v = true ∧ v.scannable = true) (hn : items.size = ks.length) (hb : ks.length + 1 < scanBound)
    (h : ∀ (s' : Shared) (c : Nat), SetG knd s'.heap S (fun j => decide (j ∈ ks)) c → c ≤ ks.length → (∀ b o, b ≠ S → s.heap.get? b = some o → s'.heap.get? b = some o) → s'.gens = s.gens → s'.drawn = s.drawn → s'.os = s.os → Φ (Fin.done (Flow.ret .none)) s') :
    wpAny (model P w) A (Builtin.«set.__init__» { pos := [Value.ref S, Value.ref l] }) Φ E s := by
  have hT : s.TypeIs (Value.ref S) "set" := ⟨_, hS, rfl⟩
  have hl0 := hl
  obtain ⟨ol, hol, hlc, nl, hld⟩ := hl
  unfold Builtin.«set.__init__»
  refine wpAny_bind (wpAny_ite_true rfl (wpAny_pure ?_))
  refine wpAny_bind ?_
  refine wpAny_bind (wpAny_bind (wpAny_typeOf hT (wpAny_ite_false rfl (wpAny_pure (wpAny_pure ?_)))))
  unfold checkCount
  refine wpAny_bind (wpAny_ite_false rfl (wpAny_ite_false rfl (wpAny_ite_false rfl (wpAny_pure ?_))))
  refine wpAny_bind (wpAny_pure ?_)
  unfold setUsed
  refine wpAny_bind (wpAny_bind (wpAny_setState_of (es := #[]) hS rfl rfl ?_))
  refine wpAny_pure ?_
  refine wpAny_ite_false rfl ?_
  have hTl : s.TypeIs (Value.ref l) "list" := ⟨ol, hol, hlc⟩
  refine wpAny_bind ?_
  unfold Builtin.Frozenset.updateFrom Builtin.Frozenset.isAnySet
  refine wpAny_bind (wpAny_bind (wpAny_isInstance hTl F.sub_list_set ?_))
  refine wpAny_isInstance hTl F.sub_list_frozenset ?_
  refine wpAny_ite_false rfl ?_
  refine wpAny_bind (wpAny_typeOf hTl ?_)
  refine wpAny_ite_false rfl ?_
  refine wpAny_bind (wpAny_pyIter_list hl0 ?_)
  refine wpAny_bind (wpAny_runValue ?_)
  have hlt := Heap.lt_size hol
  have hSt := Heap.lt_size hS
  have hSl : S ≠ l := fun e => by
    rw [e, hol] at hS
    have z : ol.cls = Value.type "set" := by rw [Option.some.inj hS]; rfl
    exact absurd (Value.type.inj (hlc.symm.trans z)) (by decide)
  have W := Walks.toS (Walks.list (prog := P) (w := w) (A := A.in1) hh s.heap.objs.size l (Nat.ne_of_lt hlt) items)
  have pS := Heap.get?_push_of_some { cls := Value.type "list_iterator", data := Data.fields #[Value.ref l, Value.int 0 0] } hS
  have pl := Heap.get?_push_of_some { cls := Value.type "list_iterator", data := Data.fields #[Value.ref l, Value.int 0 0] } hol
  refine setG_update (knd := knd) W S (fun z => ?_) ks hn hb hv _ 0 _ rfl (Nat.zero_le _) ⟨?_, ⟨ol, pl, hlc, nl, hld⟩⟩ ⟨0, Nat.le_refl _, setG_fresh pS ks⟩ fun s' c mv hc hg => ?_
  · rcases List.mem_cons.mp z with z | z
    · exact absurd z (Nat.ne_of_lt hSt)
    · exact hSl (List.mem_singleton.mp z)
  · exact ⟨_, Heap.get?_push_size s.heap rfl, rfl, rfl⟩
  · show wpAny (model P w) A (pure ()) (fun a s' => wpAny (model P w) A ((fun __r => ret Value.none) a) Φ E s') E s'
    refine wpAny_pure ?_
    refine wpAny_pure ?_
    refine h s' c hg (by rw [← hn]; exact hc) (fun b o nb ho => ?_) mv.gens mv.drawn mv.os
    refine mv.heap b o (fun z => ?_) (Heap.get?_push_of_some _ ho)
    rcases List.mem_cons.mp z with z | z
    · exact nb z
    · rw [List.mem_singleton.mp z] at ho
      exact absurd (Heap.lt_size ho) (Nat.lt_irrefl _)
theorem call_set_listG {l : Addr} {items : Array Value} (ks : List κ) {Q : Value → Shared → Prop} (hh : A.handled = none) (hl : s.heap.IsList l items) (hv : ∀ (i : Nat) (v : Value), items[i]? = some v → ∃ k, ks[i]? = some k ∧ knd.is k v = true ∧ v.scannable = true) (hn : items.size = ks.length) (hb : ks.length + 1 < scanBound)
    (h : ∀ (h' : Heap) (tk c : Nat), SetG knd h' s.heap.objs.size (fun j => decide (j ∈ ks)) c → c ≤ ks.length → (∀ b o, s.heap.get? b = some o → h'.get? b = some o) → Q (.ref s.heap.objs.size) { s with heap := h', toks := tk }) : wpAny (model P w) A (call (.type "set") [.ref l]) Q E s := by
  obtain ⟨c, tl, hmro⟩ := F.called_set.mro
  have hmade := F.called_set.made
  have hsub := F.called_set.sub
  have h1 := F.called_set.notType
  have h2 := F.called_set.canCreate
  have hct := F.typeCall_set_1 (Value.ref l)
  refine wpAny_call (codeAny_of_tree ?_)
  refine wpAny_pure ⟨Code.quiet_builtin _ (by decide +kernel), codeAny_builtin F.entry_type_call ?_⟩
  rw [Around.under_plain (weight_type_call_type "set" [.ref l] []) (by with_unfolding_all rfl)]
  unfold Builtin.«type.__call__»
  refine wpAny_ite_false (Eq.refl _) ?_
  refine wpAny_ite_false (Eq.refl _) ?_
  refine wpAny_bind (wpAny_of_eq hct ?_)
  refine wpAny_bind (wpAny_of_eq hmro ?_)
  refine wpAny_ite_false rfl ?_
  refine wpAny_bind (wpAny_of_eq hmade ?_)
  refine wpAny_bind (wpAny_pure ?_)
  refine wpAny_bind (wpAny_holding ?_)
  refine wpAny_call (codeAny_mono (L2.code_set_led1 (E := fun _ _ => False) (Value.ref l) (Q₁ := fun v s₁ => v = .ref s.heap.objs.size ∧ s₁ = { s with heap := s.heap.push { cls := .type "set", data := Data.set #[] 0 (SetTable.fresh 0 0 !w.params.followText "set-order") } }) ⟨rfl, rfl⟩) fun r s₁ hr => ?_)
  obtain ⟨e1, e2⟩ | e3 : (∃ v, r = .ok (.ret v) ∧ v = .ref s.heap.objs.size ∧ s₁ = { s with heap := s.heap.push { cls := .type "set", data := Data.set #[] 0 (SetTable.fresh 0 0 !w.params.followText "set-order") } }) ∨ False := by
    cases r with
    | ok f =>
      cases f with
      | ret v => exact .inl ⟨v, rfl, hr⟩
      | _ => exact .inr hr
    | error e => exact .inr hr
  · obtain ⟨rfl, rfl, rfl⟩ := e2
    have hS := Heap.get?_push_size s.heap (o := { cls := .type "set", data := Data.set #[] 0 (SetTable.fresh 0 0 !w.params.followText "set-order") }) rfl
    have hT : Shared.TypeIs { s with heap := s.heap.push { cls := .type "set", data := Data.set #[] 0 (SetTable.fresh 0 0 !w.params.followText "set-order") } } (Value.ref s.heap.objs.size) "set" := ⟨_, hS, rfl⟩
    have hli := F.called_set.init.lookup
    have hbi := F.called_set.init.bind (Value.ref s.heap.objs.size)
    refine wpAny_bind (wpAny_isInstance hT hsub ?_)
    refine wpAny_ite_false rfl ?_
    refine wpAny_bind (wpAny_holding ?_)
    refine wpAny_bind (wpAny_specialOf hT hli ?_)
    refine wpAny_holding ?_
    refine wpAny_bind (wpAny_of_eq hbi ?_)
    refine wpAny_bind ?_
    refine wpAny_call (codeAny_mono (codeAny_call_builtin F.called_set.init.plain F.entry_set_init (check_set_init_1 hT ?_)) fun r s₂ hr2 => hr2)
    have hl1 : (s.heap.push (freshSet w)).IsList l items := by
      obtain ⟨ol, hol, hlc, nl, hld⟩ := hl
      exact ⟨ol, Heap.get?_push_of_some _ hol, hlc, nl, hld⟩
    refine setG_init (knd := knd) ks hh hS hl1 hv hn hb fun s' c hg hc hk hgn hdr hos => ?_
    refine wpAny_pure ?_
    refine wpAny_ite_false rfl ?_
    refine wpAny_pure ?_
    obtain ⟨hp', gn', dr', tk', os'⟩ := s'
    obtain rfl : gn' = s.gens := hgn
    obtain rfl : dr' = s.drawn := hdr
    obtain rfl : os' = s.os := hos
    refine h hp' tk' c hg hc fun b o ho => hk b o (fun z => ?_) (Heap.get?_push_of_some _ ho)
    rw [z] at ho
    exact absurd (Heap.lt_size ho) (Nat.lt_irrefl _)
  · exact e3.elim
end
end My
namespace My
open PySem PySem.Spec PyProof.Rows L2
/-! ### set(list of texts), its len, sorted of it -/
section
variable {P : Program} {w : World} {X : Cx}
theorem isStr {k : Str} {v : Value} (h : (PySem.strKind P w).is k v = true) : ∃ t, v = Value.str k t := by
  cases v with
  | str x t => exact ⟨t, by rw [eq_of_beq (show (x == k) = true from h)]⟩
  | _ => cases (show false = true from h)
theorem isStr_mk (k : Str) (t : Tok) : (PySem.strKind P w).is k (Value.str k t) = true := beq_self_eq_true k
def keyS : Value → Str
  | .str x _ => x
  | _ => Str.empty
def SetSO (P : Program) (w : World) (a : Addr) (S : Str → Bool) (n : Nat) : HO := .ext fun h => SetG (PySem.strKind P w) h a S n
theorem setS_ok {H : Hp} {h : Heap} {a : Addr} {S : Str → Bool} {n : Nat} (g : SetG (PySem.strKind P w) h a S n) : ObjOk P w H h a (SetSO P w a S n) := by
  refine ⟨g, ?_, fun h1 h2 q k => SetG.stay q k⟩
  obtain ⟨o, _, _, _, ho, _⟩ := g
  exact ⟨o, ho⟩
/-- the texts of a set, each once -/
theorem keysOf {l : List (Int × Value)} {S : Str → Bool} (he : ElemsOf (PySem.strKind P w) l) (hm : ∀ k, S k = true ↔ ∃ e, e ∈ l ∧ (PySem.strKind P w).is k e.snd = true) (hp : l.Pairwise (Apart (PySem.strKind P w))) :
    (l.map fun e => keyS e.snd).Nodup ∧ (∀ k, k ∈ (l.map fun e => keyS e.snd) ↔ S k = true) ∧ ∀ e ∈ l, ∃ t, e.snd = Value.str (keyS e.snd) t := by
  have hk : ∀ e ∈ l, ∃ t, e.snd = Value.str (keyS e.snd) t := fun e m => by
    obtain ⟨⟨k, i, _⟩, _⟩ := he e m
    obtain ⟨t, q⟩ := isStr i
    exact ⟨t, by rw [q]; rfl⟩
  refine ⟨?_, fun k => ?_, hk⟩
  · refine List.pairwise_map.mpr (hp.imp_of_mem fun {a b} ma mb q e => ?_)
    obtain ⟨t, ta⟩ := hk a ma
    obtain ⟨u, tb⟩ := hk b mb
    refine q (keyS a.snd) (by rw [ta]; exact isStr_mk _ _) ?_
    rw [e, tb]
    exact isStr_mk _ _
  · rw [hm k, List.mem_map]
    constructor
    · rintro ⟨e, m, rfl⟩
      obtain ⟨t, q⟩ := hk e m
      exact ⟨e, m, by rw [q]; exact isStr_mk _ _⟩
    · rintro ⟨e, m, i⟩
      obtain ⟨t, q⟩ := isStr i
      exact ⟨e, m, by rw [q]; rfl⟩
theorem vals_strs : ∀ {ws : List Str} {its : List Value}, Vals (ws.map V.str) its → its.length = ws.length ∧ ∀ (i : Nat) (v : Value), its[i]? = some v → ∃ k t, ws[i]? = some k ∧ v = Value.str k t
  | [], its, h => by
    cases h
    exact ⟨rfl, fun i v h => by simp at h⟩
  | x :: ws, its, h => by
    cases h with
    | cons r rr =>
      obtain ⟨t, rfl⟩ := r
      obtain ⟨l, g⟩ := vals_strs rr
      refine ⟨by rw [List.length_cons, List.length_cons, l], fun i v h => ?_⟩
      cases i with
      | zero =>
        cases h
        exact ⟨x, t, rfl, rfl⟩
      | succ i => exact g i v h
def rSetLS (K : PySem.W.Frag) (P : Program) (w : World) : List V → Hp → VK → Prop := fun xs H Q => ∃ (l : Addr) (ws : List Str), xs = [.ref l] ∧ SqL K H l (ws.map V.str) ∧ ws.length ≤ 1000 ∧
  ∀ (p : Addr) (ks : List Str), H p = none → ks.Nodup → (∀ k, k ∈ ks ↔ k ∈ ws) → Q (.ref p) (upd H p (SetSO P w p (fun j => decide (j ∈ ws)) ks.length))
theorem call_setLS (hc : X.calm = true) : CallR X (.type "set") (rSetLS X.K X.prog X.w) := by
  intro pins s σ H xs us Q I r h
  obtain ⟨l, ws, rfl, hq, hl, q⟩ := h
  obtain rfl := Vals.ref1 r
  obtain ⟨its, rv, pt, hz⟩ := I.list hq
  obtain ⟨hlen, hget⟩ := vals_strs rv
  refine call_set_listG (knd := PySem.strKind X.prog X.w) ws (I.ok.hd hc) (show s.heap.IsList l its.toArray from pt.isList) (fun i v hv => ?_) (by rw [List.size_toArray, hlen]) (by unfold scanBound; omega) fun h' tk c G hcn k => ?_
  · rw [List.getElem?_toArray] at hv
    obtain ⟨k, t, h1, rfl⟩ := hget i v hv
    exact ⟨k, h1, isStr_mk k t, rfl⟩
  · have hn : H s.heap.objs.size = none := I.hok.fresh (Nat.le_refl _)
    have G' := G
    obtain ⟨o, es, ep, t, _, _, _, he, hm, hp, _, _, hsz, _⟩ := G
    obtain ⟨h1, h2, _⟩ := keysOf he hm hp
    have h3 : (es.toList.map fun e => keyS e.snd).length = c := by rw [List.length_map, Array.length_toList, hsz]
    generalize (es.toList.map fun e => keyS e.snd) = ks at *
    subst h3
    exact ⟨.ref s.heap.objs.size, _, I.laid (t' := tk) k (Nat.le_refl _) (setS_ok G'), rfl, q _ ks hn h1 fun k => by rw [h2 k, decide_eq_true_eq]⟩
/-- len of such a set -/
def rLenSS (P : Program) (w : World) : List V → Hp → VK → Prop := fun xs H Q => ∃ (a : Addr) (S : Str → Bool) (n : Nat), xs = [.ref a] ∧ H a = some (SetSO P w a S n) ∧ n ≤ 4000 ∧ Q (.int n) H
theorem setS_get {pins : List (Addr × Obj)} {σ : L2.St} {H : Hp} {s : Shared} {a : Addr} {S : Str → Bool} {n : Nat} (I : L2.Inv X pins σ H s) (h : H a = some (SetSO X.prog X.w a S n)) : SetG (PySem.strKind X.prog X.w) s.heap a S n := (I.hok a _ h).1
theorem call_lenSS : CallR X (.builtin "len") (rLenSS X.prog X.w) := by
  intro pins s σ H xs us Q I r h
  obtain ⟨a, S, n, rfl, ha, hl, q⟩ := h
  obtain rfl := Vals.ref1 r
  obtain ⟨o, es, ep, t, ho, hex, hd, _, _, _, _, hf, hn, _⟩ := setS_get I ha
  exact call_len_set ho hex hd hf (by rw [hn]; omega) ⟨.int n, H, I.tok _, ⟨_, by rw [hn]⟩, q⟩
/-- sorted of such a set -/
def rSortedSS (P : Program) (w : World) : List V → Hp → VK → Prop := fun xs H Q => ∃ (a : Addr) (S : Str → Bool) (n : Nat), xs = [.ref a] ∧ H a = some (SetSO P w a S n) ∧ n < 64 ∧
  ∀ (ys : List Str) (p : Addr), ys.Nodup → sortedS ys = true → (∀ k, k ∈ ys ↔ S k = true) → ys.length = n → H p = none → Q (.ref p) (upd H p (.lst (ys.map V.str)))
theorem vals_of_perm {l : List (Int × Value)} {out : List Value} (hk : ∀ e ∈ l, ∃ t, e.snd = Value.str (keyS e.snd) t) (pm : out.Perm (l.map fun x => x.snd)) : ∃ zs : List Str, Vals (zs.map V.str) out ∧ zs.Perm (l.map fun e => keyS e.snd) := by
  refine ⟨out.map keyS, ?_, ?_⟩
  · have ho : ∀ v ∈ out, ∃ t, v = Value.str (keyS v) t := fun v m => by
      obtain ⟨e, me, rfl⟩ := List.mem_map.mp (pm.mem_iff.mp m)
      exact hk e me
    clear pm
    induction out with
    | nil => exact .nil
    | cons v r ih =>
      obtain ⟨t, e⟩ := ho v (List.mem_cons_self ..)
      exact .cons ⟨t, e⟩ (ih fun u m => ho u (List.mem_cons_of_mem _ m))
  · have q := pm.map keyS
    rw [List.map_map] at q
    exact q
theorem cr_sortedSS (hc : X.calm = true) : CallR X (.builtin "sorted") (rSortedSS X.prog X.w) := by
  intro pins s σ H xs us Q I r h
  obtain ⟨a, S, n, rfl, ha, hl, q⟩ := h
  obtain rfl := Vals.ref1 r
  obtain ⟨o, es, ep, t, ho, hex, hd, he, hm, hp, hz, hf, hn, hr, hled⟩ := setS_get I ha
  obtain ⟨k1, k2, k3⟩ := keysOf he hm hp
  refine Calls.call_function_entry kind_sorted plain_sorted entry_sorted (args_sorted1 _) ?_
  refine wpAny_bind (wpAny_pure ?_)
  refine wpAny_bind (collect_set (I.ok.hd hc) ⟨o, ho, hex.1, hd⟩ hf hz hr hled fun s' out keep hsz hg hos pm => ?_)
  obtain ⟨zs, vz, pz⟩ := vals_of_perm k3 pm
  have zl : zs.length = n := by
    have := pz.length_eq
    rw [List.length_map] at this
    rw [this, ← hn]
    exact Array.length_toList
  have I1 : L2.Inv X pins σ H s' := by
    have J := I.kept (t' := s'.toks) keep
    obtain ⟨hp', gn', dr', tk', os'⟩ := s'
    obtain rfl : gn' = s.gens := hg
    obtain rfl : os' = s.os := hos
    exact ⟨J.ok, J.os, J.bare, J.base, J.loc, J.cell, J.free, J.freeC, J.pin, J.hok, J.len⟩
  have ol : out.length = zs.length := (vals_strs vz).1
  have big : zs.length ≤ sizeLine := sizeLine_of (by omega) |> Nat.le_of_lt
  refine wpAny_bind (wpAny_newList ?_ (by rw [ol]; exact big))
  have I2 := I1.lnew (t' := s'.toks) vz (by rw [List.length_map]; exact big)
  have hn1 : H s'.heap.objs.size = none := I1.hok.fresh (Nat.le_refl _)
  refine wpAny_bind (wpAny_holding ?_)
  refine thn (mt_sortS (X := inCx X) pins _ σ _ (.ref s'.heap.objs.size) [] (.ref s'.heap.objs.size) [] (fun v H' => ∃ ys : List Str, ys.Perm zs ∧ sortedS ys = true ∧ H' = upd H s'.heap.objs.size (.lst (ys.map V.str))) (inv_in I2) rfl .nil ⟨_, zs, rfl, rfl, upd_same, by omega, fun ys h1 h2 => ⟨ys, h1, h2, upd_upd⟩⟩) fun v s3 ⟨x, H3, I3, _, ys, py, sy, e3⟩ => ?_
  subst e3
  refine wpAny_pure ⟨_, rfl, .ref s'.heap.objs.size, _, inv_out I3, rfl, ?_⟩
  have pk := py.trans pz
  exact q ys _ (pk.nodup_iff.mpr k1) sy (fun k => (pk.mem_iff).trans (k2 k)) (by rw [py.length_eq, zl]) hn1
end
end My
namespace My
open PySem PySem.Spec PyProof.Rows L2
section
variable {P : Program} {w : World} {X : Cx}
/-! ### set(list of ints) -/
theorem isInt {k : Int} {v : Value} (h : (intKind P w).is k v = true) : ∃ t, v = Value.int k t := by
  cases v with
  | int x t => exact ⟨t, by rw [eq_of_beq (show (x == k) = true from h)]⟩
  | _ => cases (show false = true from h)
theorem setR_of {h : Heap} {a : Addr} {S : Int → Bool} {n : Nat} (G : SetG (intKind P w) h a S n) : SetR w h a S n := by
  obtain ⟨o, es, ep, t, ho, hx, hd, he, hm, hp, hz, hf, hn, hr, hl⟩ := G
  have hk : ∀ e ∈ es.toList, ∃ t, e.snd = Value.int (keyOf e) t ∧ e.fst = hashInt (keyOf e) := fun e m => by
    obtain ⟨⟨k, i, q⟩, _⟩ := he e m
    obtain ⟨t, z⟩ := isInt i
    have kk : keyOf e = k := by
      unfold keyOf
      rw [z]
    rw [kk]
    exact ⟨t, z, q⟩
  have mk : ∀ (k : Int) (t : Tok), (intKind P w).is k (Value.int k t) = true := fun k t => beq_self_eq_true k
  refine ⟨o, es, ep, t, ho, hx, hd, fun e m => ?_, ?_, fun k => ?_, hz, hf, hn, hr, hl⟩
  · obtain ⟨t, z, q⟩ := hk e m
    exact ⟨_, t, z, q⟩
  · refine List.pairwise_map.mpr (hp.imp_of_mem fun {a b} ma mb q e => ?_)
    obtain ⟨t, ta, _⟩ := hk a ma
    obtain ⟨u, tb, _⟩ := hk b mb
    refine q (keyOf a) (by rw [ta]; exact mk _ _) ?_
    rw [e, tb]
    exact mk _ _
  · rw [hm k, List.mem_map]
    constructor
    · rintro ⟨e, m, i⟩
      obtain ⟨t, z⟩ := isInt i
      exact ⟨e, m, by unfold keyOf; rw [z]⟩
    · rintro ⟨e, m, rfl⟩
      obtain ⟨t, z, _⟩ := hk e m
      exact ⟨e, m, by rw [z]; exact mk _ _⟩
theorem vals_ints : ∀ {ns : List Int} {its : List Value}, Vals (ns.map V.int) its → its.length = ns.length ∧ ∀ (i : Nat) (v : Value), its[i]? = some v → ∃ k t, ns[i]? = some k ∧ v = Value.int k t
  | [], its, h => by
    cases h
    exact ⟨rfl, fun i v h => by simp at h⟩
  | x :: ns, its, h => by
    cases h with
    | cons r rr =>
      obtain ⟨t, rfl⟩ := r
      obtain ⟨l, g⟩ := vals_ints rr
      refine ⟨by rw [List.length_cons, List.length_cons, l], fun i v h => ?_⟩
      cases i with
      | zero =>
        cases h
        exact ⟨x, t, rfl, rfl⟩
      | succ i => exact g i v h
def rSetLI (K : PySem.W.Frag) (w : World) : List V → Hp → VK → Prop := fun xs H Q => ∃ (l : Addr) (ns : List Int), xs = [.ref l] ∧ SqL K H l (ns.map V.int) ∧ ns.length ≤ 1000 ∧
  ∀ (p : Addr) (ks : List Int), H p = none → ks.Nodup → (∀ k, k ∈ ks ↔ k ∈ ns) → Q (.ref p) (upd H p (SetO w p (fun j => decide (j ∈ ns)) ks.length))
theorem call_setLI (hc : X.calm = true) : CallR X (.type "set") (rSetLI X.K X.w) := by
  intro pins s σ H xs us Q I r h
  obtain ⟨l, ns, rfl, hq, hl, q⟩ := h
  obtain rfl := Vals.ref1 r
  obtain ⟨its, rv, pt, hz⟩ := I.list hq
  obtain ⟨hlen, hget⟩ := vals_ints rv
  refine call_set_listG (knd := intKind X.prog X.w) ns (I.ok.hd hc) (show s.heap.IsList l its.toArray from pt.isList) (fun i v hv => ?_) (by rw [List.size_toArray, hlen]) (by unfold scanBound; omega) fun h' tk c G hcn k => ?_
  · rw [List.getElem?_toArray] at hv
    obtain ⟨k, t, h1, rfl⟩ := hget i v hv
    exact ⟨k, h1, beq_self_eq_true k, rfl⟩
  · have hn : H s.heap.objs.size = none := I.hok.fresh (Nat.le_refl _)
    have R := setR_of G
    obtain ⟨ks, h1, h2, h3⟩ : ∃ ks : List Int, ks.Nodup ∧ (∀ k, k ∈ ks ↔ k ∈ ns) ∧ ks.length = c := by
      obtain ⟨o, es, ep, t, _, _, _, _, nd, hm, _, _, hn, _⟩ := R
      refine ⟨es.toList.map keyOf, nd, fun k => ?_, ?_⟩
      · rw [← hm k, decide_eq_true_eq]
      · rw [List.length_map, Array.length_toList, hn]
    subst h3
    exact ⟨.ref s.heap.objs.size, _, I.laid (t' := tk) k (Nat.le_refl _) (setO_new R), rfl, q _ ks hn h1 h2⟩
end
end My
namespace My
open PySem L2
theorem call_setLIK {X : Cx} {K : PySem.W.Frag} {w : World} (hK : X.K = K) (hw : X.w = w) (hc : X.calm = true) : CallR X (.type "set") (rSetLI K w) := by
  subst hK hw
  exact call_setLI hc
theorem cr_sortedSetK {X : Cx} {w : World} (hw : X.w = w) (hc : X.calm = true) : CallR X (.builtin "sorted") (rSortedSet w) := by
  subst hw
  exact cr_sortedSet hc
end My
namespace My
open PySem PySem.Spec PyProof.Rows L2
/-! ### set(tuple) -/
section
variable {P : Program} {w : World} {κ : Type} [DecidableEq κ] {knd : PySem.KeyKind P w κ} {A : Around} {E : Value → Shared → Prop} {s : Shared} {a : Addr}
theorem setG_initT {S l : Addr} {items : Array Value} (ks : List κ) {Φ : PySem.Fin → Shared → Prop} (hh : A.handled = none) (hS : s.heap.get? S = some (freshSet w)) (hl : s.heap.IsTuple l items) (hv : ∀ (i : Nat) (v : Value), items[i]? = some v → ∃ k, ks[i]? = some k ∧ knd.is k v = true ∧ v.scannable = true) (hn : items.size = ks.length) (hb : ks.length + 1 < scanBound)
    (h : ∀ (s' : Shared) (c : Nat), SetG knd s'.heap S (fun j => decide (j ∈ ks)) c → c ≤ ks.length → (∀ b o, b ≠ S → s.heap.get? b = some o → s'.heap.get? b = some o) → s'.gens = s.gens → s'.drawn = s.drawn → s'.os = s.os → Φ (Fin.done (Flow.ret .none)) s') :
    wpAny (model P w) A (Builtin.«set.__init__» { pos := [Value.ref S, Value.ref l] }) Φ E s := by
  have hT : s.TypeIs (Value.ref S) "set" := ⟨_, hS, rfl⟩
  have hl0 := hl
  obtain ⟨ol, hol, hlc, nl, hld⟩ := hl
  unfold Builtin.«set.__init__»
  refine wpAny_bind (wpAny_ite_true rfl (wpAny_pure ?_))
  refine wpAny_bind ?_
  refine wpAny_bind (wpAny_bind (wpAny_typeOf hT (wpAny_ite_false rfl (wpAny_pure (wpAny_pure ?_)))))
  unfold checkCount
  refine wpAny_bind (wpAny_ite_false rfl (wpAny_ite_false rfl (wpAny_ite_false rfl (wpAny_pure ?_))))
  refine wpAny_bind (wpAny_pure ?_)
  unfold setUsed
  refine wpAny_bind (wpAny_bind (wpAny_setState_of (es := #[]) hS rfl rfl ?_))
  refine wpAny_pure ?_
  refine wpAny_ite_false rfl ?_
  have hTl : s.TypeIs (Value.ref l) "tuple" := ⟨ol, hol, hlc⟩
  refine wpAny_bind ?_
  unfold Builtin.Frozenset.updateFrom Builtin.Frozenset.isAnySet
  refine wpAny_bind (wpAny_bind (wpAny_isInstance hTl F.sub_tuple_set ?_))
  refine wpAny_isInstance hTl F.sub_tuple_frozenset ?_
  refine wpAny_ite_false rfl ?_
  refine wpAny_bind (wpAny_typeOf hTl ?_)
  refine wpAny_ite_false rfl ?_
  refine wpAny_bind (wpAny_pyIter_tuple hl0 ?_)
  refine wpAny_bind (wpAny_runValue ?_)
  have hlt := Heap.lt_size hol
  have hSt := Heap.lt_size hS
  have hSl : S ≠ l := fun e => by
    rw [e, hol] at hS
    have z : ol.cls = Value.type "set" := by rw [Option.some.inj hS]; rfl
    exact absurd (Value.type.inj (hlc.symm.trans z)) (by decide)
  have W := Walks.toS (Walks.tuple (prog := P) (w := w) (A := A.in1) hh s.heap.objs.size l (Nat.ne_of_lt hlt) items)
  have pS := Heap.get?_push_of_some { cls := Value.type "tuple_iterator", data := Data.fields #[Value.ref l, Value.int 0 0] } hS
  have pl := Heap.get?_push_of_some { cls := Value.type "tuple_iterator", data := Data.fields #[Value.ref l, Value.int 0 0] } hol
  refine setG_update (knd := knd) W S (fun z => ?_) ks hn hb hv _ 0 _ rfl (Nat.zero_le _) ⟨?_, ⟨ol, pl, hlc, nl, hld⟩⟩ ⟨0, Nat.le_refl _, setG_fresh pS ks⟩ fun s' c mv hc hg => ?_
  · rcases List.mem_cons.mp z with z | z
    · exact absurd z (Nat.ne_of_lt hSt)
    · exact hSl (List.mem_singleton.mp z)
  · exact ⟨_, Heap.get?_push_size s.heap rfl, rfl, rfl⟩
  · show wpAny (model P w) A (pure ()) (fun a s' => wpAny (model P w) A ((fun __r => ret Value.none) a) Φ E s') E s'
    refine wpAny_pure ?_
    refine wpAny_pure ?_
    refine h s' c hg (by rw [← hn]; exact hc) (fun b o nb ho => ?_) mv.gens mv.drawn mv.os
    refine mv.heap b o (fun z => ?_) (Heap.get?_push_of_some _ ho)
    rcases List.mem_cons.mp z with z | z
    · exact nb z
    · rw [List.mem_singleton.mp z] at ho
      exact absurd (Heap.lt_size ho) (Nat.lt_irrefl _)
theorem call_set_tupG {l : Addr} {items : Array Value} (ks : List κ) {Q : Value → Shared → Prop} (hh : A.handled = none) (hl : s.heap.IsTuple l items) (hv : ∀ (i : Nat) (v : Value), items[i]? = some v → ∃ k, ks[i]? = some k ∧ knd.is k v = true ∧ v.scannable = true) (hn : items.size = ks.length) (hb : ks.length + 1 < scanBound)
    (h : ∀ (h' : Heap) (tk c : Nat), SetG knd h' s.heap.objs.size (fun j => decide (j ∈ ks)) c → c ≤ ks.length → (∀ b o, s.heap.get? b = some o → h'.get? b = some o) → Q (.ref s.heap.objs.size) { s with heap := h', toks := tk }) : wpAny (model P w) A (call (.type "set") [.ref l]) Q E s := by
  obtain ⟨c, tl, hmro⟩ := F.called_set.mro
  have hmade := F.called_set.made
  have hsub := F.called_set.sub
  have h1 := F.called_set.notType
  have h2 := F.called_set.canCreate
  have hct := F.typeCall_set_1 (Value.ref l)
  refine wpAny_call (codeAny_of_tree ?_)
  refine wpAny_pure ⟨Code.quiet_builtin _ (by decide +kernel), codeAny_builtin F.entry_type_call ?_⟩
  rw [Around.under_plain (weight_type_call_type "set" [.ref l] []) (by with_unfolding_all rfl)]
  unfold Builtin.«type.__call__»
  refine wpAny_ite_false (Eq.refl _) ?_
  refine wpAny_ite_false (Eq.refl _) ?_
  refine wpAny_bind (wpAny_of_eq hct ?_)
  refine wpAny_bind (wpAny_of_eq hmro ?_)
  refine wpAny_ite_false rfl ?_
  refine wpAny_bind (wpAny_of_eq hmade ?_)
  refine wpAny_bind (wpAny_pure ?_)
  refine wpAny_bind (wpAny_holding ?_)
  refine wpAny_call (codeAny_mono (L2.code_set_led1 (E := fun _ _ => False) (Value.ref l) (Q₁ := fun v s₁ => v = .ref s.heap.objs.size ∧ s₁ = { s with heap := s.heap.push { cls := .type "set", data := Data.set #[] 0 (SetTable.fresh 0 0 !w.params.followText "set-order") } }) ⟨rfl, rfl⟩) fun r s₁ hr => ?_)
  obtain ⟨e1, e2⟩ | e3 : (∃ v, r = .ok (.ret v) ∧ v = .ref s.heap.objs.size ∧ s₁ = { s with heap := s.heap.push { cls := .type "set", data := Data.set #[] 0 (SetTable.fresh 0 0 !w.params.followText "set-order") } }) ∨ False := by
    cases r with
    | ok f =>
      cases f with
      | ret v => exact .inl ⟨v, rfl, hr⟩
      | _ => exact .inr hr
    | error e => exact .inr hr
  · obtain ⟨rfl, rfl, rfl⟩ := e2
    have hS := Heap.get?_push_size s.heap (o := { cls := .type "set", data := Data.set #[] 0 (SetTable.fresh 0 0 !w.params.followText "set-order") }) rfl
    have hT : Shared.TypeIs { s with heap := s.heap.push { cls := .type "set", data := Data.set #[] 0 (SetTable.fresh 0 0 !w.params.followText "set-order") } } (Value.ref s.heap.objs.size) "set" := ⟨_, hS, rfl⟩
    have hli := F.called_set.init.lookup
    have hbi := F.called_set.init.bind (Value.ref s.heap.objs.size)
    refine wpAny_bind (wpAny_isInstance hT hsub ?_)
    refine wpAny_ite_false rfl ?_
    refine wpAny_bind (wpAny_holding ?_)
    refine wpAny_bind (wpAny_specialOf hT hli ?_)
    refine wpAny_holding ?_
    refine wpAny_bind (wpAny_of_eq hbi ?_)
    refine wpAny_bind ?_
    refine wpAny_call (codeAny_mono (codeAny_call_builtin F.called_set.init.plain F.entry_set_init (check_set_init_1 hT ?_)) fun r s₂ hr2 => hr2)
    have hl1 : (s.heap.push (freshSet w)).IsTuple l items := by
      obtain ⟨ol, hol, hlc, nl, hld⟩ := hl
      exact ⟨ol, Heap.get?_push_of_some _ hol, hlc, nl, hld⟩
    refine setG_initT (knd := knd) ks hh hS hl1 hv hn hb fun s' c hg hc hk hgn hdr hos => ?_
    refine wpAny_pure ?_
    refine wpAny_ite_false rfl ?_
    refine wpAny_pure ?_
    obtain ⟨hp', gn', dr', tk', os'⟩ := s'
    obtain rfl : gn' = s.gens := hgn
    obtain rfl : dr' = s.drawn := hdr
    obtain rfl : os' = s.os := hos
    refine h hp' tk' c hg hc fun b o ho => hk b o (fun z => ?_) (Heap.get?_push_of_some _ ho)
    rw [z] at ho
    exact absurd (Heap.lt_size ho) (Nat.lt_irrefl _)
  · exact e3.elim
end
section
variable {X : Cx}
def rSetTS (K : PySem.W.Frag) (P : Program) (w : World) : List V → Hp → VK → Prop := fun xs H Q => ∃ (l : Addr) (ws : List Str), xs = [.ref l] ∧ SqT K H l (ws.map V.str) ∧ ws.length ≤ 1000 ∧
  ∀ (p : Addr) (ks : List Str), H p = none → ks.Nodup → (∀ k, k ∈ ks ↔ k ∈ ws) → Q (.ref p) (upd H p (SetSO P w p (fun j => decide (j ∈ ws)) ks.length))
theorem call_setTS (hc : X.calm = true) : CallR X (.type "set") (rSetTS X.K X.prog X.w) := by
  intro pins s σ H xs us Q I r h
  obtain ⟨l, ws, rfl, hq, hl, q⟩ := h
  obtain rfl := Vals.ref1 r
  obtain ⟨its, rv, pt, hz⟩ := I.tuple hq
  obtain ⟨hlen, hget⟩ := vals_strs rv
  refine call_set_tupG (knd := PySem.strKind X.prog X.w) ws (I.ok.hd hc) (show s.heap.IsTuple l its.toArray from pt) (fun i v hv => ?_) (by rw [List.size_toArray, hlen]) (by unfold scanBound; omega) fun h' tk c G hcn k => ?_
  · rw [List.getElem?_toArray] at hv
    obtain ⟨k, t, h1, rfl⟩ := hget i v hv
    exact ⟨k, h1, isStr_mk k t, rfl⟩
  · have hn : H s.heap.objs.size = none := I.hok.fresh (Nat.le_refl _)
    have G' := G
    obtain ⟨o, es, ep, t, _, _, _, he, hm, hp, _, _, hsz, _⟩ := G
    obtain ⟨h1, h2, _⟩ := keysOf he hm hp
    have h3 : (es.toList.map fun e => keyS e.snd).length = c := by rw [List.length_map, Array.length_toList, hsz]
    generalize (es.toList.map fun e => keyS e.snd) = ks at *
    subst h3
    exact ⟨.ref s.heap.objs.size, _, I.laid (t' := tk) k (Nat.le_refl _) (setS_ok G'), rfl, q _ ks hn h1 fun k => by rw [h2 k, decide_eq_true_eq]⟩
theorem call_setTSK {K : PySem.W.Frag} {P : Program} {w : World} (hK : X.K = K) (hP : X.prog = P) (hw : X.w = w) (hc : X.calm = true) : CallR X (.type "set") (rSetTS K P w) := by
  subst hK hP hw
  exact call_setTS hc
end
end My
/-! sorted(xs, key=lambda one: ..), the keys texts: a lambda of one parameter that captures nothing -/
namespace My
open PySem L2 LamX PyProof.Rows
/-- what a key's expression makes of the item v: the text k; nothing that stood is changed -/
def KeyE (prog : Program) (w : World) (scope : Scope) (x : Str) (body : Expr) (R : Heap → Value → Str → Prop) : Prop :=
  ∀ (cenv : Env) (A' : Around) (E' : Value → Shared → Prop) (v : Value) (k : Str) (s₂ : Shared) (m₂ : Str → Option Value), cenv.scope = scope → s₂.heap.Ns cenv.locals m₂ → m₂ x = some v → R s₂.heap v k →
    wpAny (model prog w) A' (eval body cenv) (fun y s₃ => (∃ t, y = .str k t) ∧ Keeps s₂ s₃) E' s₂
/-- the tuple's first is the text -/
def TupK (h : Heap) (v : Value) (k : Str) : Prop := ∃ (t : Addr) (u : Tok) (its : List Value), v = .ref t ∧ IsTup h t (Value.str k u :: its).toArray
theorem tupK_keep {h h' : Heap} {v : Value} {k : Str} (e : ∀ b o, h.get? b = some o → h'.get? b = some o) (r : TupK h v k) : TupK h' v k := by
  obtain ⟨t, u, its, rfl, o, ho, r⟩ := r
  exact ⟨t, u, its, rfl, o, e _ _ ho, r⟩
theorem keeps_tok (s : Shared) (n : Nat) : Keeps s { s with toks := n } := ⟨s.heap, n, rfl, fun _ _ e => e⟩
/-- x[0] -/
theorem key_first {prog : Program} {w : World} {scope : Scope} {x : Str} {j : Nat} {p1 p2 p3 : Pos} (hk : scope.kind = .function) (hl : scope.names.lookup x = some .local) (hd : (x == ("__debug__" : Str)) = false := by decide) :
    KeyE prog w scope x (.Subscript (.Name x p1) (.Constant (.int 0) j p2) p3) TupK := by
  intro cenv A' E' v k s₂ m₂ hs hn hm r
  obtain ⟨t, u, its, rfl, pl⟩ := r
  refine Subscript_ (wpAny_Name (wpAny_loadName_local (by rw [hs]; exact hk) (show cenv.scope.names.lookup x = some .local by rw [hs]; exact hl) hn hm ?_) hd)
  refine wpAny_Constant_int ?_
  refine subscriptTail_builtinR (x := .str k u) (IsTup.typeIs (s := { s₂ with toks := _ }) pl) slot_tuple_getitem.lookup ?_ rfl
  refine getItem_tuple (k := 0) (j := 0) pl (by decide) (by decide) (by show seqIndex? 0 _ = some 0; unfold seqIndex?; simp) (by simp) ⟨rfl, ⟨u, rfl⟩, keeps_tok s₂ _⟩
/-- all but the tables of code objects -/
theorem extN_sql {K : PySem.W.Frag} {H H' : Hp} {a : Addr} {xs : List V} (e : ExtN H H') (h : SqL K H a xs) : SqL K H' a xs := by
  rcases h with (h | ⟨o, h⟩) | h
  · exact .inl (.inl (e _ _ h fun _ z => nomatch z))
  · exact .inl (.inr ⟨o, e _ _ h fun _ z => nomatch z⟩)
  · exact .inr h
theorem extN_imm {H H' : Hp} (e : ExtN H H') : Imm H H' := fun b o h i => e b o h fun ps z => by
  subst z
  cases i
theorem extN_same {H H' : Hp} (e : Same H H') : ExtN H H' := fun b o h _ => e b o h
def keyD (b : V × Str) : PyData := .str b.2
/-- sorted by the keys, equal ones as they stood -/
def sortBy (bs : List (V × Str)) : List (V × Str) := bs.mergeSort (PySem.W.dataLe false keyD)
theorem sortBy_perm (bs : List (V × Str)) : (sortBy bs).Perm bs := List.mergeSort_perm _ _
def tSortLam (K : PySem.W.Frag) (T : List (Addr × Str)) (RK : Hp → V → Str → Prop) (te : TE) : TE := fun σ H Q => te σ H fun v H1 => Tabs T H1 ∧ ∃ (a : Addr) (bs : List (V × Str)), v = .ref a ∧ SqL K H1 a (bs.map (·.1)) ∧ (∀ b ∈ bs, RK H1 b.1 b.2) ∧
  ∀ (p : Addr) (H2 : Hp), ExtN H1 H2 → Tabs T H2 → H2 p = none → Q (.ref p) (upd H2 p (.lst ((sortBy bs).map (·.1))))
section
variable {X : Cx}
theorem pe_sortLam {T : List (Addr × Str)} {te : TE} {c P : Addr} {k : Nat} {e : Expr} {params : Arguments} {body : Expr} {scope : Scope} {x : Str} {p lpos kpos pos : Pos} {R : Heap → Value → Str → Prop} {RK : Hp → V → Str → Prop}
    (hkey : KeyE X.prog X.w scope x body R) (hR : ∀ pins s σ H b u v, Inv X pins σ H s → RK H b u → RelV b v → R s.heap v u) (hRk : ∀ (h h' : Heap) v u, (∀ b o, h.get? b = some o → h'.get? b = some o) → R h v u → R h' v u) (hRe : ∀ H H' b u, ExtN H H' → RK H b u → RK H' b u)
    (hg : Gl X "sorted") (hm : X.mg "sorted" = none) (ha : PE X e te) (TB : TabB X.base X.mg c P) (hcode : X.env.code = .ref c) (hmT : (P, X.env.qual ++ "<lambda>") ∈ T) (hu : ∀ p ∈ T, p.1 = P → p.2 = X.env.qual ++ "<lambda>") (hr : Room k X.A)
    (hdef : defaultsOf params X.env = ([], [])) (hkind : scope.kind = .function) (hco : scope.isCoroutine = false) (hgen : scope.isGenerator = false) (hnames : ∀ y ∈ scope.names, y.2 ≠ .free ∧ y.2 ≠ .cell) (hx : scope.names.lookup x = some .local)
    (hbind : ∀ (q : Str) (cl : List (Str × Addr)) (pm cv ctv v : Value), bindArgs (PySem.W.kla_fn "<lambda>" q params body scope cl pm cv ctv) ⟨[v], []⟩ = pure [(x, v)])
    (hst : starEach [e] X.env = (false, eval e X.env) :: starEach [] X.env := by rfl) (he : backTo pos (starEach [e] X.env) = (false, eval e X.env) :: backTo pos (starEach [] X.env) := by rfl) (hpl : (backTo pos (starEach [e] X.env)).any (·.1) = false := by rfl) :
    PE X (.Call (.Name "sorted" p) [e] [⟨some "key", .Lambda params body scope lpos, kpos⟩] pos) (tSortLam X.K T RK te) := by
  refine ⟨fun pins s σ H Q I h => ?_⟩
  refine wpAny_Call_Name_kw (ld_blt (u := .builtin "sorted") I hg hm (by decide +kernel) ?_ (by decide) (by decide))
  refine PyProof.Rows.callWith_kw (thn ((pa_cons ha pa_nil hst).run pos pins s σ H (fun vs H1 => match vs with | [v] => Tabs T H1 ∧ ∃ (a : Addr) (bs : List (V × Str)), v = .ref a ∧ SqL X.K H1 a (bs.map (·.1)) ∧ (∀ b ∈ bs, RK H1 b.1 b.2) ∧ ∀ (p : Addr) (H2 : Hp), ExtN H1 H2 → Tabs T H2 → H2 p = none → Q (.ref p) (upd H2 p (.lst ((sortBy bs).map (·.1)))) | _ => False) I h) fun us s1 ⟨vs, H1, I1, r1, q1⟩ => ?_) he hpl rfl rfl
  obtain ⟨v, rfl⟩ : ∃ v, vs = [v] := by
    match vs, q1 with
    | [v], _ => exact ⟨v, rfl⟩
  obtain ⟨hT, a, bs, rfl, hL, hK, q⟩ := q1
  obtain rfl := Vals.ref1 r1
  show wpAny _ _ (evalAll [do let v ← eval (.Lambda params body scope lpos) X.env; standAt pos; pure v]) _ _ s1
  refine wpAny_evalAll_cons (wpAny_bind (lam_make2 I1 TB hcode hmT hu hT hdef (fun y hy z => absurd z (hnames y hy).1) fun f c' pm ctv H2 s2 I2 eN T2 hf hfn hfr hco' => wpAny_bind (wpAny_standAt (wpAny_pure (wpAny_evalAll_nil ?_)))))
  show wpAny (model X.prog X.w) X.A (call (.builtin "sorted") [.ref a] [("key", .ref f)]) _ _ s2
  have hL2 := extN_sql eN hL
  obtain ⟨its, rv, hl, hz⟩ := I2.list hL2
  obtain ⟨⟨oc, cvs, ct, hoc, hdc, hvc⟩, _, _⟩ := I2.hok c' _ hco'
  have hbs : ∀ (l : List (V × Str)) (us : List Value), Vals (l.map (·.1)) us → (∀ b ∈ l, b ∈ bs) → PySem.W.EachIs (fun (v : Value) (b : V × Str) => RelV b.1 v ∧ R s2.heap v b.2) us l := by
    intro l
    induction l with
    | nil =>
      intro us r _
      cases r
      exact .nil
    | cons b l ih =>
      intro us r m
      cases r with
      | cons r1 r2 => exact .cons ⟨r1, hR pins s2 σ H2 b.1 b.2 _ I2 (hRe _ _ _ _ eN (hK b (m b (.head _)))) r1⟩ (ih _ r2 fun b' h' => m b' (.tail _ h'))
  have e := hbs bs its rv fun _ h => h
  refine PySem.W.sorted_key_data (R := fun (v : Value) (b : V × Str) => RelV b.1 v ∧ R s2.heap v b.2) (b := false) keyD hl.isList e ?_ ?_ ?_ ?_ (PyProof.Rows.ksk_s1 _ _) (fun _ => PyProof.Rows.ksk_l1 _ _) (fun x => PyProof.Rows.ksk_t1 f x) (fun v b hb hm' g tk kp => ?_) fun out cc h' tk kp hn hD hlen hout => ?_
  · intro d hd d' hd'
    obtain ⟨b, _, rfl⟩ := List.mem_map.mp hd
    obtain ⟨b', _, rfl⟩ := List.mem_map.mp hd'
    rfl
  · refine .inr fun d hd => ?_
    obtain ⟨b, _, rfl⟩ := List.mem_map.mp hd
    exact ⟨nofun, fun _ => nofun⟩
  · rw [List.length_map] at hz
    exact hz
  · intro b _
    have := hr.units
    show X.A.units + 2 + (PyData.str b.2).depth < _
    have z : (PyData.str b.2).depth ≤ 1 := by show _ ≤ 1; simp [PyData.depth]
    omega
  · have of1 := kp _ _ hf
    refine wpAny_call ?_
    refine PySem.W.kla_callFunE (by have := hr.dp; show X.A.depth < _; omega) of1 rfl hco hgen rfl ⟨c', oc, cvs, ct, rfl, kp _ _ hoc, hdc, hvc⟩ ?_
    rw [hbind]
    refine wpAny_pure (wpAny_newFunctionEnv (fun y hy => (hnames y hy).2) (fun y hy => ?_) (fun h₁ hns hsb => ⟨(I2.nolimit.keeps kp).fresh _ hsb, ?_⟩) hkind)
    · obtain rfl := List.mem_singleton.mp hy
      exact hx
    · have kp1 : ∀ b o, g.get? b = some o → h₁.get? b = some o := fun b o e => hsb.extBut b o (Nat.ne_of_lt (Heap.lt_size e)) (Heap.get?_push_of_some _ e)
      refine PySem.W.kla_codeExpr (wpAny_mono (hkey _ _ (fun _ _ => False) v b.2 _ _ rfl hns (by simp) (hRk _ _ _ _ kp1 (hRk _ _ _ _ kp hb.2))) (fun y s3 hq => ?_) fun _ _ z => z.elim)
      obtain ⟨⟨t, rfl⟩, h3, tk3, rfl, kp3⟩ := hq
      exact ⟨h3, tk3, rfl, fun b o e => kp3 b o (kp1 b o e), .str _ _⟩
  · have hv : ∀ (l : List (V × Str)) (us : List Value), PySem.W.EachIs (fun (v : Value) (b : V × Str) => RelV b.1 v ∧ R s2.heap v b.2) us l → Vals (l.map (·.1)) us := by
      intro l us e
      induction e with
      | nil => exact .nil
      | cons r _ ih => exact .cons r.1 ih
    refine ⟨.ref _, upd H2 (s2.heap.objs.size + 1) (.lst ((sortBy bs).map (·.1))), I2.laid (t' := tk) kp (Nat.le_succ _) ⟨?_, out, cc, hv _ _ hout, hD⟩, rfl, q _ H2 eN T2 (I2.hok.fresh (Nat.le_succ _))⟩
    rw [List.length_map, (sortBy_perm bs).length_eq]
    rw [List.length_map] at hz
    exact hz
end
/-- the item is a tuple whose first is the text -/
def RKt (K : PySem.W.Frag) (H : Hp) (x : V) (k : Str) : Prop := ∃ (t : Addr) (xs : List V), x = .ref t ∧ SqT K H t (.str k :: xs)
section
variable {X : Cx}
/-- sorted(xs, key=lambda x: x[0]), the items tuples whose first is a text -/
theorem pe_sortFirst {te : TE} {c P : Addr} {k : Nat} {e : Expr} {params : Arguments} {scope : Scope} {x : Str} {j : Nat} {p p1 p2 p3 lpos kpos pos : Pos}
    (hg : Gl X "sorted") (hm : X.mg "sorted" = none) (ha : PE X e te) (TB : TabB X.base X.mg c P) (hcode : X.env.code = .ref c) (hr : Room k X.A)
    (hdef : defaultsOf params X.env = ([], []) := by rfl) (hkind : scope.kind = .function := by rfl) (hco : scope.isCoroutine = false := by rfl) (hgen : scope.isGenerator = false := by rfl) (hnames : ∀ y ∈ scope.names, y.2 ≠ .free ∧ y.2 ≠ .cell := by decide +kernel) (hx : scope.names.lookup x = some .local := by rfl)
    (hbind : ∀ (q : Str) (cl : List (Str × Addr)) (pm cv ctv v : Value), bindArgs (PySem.W.kla_fn "<lambda>" q params (.Subscript (.Name x p1) (.Constant (.int 0) j p2) p3) scope cl pm cv ctv) ⟨[v], []⟩ = pure [(x, v)] := by intros; rfl)
    (hd : (x == ("__debug__" : Str)) = false := by decide) (hst : starEach [e] X.env = (false, eval e X.env) :: starEach [] X.env := by rfl) (he : backTo pos (starEach [e] X.env) = (false, eval e X.env) :: backTo pos (starEach [] X.env) := by rfl) (hpl : (backTo pos (starEach [e] X.env)).any (·.1) = false := by rfl) :
    PE X (.Call (.Name "sorted" p) [e] [⟨some "key", .Lambda params (.Subscript (.Name x p1) (.Constant (.int 0) j p2) p3) scope lpos, kpos⟩] pos) (tSortLam X.K [(P, X.env.qual ++ "<lambda>")] (RKt X.K) te) := by
  refine pe_sortLam (x := x) (R := TupK) (RK := RKt X.K) (key_first hkind hx hd) (fun pins s σ H b u v I r rv => ?_) (fun h h' v u e r => tupK_keep e r) (fun H H' b u e r => ?_) hg hm ha TB hcode (.head _) (fun q hq _ => by rw [List.mem_singleton.mp hq]) hr hdef hkind hco hgen hnames hx hbind hst he hpl
  · obtain ⟨t, xs, rfl, hT⟩ := r
    obtain rfl : v = .ref t := rv
    obtain ⟨its, vs, pl, _⟩ := I.tuple hT
    cases vs with
    | cons r1 r2 =>
      obtain ⟨tk, rfl⟩ := r1
      exact ⟨t, tk, _, rfl, pl⟩
  · obtain ⟨t, xs, rfl, hT⟩ := r
    exact ⟨t, xs, rfl, (extN_imm e).seqT hT⟩
end
end My
namespace My
open PySem L2 LamX PyProof.Rows
/-- the rule for a def, its own code told -/
theorem _root_.L2.Fun.okC {P : Program} {w : World} {K : PySem.W.Frag} {mg : Str → Option Value} {base : Heap} {x qual : Str} {st : Stmt} {f : Addr} {fd : FuncData} {N ps : List Str} {k : Nat} {sp : Sp} (F : L2.Fun K x qual st f fd) (S : FnScope N ps (defScope st)) (len : ∀ vs H Q E, sp vs H Q E → vs.length = ps.length)
    (hbody : ∀ (A : Around) (outer : List Env) (s : Shared) (H : Hp) (vs : List V) (Q : VK) (E : XK), Room k (A.deeper (envOfC qual (defScope st) s.heap.objs.size f fd.code)) → sp vs H Q E →
      ∃ t, PSs (cxOf CX0 P w K mg base N qual (defScope st) f fd.code A outer s H E).nox (defBody st) t ∧ t { nx := fun _ H' => Q .non H', rt := Q } (start N vs) H) : FnOk P w K mg base CX0 (k + 1) f fd ps sp := by
  obtain ⟨oc, od, kV, doc, pm, an, cdv, ct, osl, rfl, lk, hcd⟩ := F.ex
  refine fn_of lk hcd S len fun A outer s H vs Q E hr hsp => ?_
  obtain ⟨t, h, q⟩ := hbody A outer s H vs Q E hr hsp
  exact ⟨t, h.nox, q⟩
/-- all but r and the tables -/
def ButN (r : Addr) (H H' : Hp) : Prop := ∀ b o, H b = some o → b ≠ r → (∀ ps, o ≠ .tbl ps) → H' b = some o
theorem ButN.of {r : Addr} {H H' : Hp} (b : But r H H') : ButN r H H' := fun c o h n _ => b c o h n
theorem ButN.ext {r : Addr} {H H1 H' : Hp} (b : But r H H1) (e : ExtN H1 H') : ButN r H H' := fun c o h n m => e c o (b c o h n) m
end My
namespace My
open PySem L2 LamX PyProof.Rows
theorem cut_take (xs : List V) (n : Nat) : cutV xs none (some (n : Int)) = xs.take n := by
  unfold cutV
  rw [show HT.sIx xs.length xs.length (some (n : Int)) = min n xs.length from HT.sIx_nat xs.length xs.length n, HT.sIx_none]
  show (xs.drop 0).take (min n xs.length - 0) = xs.take n
  rw [List.drop_zero, Nat.sub_zero]
  by_cases h : n ≤ xs.length
  · rw [Nat.min_eq_left h]
  · rw [Nat.min_eq_right (by omega), List.take_of_length_le (Nat.le_refl _), List.take_of_length_le (by omega)]
end My
namespace My
open PySem L2
section
variable {K : PySem.W.Frag} {H : Hp} {x y : V} {d : PyData} {Q : VK}
/-! ### equal data -/
theorem eqv_self (s : SeqAt.shaped d = true) : d.eqv d = true := by
  unfold SeqAt.shaped at s
  rw [Bool.and_eq_true] at s
  exact PySem.SeqAt.eqv_refl d s.1
theorem rNeD_self (h1 : Dp K H x d) (h2 : Dp K H y d) (s : SeqAt.shaped d = true) (q : Q (.bl false) H) : rNeD K x y H Q := ⟨d, d, h1, h2, s, s, by rw [eqv_self s]; exact q⟩
theorem rEqD_self (h1 : Dp K H x d) (h2 : Dp K H y d) (s : SeqAt.shaped d = true) (q : Q (.bl true) H) : rEqD K x y H Q := ⟨d, d, h1, h2, s, s, by rw [eqv_self s]; exact q⟩
/-- data of depth two: a tuple of scalars and tuples of ints -/
theorem can_app : ∀ a b : List PyData, PyData.canLayAll0 (a ++ b) = (PyData.canLayAll0 a && PyData.canLayAll0 b)
  | [], _ => (Bool.true_and _).symm
  | x :: r, b => by
    show (x.canLay0 && PyData.canLayAll0 (r ++ b)) = _
    rw [can_app r b]
    exact (Bool.and_assoc _ _ _).symm
end
end My
namespace My
open PySem PySem.Spec PyProof.Rows L2
/-! ### sets that grow: s.add(e), {e for ..}; of any kind of keys -/
/-- a kind of keys, as values -/
structure ZK (κ : Type) [DecidableEq κ] where
  kd : ∀ (P : Program) (w : World), KeyKind P w κ
  val : κ → V
  ok : ∀ (P : Program) (w : World) (k : κ) (v : Value), RelV (val k) v → (kd P w).is k v = true ∧ v.scannable = true
section
variable {κ : Type} [DecidableEq κ] (Z : ZK κ) {P : Program} {w : World} {X : Cx}
/-- the set at a: its members, how many -/
def SetZ (P : Program) (w : World) (a : Addr) (S : κ → Bool) (n : Nat) : HO := .ext fun h => SetG (Z.kd P w) h a S n
theorem setZ_ok {H : Hp} {h : Heap} {a : Addr} {S : κ → Bool} {n : Nat} (g : SetG (Z.kd P w) h a S n) : ObjOk P w H h a (SetZ Z P w a S n) := by
  have g' := g
  obtain ⟨o, _, _, _, ho, _⟩ := g'
  exact ⟨g, ⟨o, ho⟩, fun _ _ q k => q.stay k⟩
/-- with one more -/
def more (S : κ → Bool) (k : κ) : κ → Bool := fun j => S j || decide (j = k)
def moreN (S : κ → Bool) (k : κ) (n : Nat) : Nat := if S k = true then n else n + 1
/-- set.add: the object grows, nothing else does -/
theorem setZ_add {A : Around} {E : Value → Shared → Prop} {s : Shared} {a : Addr} {S : κ → Bool} {n : Nat} {k : κ} {v : Value} {Q : Value → Shared → Prop} (hv : RelV (Z.val k) v) (G : SetG (Z.kd P w) s.heap a S n) (hn : n + 1 < scanBound)
    (c : ∀ h', Heap.SameBut a s.heap h' → SetG (Z.kd P w) h' a (more S k) (moreN S k n) → Q .none { s with heap := h', toks := s.toks + 1 }) : wpAny (model P w) A (call (.builtin "set.add") [.ref a, v]) Q E s := by
  obtain ⟨his, hsc⟩ := Z.ok P w k v hv
  have hT : s.TypeIs (.ref a) "set" := by
    obtain ⟨o, _, _, _, ho, hx, _⟩ := G
    exact ⟨o, ho, hx.1⟩
  refine wpAny_call_entry F.slot_set_add hT F.entry_set_add ?_ (F.args_set_add_2 _ _)
  unfold Builtin.«set.add» Builtin.Frozenset.oneOther Builtin.Frozenset.addrOf setAdd
  simp only [List.isEmpty_nil, bind_assoc]
  refine wpAny_bind (wpAny_pure (wpAny_bind (wpAny_pure (wpAny_bind (wpAny_holding (wpAny_bind ((Z.kd P w).pyHash his ?_)))))))
  exact setG_add_hashed (s := { s with toks := s.toks + 1 }) his hsc G hn fun h' sb g => wpAny_pure ⟨_, rfl, c h' sb g⟩
/-- .. where the set is tracked -/
theorem setZ_grows {pins : List (Addr × Obj)} {σ : L2.St} {H : Hp} {s : Shared} {E : Value → Shared → Prop} {a : Addr} {S : κ → Bool} {n : Nat} {k : κ} {v : Value} {Q : Value → Shared → Prop} (I : Inv X pins σ H s) (ha : H a = some (SetZ Z X.prog X.w a S n)) (hv : RelV (Z.val k) v) (hn : n + 1 < scanBound)
    (c : ∀ s', Inv X pins σ (upd H a (SetZ Z X.prog X.w a (more S k) (moreN S k n))) s' → Q .none s') : wpAny (model X.prog X.w) X.A (call (.builtin "set.add") [.ref a, v]) Q E s := by
  have G : SetG (Z.kd X.prog X.w) s.heap a S n := (I.hok a _ ha).1
  refine setZ_add Z hv G hn fun h' sb g => c _ ?_
  have g' := g
  obtain ⟨o, _, _, _, ho, _⟩ := g'
  refine I.write (x := a) (e := a) (t' := s.toks + 1) (by rw [ha]; exact True.intro) (Or.inl rfl) (fun b u hb hu => ?_) ⟨o, ho⟩ (setZ_ok Z g)
  rw [sb.2 b hb]
  exact hu
/-- a.add(e) -/
def tGrow (P : Program) (w : World) (to te : TE) : TE := fun σ H Q => to σ H fun x H1 => ∃ a : Addr, x = .ref a ∧ (∃ S n, H1 a = some (SetZ Z P w a S n)) ∧ te σ H1 fun y H2 => ∃ (k : κ) (S : κ → Bool) (n : Nat), y = Z.val k ∧ H2 a = some (SetZ Z P w a S n) ∧ n ≤ 2000 ∧ Q .non (upd H2 a (SetZ Z P w a (more S k) (moreN S k n)))
theorem pe_grow {o e : Expr} {to te : TE} {apos cpos : Pos} (ho : PE X o to) (ha : PE X e te) (hbase : attributeBase o "add" X.env (eval o X.env) = eval o X.env := by rfl)
    (hfew : ((backTo cpos (starEach [e] X.env)).all (fun x => !x.1) && (backToKw cpos (keywordEach [] X.env)).all (fun x => x.1.isSome) && decide ([e].length + ([] : List Keyword).length + (if ([] : List Keyword).isEmpty then 0 else 1) < 30)) = true := by rfl)
    (hline : (apos.endLine == cpos.line) = true := by rfl) (hs : starEach [e] X.env = (false, eval e X.env) :: starEach [] X.env := by rfl) : PE X (.Call (.Attribute o "add" apos) [e] [] cpos) (tGrow Z X.prog X.w to te) := by
  refine ⟨fun pins s σ H Q I h => wpAny_Call_method_late hbase hfew hline rfl (thn (ho.run pins s σ H _ I h) fun v s1 ⟨x, H1, I1, r1, a, ex, ⟨S0, n0, h0⟩, q1⟩ => ?_)⟩
  subst ex
  obtain rfl : v = .ref a := r1
  have G0 : SetG (Z.kd X.prog X.w) s1.heap a S0 n0 := (I1.hok a _ h0).1
  obtain ⟨o0, es0, ep0, t0, ho0, hx0, _⟩ := G0
  refine ⟨"set", "set.add", F.plainAttrs_set, F.slot_set_add, F.type_set_add, ⟨o0, ho0, hx0.1⟩, fun b hb => ⟨o0, by cases hb; exact ho0, hx0.2.1⟩, ?_⟩
  rw [hs]
  refine Calls.callWith_builtin (by rfl) (Calls.evalArgs_plain ?_)
  refine Calls.spliced_cons (thn (ha.run pins s1 σ H1 _ I1 q1) fun u s2 ⟨y, H2, I2, r2, k, S, n, ey, h2, hn, q2⟩ => Calls.spliced_nil ?_)
  subst ey
  exact setZ_grows Z I2 h2 r2 (by unfold scanBound; omega) fun s' I' => ⟨.non, _, I', rfl, q2⟩
/-- an empty set, just made -/
theorem setZ_zero {h : Heap} : SetG (Z.kd P w) (h.push (freshSet w)) h.objs.size (fun _ => false) 0 :=
  (setG_fresh (knd := Z.kd P w) (Heap.get?_push_size h rfl) []).to fun k => by rw [List.take_nil]; exact decide_eq_false List.not_mem_nil
/-- {e for t in i if c ..}: J the thing walked over, D the new set, W what holds between the turns -/
def tSetZ (P : Program) (w : World) (wi : TI) (g : TG) (tt : TT) (te : TE) (vs : List Nat) : TE := fun σ H Q => wi σ H fun J H1 => ∀ D, H1 D = none → ∃ W : Nat → Nat → Hp → Prop, (∃ m, W 0 m (upd H1 D (SetZ Z P w D (fun _ => false) 0))) ∧ ∀ i m H, W i m H →
  (J.stop i H ∧ Q (.ref D) H) ∨ (J.go i H ∧ ∃ Nx : Hp → Prop, (∀ H', Nx H' → ∃ m', m' < m ∧ W (i + 1) m' H') ∧ ∀ x H', J.yld i H x H' → g x (wipe σ vs) H' fun σ2 H2 => wipe σ2 vs = wipe σ vs ∧ tt σ2 H2 fun b H3 =>
    if b = true then te σ2 H3 fun y H4 => ∃ (k : κ) (S : κ → Bool) (n : Nat), y = Z.val k ∧ H4 D = some (SetZ Z P w D S n) ∧ n ≤ 2000 ∧ Nx (upd H4 D (SetZ Z P w D (more S k) (moreN S k n))) else Nx H3)
theorem pe_setZ {elt tg iter : Expr} {ifs : List Expr} {scope : Scope} {own : List (Str × Nat)} {pos : Pos} {wi : TI} {g : TG} {tt : TT} {te : TE} (calm : X.calm = true) (nd : X.N.Nodup) (walks : PI X tg iter wi) (ok : BlkOk X.N X.env.scope scope own)
    (target : ∀ s H C cl fp, PG (X.blk s H scope (compEnvC scope cl C X.env) fp) tg g) (tests : ∀ s H C cl fp, PTs (X.blk s H scope (compEnvC scope cl C X.env) fp) ifs tt) (elem : ∀ s H C cl fp, PE (X.blk s H scope (compEnvC scope cl C X.env) fp) elt te)
    (hs : ∀ x, foldedSetIterable iter X.env x = pure x := by intro _; rfl) : PE X (.SetComp elt [⟨tg, iter, ifs, 0⟩] scope pos) (tSetZ Z X.prog X.w wi g tt te (own.map (·.2))) := by
  refine ⟨fun pins s σ H Q I spec => ?_⟩
  rw [PpSet.eval_SetComp]
  have caught : ∀ y ∈ scope.names, y.2 = .free → ∃ c, X.env.cells.lookup y.1 = some c := fun y hy e => (ok.free y hy e).elim (fun k => I.ok.has _ (.inl k)) fun k => I.ok.has _ (.inr k)
  refine wpAny_comprehension_free rfl hs (closure_ok caught) ok.kind (fun y hy e => by rw [ok.uniq y hy, e]) (thn (walks.run pins s σ H _ I spec) fun v0 s1 at1 => thn at1 fun v1 s2 at2 => ?_)
  obtain ⟨it, fp, tn, J, H2, rfl, I2, T, tn2, apart, spec2⟩ := at2
  refine PpSet.newSet_ok (newEnv_comp ?_)
  have free2 : H2 s2.heap.objs.size = none := I2.hok.fresh (Nat.le_refl _)
  have inside : ∀ b ∈ fp, b < s2.heap.objs.size := fun b hb => let ⟨_, e, _⟩ := T.obj _ _ tn2 b hb; Heap.lt_size e
  obtain ⟨W, ⟨m0, w0⟩, turn⟩ := spec2 _ free2
  -- the state with the new set
  have I3 := I2.laid (t' := s2.toks) (o := SetZ Z X.prog X.w s2.heap.objs.size (fun _ => false) 0) (h' := s2.heap.push (freshSet X.w)) (fun _ _ e => Heap.get?_push_of_some _ e) (Nat.le_refl _) (setZ_ok Z (setZ_zero Z))
  have apart3 : ∀ b ∈ fp, FpOk X pins (upd H2 s2.heap.objs.size (SetZ Z X.prog X.w s2.heap.objs.size (fun _ => false) 0)) b ∧ b < (s2.heap.push (freshSet X.w)).objs.size := fun b hb => by
    have lt := inside b hb
    have ne : b ≠ s2.heap.objs.size := Nat.ne_of_lt lt
    exact ⟨⟨(upd_ne ne).trans (apart b hb).1, (apart b hb).2⟩, by rw [Heap.size_push]; exact Nat.lt_succ_of_lt lt⟩
  have tn3 : tn 0 (s2.heap.push (freshSet X.w)) := T.keep _ _ _ tn2 fun b _ o e => Heap.get?_push_of_some _ e
  have I4 := block_start I3 ok nd apart3
  have tn4 : tn 0 (pushCells ((s2.heap.push (freshSet X.w)).push { cls := .type "dict", data := .dict #[] }) scope.names) := T.keep _ _ _ tn3 fun b _ o e => pushCells_keeps _ _ _ _ (Heap.get?_push_of_some _ e)
  have none3 : ∀ b ∈ fp, (upd H2 s2.heap.objs.size (SetZ Z X.prog X.w s2.heap.objs.size (fun _ => false) 0)) b = none := fun b hb => (apart3 b hb).1.1
  generalize s2.heap.objs.size = D at *
  generalize upd H2 D (SetZ Z X.prog X.w D (fun _ => false) 0) = H3 at *
  show codeAny (model X.prog X.w) X.A (.compStart (.SetComp elt [⟨tg, iter, ifs, 0⟩] scope pos) 0 (.ref it) (.ref D) (compEnvC scope (cellsFrom ((s2.heap.push (freshSet X.w)).objs.size + 1) scope.names (cloFrom X.env.cells scope.names [])) (s2.heap.push (freshSet X.w)).objs.size X.env)) _ _
  generalize hs3 : ({ s2 with heap := s2.heap.push (freshSet X.w) } : Shared) = s3 at I3 I4
  have e3 : s2.heap.push (freshSet X.w) = s3.heap := by rw [← hs3]
  rw [e3] at tn4 ⊢
  generalize hce : compEnvC scope (cellsFrom (s3.heap.objs.size + 1) scope.names (cloFrom X.env.cells scope.names [])) s3.heap.objs.size X.env = ce
  have T1 := target s3 H3 s3.heap.objs.size (cellsFrom (s3.heap.objs.size + 1) scope.names (cloFrom X.env.cells scope.names [])) fp
  have T2 := tests s3 H3 s3.heap.objs.size (cellsFrom (s3.heap.objs.size + 1) scope.names (cloFrom X.env.cells scope.names [])) fp
  have T3 := elem s3 H3 s3.heap.objs.size (cellsFrom (s3.heap.objs.size + 1) scope.names (cloFrom X.env.cells scope.names [])) fp
  rw [hce] at T1 T2 T3 I4
  have own_ : ce.locals = s3.heap.objs.size := by rw [← hce]; rfl
  have aside : ∀ {σ' : L2.St} {H' : Hp} {s' : Shared}, Inv (X.blk s3 H3 scope ce fp) [] σ' H' s' → (∀ b ∈ fp, H' b = none) → ∀ b ∈ fp, FpOk (X.blk s3 H3 scope ce fp) [] H' b := fun J' n b hb =>
    ⟨n b hb, (J'.ok.exf b hb).1, J'.ok.exfs b hb, Or.inl hb, fun x c e => (J'.ok.exf b hb).2 x c e, fun p hp => absurd (show p ∈ ([] : List (Addr × Obj)) ++ [] from hp) List.not_mem_nil⟩
  have whole : codeAny (model X.prog X.w) X.A (.compLoop (.SetComp elt [⟨tg, iter, ifs, 0⟩] scope pos) 0 (.ref it) (.ref D) ce) (compPost (model X.prog X.w) X.A X.xe none (EP X pins σ Q) (.ref D) s3.heap.objs.size) { s2 with heap := pushCells (s3.heap.push { cls := .type "dict", data := .dict #[] }) scope.names } := by
    refine PpSet.compLoopS_any (fun m s' => ∃ i H', Inv (X.blk s3 H3 scope ce fp) [] (wipe σ (own.map (·.2))) H' s' ∧ tn i s'.heap ∧ (∀ b ∈ fp, H' b = none) ∧ W i m H') (fun m s' ⟨i, H', J', tn', none', w'⟩ => ?_) m0 ⟨0, H3, by subst hs3; exact I4, tn4, none3, w0⟩
    rcases turn i m H' w' with ⟨stop, q⟩ | ⟨go, Nx, next, step⟩
    · refine thnF (T.done (X.blk s3 H3 scope ce fp) rfl rfl rfl calm i [] s' _ H' (fun _ _ => False) J' (aside J' none') tn' stop) fun r s'' ⟨er, J''⟩ => ?_
      subst er
      have back : Inv X pins σ H' s'' := I3.call' (ch := fp) J''.os J''.base J''.hok J''.bare fun b hb => ⟨(apart3 b hb).1.2.2.2.1, (apart3 b hb).1.2.1, (apart3 b hb).1.2.2.2.2.1, (apart3 b hb).1.2.2.2.2.2⟩
      have none'' : H' s3.heap.objs.size = none := by
        rw [← own_]
        exact J''.free
      obtain ⟨names, at_, _⟩ := J''.loc
      have at' : s''.heap.Ns s3.heap.objs.size names := by
        rw [← own_]
        exact at_
      obtain ⟨f0, f1, f2, f3, f4, f5⟩ := I3.fpOk (b := s3.heap.objs.size) (Nat.le_refl _) none''
      exact ⟨names, at', fun h2 sb => ⟨.ref D, H', back.turned (t' := s''.toks) (fun b o hb e => (sb.2 b hb).trans e) f0 f1 f3 f4 f5, rfl, q⟩⟩
    · refine thnF (T.item (X.blk s3 H3 scope ce fp) rfl rfl rfl calm i [] s' _ H' (fun _ _ => False) J' (aside J' none') tn' go) fun r s'' ⟨u, er, item⟩ => ?_
      subst er
      refine thnF item fun _ s5 ⟨x, H5, J5, rx, yx, tn5, none5⟩ => ?_
      have J5p := J5.pinned (aside J5 none5) (T.obj _ _ tn5)
      refine thnF (T1.run _ s5 _ H5 x u _ J5p rx (step x H5 yx)) fun _ s6 ⟨σ6, H6, J6, wiped, q6⟩ => ?_
      refine thnF (T2.run _ s6 σ6 H6 _ J6 q6) fun b s7 ⟨H7, J7, q7⟩ => ?_
      have ends : ∀ {s8 : Shared} {H8 : Hp}, Inv (X.blk s3 H3 scope ce fp) ([] ++ pinsAt fp s5.heap) σ6 H8 s8 → Nx H8 → ∃ m', m' < m ∧ ∃ i H', Inv (X.blk s3 H3 scope ce fp) [] (wipe σ (own.map (·.2))) H' s8 ∧ tn i s8.heap ∧ (∀ b ∈ fp, H' b = none) ∧ W i m' H' := fun {s8 H8} J8 nx => by
        obtain ⟨m', less, w8⟩ := next H8 nx
        have stays : ∀ b ∈ fp, ∀ o, s5.heap.get? b = some o → s8.heap.get? b = some o ∧ H8 b = none := fun b hb o e => by
          obtain ⟨a1, a2, _⟩ := J8.pin (b, o) (List.mem_append_right _ (List.mem_append_right _ (mem_pinsAt hb e)))
          exact ⟨a1, a2⟩
        refine ⟨m', less, i + 1, H8, (J8.unpinned (pins := [])).weak (by rw [← wiped, wipe_length]) (fun j v e => (wipe_some (by rw [wiped]; exact e)).1), T.keep _ _ _ tn5 fun b hb o e => (stays b hb o e).1, fun b hb => ?_, w8⟩
        obtain ⟨o, e, _⟩ := T.obj _ _ tn5 b hb
        exact (stays b hb o e).2
      cases b with
      | false => exact ends J7 q7
      | true =>
        refine thnF (T3.run _ s7 σ6 H7 _ J7 q7) fun z s8 ⟨yv, H8, J8, ry, k, S, n, ey, hD, hn, nx⟩ => ?_
        subst ey
        exact setZ_grows Z (X := X.blk s3 H3 scope ce fp) J8 hD ry (by unfold scanBound; omega) fun s9 J9 => ends J9 nx
  have r := PpSet.codeAny_compStart_set whole (T.self X.A 0 _ _ _ tn4 whole)
  subst hs3
  exact r
/-- .. where the elements are told by a function, and nothing that stands is changed -/
theorem sz_fn {J : It} {n : Nat} {G : Hp → Prop} {Y : Nat → Hp → V → Hp → Prop} (wk : Walk J n G Y) {g : TG} {tt : TT} {te : TE} {vs : List Nat} {σ : L2.St} {H1 : Hp} {D : Addr} {Qd : Hp → Prop} (hn : n ≤ 1000) (hD : H1 D = none) (f : Nat → Option κ) (hG : ∀ H, Same H1 H → G H)
    (hs : ∀ i x H H', i < n → Same H1 H → Y i H x H' → ∀ (R : V → Hp → Prop) (R0 : Hp → Prop), (∀ k H4, f i = some k → Same H H4 → R (Z.val k) H4) → (∀ H3, f i = none → Same H H3 → R0 H3) →
      g x (wipe σ vs) H' fun σ2 H2 => wipe σ2 vs = wipe σ vs ∧ tt σ2 H2 fun b H3 => if b = true then te σ2 H3 R else R0 H3)
    (hd : ∀ (H : Hp) (S : κ → Bool) (c : Nat), Same H1 H → (∀ k, S k = true ↔ k ∈ (List.range n).filterMap f) → c ≤ n → H D = some (SetZ Z P w D S c) → Qd H) :
    ∃ W : Nat → Nat → Hp → Prop, (∃ m, W 0 m (upd H1 D (SetZ Z P w D (fun _ => false) 0))) ∧ ∀ i m H, W i m H →
      (J.stop i H ∧ Qd H) ∨ (J.go i H ∧ ∃ Nx : Hp → Prop, (∀ H', Nx H' → ∃ m', m' < m ∧ W (i + 1) m' H') ∧ ∀ x H', J.yld i H x H' → g x (wipe σ vs) H' fun σ2 H2 => wipe σ2 vs = wipe σ vs ∧ tt σ2 H2 fun b H3 =>
        if b = true then te σ2 H3 fun y H4 => ∃ (k : κ) (S : κ → Bool) (n : Nat), y = Z.val k ∧ H4 D = some (SetZ Z P w D S n) ∧ n ≤ 2000 ∧ Nx (upd H4 D (SetZ Z P w D (more S k) (moreN S k n))) else Nx H3) := by
  refine ⟨fun i m H => m = n - i ∧ i ≤ n ∧ Same H1 H ∧ ∃ (S : κ → Bool) (c : Nat), (∀ k, S k = true ↔ k ∈ (List.range i).filterMap f) ∧ c ≤ i ∧ H D = some (SetZ Z P w D S c), ⟨n, rfl, Nat.zero_le _, same_new hD, fun _ => false, 0, fun k => by simp, Nat.le_refl _, upd_same⟩, ?_⟩
  rintro i m H ⟨rfl, hi, s, S, c, hS, hc, eD⟩
  by_cases hlt : i < n
  · refine .inr ⟨wk.goes i H hlt (hG H s), fun H' => i + 1 ≤ n ∧ Same H1 H' ∧ ∃ (S : κ → Bool) (c : Nat), (∀ k, S k = true ↔ k ∈ (List.range (i + 1)).filterMap f) ∧ c ≤ i + 1 ∧ H' D = some (SetZ Z P w D S c), fun H' p' => ⟨n - (i + 1), by omega, rfl, p'⟩, fun x H' y => ?_⟩
    have rg : (List.range (i + 1)).filterMap f = (List.range i).filterMap f ++ (f i).toList := by
      rw [List.range_succ, List.filterMap_append]
      cases q : f i <;> simp [q]
    refine hs i x H H' hlt s (wk.yields i H x H' hlt (hG H s) y) _ _ (fun k H4 hk s4 => ?_) (fun H3 hk s3 => ?_)
    · refine ⟨k, S, c, rfl, s4 _ _ eD, by omega, hlt, same_mut (s.trans s4) hD, _, _, fun j => ?_, ?_, upd_same⟩
      · rw [rg, hk]
        show (S j || decide (j = k)) = true ↔ _
        rw [Bool.or_eq_true, decide_eq_true_eq, hS j, List.mem_append]
        exact or_congr Iff.rfl ⟨fun z => List.mem_singleton.mpr z, fun z => List.mem_singleton.mp z⟩
      · unfold moreN
        split <;> omega
    · exact ⟨hlt, s.trans s3, S, c, fun j => by rw [rg, hk, hS j]; simp, by omega, s3 _ _ eD⟩
  · obtain rfl : i = n := by omega
    exact .inl ⟨wk.stops H (hG H s), hd H S c s hS hc eD⟩
end
def zStr : ZK Str := ⟨fun P w => PySem.strKind P w, V.str, fun P w k v r => by
  obtain ⟨t, rfl⟩ := r
  exact ⟨isStr_mk k t, rfl⟩⟩
def zInt : ZK Int := ⟨fun P w => intKind P w, V.int, fun P w k v r => by
  obtain ⟨t, rfl⟩ := r
  exact ⟨beq_self_eq_true k, rfl⟩⟩
end My
namespace My
open PySem PySem.Spec PyProof.Rows L2
/-! ### d != e, == : dicts whose values are equal data -/
def EqKV (K : PySem.W.Frag) (H : Hp) (x y : V) : Prop := ∃ (a b : Addr) (ks ls : List (Key × V)), x = .ref a ∧ y = .ref b ∧ H a = some (.dK ks) ∧ H b = some (.dK ls) ∧ ks.length = ls.length ∧
  ∀ p ∈ ks, ∃ (u : V) (d : PyData), valV ls p.1 = some u ∧ Dp K H p.2 d ∧ Dp K H u d ∧ SeqAt.shaped d = true
def rNeKV (K : PySem.W.Frag) : R2 := fun x y H Q => EqKV K H x y ∧ Q (.bl false) H
section
variable {X : Cx} {pins : List (Addr × Obj)} {σ : L2.St} {H : Hp} {s : Shared}
theorem kv_hits (I : Inv X pins σ H s) {A : Around} (hu : A.units + 64 < cLine) {ls : List (Key × V)} {vb : List (Key × Value)} (rb : KV ls vb) : ∀ {ks : List (Key × V)} {va : List (Key × Value)}, KV ks va →
    (∀ p ∈ ks, ∃ (u : V) (d : PyData), valV ls p.1 = some u ∧ Dp X.K H p.2 d ∧ Dp X.K H u d ∧ SeqAt.shaped d = true) → PySem.W.KeqHits A s vb va true := by
  intro ks va ra
  unfold KV at ra
  induction ra with
  | nil => exact fun _ => .nil
  | @cons p q ps qs h t ih =>
    intro hp
    obtain ⟨kq, vq⟩ := q
    obtain ⟨kp, vp⟩ := p
    obtain ⟨h1, h2⟩ := h
    obtain rfl : kp = kq := h1
    obtain ⟨u, d, e, d1, d2, sh⟩ := hp (kp, vp) (.head _)
    obtain ⟨y, hy, ry⟩ := (show RelO (some u) (valueAt vb kp) by rw [← e]; exact rb.val kp).some_of
    obtain ⟨as, r1⟩ := Dp.reads I d vp vq d1 h2
    obtain ⟨bs, r2⟩ := Dp.reads I d u y d2 ry
    have pl := PySem.PyData.plain_of_canLay0 d (SeqAt.canLay_of_shaped sh)
    have dp := SeqAt.depth_of_shaped sh
    have q := SeqAt.eqAt_plain d d A s vq y as bs r1 r2 pl pl (by omega)
    rw [eqv_self sh] at q
    exact PySem.W.KeqHits.hit (e := true) (b := true) hy q (ih fun p' hm => hp p' (.tail _ hm))
theorem op_neKV (hu : X.A.units + 80 < cLine) : OpR X (compareOp .NotEq) (rNeKV X.K) := by
  intro pins s σ H x y v u Q I rx ry h
  obtain ⟨⟨a, b, ks, ls, rfl, rfl, ea, eb, hlen, hp⟩, q⟩ := h
  obtain rfl : v = Value.ref a := rx
  obtain rfl : u = Value.ref b := ry
  obtain ⟨_, ya, va, ra, da⟩ := (show ObjOk X.prog X.w H s.heap a (.dK ks) from I.hok a _ ea)
  obtain ⟨_, yb, vb, rb, db⟩ := (show ObjOk X.prog X.w H s.heap b (.dK ls) from I.hok b _ eb)
  refine PySem.W.keq_ne (knd := mixKind X.prog X.w) (r := true) ya yb da db (by omega) (fun _ => kv_hits I (A := X.A.in1) (by show X.A.units + 1 + 64 < cLine; omega) rb ra hp) ?_
  have e : va.length = vb.length := by rw [← ra.length, ← rb.length, hlen]
  have z : (!(va.length == vb.length && true)) = false := by rw [e]; simp
  rw [z]
  exact ⟨.bl false, H, I, rfl, q⟩
end
/-! ### dicts filled by new keys -/
theorem putK_new {κ : Type} [DecidableEq κ] {kvs : List (κ × V)} {k : κ} {v : V} (h : ∀ p ∈ kvs, p.1 ≠ k) : putK kvs k v = kvs ++ [(k, v)] := by
  unfold putK
  rw [if_neg]
  intro z
  obtain ⟨p, hp, e⟩ := List.any_eq_true.mp z
  exact h p hp (of_decide_eq_true e)
theorem mergeK_new : ∀ {more kvs : List (Key × V)}, (kvs ++ more).Pairwise (fun p q => p.1 ≠ q.1) → mergeK kvs more = kvs ++ more
  | [], kvs, _ => (List.append_nil kvs).symm
  | (k, v) :: r, kvs, h => by
    have h1 : ∀ p ∈ kvs, p.1 ≠ k := fun p hp => (List.pairwise_append.mp h).2.2 p hp (k, v) (.head _)
    have e : mergeK kvs ((k, v) :: r) = mergeK (putK kvs k v) r := rfl
    rw [e, putK_new h1, mergeK_new (by rw [List.append_assoc]; exact h), List.append_assoc]
    rfl
theorem valV_at {κ : Type} [DecidableEq κ] : ∀ {kvs : List (κ × V)} {k : κ} {v : V}, kvs.Pairwise (fun p q => p.1 ≠ q.1) → (k, v) ∈ kvs → valV kvs k = some v
  | (k0, v0) :: r, k, v, h, hm => by
    obtain ⟨h1, h2⟩ := List.pairwise_cons.mp h
    rcases List.mem_cons.mp hm with e | hm
    · cases e
      exact valV_pos rfl
    · rw [valV_neg fun e => h1 _ hm e]
      exact valV_at h2 hm
theorem _root_.L2.Room.units80 {k : Nat} {A : Around} (r : Room k A) : A.units + 80 < cLine := by have := r.un; omega
end My
namespace My
open PySem PySem.Spec PyProof.Rows L2
section
variable {X : Cx}
/-! ### sorted(tuple of texts) -/
def rSortedTS (K : PySem.W.Frag) : List V → Hp → VK → Prop := fun xs H Q => ∃ (a : Addr) (ws : List Str), xs = [.ref a] ∧ SqT K H a (ws.map V.str) ∧ ws.length < 64 ∧
  ∀ (ys : List Str) (p : Addr), ys.Perm ws → sortedS ys = true → H p = none → Q (.ref p) (upd H p (.lst (ys.map V.str)))
theorem cr_sortedTS : CallR X (.builtin "sorted") (rSortedTS X.K) := by
  intro pins s σ H xs us Q I r h
  obtain ⟨a, ws, rfl, hq, hl, q⟩ := h
  obtain rfl := Vals.ref1 r
  obtain ⟨its, rv, pt, hz⟩ := I.tuple hq
  obtain ⟨hlen, hget⟩ := vals_strs rv
  obtain ⟨o, ho, hcl, n, hd⟩ := id pt
  refine Calls.call_function_entry kind_sorted plain_sorted entry_sorted (args_sorted1 _) ?_
  refine wpAny_bind (wpAny_pure ?_)
  have big : its.length ≤ sizeLine := by rw [hlen]; exact Nat.le_of_lt (sizeLine_of (by omega))
  refine wpAny_bind (wpAny_collect_seq a (.inr rfl) ho hcl hd (fun h' keep => ?_) (by rw [List.size_toArray]; exact big))
  have I1 : L2.Inv X pins σ H { s with heap := h' } := I.kept (t' := s.toks) keep
  refine wpAny_bind (wpAny_newList ?_ big)
  have I2 := I1.lnew (t' := s.toks) rv (by rw [List.length_map, ← hlen]; exact big)
  have hn1 : H h'.objs.size = none := I1.hok.fresh (Nat.le_refl _)
  refine wpAny_bind (wpAny_holding ?_)
  refine thn (mt_sortS (X := inCx X) pins _ σ _ (.ref h'.objs.size) [] (.ref h'.objs.size) [] (fun v H' => ∃ ys : List Str, ys.Perm ws ∧ sortedS ys = true ∧ H' = upd H h'.objs.size (.lst (ys.map V.str))) (inv_in I2) rfl .nil ⟨_, ws, rfl, rfl, upd_same, by omega, fun ys h1 h2 => ⟨ys, h1, h2, upd_upd⟩⟩) fun v s3 ⟨x, H3, I3, _, ys, py, sy, e3⟩ => ?_
  subst e3
  exact wpAny_pure ⟨_, rfl, .ref h'.objs.size, _, inv_out I3, rfl, q ys _ py sy hn1⟩
theorem cr_sortedTSK {K : PySem.W.Frag} (hK : X.K = K) : CallR X (.builtin "sorted") (rSortedTS K) := by
  subst hK
  exact cr_sortedTS
/-! ### a new dict that is locked from here on -/
def tFrz (td : TE) : TE := fun σ H Q => td σ H fun x H1 => ∃ d u, x = .ref d ∧ H1 d = some u ∧ Mut (some u) ∧ ∀ od, Q x (upd H1 d (.frz od u))
theorem pe_frz {e : Expr} {td : TE} (h : PE X e td) : PE X e (tFrz td) := by
  refine ⟨fun pins s σ H Q I hw => ?_⟩
  refine thn (h.run pins s σ H _ I hw) fun v s1 ⟨x, H1, I1, r, d, u, ex, hd, mu, q⟩ => ?_
  obtain ⟨od, I2⟩ := I1.lock hd mu
  exact ⟨x, _, I2, r, q od⟩
/-! ### a statement, and what holds behind it -/
def tMid (t : TS) : TS := fun D σ H => ∃ Pv : L2.St → Hp → Prop, t { D with nx := Pv } σ H ∧ ∀ σ' H', Pv σ' H' → D.nx σ' H'
theorem ps_mid {X : Cx} {st : Stmt} {t : TS} (h : PS X st t) : PS X st (tMid t) := by
  refine ⟨fun pins s σ H D I hw => ?_⟩
  obtain ⟨Pv, h1, h2⟩ := hw
  refine thn (h.run pins s σ _ _ I h1) fun f s1 q => ?_
  cases f with
  | next => obtain ⟨σ', H', I2, q⟩ := q; exact ⟨σ', H', I2, h2 _ _ q⟩
  | brk => exact q
  | cont => exact q
  | ret v => exact q
/-! ### K told -/
theorem pi_listK {X : Cx} {K : PySem.W.Frag} {tg l : Expr} {tl : TE} (h : X.K = K) (hl : PE X l tl) : PI X tg l (iList K tl) := by
  subst h
  exact pi_list hl
theorem pi_tupK {X : Cx} {K : PySem.W.Frag} {tg l : Expr} {tl : TE} (h : X.K = K) (hl : PE X l tl) : PI X tg l (iTup K tl) := by
  subst h
  exact pi_tup hl
/-! ### loops -/
theorem for_items {d : Addr} {o : Obj} {kvs : List (Key × V)} {g : TG} {tb : TS} {D : Ends} {σ : L2.St} {H : Hp} (Pv : Nat → L2.St → Hp → Prop) (h0 : Pv 0 σ H) (hl : ∀ i σ H, i ≤ kvs.length → Pv i σ H → H d = some (.frz o (.dK kvs)))
    (hs : ∀ i k v T σ H, kvs[i]? = some (k, v) → Pv i σ H → H T = none → g (.ref T) σ (upd H T (.tup [kV k, v])) fun σ2 H2 => tb { D with nx := Pv (i + 1), ct := Pv (i + 1), bk := D.nx } σ2 H2) (hd : ∀ σ H, Pv kvs.length σ H → D.nx σ H) :
    ∃ W : Nat → Nat → L2.St → Hp → Prop, (∃ m, W 0 m σ H) ∧ ∀ i m σ H, W i m σ H →
      ((Iti d o kvs).stop i H ∧ D.nx σ H) ∨ ((Iti d o kvs).go i H ∧ ∃ N : L2.St → Hp → Prop, (∀ σ' H', N σ' H' → ∃ m', m' < m ∧ W (i + 1) m' σ' H') ∧ ∀ x H', (Iti d o kvs).yld i H x H' → g x σ H' fun σ2 H2 => tb { D with nx := N, ct := N, bk := D.nx } σ2 H2) := by
  refine ⟨fun i m σ H => m = kvs.length - i ∧ i ≤ kvs.length ∧ Pv i σ H, ⟨kvs.length, by simp, Nat.zero_le _, h0⟩, ?_⟩
  rintro i m σ H ⟨rfl, hi, p⟩
  have q := hl i σ H hi p
  by_cases hlt : i < kvs.length
  · refine .inr ⟨⟨q, hlt⟩, Pv (i + 1), fun σ' H' n => ⟨kvs.length - (i + 1), by omega, rfl, hlt, n⟩, ?_⟩
    rintro x H' ⟨T, k, v, h1, rfl, h3, rfl⟩
    exact hs i k v T σ H h1 p h3
  · have e : i = kvs.length := by omega
    subst e
    exact .inl ⟨⟨q, Nat.le_refl _⟩, hd σ H p⟩
theorem for_enum {K : PySem.W.Frag} {a : Addr} {xs : List V} {g : TG} {tb : TS} {D : Ends} {σ : L2.St} {H : Hp} (Pv : Nat → L2.St → Hp → Prop) (h0 : Pv 0 σ H) (hl : ∀ i σ H, i ≤ xs.length → Pv i σ H → SqL K H a xs)
    (hs : ∀ i x T σ H, xs[i]? = some x → Pv i σ H → H T = none → g (.ref T) σ (upd H T (.tup [.int (i : Nat), x])) fun σ2 H2 => tb { D with nx := Pv (i + 1), ct := Pv (i + 1), bk := D.nx } σ2 H2) (hd : ∀ σ H, Pv xs.length σ H → D.nx σ H) :
    ∃ W : Nat → Nat → L2.St → Hp → Prop, (∃ m, W 0 m σ H) ∧ ∀ i m σ H, W i m σ H →
      ((Ite K a).stop i H ∧ D.nx σ H) ∨ ((Ite K a).go i H ∧ ∃ N : L2.St → Hp → Prop, (∀ σ' H', N σ' H' → ∃ m', m' < m ∧ W (i + 1) m' σ' H') ∧ ∀ x H', (Ite K a).yld i H x H' → g x σ H' fun σ2 H2 => tb { D with nx := N, ct := N, bk := D.nx } σ2 H2) := by
  refine ⟨fun i m σ H => m = xs.length - i ∧ i ≤ xs.length ∧ Pv i σ H, ⟨xs.length, by simp, Nat.zero_le _, h0⟩, ?_⟩
  rintro i m σ H ⟨rfl, hi, p⟩
  have q := hl i σ H hi p
  by_cases hlt : i < xs.length
  · obtain ⟨x, hx⟩ : ∃ x, xs[i]? = some x := ⟨xs[i], List.getElem?_eq_getElem hlt⟩
    refine .inr ⟨⟨xs, x, q, hx⟩, Pv (i + 1), fun σ' H' n => ⟨xs.length - (i + 1), by omega, rfl, hlt, n⟩, ?_⟩
    rintro y H' ⟨T, z, rfl, h3, rfl, h4⟩
    exact hs i z T σ H (h4 xs q) p h3
  · have e : i = xs.length := by omega
    subst e
    exact .inl ⟨⟨xs, q, Nat.le_refl _⟩, hd σ H p⟩
end
end My
namespace My
open PySem PySem.Spec PyProof.Rows L2
section
variable {X : Cx}
/-! ### sorted of a set of ints that a comprehension has made -/
def rSortedZI (P : Program) (w : World) : List V → Hp → VK → Prop := fun xs H Q => ∃ (a : Addr) (S : Int → Bool) (n : Nat), xs = [.ref a] ∧ H a = some (SetZ zInt P w a S n) ∧ n < 64 ∧
  ∀ (ys : List Int) (p : Addr), ys.Pairwise (· < ·) → (∀ k, k ∈ ys ↔ S k = true) → H p = none → Q (.ref p) (upd H p (.lst (ys.map V.int)))
theorem cr_sortedZI {P : Program} {w : World} (hP : X.prog = P) (hw : X.w = w) (hc : X.calm = true) : CallR X (.builtin "sorted") (rSortedZI P w) := by
  subst hP hw
  intro pins s σ H xs us Q I r h
  obtain ⟨a, S, n, rfl, ha, h64, q⟩ := h
  obtain rfl := Vals.ref1 r
  have G : SetG (intKind X.prog X.w) s.heap a S n := (I.hok a _ ha).1
  refine sorted_set (setR_of G) (I.ok.hd hc) h64 fun s' p out c ys keep hg hos hp hat hi hs hm hl => ?_
  have big : (ys.map V.int).length ≤ sizeLine := by rw [List.length_map, hl]; exact Nat.le_of_lt (sizeLine_of (by omega))
  have hn : H p = none := I.hok.fresh hp
  have I1 : L2.Inv X pins σ (upd H p (.lst (ys.map V.int))) s' := by
    have J := I.laid (a := p) (o := .lst (ys.map V.int)) (h' := s'.heap) (t' := s'.toks) keep hp ⟨big, out.toList, c, vals_of_ints hi, hat⟩
    obtain ⟨hp', gn', dr', tk', os'⟩ := s'
    obtain rfl : gn' = s.gens := hg
    obtain rfl : os' = s.os := hos
    exact ⟨J.ok, J.os, J.bare, J.base, J.loc, J.cell, J.free, J.freeC, J.pin, J.hok, J.len⟩
  exact ⟨.ref p, _, I1, rfl, q ys p hs hm hn⟩
end
end My
namespace My
open PySem L2
section
variable {H1 : Hp}
/-- .. where what is told of the elements lies in lists: all stands but the list that is made -/
theorem lc_relB {J : It} {n : Nat} {G : Hp → Prop} {Y : Nat → Hp → V → Hp → Prop} (w : Walk J n G Y) {g : TG} {tt : TT} {te : TE} {vs : List Nat} {σ : St} {D : Addr} {Qd : Hp → Prop} (hn : n ≤ 1000000) (hD : H1 D = none)
    (Rl : Nat → Option V → Hp → Prop) (mono : ∀ i z H H', But D H H' → Rl i z H → Rl i z H') (hG : ∀ H, Same H1 H → G H)
    (hs : ∀ i x H H', i < n → Same H1 H → (∃ acc, H D = some (.lst acc)) → Y i H x H' → ∀ (R : V → Hp → Prop) (R0 : Hp → Prop), (∀ y H4, Rl i (some y) H4 → Same H H4 → R y H4) → (∀ H3, Rl i none H3 → Same H H3 → R0 H3) →
      g x (wipe σ vs) H' fun σ2 H2 => wipe σ2 vs = wipe σ vs ∧ tt σ2 H2 fun b H3 => if b = true then te σ2 H3 R else R0 H3)
    (hd : ∀ H (zs : List (Option V)), Same H1 H → zs.length = n → (∀ i z, zs[i]? = some z → Rl i z H) → H D = some (.lst (zs.filterMap id)) → Qd H) :
    ∃ W : Nat → Nat → Hp → Prop, (∃ m, W 0 m (upd H1 D (.lst []))) ∧ ∀ i m H, W i m H →
      (J.stop i H ∧ Qd H) ∨ (J.go i H ∧ ∃ Nx : Hp → Prop, (∀ H', Nx H' → ∃ m', m' < m ∧ W (i + 1) m' H') ∧ ∀ x H', J.yld i H x H' → g x (wipe σ vs) H' fun σ2 H2 => wipe σ2 vs = wipe σ vs ∧ tt σ2 H2 fun b H3 =>
        if b = true then te σ2 H3 fun y H4 => ∃ acc, H4 D = some (.lst acc) ∧ acc.length < sizeLine ∧ Nx (upd H4 D (.lst (acc ++ [y]))) else Nx H3) := by
  have fl : ∀ zs : List (Option V), (zs.filterMap id).length ≤ zs.length := fun zs => List.length_filterMap_le _ _
  have get_app : ∀ (zs : List (Option V)) (z : Option V) (j : Nat) (y : Option V), (zs ++ [z])[j]? = some y → zs[j]? = some y ∨ (j = zs.length ∧ y = z) := fun zs z j y h => by
    by_cases hj : j < zs.length
    · rw [List.getElem?_append_left hj] at h
      exact .inl h
    · rw [List.getElem?_append_right (by omega)] at h
      have hj2 : j - zs.length = 0 := by
        cases e : j - zs.length with
        | zero => rfl
        | succ k => rw [e] at h; simp at h
      rw [hj2] at h
      exact .inr ⟨by omega, (Option.some.inj h).symm⟩
  refine lc_it w (fun i H => ∃ zs : List (Option V), zs.length = i ∧ Same H1 H ∧ (∀ j z, zs[j]? = some z → Rl j z H) ∧ H D = some (.lst (zs.filterMap id)))
    ⟨[], rfl, same_new hD, fun j z h => by simp at h, upd_same⟩ (fun i H _ ⟨_, _, s, _⟩ => hG H s) ?_ (fun H ⟨zs, l, s, r, e⟩ => hd H zs s l r e)
  rintro i x H H' hi ⟨zs, l, s, r, e⟩ hy
  refine hs i x H H' hi s ⟨_, e⟩ hy _ _ (fun y H4 hr s4 => ?_) (fun H3 hr s3 => ?_)
  · refine ⟨zs.filterMap id, s4 _ _ e, sizeLine_of (by have := fl zs; omega), zs ++ [some y], by rw [List.length_append, l]; rfl, same_mut (s.trans s4) hD, fun j z h => ?_, ?_⟩
    · have im : But D H (upd H4 D (.lst (zs.filterMap id ++ [y]))) := fun c o h n => by rw [upd_ne n]; exact s4 _ _ h
      have im4 : But D H4 (upd H4 D (.lst (zs.filterMap id ++ [y]))) := fun c o h n => by rw [upd_ne n]; exact h
      rcases get_app zs _ j z h with h | ⟨rfl, rfl⟩
      · exact mono j z _ _ im (r j z h)
      · rw [l]
        exact mono i _ _ _ im4 hr
    · rw [upd_same, List.filterMap_append]
      rfl
  · refine ⟨zs ++ [none], by rw [List.length_append, l]; rfl, s.trans s3, fun j z h => ?_, ?_⟩
    · rcases get_app zs _ j z h with h | ⟨rfl, rfl⟩
      · exact mono j z _ _ (fun c o h _ => s3 _ _ h) (r j z h)
      · rw [l]
        exact hr
    · rw [s3 _ _ e, List.filterMap_append]
      simp
end
end My
/-! a property of an own class, read below the rules: nothing that stood is changed; sorted by such a property -/
namespace My
open PySem L2 LamX PyProof.Rows
theorem objM_keeps {h h' : Heap} {x dx C : Addr} {m : Str → Option Value} (O : ObjM h x dx C m) (k : ∀ b o, h.get? b = some o → h'.get? b = some o) : ObjM h' x dx C m := ⟨k _ _ O.obj, O.ns.at fun o q => k _ _ q, O.ne⟩
theorem keeps_trans {s s' s'' : Shared} (a : Keeps s s') (b : Keeps s' s'') : Keeps s s'' := by
  obtain ⟨h, t, rfl, k⟩ := a
  obtain ⟨h2, t2, rfl, k2⟩ := b
  exact ⟨h2, t2, rfl, fun b o e => k2 b o (k b o e)⟩
section
variable {P : Program} {w : World} {K : PySem.W.Frag} {C p g a dx : Addr} {f fld x qual : Str} {st : Stmt} {fd : FuncData} {mA : Str → Option Value} {u : Value} {p1 p2 p3 : Pos} {A : Around}
theorem prop_low {b : Bool} {s : Shared} {E : Value → Shared → Prop} {Q : Value → Shared → Prop} (KX : K.In s.heap) (lim : s.heap.NoLimit) (O : ObjM s.heap a dx C mA) (hu : mA fld = some u) (hh : PySem.W.handedIn u = true)
    (c : Cls K C) (hp : PropOf K C f p g) (F : Fun K x qual st g fd) (hk : (defScope st).kind = .function) (hco : (defScope st).isCoroutine = false) (hge : (defScope st).isGenerator = false)
    (hb : Binds K fd ["self"] []) (n : NoAttr K C fld) (hbody : defBody st = [.Return (some (.Attribute (.Name "self" p1) fld p2)) p3]) (hself : (defScope st).names.lookup ("self" : Str) = some NameKind.local) (nocell : ∀ y ∈ (defScope st).names, y.2 ≠ .cell)
    (hd : A.depth + 3 < recursionLimit) (h : ∀ s', Keeps s s' → Q u s') : wpAny (model P w) A (getAttr (.ref a) f b) Q E s := by
  obtain ⟨od, J, _⟩ := O.look
  obtain ⟨rest, hrec⟩ := hp.rec_
  have hc : (PySem.W.clsIn K C).isSome = true := by
    obtain ⟨cd, hc, _⟩ := PySem.W.any_some c.hd
    rw [hc]
    rfl
  refine PySem.W.get_bind KX J (PySem.W.plainGet_of (c.get f)).1 (PySem.W.findObj_data hc hp.at_ hp.get hp.tak) (PySem.W.plainGet_of (c.get f)).2 (wpAny_call (PySem.W.prop_get (s := { s with toks := s.toks + 1 }) KX hrec ?_))
  obtain ⟨oc, od2, kV, doc, pm, an, cdv, ct, osl, rfl, lk, hcd⟩ := F.ex
  refine codeAny_call_function (by show A.depth < _; omega) (KX _ _ lk) rfl hco hge rfl (PySem.W.codeRec_of KX hcd) ?_
  refine hb { s with toks := s.toks + 1 } [.ref a] KX rfl _ _ _ _ ?_
  refine wpAny_newFunctionEnv nocell (fun y hy => ?_) (fun h₁ hns hsb => ⟨?_, codeAny_func ?_⟩) hk
  · obtain rfl := List.mem_singleton.mp hy
    exact hself
  · exact lim.keeps fun b o e => hsb.extBut b o (Nat.ne_of_lt (Heap.lt_size e)) (Heap.get?_push_of_some _ e)
  · have kp1 : ∀ b o, s.heap.get? b = some o → h₁.get? b = some o := fun b o e => hsb.extBut b o (Nat.ne_of_lt (Heap.lt_size e)) (Heap.get?_push_of_some _ e)
    show wpAny _ _ (execs (defBody st) _) _ _ _
    rw [hbody]
    refine wpAny_execs_cons (wpAny_Return_some (attr_of rfl (wpAny_Name (wpAny_loadName_local hk hself hns (by rfl) ?_) (by decide))))
    refine get_map (K := K) (KX.keeps kp1) (objM_keeps O kp1) (c.get fld) c.hd n hu hh ?_
    show wpAny _ _ (handedOut u) _ _ _
    rw [PySem.W.handedOut_of hh]
    exact wpAny_pure (h _ ⟨_, _, rfl, kp1⟩)
end
/-- what a key's expression makes of the item v: the text k; nothing that stood is changed; the text is there, and room for a call -/
def KeyEP (K : PySem.W.Frag) (prog : Program) (w : World) (scope : Scope) (x : Str) (body : Expr) (R : Heap → Value → Str → Prop) : Prop :=
  ∀ (cenv : Env) (A' : Around) (E' : Value → Shared → Prop) (v : Value) (k : Str) (s₂ : Shared) (m₂ : Str → Option Value), cenv.scope = scope → s₂.heap.Ns cenv.locals m₂ → m₂ x = some v → R s₂.heap v k → K.In s₂.heap → s₂.heap.NoLimit → A'.depth + 3 < recursionLimit →
    wpAny (model prog w) A' (eval body cenv) (fun y s₃ => (∃ t, y = .str k t) ∧ Keeps s₂ s₃) E' s₂
def InsK (C : Addr) (fld : Str) (h : Heap) (v : Value) (k : Str) : Prop := ∃ (a dx : Addr) (mA : Str → Option Value) (t : Tok), v = .ref a ∧ ObjM h a dx C mA ∧ mA fld = some (.str k t)
theorem insK_keep {C : Addr} {fld : Str} {h h' : Heap} {v : Value} {k : Str} (e : ∀ b o, h.get? b = some o → h'.get? b = some o) (r : InsK C fld h v k) : InsK C fld h' v k := by
  obtain ⟨a, dx, m, t, rfl, O, hm⟩ := r
  exact ⟨a, dx, m, t, rfl, objM_keeps O e, hm⟩
/-- x.f, a property: return self.fld -/
theorem key_prop {P : Program} {w : World} {K : PySem.W.Frag} {C p g : Addr} {f fld x y qual : Str} {st : Stmt} {fd : FuncData} {p1 p2 p3 q1 q2 : Pos} {scope : Scope} (hk : scope.kind = .function) (hl : scope.names.lookup x = some .local) (hdb : (x == ("__debug__" : Str)) = false)
    (c : Cls K C) (hp : PropOf K C f p g) (F : Fun K y qual st g fd) (hk2 : (defScope st).kind = .function) (hco : (defScope st).isCoroutine = false) (hge : (defScope st).isGenerator = false)
    (hb : Binds K fd ["self"] []) (n : NoAttr K C fld) (hbody : defBody st = [.Return (some (.Attribute (.Name "self" p1) fld p2)) p3]) (hself : (defScope st).names.lookup ("self" : Str) = some NameKind.local) (nocell : ∀ y ∈ (defScope st).names, y.2 ≠ .cell) :
    KeyEP K P w scope x (.Attribute (.Name x q1) f q2) (InsK C fld) := by
  intro cenv A' E' v k s₂ m₂ hs hn hm r KX lim hd
  obtain ⟨a, dx, m, t, rfl, O, hu⟩ := r
  refine attr_of rfl (wpAny_Name (wpAny_loadName_local (by rw [hs]; exact hk) (show cenv.scope.names.lookup x = some .local by rw [hs]; exact hl) hn hm ?_) hdb)
  exact prop_low KX lim O hu rfl c hp F hk2 hco hge hb n hbody hself nocell hd fun s' kp => ⟨⟨t, rfl⟩, kp⟩
section
variable {X : Cx}
theorem pe_sortLamP {T : List (Addr × Str)} {te : TE} {c P : Addr} {k : Nat} {e : Expr} {params : Arguments} {body : Expr} {scope : Scope} {x : Str} {p lpos kpos pos : Pos} {R : Heap → Value → Str → Prop} {RK : Hp → V → Str → Prop}
    (hkey : KeyEP X.K X.prog X.w scope x body R) (hR : ∀ pins s σ H b u v, Inv X pins σ H s → RK H b u → RelV b v → R s.heap v u) (hRk : ∀ (h h' : Heap) v u, (∀ b o, h.get? b = some o → h'.get? b = some o) → R h v u → R h' v u) (hRe : ∀ H H' b u, ExtN H H' → RK H b u → RK H' b u)
    (hg : Gl X "sorted") (hm : X.mg "sorted" = none) (ha : PE X e te) (TB : TabB X.base X.mg c P) (hcode : X.env.code = .ref c) (hmT : (P, X.env.qual ++ "<lambda>") ∈ T) (hu : ∀ p ∈ T, p.1 = P → p.2 = X.env.qual ++ "<lambda>") (hr : Room k X.A)
    (hdef : defaultsOf params X.env = ([], [])) (hkind : scope.kind = .function) (hco : scope.isCoroutine = false) (hgen : scope.isGenerator = false) (hnames : ∀ y ∈ scope.names, y.2 ≠ .free ∧ y.2 ≠ .cell) (hx : scope.names.lookup x = some .local)
    (hbind : ∀ (q : Str) (cl : List (Str × Addr)) (pm cv ctv v : Value), bindArgs (PySem.W.kla_fn "<lambda>" q params body scope cl pm cv ctv) ⟨[v], []⟩ = pure [(x, v)])
    (hst : starEach [e] X.env = (false, eval e X.env) :: starEach [] X.env := by rfl) (he : backTo pos (starEach [e] X.env) = (false, eval e X.env) :: backTo pos (starEach [] X.env) := by rfl) (hpl : (backTo pos (starEach [e] X.env)).any (·.1) = false := by rfl) :
    PE X (.Call (.Name "sorted" p) [e] [⟨some "key", .Lambda params body scope lpos, kpos⟩] pos) (tSortLam X.K T RK te) := by
  refine ⟨fun pins s σ H Q I h => ?_⟩
  refine wpAny_Call_Name_kw (ld_blt (u := .builtin "sorted") I hg hm (by decide +kernel) ?_ (by decide) (by decide))
  refine PyProof.Rows.callWith_kw (thn ((pa_cons ha pa_nil hst).run pos pins s σ H (fun vs H1 => match vs with | [v] => Tabs T H1 ∧ ∃ (a : Addr) (bs : List (V × Str)), v = .ref a ∧ SqL X.K H1 a (bs.map (·.1)) ∧ (∀ b ∈ bs, RK H1 b.1 b.2) ∧ ∀ (p : Addr) (H2 : Hp), ExtN H1 H2 → Tabs T H2 → H2 p = none → Q (.ref p) (upd H2 p (.lst ((sortBy bs).map (·.1)))) | _ => False) I h) fun us s1 ⟨vs, H1, I1, r1, q1⟩ => ?_) he hpl rfl rfl
  obtain ⟨v, rfl⟩ : ∃ v, vs = [v] := by
    match vs, q1 with
    | [v], _ => exact ⟨v, rfl⟩
  obtain ⟨hT, a, bs, rfl, hL, hK, q⟩ := q1
  obtain rfl := Vals.ref1 r1
  show wpAny _ _ (evalAll [do let v ← eval (.Lambda params body scope lpos) X.env; standAt pos; pure v]) _ _ s1
  refine wpAny_evalAll_cons (wpAny_bind (lam_make2 I1 TB hcode hmT hu hT hdef (fun y hy z => absurd z (hnames y hy).1) fun f c' pm ctv H2 s2 I2 eN T2 hf hfn hfr hco' => wpAny_bind (wpAny_standAt (wpAny_pure (wpAny_evalAll_nil ?_)))))
  show wpAny (model X.prog X.w) X.A (call (.builtin "sorted") [.ref a] [("key", .ref f)]) _ _ s2
  have hL2 := extN_sql eN hL
  obtain ⟨its, rv, hl, hz⟩ := I2.list hL2
  obtain ⟨⟨oc, cvs, ct, hoc, hdc, hvc⟩, _, _⟩ := I2.hok c' _ hco'
  have hbs : ∀ (l : List (V × Str)) (us : List Value), Vals (l.map (·.1)) us → (∀ b ∈ l, b ∈ bs) → PySem.W.EachIs (fun (v : Value) (b : V × Str) => RelV b.1 v ∧ R s2.heap v b.2) us l := by
    intro l
    induction l with
    | nil =>
      intro us r _
      cases r
      exact .nil
    | cons b l ih =>
      intro us r m
      cases r with
      | cons r1 r2 => exact .cons ⟨r1, hR pins s2 σ H2 b.1 b.2 _ I2 (hRe _ _ _ _ eN (hK b (m b (.head _)))) r1⟩ (ih _ r2 fun b' h' => m b' (.tail _ h'))
  have e := hbs bs its rv fun _ h => h
  refine PySem.W.sorted_key_data (R := fun (v : Value) (b : V × Str) => RelV b.1 v ∧ R s2.heap v b.2) (b := false) keyD hl.isList e ?_ ?_ ?_ ?_ (PyProof.Rows.ksk_s1 _ _) (fun _ => PyProof.Rows.ksk_l1 _ _) (fun x => PyProof.Rows.ksk_t1 f x) (fun v b hb hm' g tk kp => ?_) fun out cc h' tk kp hn hD hlen hout => ?_
  · intro d hd d' hd'
    obtain ⟨b, _, rfl⟩ := List.mem_map.mp hd
    obtain ⟨b', _, rfl⟩ := List.mem_map.mp hd'
    rfl
  · refine .inr fun d hd => ?_
    obtain ⟨b, _, rfl⟩ := List.mem_map.mp hd
    exact ⟨nofun, fun _ => nofun⟩
  · rw [List.length_map] at hz
    exact hz
  · intro b _
    have := hr.units
    show X.A.units + 2 + (PyData.str b.2).depth < _
    have z : (PyData.str b.2).depth ≤ 1 := by show _ ≤ 1; simp [PyData.depth]
    omega
  · have of1 := kp _ _ hf
    refine wpAny_call ?_
    refine PySem.W.kla_callFunE (by have := hr.dp; show X.A.depth < _; omega) of1 rfl hco hgen rfl ⟨c', oc, cvs, ct, rfl, kp _ _ hoc, hdc, hvc⟩ ?_
    rw [hbind]
    refine wpAny_pure (wpAny_newFunctionEnv (fun y hy => (hnames y hy).2) (fun y hy => ?_) (fun h₁ hns hsb => ⟨(I2.nolimit.keeps kp).fresh _ hsb, ?_⟩) hkind)
    · obtain rfl := List.mem_singleton.mp hy
      exact hx
    · have kp1 : ∀ b o, g.get? b = some o → h₁.get? b = some o := fun b o e => hsb.extBut b o (Nat.ne_of_lt (Heap.lt_size e)) (Heap.get?_push_of_some _ e)
      refine PySem.W.kla_codeExpr (wpAny_mono (hkey _ _ (fun _ _ => False) v b.2 _ _ rfl hns (by simp) (hRk _ _ _ _ kp1 (hRk _ _ _ _ kp hb.2)) ((I2.kIn.keeps kp).keeps kp1) ((I2.nolimit.keeps kp).fresh _ hsb) (by have := hr.dp; show X.A.depth + 1 + 3 < _; omega)) (fun y s3 hq => ?_) fun _ _ z => z.elim)
      obtain ⟨⟨t, rfl⟩, h3, tk3, rfl, kp3⟩ := hq
      exact ⟨h3, tk3, rfl, fun b o e => kp3 b o (kp1 b o e), .str _ _⟩
  · have hv : ∀ (l : List (V × Str)) (us : List Value), PySem.W.EachIs (fun (v : Value) (b : V × Str) => RelV b.1 v ∧ R s2.heap v b.2) us l → Vals (l.map (·.1)) us := by
      intro l us e
      induction e with
      | nil => exact .nil
      | cons r _ ih => exact .cons r.1 ih
    refine ⟨.ref _, upd H2 (s2.heap.objs.size + 1) (.lst ((sortBy bs).map (·.1))), I2.laid (t' := tk) kp (Nat.le_succ _) ⟨?_, out, cc, hv _ _ hout, hD⟩, rfl, q _ H2 eN T2 (I2.hok.fresh (Nat.le_succ _))⟩
    rw [List.length_map, (sortBy_perm bs).length_eq]
    rw [List.length_map] at hz
    exact hz
end
/-- an own instance with this text -/
def RKi (C : Addr) (fld : Str) (H : Hp) (x : V) (k : Str) : Prop := ∃ (a dx : Addr) (fs : List (Str × V)), x = .ref a ∧ H a = some (.ins C dx fs) ∧ fs.lookup fld = some (.str k)
section
variable {X : Cx}
/-- sorted(xs, key=lambda x: x.f), f a property that returns a text of the instance -/
theorem pe_sortProp {te : TE} {c P C p g : Addr} {k : Nat} {e : Expr} {params : Arguments} {scope : Scope} {x f fld y qual : Str} {st : Stmt} {fd : FuncData} {pp q1 q2 lpos kpos pos p1 p2 p3 : Pos}
    (hg : Gl X "sorted") (hm : X.mg "sorted" = none) (ha : PE X e te) (TB : TabB X.base X.mg c P) (hcode : X.env.code = .ref c) (hr : Room k X.A)
    (cl : Cls X.K C) (hp : PropOf X.K C f p g) (F : Fun X.K y qual st g fd) (hb : Binds X.K fd ["self"] []) (n : NoAttr X.K C fld) (hbody : defBody st = [.Return (some (.Attribute (.Name "self" p1) fld p2)) p3] := by rfl)
    (hk2 : (defScope st).kind = .function := by rfl) (hco2 : (defScope st).isCoroutine = false := by rfl) (hge2 : (defScope st).isGenerator = false := by rfl) (hself : (defScope st).names.lookup ("self" : Str) = some NameKind.local := by rfl) (nocell : ∀ y ∈ (defScope st).names, y.2 ≠ .cell := by decide +kernel)
    (hdef : defaultsOf params X.env = ([], []) := by rfl) (hkind : scope.kind = .function := by rfl) (hco : scope.isCoroutine = false := by rfl) (hgen : scope.isGenerator = false := by rfl) (hnames : ∀ y ∈ scope.names, y.2 ≠ .free ∧ y.2 ≠ .cell := by decide +kernel) (hx : scope.names.lookup x = some .local := by rfl)
    (hbind : ∀ (q : Str) (cl : List (Str × Addr)) (pm cv ctv v : Value), bindArgs (PySem.W.kla_fn "<lambda>" q params (.Attribute (.Name x q1) f q2) scope cl pm cv ctv) ⟨[v], []⟩ = pure [(x, v)] := by intros; rfl)
    (hd : (x == ("__debug__" : Str)) = false := by decide) (hst : starEach [e] X.env = (false, eval e X.env) :: starEach [] X.env := by rfl) (he : backTo pos (starEach [e] X.env) = (false, eval e X.env) :: backTo pos (starEach [] X.env) := by rfl) (hpl : (backTo pos (starEach [e] X.env)).any (·.1) = false := by rfl) :
    PE X (.Call (.Name "sorted" pp) [e] [⟨some "key", .Lambda params (.Attribute (.Name x q1) f q2) scope lpos, kpos⟩] pos) (tSortLam X.K [(P, X.env.qual ++ "<lambda>")] (RKi C fld) te) := by
  refine pe_sortLamP (x := x) (R := InsK C fld) (RK := RKi C fld) (key_prop hkind hx hd cl hp F hk2 hco2 hge2 hb n hbody hself nocell) (fun pins s σ H b u v I r rv => ?_) (fun h h' v u e r => insK_keep e r) (fun H H' b u e r => ?_) hg hm ha TB hcode (.head _) (fun q hq _ => by rw [List.mem_singleton.mp hq]) hr hdef hkind hco hgen hnames hx hbind hst he hpl
  · obtain ⟨a, dx, fs, rfl, ea, l⟩ := r
    obtain rfl : v = .ref a := rv
    obtain ⟨mA, O, r, _, _, _⟩ := ins_get I.hok ea
    obtain ⟨t, ht, rt⟩ := RelO.some_of (v := .str u) (o := mA fld) (by rw [← l]; exact r fld)
    obtain ⟨tk, rfl⟩ := rt
    exact ⟨a, dx, mA, tk, rfl, O, ht⟩
  · obtain ⟨a, dx, fs, rfl, ea, l⟩ := r
    exact ⟨a, dx, fs, rfl, e _ _ ea (fun _ z => nomatch z), l⟩
end
end My
namespace My
open PySem L2
theorem fstr_empty (a : Str) : Str.empty ++ a = a := PySem.Str.empty_append a
end My
/-! errors: X() of an own class over ValueError; a def that calls what it got and tells which error came; sorted by a property among several tables -/
namespace My
open PySem L2 LamX PyProof.Rows
theorem ps_nox {X : Cx} {st : Stmt} {t : TS} (h : PS X.nox st t) : PS X st t := ⟨fun pins s σ H D I hw =>
  wpAny_mono (h.run pins s σ H D (I.wish _) hw) (fun _ _ q => q.unwish) fun _ _ z => False.elim z⟩
/-- what is known of an own error class without a body -/
structure ErrC (K : PySem.W.Frag) (C : Addr) : Prop where
  exc : PySem.W.excIn K C [.type "ValueError", .type "Exception", .type "BaseException", .type "object"] "ValueError.__new__" = true
  kp : PySem.W.keepIn K (.ref C) = true
  sub : PySem.W.subIn K (.ref C) (.type "BaseException") = some true
  ty : PySem.W.typeIn K (.ref C) = some (.type "type")
theorem exm_by {K : PySem.W.Frag} {a b : Addr} {r : Bool} (h1 : PySem.W.subIn K (.ref b) (.type "BaseException") = some true) (h2 : PySem.W.isClsIn K b = true) (h3 : PySem.W.typeIn K (.ref b) = some (.type "type")) (h4 : PySem.W.subIn K (.ref a) (.ref b) = some r) : PySem.W.exmOne K (.ref a) (.ref b) = some r := by
  unfold PySem.W.isClsIn at h2
  unfold PySem.W.exmOne PySem.W.kitCls
  rw [h1]
  simp [h2, h3, h4]
section
variable {X : Cx} {C : Addr}
/-- X() -/
theorem pmk_own0 {x : Str} {p pos : Pos} (c : ErrC X.K C) (gC : X.mg x = some (.ref C)) (hg : Gl X x) (hdb : (x == ("__debug__" : Str)) = false := by decide) : PMk X (.Call (.Name x p) [] [] pos) (fun _ H Q => Q (.ref C) none H) := by
  intro pins s σ H Q I h
  refine wpAny_Call_Name_kw (ld_glob I hg gC ?_ hdb)
  refine PySem.W.callWith_K0 I.kIn c.kp ?_
  show wpAny _ _ (call (.ref C) []) _ _ _
  obtain ⟨bm, N, nm, qn, bs, hdct, sn, sub, ab, col, dd, k0, k1, k2, k3, k5, mN, hC, hN, hni, T⟩ := exc_obj I.kIn c.exc
  refine wpAny_call_exc_subT PySem.F.excBase_ValueError T hC hN hni (fun h' e hm => ?_) (Nat.zero_le _)
  exact mk_of I hm (raises_own c.sub c.ty) h (I.hok.gone hm.new)
/-- raise X(), in a def's own body -/
theorem ps_err {E : XK} {x : Str} {p pos p2 : Pos} {E₁ : Value → Shared → Prop} (c : ErrC X.K C) (gC : X.mg x = some (.ref C)) (hg : Gl X x) (hc : X.calm = true) (hs : X.stack = X.env :: X.outer) (hf : X.env.frame = some X.env.locals) (hex : X.ex = [])
    (hx : X.xe = fun e s' => wpAny (model X.prog X.w) X.A (leaving X.env e) (fun _ s'' => CX X.prog X.w X.outer X.H_0 X.s_0 E e s'') E₁ s') (hdb : (x == ("__debug__" : Str)) = false := by decide) :
    PS X (.Raise (some (.Call (.Name x p) [] [] pos)) none p2) (fun _ _ H => E (.ref C) none H) := ps_raise hc (takes_of hs hf hex hx) (pmk_own0 c gC hg hdb)
/-- a def's own wish takes what a callee may let out -/
theorem passX {E E' : XK} {E₁ : Value → Shared → Prop} (h : ∀ cls d H, E' cls d H → E cls d H) (hs : X.stack = X.env :: X.outer) (hf : X.env.frame = some X.env.locals) (hex : X.ex = [])
    (hx : X.xe = fun e s' => wpAny (model X.prog X.w) X.A (leaving X.env e) (fun _ s'' => CX X.prog X.w X.outer X.H_0 X.s_0 E e s'') E₁ s') : Passes (CX X.prog X.w) X E' := passes_call (takes_of hs hf hex hx) fun cls d _ H z => h cls d H z
end
/-! ### told: try: a() / except x: return r / .. / return None -/
def wChain (K : PySem.W.Frag) (Q : VK) : List (Addr × Str) → XK
  | [] => fun _ _ _ => False
  | (C, r) :: l => fun cls d H => ∃ b, PySem.W.exmOne K cls (.ref C) = some b ∧ (b = true → Q (.str r) H) ∧ (b = false → wChain K Q l cls d H)
def TToldM (K : PySem.W.Frag) (l : List (Addr × Str)) : (XK → Hp → VK → Prop) → Hp → VK → Prop := fun tl H Q => tl (wChain K Q l) H fun _ H' => Q .non H'
/-- the handlers: except x: return r -/
inductive HdsT (mg : Str → Option Value) (sg : Scope) : List ExceptHandler → List (Addr × Str) → Prop
  | nil : HdsT mg sg [] []
  | cons {e r : Str} {C : Addr} {j : Nat} {p4 p5 p6 p7 : Pos} {hs : List ExceptHandler} {l : List (Addr × Str)} (hge : sg.names.lookup e = some .globalImplicit) (hme : mg e = some (.ref C)) (hde : (e == ("__debug__" : Str)) = false) (t : HdsT mg sg hs l) :
      HdsT mg sg (.ExceptHandler (some (.Name e p4)) none [.Return (some (.Constant (.str r) j p5)) p6] p7 :: hs) ((C, r) :: l)
def tsOf (r : Str) : Addr → Value → Option Addr → TS := fun _ _ _ => tRet (tC (.str r))
theorem wMany_chain {K : PySem.W.Frag} {D : Ends} : ∀ (l : List (Addr × Str)) {cls : Value} {d : Option Addr} {σ : L2.St} {H : Hp}, wChain K D.rt l cls d H →
    wMany K (fun _ _ _ _ => False) D (l.map fun (y : Addr × Str) => (Value.ref y.1, tsOf y.2)) cls d σ H
  | [], _, _, _, _, h => h
  | (C, r) :: l, _, _, _, _, ⟨b, h1, h2, h3⟩ => ⟨b, h1, fun e a _ => h2 e, fun e => wMany_chain l (h3 e)⟩
theorem hds_ok {Y : Cx} {mg : Str → Option Value} {sg : Scope} (hsc : Y.env.scope = sg) : ∀ {hs : List ExceptHandler} {l : List (Addr × Str)}, (hmg : Y.mg = mg) → HdsT mg sg hs l → HdsOk Y hs (l.map fun (y : Addr × Str) => (Value.ref y.1, tsOf y.2)) := by
  intro hs l hmg h
  induction h with
  | nil => exact .nil
  | cons hge hme hde t ih =>
    refine .cons ⟨by show Y.env.scope.names.lookup _ = _; rw [hsc]; exact hge, hde, .inl (by rw [hmg]; exact hme)⟩ (fun a oe cls d pn _ _ => ?_) ih
    exact pss_one (ps_ret pe_str)
section
variable {X : Cx}
theorem toldM_gives {Ng : List Str} {x a q : Str} {sg : Scope} {g : Addr} {cdg : Value} {h₀ : ExceptHandler} {hds : List ExceptHandler} {l : List (Addr × Str)} {p1 p2 p3 p8 p9 pn0 : Pos} {jn : Nat} (hT : HdsT X.mg sg (h₀ :: hds) l) (h0 : ∀ f : Addr, (L2.start Ng [V.ref f])[0]? = some (some (V.ref f))) :
    GivesTo X Ng x sg g cdg [.Try [.Expr (.Call (.Name a p1) [] [] p2) p3] (h₀ :: hds) [] [] p8, .Return (some (.Constant .none jn pn0)) p9] a q (TToldM X.K l) := by
  intro f c' s H Q tl act hc h
  refine ⟨_, pss_cons (ps_try_many (X := (cxOf C8.CX0 X.prog X.w X.K X.mg X.base Ng x sg g cdg X.A X.stack s H C8.E0).nox) (Wout := fun _ _ _ _ => False)
      (tb := fun W D σ H => ∃ Ech : XK, (∀ cls d σ' H', Ech cls d H' → W cls d σ' H') ∧ σ[0]? = some (some (.ref f)) ∧ H c' = some (CodeO c' q) ∧ tl Ech H fun _ H' => D.nx σ H')
      rfl rfl takes_none5 (fun W pn xe tk _ => ?_) (hds_ok rfl rfl hT)) (pss_one (ps_ret pe_non)), ?_⟩
  · refine ⟨fun pins s' σ H' D I h' => ?_⟩
    obtain ⟨Ech, hW, h1, h2, h3⟩ := h'
    have hp := act W pn xe Ech p1 p2 tk hW
    have hq := pss_one (ps_expr (pos := p3) hp)
    exact hq.run pins s' σ H' D I ⟨h1, h2, h3⟩
  · exact ⟨wChain X.K Q l, fun cls d σ' H' z => wMany_chain l z, h0 f, hc, h⟩
/-- sorted(xs, key=lambda x: x.f), f a property that returns a text of the instance -/
theorem pe_sortPropT {T : List (Addr × Str)} {te : TE} {c P C p g : Addr} {k : Nat} {e : Expr} {params : Arguments} {scope : Scope} {x f fld y qual : Str} {st : Stmt} {fd : FuncData} {pp q1 q2 lpos kpos pos p1 p2 p3 : Pos}
    (hmT : (P, X.env.qual ++ "<lambda>") ∈ T) (hu : ∀ p ∈ T, p.1 = P → p.2 = X.env.qual ++ "<lambda>") (hg : Gl X "sorted") (hm : X.mg "sorted" = none) (ha : PE X e te) (TB : TabB X.base X.mg c P) (hcode : X.env.code = .ref c) (hr : Room k X.A)
    (cl : Cls X.K C) (hp : PropOf X.K C f p g) (F : Fun X.K y qual st g fd) (hb : Binds X.K fd ["self"] []) (n : NoAttr X.K C fld) (hbody : defBody st = [.Return (some (.Attribute (.Name "self" p1) fld p2)) p3] := by rfl)
    (hk2 : (defScope st).kind = .function := by rfl) (hco2 : (defScope st).isCoroutine = false := by rfl) (hge2 : (defScope st).isGenerator = false := by rfl) (hself : (defScope st).names.lookup ("self" : Str) = some NameKind.local := by rfl) (nocell : ∀ y ∈ (defScope st).names, y.2 ≠ .cell := by decide +kernel)
    (hdef : defaultsOf params X.env = ([], []) := by rfl) (hkind : scope.kind = .function := by rfl) (hco : scope.isCoroutine = false := by rfl) (hgen : scope.isGenerator = false := by rfl) (hnames : ∀ y ∈ scope.names, y.2 ≠ .free ∧ y.2 ≠ .cell := by decide +kernel) (hx : scope.names.lookup x = some .local := by rfl)
    (hbind : ∀ (q : Str) (cl : List (Str × Addr)) (pm cv ctv v : Value), bindArgs (PySem.W.kla_fn "<lambda>" q params (.Attribute (.Name x q1) f q2) scope cl pm cv ctv) ⟨[v], []⟩ = pure [(x, v)] := by intros; rfl)
    (hd : (x == ("__debug__" : Str)) = false := by decide) (hst : starEach [e] X.env = (false, eval e X.env) :: starEach [] X.env := by rfl) (he : backTo pos (starEach [e] X.env) = (false, eval e X.env) :: backTo pos (starEach [] X.env) := by rfl) (hpl : (backTo pos (starEach [e] X.env)).any (·.1) = false := by rfl) :
    PE X (.Call (.Name "sorted" pp) [e] [⟨some "key", .Lambda params (.Attribute (.Name x q1) f q2) scope lpos, kpos⟩] pos) (tSortLam X.K T (RKi C fld) te) := by
  refine pe_sortLamP (x := x) (R := InsK C fld) (RK := RKi C fld) (key_prop hkind hx hd cl hp F hk2 hco2 hge2 hb n hbody hself nocell) (fun pins s σ H b u v I r rv => ?_) (fun h h' v u e r => insK_keep e r) (fun H H' b u e r => ?_) hg hm ha TB hcode hmT hu hr hdef hkind hco hgen hnames hx hbind hst he hpl
  · obtain ⟨a, dx, fs, rfl, ea, l⟩ := r
    obtain rfl : v = .ref a := rv
    obtain ⟨mA, O, r, _, _, _⟩ := ins_get I.hok ea
    obtain ⟨t, ht, rt⟩ := RelO.some_of (v := .str u) (o := mA fld) (by rw [← l]; exact r fld)
    obtain ⟨tk, rfl⟩ := rt
    exact ⟨a, dx, mA, tk, rfl, O, ht⟩
  · obtain ⟨a, dx, fs, rfl, ea, l⟩ := r
    exact ⟨a, dx, fs, rfl, e _ _ ea (fun _ z => nomatch z), l⟩
/-- o.f = v, as a target -/
def gFld (K : PySem.W.Frag) (ta : TE) (f : Str) : TG := fun v σ H Q => ta σ H fun x H2 => ∃ a C dx fs, x = .ref a ∧ H2 a = some (.ins C dx fs) ∧ Cls K C ∧ NoAttr K C f ∧ fs.length < 1000 ∧ Q σ (upd H2 a (.ins C dx (putF f v fs)))
theorem pg_fld {o : Expr} {f : Str} {pos : Pos} {ta : TE} (ho : PE X o ta) : PG X (.Attribute o f pos) (gFld X.K ta f) := by
  refine ⟨fun pins s σ H v u Q I r h => ?_⟩
  rw [assign_Attribute]
  refine wpAny_bind (wpAny_holding (thn (ho.run pins s σ H _ I h) fun ov s1 ⟨x, H1, I1, r1, a, C, dx, fs, ex, ea, c, n, l, q⟩ => ?_))
  subst ex
  obtain rfl : ov = Value.ref a := r1
  refine wpAny_bind (wpAny_standAt (wpAny_bind (wpAny_holding (setattr_ok I1 ea c n l r fun s2 I2 => wpAny_release ⟨σ, _, I2, q⟩))))
end
end My
/-! == and != that may run an own __eq__, with both answers -/
namespace My
open PySem PySem.SeqAt L2 LamX PyProof.Rows
open AutoSeq1 (wpAny_loadPart')
open MeetsSeq MeetsSeq2 MeetsSeq3 SeqRoads2
section
variable {prog : Program} {w : World} {A : Around} {R : Result → Shared → Prop}
abbrev FinB (prog : Program) (w : World) (A : Around) (R : Result → Shared → Prop) : Fin → Shared → Prop := fun fin s' => match fin with
  | .done f => R (.ok f) s'
  | .again c' => c'.quiet = true ∧ codeAny (model prog w) A c' R s'
/-- the two lists are there at each turn, the i-th items' answer is e i -/
def ItB (prog : Program) (w : World) (A : Around) (E : Value → Shared → Prop) (l b : Addr) (N : Nat) (e : Nat → Bool) (I : Nat → Shared → Prop) : Prop :=
  ∀ i s, I i s → ∃ (xs ys : Array Value) (n m : Nat), s.heap.get? l = some { cls := .type "list", data := .seq xs n } ∧ s.heap.get? b = some { cls := .type "list", data := .seq ys m } ∧ xs.size = N ∧ ys.size = N ∧
    ∀ (h1 : i < xs.size) (h2 : i < ys.size), wpAny (model prog w) A.in1 (eqBool xs[i] ys[i]) (fun r s' => r = e i ∧ I (i + 1) s') E s
theorem loop_eq (l b : Addr) (N : Nat) (e : Nat → Bool) (I : Nat → Shared → Prop) (hl : ItB prog w A (fun e s' => R (.error e) s') l b N e I)
    (f1 : ∀ s, I N s → (∀ j < N, e j = true) → R (.ok (.ret (.bool true))) s) (f0 : ∀ i s, i < N → e i = false → I (i + 1) s → R (.ok (.ret (.bool false))) s) (k : Nat) :
    ∀ i : Nat, N - i = k → i ≤ N → (∀ j < i, e j = true) → ∀ s, I i s → wpAny (model prog w) A.in1 (Builtin.«list.__eq__.loop» ⟨[.ref l, .ref b, rawInt i, rawInt 2], []⟩) (FinB prog w A R) (fun e s' => R (.error e) s') s := by
  induction k with
  | zero =>
    intro i hk hi hp s h
    obtain ⟨xs, ys, n, m, a1, a2, z1, z2, _⟩ := hl _ _ h
    obtain rfl : i = N := by omega
    have q := f1 s h hp
    obtain ⟨hh, g, d, tk, os⟩ := s
    wp_walk using wpAny_loadPart' a1, wpAny_loadPart' a2
    rw [show xs[((i : Nat) : Int).toNat]? = none from by simp; omega, show ys[((i : Nat) : Int).toNat]? = none from by simp; omega]
    wp_walk using wpAny_loadPart' a1, wpAny_loadPart' a2
    show R (.ok (.ret (.bool (xs.size == ys.size)))) _
    rw [z1, z2]
    simpa using q
  | succ k ih =>
    intro i hk hi hp s h
    obtain ⟨xs, ys, n, m, a1, a2, z1, z2, turn⟩ := hl _ _ h
    have i1 : i < xs.size := by omega
    have i2 : i < ys.size := by omega
    have ht := turn i1 i2
    obtain ⟨hh, g, d, tk, os⟩ := s
    wp_walk using wpAny_loadPart' a1, wpAny_loadPart' a2
    rw [show xs[((i : Nat) : Int).toNat]? = some xs[i] from by simp [i1], show ys[((i : Nat) : Int).toNat]? = some ys[i] from by simp [i2]]
    refine wpAny_bind (wpAny_mono ht (fun r s2 h2 => ?_) fun _ _ x => x)
    obtain ⟨hr, h2⟩ := h2
    cases he : e i with
    | true =>
      rw [he] at hr
      subst hr
      have hrec := ih (i + 1) (by omega) (by omega) (fun j hj => by
        by_cases z : j = i
        · rw [z]; exact he
        · exact hp j (by omega)) s2 h2
      obtain ⟨hh2, g2, d2, tk2, os2⟩ := s2
      wp_walk
      rw [show ((i : Int) + 1) = ((i + 1 : Nat) : Int) from by omega]
      exact ⟨plainId_quiet plain_eq_loop _, codeAny_builtin entry_eq_loop (by
        rw [Around.under_plainId plain_eq_loop _]
        exact hrec)⟩
    | false =>
      rw [he] at hr
      subst hr
      have q := f0 i s2 (by omega) he h2
      obtain ⟨xs', ys', n', m', b1, b2, y1, y2, _⟩ := hl _ _ h2
      obtain ⟨hh2, g2, d2, tk2, os2⟩ := s2
      wp_walk using wpAny_loadPart' b1, wpAny_loadPart' b2
      rw [show xs'[((i : Nat) : Int).toNat]? = some (xs'[i]'(by omega)) from by simp, show ys'[((i : Nat) : Int).toNat]? = some (ys'[i]'(by omega)) from by simp]
      wp_walk
      exact q
theorem list_eq (l b : Addr) (N : Nat) (e : Nat → Bool) (I : Nat → Shared → Prop) (hl : ItB prog w A (fun e s' => R (.error e) s') l b N e I)
    (f1 : ∀ s, I N s → (∀ j < N, e j = true) → R (.ok (.ret (.bool true))) s) (f0 : ∀ i s, i < N → e i = false → I (i + 1) s → R (.ok (.ret (.bool false))) s) {s : Shared} (h : I 0 s) :
    wpAny (model prog w) A.in1 (Builtin.«list.__eq__» ⟨[.ref l, .ref b], []⟩) (FinB prog w A R) (fun e s' => R (.error e) s') s := by
  obtain ⟨xs, ys, n, m, a1, a2, z1, z2, _⟩ := hl _ _ h
  have hrec := loop_eq (A := A) (R := R) l b N e I hl f1 f0 _ 0 rfl (Nat.zero_le _) (fun j hj => absurd hj (Nat.not_lt_zero j)) s h
  obtain ⟨hh, g, d, tk, os⟩ := s
  have f3 := AutoSeq1.sub_list_list
  have hne : ¬ (xs.size != ys.size) = true := by simp [z1, z2]
  wp_walk using wpAny_loadPart' a1, wpAny_loadPart' a2
  exact ⟨plainId_quiet plain_eq_loop _, codeAny_builtin entry_eq_loop (by
    rw [Around.under_plainId plain_eq_loop _]
    exact hrec)⟩
/-- lists of unlike lengths -/
theorem list_eq_len {l b : Addr} {xs ys : Array Value} {n m : Nat} {s : Shared} (a1 : s.heap.get? l = some { cls := .type "list", data := .seq xs n }) (a2 : s.heap.get? b = some { cls := .type "list", data := .seq ys m }) (hz : xs.size ≠ ys.size) (q : R (.ok (.ret (.bool false))) s) :
    wpAny (model prog w) A.in1 (Builtin.«list.__eq__» ⟨[.ref l, .ref b], []⟩) (FinB prog w A R) (fun e s' => R (.error e) s') s := by
  obtain ⟨hh, g, d, tk, os⟩ := s
  have f3 := AutoSeq1.sub_list_list
  have hne : (xs.size != ys.size) = true := by simp [hz]
  wp_walk using wpAny_loadPart' a1, wpAny_loadPart' a2
  exact q
theorem loop_ne (l b : Addr) (N : Nat) (e : Nat → Bool) (I : Nat → Shared → Prop) (hl : ItB prog w A (fun e s' => R (.error e) s') l b N e I)
    (f1 : ∀ s, I N s → (∀ j < N, e j = true) → R (.ok (.ret (.bool false))) s) (f0 : ∀ i s, i < N → e i = false → I (i + 1) s → R (.ok (.ret (.bool true))) s) (k : Nat) :
    ∀ i : Nat, N - i = k → i ≤ N → (∀ j < i, e j = true) → ∀ s, I i s → wpAny (model prog w) A.in1 (Builtin.«list.__eq__.loop» ⟨[.ref l, .ref b, rawInt i, rawInt 3], []⟩) (FinB prog w A R) (fun e s' => R (.error e) s') s := by
  induction k with
  | zero =>
    intro i hk hi hp s h
    obtain ⟨xs, ys, n, m, a1, a2, z1, z2, _⟩ := hl _ _ h
    obtain rfl : i = N := by omega
    have q := f1 s h hp
    obtain ⟨hh, g, d, tk, os⟩ := s
    wp_walk using wpAny_loadPart' a1, wpAny_loadPart' a2
    rw [show xs[((i : Nat) : Int).toNat]? = none from by simp; omega, show ys[((i : Nat) : Int).toNat]? = none from by simp; omega]
    wp_walk using wpAny_loadPart' a1, wpAny_loadPart' a2
    show R (.ok (.ret (.bool (xs.size != ys.size)))) _
    rw [z1, z2]
    simpa using q
  | succ k ih =>
    intro i hk hi hp s h
    obtain ⟨xs, ys, n, m, a1, a2, z1, z2, turn⟩ := hl _ _ h
    have i1 : i < xs.size := by omega
    have i2 : i < ys.size := by omega
    have ht := turn i1 i2
    obtain ⟨hh, g, d, tk, os⟩ := s
    wp_walk using wpAny_loadPart' a1, wpAny_loadPart' a2
    rw [show xs[((i : Nat) : Int).toNat]? = some xs[i] from by simp [i1], show ys[((i : Nat) : Int).toNat]? = some ys[i] from by simp [i2]]
    refine wpAny_bind (wpAny_mono ht (fun r s2 h2 => ?_) fun _ _ x => x)
    obtain ⟨hr, h2⟩ := h2
    cases he : e i with
    | true =>
      rw [he] at hr
      subst hr
      have hrec := ih (i + 1) (by omega) (by omega) (fun j hj => by
        by_cases z : j = i
        · rw [z]; exact he
        · exact hp j (by omega)) s2 h2
      obtain ⟨hh2, g2, d2, tk2, os2⟩ := s2
      wp_walk
      rw [show ((i : Int) + 1) = ((i + 1 : Nat) : Int) from by omega]
      exact ⟨plainId_quiet plain_eq_loop _, codeAny_builtin entry_eq_loop (by
        rw [Around.under_plainId plain_eq_loop _]
        exact hrec)⟩
    | false =>
      rw [he] at hr
      subst hr
      have q := f0 i s2 (by omega) he h2
      obtain ⟨xs', ys', n', m', b1, b2, y1, y2, _⟩ := hl _ _ h2
      obtain ⟨hh2, g2, d2, tk2, os2⟩ := s2
      wp_walk using wpAny_loadPart' b1, wpAny_loadPart' b2
      rw [show xs'[((i : Nat) : Int).toNat]? = some (xs'[i]'(by omega)) from by simp, show ys'[((i : Nat) : Int).toNat]? = some (ys'[i]'(by omega)) from by simp]
      wp_walk
      exact q
theorem list_ne (l b : Addr) (N : Nat) (e : Nat → Bool) (I : Nat → Shared → Prop) (hl : ItB prog w A (fun e s' => R (.error e) s') l b N e I)
    (f1 : ∀ s, I N s → (∀ j < N, e j = true) → R (.ok (.ret (.bool false))) s) (f0 : ∀ i s, i < N → e i = false → I (i + 1) s → R (.ok (.ret (.bool true))) s) {s : Shared} (h : I 0 s) :
    wpAny (model prog w) A.in1 (Builtin.«list.__ne__» ⟨[.ref l, .ref b], []⟩) (FinB prog w A R) (fun e s' => R (.error e) s') s := by
  obtain ⟨xs, ys, n, m, a1, a2, z1, z2, _⟩ := hl _ _ h
  have hrec := loop_ne (A := A) (R := R) l b N e I hl f1 f0 _ 0 rfl (Nat.zero_le _) (fun j hj => absurd hj (Nat.not_lt_zero j)) s h
  obtain ⟨hh, g, d, tk, os⟩ := s
  have f3 := AutoSeq1.sub_list_list
  have hne : ¬ (xs.size != ys.size) = true := by simp [z1, z2]
  wp_walk using wpAny_loadPart' a1, wpAny_loadPart' a2
  exact ⟨plainId_quiet plain_eq_loop _, codeAny_builtin entry_eq_loop (by
    rw [Around.under_plainId plain_eq_loop _]
    exact hrec)⟩
/-- lists of unlike lengths -/
theorem list_ne_len {l b : Addr} {xs ys : Array Value} {n m : Nat} {s : Shared} (a1 : s.heap.get? l = some { cls := .type "list", data := .seq xs n }) (a2 : s.heap.get? b = some { cls := .type "list", data := .seq ys m }) (hz : xs.size ≠ ys.size) (q : R (.ok (.ret (.bool true))) s) :
    wpAny (model prog w) A.in1 (Builtin.«list.__ne__» ⟨[.ref l, .ref b], []⟩) (FinB prog w A R) (fun e s' => R (.error e) s') s := by
  obtain ⟨hh, g, d, tk, os⟩ := s
  have f3 := AutoSeq1.sub_list_list
  have hne : (xs.size != ys.size) = true := by simp [hz]
  wp_walk using wpAny_loadPart' a1, wpAny_loadPart' a2
  exact q
end
end My
/-! == and != that may run an own __eq__: tuples, own classes, operators -/
namespace My
open PySem PySem.SeqAt L2 LamX PyProof.Rows
open AutoSeq1 (wpAny_loadPart')
open MeetsSeq MeetsSeq2 MeetsSeq3 SeqRoads2
section
variable {prog : Program} {w : World} {A : Around} {R : Result → Shared → Prop} {E : Value → Shared → Prop} {s : Shared}
theorem tup_eq (l b : Addr) (xs ys : Array Value) (n m : Nat) (dd dd2 : Option Addr) (sl sl2 : Array (Option Value)) (hsz : xs.size = ys.size) (e : Nat → Bool) (I : Nat → Shared → Prop)
    (turn : ∀ i (h1 : i < xs.size) (h2 : i < ys.size) s, I i s → wpAny (model prog w) A.in1 (eqBool xs[i] ys[i]) (fun r s' => r = e i ∧ I (i + 1) s') (fun e s' => R (.error e) s') s)
    (f1 : ∀ s, I xs.size s → (∀ j < xs.size, e j = true) → R (.ok (.ret (.bool true))) s) (f0 : ∀ i s, i < xs.size → e i = false → I (i + 1) s → R (.ok (.ret (.bool false))) s) {s : Shared}
    (a1 : s.heap.get? l = some { cls := .type "tuple", dict := dd, data := .seq xs n, slots := sl }) (a2 : s.heap.get? b = some { cls := .type "tuple", dict := dd2, data := .seq ys m, slots := sl2 }) (h : I 0 s) :
    wpAny (model prog w) A.in1 (Builtin.«tuple.__eq__» ⟨[.ref l, .ref b], []⟩) (FinB prog w A R) (fun e s' => R (.error e) s') s := by
  have f2 := AutoSeq1.sub_tuple_tuple
  have hZ : (xs.toList.zip ys.toList).length = xs.size := by simp [hsz]
  have h0 := h
  obtain ⟨hh, g, d, tk, os⟩ := s
  wp_walk using wpAny_loadPart' a1, wpAny_loadPart' a2, wpAny_forIn_list _ (fun rest b s' => (b.1 = none ∧ ∃ i, rest = (xs.toList.zip ys.toList).drop i ∧ i ≤ xs.size ∧ I i s' ∧ ∀ j < i, e j = true) ∨ (b.1 = some (.done (.ret (.bool false))) ∧ rest = [] ∧ R (.ok (.ret (.bool false))) s'))
  case turn =>
    rintro ⟨y, x⟩ rest b s' (⟨hb, i, hz, hi, hI, hp⟩ | ⟨_, hz, _⟩)
    · have hlt : i < (xs.toList.zip ys.toList).length := by
        rcases Nat.lt_or_ge i (xs.toList.zip ys.toList).length with z | z
        · exact z
        · rw [List.drop_of_length_le z] at hz; cases hz
      have h1 : i < xs.size := hZ ▸ hlt
      have h2 : i < ys.size := hsz ▸ h1
      rw [List.drop_eq_getElem_cons hlt] at hz
      injection hz with hyx hrest
      obtain rfl : y = xs[i] := by simpa using congrArg Prod.fst hyx
      obtain rfl : x = ys[i] := by simpa using congrArg Prod.snd hyx
      refine wpAny_bind (wpAny_mono (turn i h1 h2 s' hI) (fun r s2 q2 => ?_) fun _ _ x => x)
      obtain ⟨hr, q2⟩ := q2
      cases he : e i with
      | true =>
        rw [he] at hr
        subst hr
        wp_walk
        exact .inl ⟨rfl, i + 1, hrest, h1, q2, fun j hj => by
          by_cases z : j = i
          · rw [z]; exact he
          · exact hp j (by omega)⟩
      | false =>
        rw [he] at hr
        subst hr
        have q := f0 i s2 h1 he q2
        wp_walk
        exact q
    · cases hz
  case fin =>
    rintro ⟨b1, b2⟩ s' (⟨hb, i, hz, hi, hI, hp⟩ | ⟨hb, _, q⟩)
    · simp only at hb
      subst hb
      have hge : xs.size ≤ i := by
        rcases Nat.lt_or_ge i (xs.toList.zip ys.toList).length with z | z
        · rw [List.drop_eq_getElem_cons z] at hz; cases hz
        · exact hZ ▸ z
      obtain rfl : i = xs.size := by omega
      have q := f1 s' hI hp
      wp_walk
      simpa [Builtin.Tuple.tupleCompareSizes, hsz] using q
    · simp only at hb
      subst hb
      wp_walk
      exact q
  case h =>
    exact .inl ⟨rfl, 0, rfl, Nat.zero_le _, h0, fun j hj => absurd hj (Nat.not_lt_zero j)⟩
theorem tup_ne (l b : Addr) (xs ys : Array Value) (n m : Nat) (dd dd2 : Option Addr) (sl sl2 : Array (Option Value)) (hsz : xs.size = ys.size) (e : Nat → Bool) (I : Nat → Shared → Prop)
    (turn : ∀ i (h1 : i < xs.size) (h2 : i < ys.size) s, I i s → wpAny (model prog w) A.in1 (eqBool xs[i] ys[i]) (fun r s' => r = e i ∧ I (i + 1) s') (fun e s' => R (.error e) s') s)
    (f1 : ∀ s, I xs.size s → (∀ j < xs.size, e j = true) → R (.ok (.ret (.bool false))) s) (f0 : ∀ i s, i < xs.size → e i = false → I (i + 1) s → R (.ok (.ret (.bool true))) s) {s : Shared}
    (a1 : s.heap.get? l = some { cls := .type "tuple", dict := dd, data := .seq xs n, slots := sl }) (a2 : s.heap.get? b = some { cls := .type "tuple", dict := dd2, data := .seq ys m, slots := sl2 }) (h : I 0 s) :
    wpAny (model prog w) A.in1 (Builtin.«tuple.__ne__» ⟨[.ref l, .ref b], []⟩) (FinB prog w A R) (fun e s' => R (.error e) s') s := by
  have f2 := AutoSeq1.sub_tuple_tuple
  have hZ : (xs.toList.zip ys.toList).length = xs.size := by simp [hsz]
  have h0 := h
  obtain ⟨hh, g, d, tk, os⟩ := s
  wp_walk using wpAny_loadPart' a1, wpAny_loadPart' a2, wpAny_forIn_list _ (fun rest b s' => (b.1 = none ∧ ∃ i, rest = (xs.toList.zip ys.toList).drop i ∧ i ≤ xs.size ∧ I i s' ∧ ∀ j < i, e j = true) ∨ (b.1 = some (.done (.ret (.bool true))) ∧ rest = [] ∧ R (.ok (.ret (.bool true))) s'))
  case turn =>
    rintro ⟨y, x⟩ rest b s' (⟨hb, i, hz, hi, hI, hp⟩ | ⟨_, hz, _⟩)
    · have hlt : i < (xs.toList.zip ys.toList).length := by
        rcases Nat.lt_or_ge i (xs.toList.zip ys.toList).length with z | z
        · exact z
        · rw [List.drop_of_length_le z] at hz; cases hz
      have h1 : i < xs.size := hZ ▸ hlt
      have h2 : i < ys.size := hsz ▸ h1
      rw [List.drop_eq_getElem_cons hlt] at hz
      injection hz with hyx hrest
      obtain rfl : y = xs[i] := by simpa using congrArg Prod.fst hyx
      obtain rfl : x = ys[i] := by simpa using congrArg Prod.snd hyx
      refine wpAny_bind (wpAny_mono (turn i h1 h2 s' hI) (fun r s2 q2 => ?_) fun _ _ x => x)
      obtain ⟨hr, q2⟩ := q2
      cases he : e i with
      | true =>
        rw [he] at hr
        subst hr
        wp_walk
        exact .inl ⟨rfl, i + 1, hrest, h1, q2, fun j hj => by
          by_cases z : j = i
          · rw [z]; exact he
          · exact hp j (by omega)⟩
      | false =>
        rw [he] at hr
        subst hr
        have q := f0 i s2 h1 he q2
        wp_walk
        exact q
    · cases hz
  case fin =>
    rintro ⟨b1, b2⟩ s' (⟨hb, i, hz, hi, hI, hp⟩ | ⟨hb, _, q⟩)
    · simp only at hb
      subst hb
      have hge : xs.size ≤ i := by
        rcases Nat.lt_or_ge i (xs.toList.zip ys.toList).length with z | z
        · rw [List.drop_eq_getElem_cons z] at hz; cases hz
        · exact hZ ▸ z
      obtain rfl : i = xs.size := by omega
      have q := f1 s' hI hp
      wp_walk
      simpa [Builtin.Tuple.tupleCompareSizes, hsz] using q
    · simp only at hb
      subst hb
      wp_walk
      exact q
  case h =>
    exact .inl ⟨rfl, 0, rfl, Nat.zero_le _, h0, fun j hj => absurd hj (Nat.not_lt_zero j)⟩
end
end My
/-! == and != that may run an own __eq__: by the abstract heap -/
namespace My
open PySem PySem.Spec L2 LamX PyProof.Rows
section
variable {prog : Program} {w : World} {A : Around} {E : Value → Shared → Prop} {s : Shared}
theorem rc_list_eq {l b : Addr} {N : Nat} {e : Nat → Bool} {Q : Value → Shared → Prop} (hu : A.units < cLine) (I : Nat → Shared → Prop) (hl : ItB prog w A E l b N e I) (f1 : ∀ s, I N s → (∀ j < N, e j = true) → Q (.bool true) s)
    (f0 : ∀ i s, i < N → e i = false → I (i + 1) s → Q (.bool false) s) (h : I 0 s) : wpAny (model prog w) A (richCompare .Eq (.ref l) (.ref b)) Q E s := by
  obtain ⟨xs, ys, n, m, a1, a2, _⟩ := hl _ _ h
  refine wpAny_richCompare_same_room (op := .Eq) ⟨_, a1, rfl⟩ ⟨_, a2, rfl⟩ PySem.F.slot_list_eq (GQ.call_here PySem.F.slot_list_eq ⟨_, a1, rfl⟩ PySem.F.entry_list_eq (PySem.F.args_list_eq_2 _ _) ?_) hu
  exact list_eq (R := wants (fun v s' => v ≠ .notImplemented ∧ Q v s') E) l b N e I hl (fun s' q1 q2 => ⟨nofun, f1 s' q1 q2⟩) (fun i s' q1 q2 q3 => ⟨nofun, f0 i s' q1 q2 q3⟩) h
theorem rc_list_ne {l b : Addr} {N : Nat} {e : Nat → Bool} {Q : Value → Shared → Prop} (hu : A.units < cLine) (I : Nat → Shared → Prop) (hl : ItB prog w A E l b N e I) (f1 : ∀ s, I N s → (∀ j < N, e j = true) → Q (.bool false) s)
    (f0 : ∀ i s, i < N → e i = false → I (i + 1) s → Q (.bool true) s) (h : I 0 s) : wpAny (model prog w) A (richCompare .NotEq (.ref l) (.ref b)) Q E s := by
  obtain ⟨xs, ys, n, m, a1, a2, _⟩ := hl _ _ h
  refine wpAny_richCompare_same_room (op := .NotEq) ⟨_, a1, rfl⟩ ⟨_, a2, rfl⟩ PySem.F.slot_list_ne (GQ.call_here PySem.F.slot_list_ne ⟨_, a1, rfl⟩ PySem.F.entry_list_ne (PySem.F.args_list_ne_2 _ _) ?_) hu
  exact list_ne (R := wants (fun v s' => v ≠ .notImplemented ∧ Q v s') E) l b N e I hl (fun s' q1 q2 => ⟨nofun, f1 s' q1 q2⟩) (fun i s' q1 q2 q3 => ⟨nofun, f0 i s' q1 q2 q3⟩) h
theorem rc_list_eq_len {l b : Addr} {xs ys : Array Value} {n m : Nat} {Q : Value → Shared → Prop} (hu : A.units < cLine) (a1 : s.heap.get? l = some { cls := .type "list", data := .seq xs n }) (a2 : s.heap.get? b = some { cls := .type "list", data := .seq ys m }) (hz : xs.size ≠ ys.size) (q : Q (.bool false) s) :
    wpAny (model prog w) A (richCompare .Eq (.ref l) (.ref b)) Q E s := by
  refine wpAny_richCompare_same_room (op := .Eq) ⟨_, a1, rfl⟩ ⟨_, a2, rfl⟩ PySem.F.slot_list_eq (GQ.call_here PySem.F.slot_list_eq ⟨_, a1, rfl⟩ PySem.F.entry_list_eq (PySem.F.args_list_eq_2 _ _) ?_) hu
  exact list_eq_len (R := wants (fun v s' => v ≠ .notImplemented ∧ Q v s') E) a1 a2 hz ⟨nofun, q⟩
theorem rc_list_ne_len {l b : Addr} {xs ys : Array Value} {n m : Nat} {Q : Value → Shared → Prop} (hu : A.units < cLine) (a1 : s.heap.get? l = some { cls := .type "list", data := .seq xs n }) (a2 : s.heap.get? b = some { cls := .type "list", data := .seq ys m }) (hz : xs.size ≠ ys.size) (q : Q (.bool true) s) :
    wpAny (model prog w) A (richCompare .NotEq (.ref l) (.ref b)) Q E s := by
  refine wpAny_richCompare_same_room (op := .NotEq) ⟨_, a1, rfl⟩ ⟨_, a2, rfl⟩ PySem.F.slot_list_ne (GQ.call_here PySem.F.slot_list_ne ⟨_, a1, rfl⟩ PySem.F.entry_list_ne (PySem.F.args_list_ne_2 _ _) ?_) hu
  exact list_ne_len (R := wants (fun v s' => v ≠ .notImplemented ∧ Q v s') E) a1 a2 hz ⟨nofun, q⟩
theorem rc_tup_eq {l b : Addr} {xs ys : Array Value} {e : Nat → Bool} {Q : Value → Shared → Prop} (hsz : xs.size = ys.size) (hu : A.units < cLine) (I : Nat → Shared → Prop) (hl : s.heap.IsTuple l xs) (hb : s.heap.IsTuple b ys)
    (turn : ∀ i (h1 : i < xs.size) (h2 : i < ys.size) s, I i s → wpAny (model prog w) A.in1 (eqBool xs[i] ys[i]) (fun r s' => r = e i ∧ I (i + 1) s') E s) (f1 : ∀ s, I xs.size s → (∀ j < xs.size, e j = true) → Q (.bool true) s)
    (f0 : ∀ i s, i < xs.size → e i = false → I (i + 1) s → Q (.bool false) s) (h : I 0 s) : wpAny (model prog w) A (richCompare .Eq (.ref l) (.ref b)) Q E s := by
  obtain ⟨⟨cls, dd, data, sl⟩, ho, hc, n, hd⟩ := id hl
  obtain ⟨⟨cls2, dd2, data2, sl2⟩, ho2, hc2, n2, hd2⟩ := id hb
  simp only at hc hd hc2 hd2
  subst hc hd hc2 hd2
  refine wpAny_richCompare_same_room (op := .Eq) ⟨_, ho, rfl⟩ ⟨_, ho2, rfl⟩ PySem.F.slot_tuple_eq (GQ.call_here PySem.F.slot_tuple_eq ⟨_, ho, rfl⟩ PySem.F.entry_tuple_eq (PySem.F.args_tuple_eq_2 _ _) ?_) hu
  exact tup_eq (R := wants (fun v s' => v ≠ .notImplemented ∧ Q v s') E) l b xs ys n n2 dd dd2 sl sl2 hsz e I turn (fun s' q1 q2 => ⟨nofun, f1 s' q1 q2⟩) (fun i s' q1 q2 q3 => ⟨nofun, f0 i s' q1 q2 q3⟩) ho ho2 h
theorem rc_tup_ne {l b : Addr} {xs ys : Array Value} {e : Nat → Bool} {Q : Value → Shared → Prop} (hsz : xs.size = ys.size) (hu : A.units < cLine) (I : Nat → Shared → Prop) (hl : s.heap.IsTuple l xs) (hb : s.heap.IsTuple b ys)
    (turn : ∀ i (h1 : i < xs.size) (h2 : i < ys.size) s, I i s → wpAny (model prog w) A.in1 (eqBool xs[i] ys[i]) (fun r s' => r = e i ∧ I (i + 1) s') E s) (f1 : ∀ s, I xs.size s → (∀ j < xs.size, e j = true) → Q (.bool false) s)
    (f0 : ∀ i s, i < xs.size → e i = false → I (i + 1) s → Q (.bool true) s) (h : I 0 s) : wpAny (model prog w) A (richCompare .NotEq (.ref l) (.ref b)) Q E s := by
  obtain ⟨⟨cls, dd, data, sl⟩, ho, hc, n, hd⟩ := id hl
  obtain ⟨⟨cls2, dd2, data2, sl2⟩, ho2, hc2, n2, hd2⟩ := id hb
  simp only at hc hd hc2 hd2
  subst hc hd hc2 hd2
  refine wpAny_richCompare_same_room (op := .NotEq) ⟨_, ho, rfl⟩ ⟨_, ho2, rfl⟩ PySem.F.slot_tuple_ne (GQ.call_here PySem.F.slot_tuple_ne ⟨_, ho, rfl⟩ PySem.F.entry_tuple_ne (PySem.F.args_tuple_ne_2 _ _) ?_) hu
  exact tup_ne (R := wants (fun v s' => v ≠ .notImplemented ∧ Q v s') E) l b xs ys n n2 dd dd2 sl sl2 hsz e I turn (fun s' q1 q2 => ⟨nofun, f1 s' q1 q2⟩) (fun i s' q1 q2 q3 => ⟨nofun, f0 i s' q1 q2 q3⟩) ho ho2 h
end
/-! ### own classes: != by object.__ne__ and the own __eq__ -/
section
open PySem.W
variable {prog : Program} {w : World} {A : Around} {E : Value → Shared → Prop} {s : Shared} {K : Frag} {x C L f : Addr} {h₀ : Heap} {m : Str → Option Value} {ox : Obj} {od : Option Obj} {b : Value}
theorem ifBound_ne {M : Model} {Q : Option Value → Shared → Prop} (X : K.In s.heap) (I : InstAt s.heap x ox C od) (hs : findIn K (.ref C) "__ne__" = some (some (.builtin "object.__ne__")))
    (h : wpAny M A (call (.builtin "object.__ne__") [.ref x, b]) (fun v => Q (some v)) E s) : wpAny M A (callSpecialIfBound? (.ref x) "__ne__" [b]) Q E s := by
  simp only [callSpecialIfBound?, bindSpecialIfBound?]
  refine wpAny_holding (wpAny_bind (wpAny_bind (wpAny_bind (I.type.here ((looks_findIn X hs).here ?_)))))
  simp only [PySem.F.cmp_object.ne.bind]
  refine wpAny_bind (wpAny_askSetting (wpAny_ite ?_))
  have fin : wpAny M A (call (.builtin "object.__ne__") ([.ref x] ++ [b]) >>= fun v => pure (some v)) Q E s := wpAny_bind (wpAny_mono h (fun v s' h' => wpAny_pure h') fun _ _ h' => h')
  split
  · exact wpAny_bind (wpAny_pure (wpAny_pure fin))
  · exact wpAny_tryCatch (wpAny_bind (wpAny_pure (wpAny_pure fin)))
theorem ne_K {y : Addr} {oy : Obj} {od' : Option Obj} {Q : Value → Shared → Prop} (hu : A.units + 1 < cLine) (X : K.In s.heap) (I : InstAt s.heap x ox C od) (J : InstAt s.heap y oy C od') (hs : findIn K (.ref C) "__ne__" = some (some (.builtin "object.__ne__")))
    (ho : subIn K (.ref C) (.type "object") = some true) (he : findIn K (.ref C) "__eq__" = some (some (.ref f))) (hf : isFn K (.ref f) = true)
    (h : wpAny (model prog w) A.in1 (call (.ref f) [.ref x, .ref y]) (fun v s' => ∃ r, v = .bool r ∧ Q (.bool (!r)) s') E s) : wpAny (model prog w) A (richCompare .NotEq (.ref x) (.ref y)) Q E s := by
  have one : wpAny (model prog w) A (tryCompare (.ref x) (cmpInfo .NotEq).2.1 (.ref y)) (fun r s' => ∃ v, r = some v ∧ Q v s') E s := by
    unfold tryCompare
    refine wpAny_bind (ifBound_ne X I hs (wpAny_call (codeAny_call_builtin PySem.F.cmp_object.ne.plain PySem.F.cmpEntry_ne (check_slot PySem.F.cmpKind_ne PySem.F.cmpSplit_ne (I.type.andThen (looks_subIn X ho)) (PySem.F.cmpArgs_ne _ _) ?_))))
    have hb : wpAny (model prog w) A.in1 (callSpecialIfBound? (.ref x) "__eq__" [.ref y]) (fun o s' => ∃ r, o = some (.bool r) ∧ Q (.bool (!r)) s') E s := ifBound_K X I he hf (wpAny_mono h (fun v s' ⟨r, e, q⟩ => ⟨r, by rw [e], q⟩) fun _ _ e => e)
    obtain ⟨hh, g, d, tk, os⟩ := s
    unfold Builtin.«object.__ne__»
    repeat (first | with_reducible refine wpAny_cRoomFor hu ?_ | with_reducible refine wpAny_mono hb (fun o s' ho => ?_) (fun _ _ e => ?_) | wp_step)
    · obtain ⟨r, rfl, q⟩ := ho
      refine wpAny_bind (wpAny_truthy_bool ?_)
      exact wpAny_pure (wpAny_pure ⟨_, rfl, q⟩)
    · assumption
  unfold richCompare
  simp only [oneThing_ref]
  refine wpAny_holding (wpAny_bind (wpAny_cRoomFor (Nat.lt_of_succ_lt hu) ?_))
  refine wpAny_bind (I.type.here (wpAny_bind (J.type.here ?_)))
  rw [if_neg (by simp)]
  refine wpAny_bind (wpAny_pure ?_)
  simp only [Bool.false_eq_true, if_false]
  refine wpAny_bind (wpAny_mono one (fun r s' z => ?_) fun _ _ e => e)
  obtain ⟨v, rfl, hq⟩ := z
  exact wpAny_pure hq
end
/-! ### the answer about two values; the heap may grow -/
abbrev EqvB := V → V → Bool → Hp → Prop
def MonB (D : EqvB) : Prop := ∀ x y b H H', Ext H H' → D x y b H → D x y b H'
def EqB (X : Cx) (n : Nat) (D : EqvB) : Prop :=
  ∀ (A : Around) (pins : List (Addr × Obj)) (s : Shared) (σ : L2.St) (H : Hp) (x y : V) (u v : Value) (b : Bool), L2.Sub X n A → Inv X pins σ H s → RelV x u → RelV y v → D x y b H →
    wpAny (model X.prog X.w) A (eqBool u v) (fun r s' => r = b ∧ ∃ H', Inv X pins σ H' s' ∧ Ext H H') X.xe s
def RcB (X : Cx) (n : Nat) (ne : Bool) (D : EqvB) : Prop :=
  ∀ (A : Around) (pins : List (Addr × Obj)) (s : Shared) (σ : L2.St) (H : Hp) (x y : V) (u v : Value) (b : Bool), L2.Sub X n A → Inv X pins σ H s → RelV x u → RelV y v → D x y b H →
    wpAny (model X.prog X.w) A (richCompare (if ne = true then .NotEq else .Eq) u v) (fun r s' => r = .bool (if ne = true then !b else b) ∧ ∃ H', Inv X pins σ H' s' ∧ Ext H H') X.xe s
section
variable {X : Cx} {n : Nat} {D : EqvB}
def DFlatB : EqvB := fun x y b _ => flatV x = true ∧ flatV y = true ∧ eqV x y = b
theorem monB_flat : MonB DFlatB := fun _ _ _ _ _ _ d => d
theorem eqB_flat : EqB X 0 DFlatB := by
  intro A pins s σ H x y u v b sb I rx ry d
  obtain ⟨fx, fy, e⟩ := d
  have q := eqAt_V (A := A) (s := s) rx ry fx fy
  rw [e] at q
  exact q X.prog X.w X.xe _ ⟨rfl, H, I, Ext.rfl'⟩
/-- item by item: the answers e -/
def PrsB (D : EqvB) (xs ys : List V) (e : Nat → Bool) (H : Hp) : Prop := xs.length = ys.length ∧ ∀ (i : Nat) x y, xs[i]? = some x → ys[i]? = some y → D x y (e i) H
theorem turnB (hD : MonB D) (h : EqB X n D) {A : Around} (sb : L2.Sub X (n + 1) A) {pins : List (Addr × Obj)} {σ : L2.St} {H : Hp} {xs ys : List V} {e : Nat → Bool} {us vs : List Value} (p : PrsB D xs ys e H) (r : Vals xs us) (r2 : Vals ys vs)
    (i : Nat) (h1 : i < us.toArray.size) (h2 : i < vs.toArray.size) (s' : Shared) (l : LoopI X pins σ H s') :
    wpAny (model X.prog X.w) A.in1 (eqBool us.toArray[i] vs.toArray[i]) (fun r s2 => r = e i ∧ LoopI X pins σ H s2) X.xe s' := by
  obtain ⟨H1, I1, e1⟩ := l
  have g1 : us[i]? = some us.toArray[i] := by
    have z : i < us.length := by simpa using h1
    rw [List.getElem?_eq_getElem z] <;> simp
  have g2 : vs[i]? = some vs.toArray[i] := by
    have z : i < vs.length := by simpa using h2
    rw [List.getElem?_eq_getElem z] <;> simp
  have k1 : i < xs.length := by rw [r.length]; simpa using h1
  have k2 : i < ys.length := by rw [r2.length]; simpa using h2
  obtain ⟨u, hu, ru⟩ := r.get (List.getElem?_eq_getElem k1)
  obtain ⟨v, hv, rv⟩ := r2.get (List.getElem?_eq_getElem k2)
  rw [g1] at hu
  rw [g2] at hv
  rw [Option.some.inj hu, Option.some.inj hv]
  refine wpAny_mono (h A.in1 pins s' σ H1 _ _ u v _ sb.in1 I1 ru rv (hD _ _ _ _ _ e1 (p.2 i _ _ (List.getElem?_eq_getElem k1) (List.getElem?_eq_getElem k2)))) (fun r s2 q => ?_) fun _ _ x => x
  obtain ⟨hr, H2, I2, e2⟩ := q
  exact ⟨hr, H2, I2, e1.trans e2⟩
def allB (n : Nat) (e : Nat → Bool) : Bool := (List.range n).all e
theorem allB_t {n : Nat} {e : Nat → Bool} (h : ∀ j < n, e j = true) : allB n e = true := List.all_eq_true.mpr fun j hj => h j (List.mem_range.mp hj)
theorem allB_f {n i : Nat} {e : Nat → Bool} (h : i < n) (he : e i = false) : allB n e = false := Bool.eq_false_iff.mpr fun z => by
  rw [List.all_eq_true.mp z i (List.mem_range.mpr h)] at he
  cases he
/-- two lists -/
def DListB (D : EqvB) : EqvB := fun x y b H => ∃ p q xs ys, x = .ref p ∧ y = .ref q ∧ H p = some (.lst xs) ∧ H q = some (.lst ys) ∧ ((xs.length ≠ ys.length ∧ b = false) ∨ ∃ e, PrsB D xs ys e H ∧ b = allB xs.length e)
/-- two tuples of one length -/
def DTupB (K : PySem.W.Frag) (D : EqvB) : EqvB := fun x y b H => ∃ p q xs ys e, x = .ref p ∧ y = .ref q ∧ SqT K H p xs ∧ SqT K H q ys ∧ PrsB D xs ys e H ∧ b = allB xs.length e
theorem rcB_list (hD : MonB D) (h : EqB X n D) : ∀ ne, RcB X (n + 1) ne (DListB D) := by
  intro ne A pins s σ H x y u v b sb I rx ry d
  obtain ⟨p, q, xs, ys, rfl, rfl, hp, hq, d⟩ := d
  cases rx
  cases ry
  rcases d with ⟨hne, rfl⟩ | ⟨e, pr, rfl⟩
  · obtain ⟨z, us, k, r, a1⟩ := I.hok p _ hp
    obtain ⟨z2, vs, k2, r2, a2⟩ := I.hok q _ hq
    have hsz : us.toArray.size ≠ vs.toArray.size := by rw [List.size_toArray, List.size_toArray, ← r.length, ← r2.length]; exact hne
    cases ne with
    | true => exact rc_list_ne_len sb.room.units0 a1 a2 hsz ⟨rfl, H, I, Ext.rfl'⟩
    | false => exact rc_list_eq_len sb.room.units0 a1 a2 hsz ⟨rfl, H, I, Ext.rfl'⟩
  · have it : ItB X.prog X.w A X.xe p q xs.length e (fun _ s' => LoopI X pins σ H s') := fun i s' l => by
      obtain ⟨H1, I1, e1⟩ := id l
      obtain ⟨z, us, k, r, a1⟩ := I1.hok p _ (e1 _ _ hp)
      obtain ⟨z2, vs, k2, r2, a2⟩ := I1.hok q _ (e1 _ _ hq)
      exact ⟨us.toArray, vs.toArray, k, k2, a1, a2, by rw [List.size_toArray, ← r.length], by rw [List.size_toArray, ← r2.length, ← pr.1], fun h1 h2 => turnB hD h sb pr r r2 i h1 h2 s' l⟩
    cases ne with
    | true => exact rc_list_ne sb.room.units0 _ it (fun s' l ha => ⟨by rw [allB_t ha]; rfl, l⟩) (fun i s' hi he l => ⟨by rw [allB_f hi he]; rfl, l⟩) ⟨H, I, Ext.rfl'⟩
    | false => exact rc_list_eq sb.room.units0 _ it (fun s' l ha => ⟨by rw [allB_t ha]; rfl, l⟩) (fun i s' hi he l => ⟨by rw [allB_f hi he]; rfl, l⟩) ⟨H, I, Ext.rfl'⟩
theorem rcB_tup (hD : MonB D) (h : EqB X n D) : ∀ ne, RcB X (n + 1) ne (DTupB X.K D) := by
  intro ne A pins s σ H x y u v b sb I rx ry d
  obtain ⟨p, q, xs, ys, e, rfl, rfl, hp, hq, pr, rfl⟩ := d
  cases rx
  cases ry
  obtain ⟨us, r, a1, z⟩ := I.tuple hp
  obtain ⟨vs, r2, a2, z2⟩ := I.tuple hq
  have hl : us.toArray.size = xs.length := by rw [List.size_toArray, ← r.length]
  have hsz : us.toArray.size = vs.toArray.size := by rw [hl, List.size_toArray, ← r2.length]; exact pr.1
  have tn : ∀ i (h1 : i < us.toArray.size) (h2 : i < vs.toArray.size) s, LoopI X pins σ H s → wpAny (model X.prog X.w) A.in1 (eqBool us.toArray[i] vs.toArray[i]) (fun r s' => r = e i ∧ LoopI X pins σ H s') X.xe s := fun i h1 h2 s' l => turnB hD h sb pr r r2 i h1 h2 s' l
  cases ne with
  | true => exact rc_tup_ne hsz sb.room.units0 (fun _ s' => LoopI X pins σ H s') a1 a2 tn (fun s' l ha => ⟨by rw [allB_t fun j hj => ha j (by rw [hl]; exact hj)]; rfl, l⟩) (fun i s' hi he l => ⟨by rw [allB_f (by rw [← hl]; exact hi) he]; rfl, l⟩) ⟨H, I, Ext.rfl'⟩
  | false => exact rc_tup_eq hsz sb.room.units0 (fun _ s' => LoopI X pins σ H s') a1 a2 tn (fun s' l ha => ⟨by rw [allB_t fun j hj => ha j (by rw [hl]; exact hj)]; rfl, l⟩) (fun i s' hi he l => ⟨by rw [allB_f (by rw [← hl]; exact hi) he]; rfl, l⟩) ⟨H, I, Ext.rfl'⟩
/-- two instances of the class at C: R tells the answer -/
def DInsB (C : Addr) (R : Addr → V → Bool → Hp → Prop) : EqvB := fun x y b H => ∃ p q dx dy fs gs, x = .ref p ∧ y = .ref q ∧ H p = some (.ins C dx fs) ∧ H q = some (.ins C dy gs) ∧ R p y b H
/-- an instance and None -/
def DNonB (C : Addr) (R : Addr → V → Bool → Hp → Prop) : EqvB := fun x y b H => ∃ p dx fs, x = .ref p ∧ y = .non ∧ H p = some (.ins C dx fs) ∧ R p y b H
def spEqB (R : Addr → V → Bool → Hp → Prop) : Sp := fun vs H Q _ => ∃ p y b, vs = [.ref p, y] ∧ R p y b H ∧ ∀ H', Ext H H' → Q (.bl b) H'
/-- what is known of a class with its own == and no != -/
structure EqC (K : PySem.W.Frag) (C f : Addr) : Prop where
  eq : PySem.W.findIn K (.ref C) "__eq__" = some (some (.ref f))
  ne : PySem.W.findIn K (.ref C) "__ne__" = some (some (.builtin "object.__ne__"))
  fn : PySem.W.isFn K (.ref f) = true
  ob : PySem.W.subIn K (.ref C) (.type "object") = some true
theorem run_eqB {C f : Addr} {fd : FuncData} {ps : List Str} {R : Addr → V → Bool → Hp → Prop} (F : FnOk X.prog X.w X.K X.mg X.base C8.CX0 n f fd ps (spEqB R)) (hb : Binds X.K fd ps []) {A' : Around} (hro : Room n A') (hf : A'.frames = X.A.frames) {pins : List (Addr × Obj)} {s : Shared} {σ : L2.St} {H : Hp} {p : Addr} {y : V} {v : Value} {b : Bool}
    (I : Inv X pins σ H s) (ry : RelV y v) (hr : R p y b H) : wpAny (model X.prog X.w) A' (call (.ref f) [.ref p, v]) (fun v s' => v = .bool b ∧ ∃ H', Inv X pins σ H' s' ∧ Ext H H') X.xe s := by
  have hsp : spEqB R [.ref p, y] H (fun v H' => v = .bl b ∧ Ext H H') C8.E0 := ⟨p, y, b, rfl, hr, fun H' e => ⟨rfl, e⟩⟩
  have e0 : Env0 X.prog X.w X.K X.mg X.base A' X.stack s H := by
    have e := I.env0
    exact ⟨by rw [hf]; exact e.frames, e.mod, e.bs, e.bsz, e.funs, e.frf, e.hok, e.bare⟩
  have hl := F.len _ _ _ _ hsp
  have r2 : Vals [V.ref p, y] [Value.ref p, v] := .cons rfl (.cons ry .nil)
  refine wpAny_call (codeAny_mono (F.run A' X.stack s H ⟨[.ref p, v], []⟩ [.ref p, v] [.ref p, y] _ C8.E0 hro e0 (by
    have := hb s [.ref p, v] I.kIn (by simpa using hl)
    simpa using this) r2 hsp) fun r s' hq => ?_)
  cases r with
  | error e => exact (show False from hq).elim
  | ok fl =>
    cases fl with
    | ret w =>
      obtain ⟨z, H', I', rz, ez, ex⟩ := I.after hq
      subst ez
      cases rz
      exact ⟨rfl, H', I', ex⟩
    | next => exact False.elim hq
    | brk => exact False.elim hq
    | cont => exact False.elim hq
theorem rcB_ins {C f : Addr} {fd : FuncData} {ps : List Str} {R : Addr → V → Bool → Hp → Prop} (c : EqC X.K C f) (F : FnOk X.prog X.w X.K X.mg X.base C8.CX0 n f fd ps (spEqB R)) (hb : Binds X.K fd ps []) : ∀ ne, RcB X (n + 1) ne (DInsB C R) := by
  intro ne A pins s σ H x y u v b sb I rx ry d
  obtain ⟨p, q, dx, dy, fs, gs, rfl, rfl, hp, hq, hr⟩ := d
  cases rx
  cases ry
  obtain ⟨mA, J, _⟩ := ins_get I.hok hp
  obtain ⟨mB, J', _⟩ := ins_get I.hok hq
  obtain ⟨od, J, _⟩ := J.look
  obtain ⟨od', J', _⟩ := J'.look
  obtain ⟨m, hF⟩ := I.fr
  cases ne with
  | false =>
    refine PySem.W.cmp_K (op := .Eq) (tb := .ref C) sb.room.units0 hF I.ok.mod.kin J J'.type (by simp [PySem.W.notFirst]) c.eq c.fn (wpAny_mono (run_eqB (C := C) (y := .ref q) F hb (sb.mono (Nat.le_succ n)).room sb.fr I rfl hr) (fun v s' hv => ?_) fun _ _ e => e)
    obtain ⟨rfl, q⟩ := hv
    exact ⟨rfl, q⟩
  | true =>
    refine ne_K sb.in1.room.units0 I.kIn J J' c.ne c.ob c.eq c.fn (wpAny_mono (run_eqB (C := C) (y := .ref q) F hb sb.in1.room sb.in1.fr I rfl hr) (fun v s' hv => ?_) fun _ _ e => e)
    obtain ⟨rfl, q⟩ := hv
    exact ⟨b, rfl, rfl, q⟩
/-- x == None -/
theorem rcB_non {C f : Addr} {fd : FuncData} {ps : List Str} {R : Addr → V → Bool → Hp → Prop} (c : EqC X.K C f) (hn : PySem.W.subIn X.K (.type "NoneType") (.ref C) = some false) (F : FnOk X.prog X.w X.K X.mg X.base C8.CX0 n f fd ps (spEqB R)) (hb : Binds X.K fd ps []) : RcB X (n + 1) false (DNonB C R) := by
  intro A pins s σ H x y u v b sb I rx ry d
  obtain ⟨p, dx, fs, rfl, rfl, hp, hr⟩ := d
  cases rx
  cases ry
  obtain ⟨mA, J, _⟩ := ins_get I.hok hp
  obtain ⟨od, J, _⟩ := J.look
  obtain ⟨m, hF⟩ := I.fr
  refine PySem.W.cmp_K (op := .Eq) (tb := .type "NoneType") sb.room.units0 hF I.ok.mod.kin J (PySem.W.Looks.of_pure rfl) (by unfold PySem.W.notFirst; rw [hn]; simp) c.eq c.fn (wpAny_mono (run_eqB (C := C) (y := .non) F hb (sb.mono (Nat.le_succ n)).room sb.fr I rfl hr) (fun v s' hv => ?_) fun _ _ e => e)
  obtain ⟨rfl, q⟩ := hv
  exact ⟨rfl, q⟩
theorem RcB.or {ne : Bool} {D' : EqvB} (h : RcB X n ne D) (h' : RcB X n ne D') : RcB X n ne (fun x y b H => D x y b H ∨ D' x y b H) := fun A pins s σ H x y u v b sb I rx ry d => by
  rcases d with d | d
  · exact h A pins s σ H x y u v b sb I rx ry d
  · exact h' A pins s σ H x y u v b sb I rx ry d
/-- the same object on both sides -/
def DSame : EqvB := fun x y b _ => (∃ p, x = .ref p ∧ y = .ref p) ∧ b = true
theorem monB_same : MonB DSame := fun _ _ _ _ _ _ d => d
theorem eqB_same : EqB X 0 DSame := by
  intro A pins s σ H x y u v b sb I rx ry d
  obtain ⟨⟨p, rfl, rfl⟩, rfl⟩ := d
  cases rx
  cases ry
  exact SeqAt.EqAt.same (A := A) (s := s) (.ref p) X.prog X.w X.xe _ ⟨rfl, H, I, Ext.rfl'⟩
theorem EqB.mono {m : Nat} (h : EqB X n D) (hn : n ≤ m) : EqB X m D := fun A pins s σ H x y u v b sb => h A pins s σ H x y u v b (sb.mono hn)
/-- from comparisons of references to == within a list or tuple -/
theorem RcB.eqB (h : RcB X n false D) (hr : ∀ x y b H, D x y b H → ∃ p q, x = .ref p ∧ y = .ref q) (hs : ∀ (pins : List (Addr × Obj)) (s : Shared) (σ : L2.St) (H : Hp) (p : Addr) (b : Bool), Inv X pins σ H s → D (.ref p) (.ref p) b H → b = true) : EqB X n D := by
  intro A pins s σ H x y u v b sb I rx ry d
  obtain ⟨p, q, rfl, rfl⟩ := hr _ _ _ _ d
  cases rx
  cases ry
  by_cases hpq : p = q
  · subst hpq
    rw [hs pins s σ H p b I d]
    exact SeqAt.EqAt.same (A := A) (s := s) (.ref p) X.prog X.w X.xe _ ⟨rfl, H, I, Ext.rfl'⟩
  · refine GQ.eqBool_refG hpq (wpAny_mono (h A pins s σ H (.ref p) (.ref q) _ _ b sb I rfl rfl d) (fun r s' z => ?_) fun _ _ x => x)
    obtain ⟨hr', z⟩ := z
    exact ⟨b, hr', rfl, z⟩
/-- one tuple, read twice -/
theorem sqT_uniq {pins : List (Addr × Obj)} {s : Shared} {σ : L2.St} {H : Hp} {a : Addr} {xs ys : List V} (I : Inv X pins σ H s) (h1 : SqT X.K H a xs) (h2 : SqT X.K H a ys) : ∃ us : List Value, Vals xs us ∧ Vals ys us := by
  obtain ⟨us, r1, t1, _⟩ := I.tuple h1
  obtain ⟨us', r2, t2, _⟩ := I.tuple h2
  obtain ⟨o, e1, _, n, d1⟩ := t1
  obtain ⟨o', e2, _, n', d2⟩ := t2
  obtain rfl := Option.some.inj (e1.symm.trans e2)
  rw [d1] at d2
  have z : us.toArray = us'.toArray := by injection d2
  have z2 : us = us' := by simpa using congrArg Array.toList z
  subst z2
  exact ⟨us, r1, r2⟩
theorem valsI_uniq : ∀ {xs ys : List Int} {us : List Value}, Vals (xs.map V.int) us → Vals (ys.map V.int) us → xs = ys
  | [], [], _, _, _ => rfl
  | [], _ :: _, _, r1, r2 => by cases r1; cases r2
  | _ :: _, [], _, r1, r2 => by cases r2; cases r1
  | x :: xs, y :: ys, _, r1, r2 => by
    cases r1 with
    | cons a b =>
      cases r2 with
      | cons c d =>
        obtain ⟨t, rfl⟩ := (show ∃ t, _ = Value.int x t from a)
        obtain ⟨t', e⟩ := (show ∃ t', _ = Value.int y t' from c)
        injection e with e1
        rw [e1, valsI_uniq b d]
theorem valsS_uniq : ∀ {xs ys : List Str} {us : List Value}, Vals (xs.map V.str) us → Vals (ys.map V.str) us → xs = ys
  | [], [], _, _, _ => rfl
  | [], _ :: _, _, r1, r2 => by cases r1; cases r2
  | _ :: _, [], _, r1, r2 => by cases r2; cases r1
  | x :: xs, y :: ys, _, r1, r2 => by
    cases r1 with
    | cons a b =>
      cases r2 with
      | cons c d =>
        obtain ⟨t, rfl⟩ := (show ∃ t, _ = Value.str x t from a)
        obtain ⟨t', e⟩ := (show ∃ t', _ = Value.str y t' from c)
        injection e with e1
        rw [e1, valsS_uniq b d]
/-- x == y, x != y -/
def rEqB (ne : Bool) (D : EqvB) : R2 := fun x y H Q => ∃ b, D x y b H ∧ ∀ H', Ext H H' → Q (.bl (if ne = true then !b else b)) H'
theorem op_eqB (h : RcB X n false D) (hr : Room n X.A) : OpR X (compareOp .Eq) (rEqB false D) := by
  intro pins s σ H x y v u Q I rx ry hq
  obtain ⟨b, d, q⟩ := hq
  show wpAny (model X.prog X.w) X.A (richCompare .Eq v u) (EP X pins σ Q) X.xe s
  refine wpAny_mono (h X.A pins s σ H x y v u b ⟨hr, rfl⟩ I rx ry d) (fun r s' z => ?_) fun _ _ x => x
  obtain ⟨hr', H', I', e⟩ := z
  subst hr'
  exact ⟨.bl b, H', I', rfl, q H' e⟩
theorem op_neB (h : RcB X n true D) (hr : Room n X.A) : OpR X (compareOp .NotEq) (rEqB true D) := by
  intro pins s σ H x y v u Q I rx ry hq
  obtain ⟨b, d, q⟩ := hq
  show wpAny (model X.prog X.w) X.A (richCompare .NotEq v u) (EP X pins σ Q) X.xe s
  refine wpAny_mono (h X.A pins s σ H x y v u b ⟨hr, rfl⟩ I rx ry d) (fun r s' z => ?_) fun _ _ x => x
  obtain ⟨hr', H', I', e⟩ := z
  subst hr'
  exact ⟨.bl (!b), H', I', rfl, q H' e⟩
end
end My
/-! a def that calls what it got: whether an error came -/
namespace My
open PySem L2 LamX PyProof.Rows
/-- try: a() / except x: return True / return False -/
def TToldB (K : PySem.W.Frag) (C : Addr) : (XK → Hp → VK → Prop) → Hp → VK → Prop := fun tl H Q => tl (fun cls _ H' => ∃ b, PySem.W.exmOne K cls (.ref C) = some b ∧ (b = true → Q (.bl true) H') ∧ (b = false → False)) H fun _ H' => Q (.bl false) H'
def tsB (r : Bool) : Addr → Value → Option Addr → TS := fun _ _ _ => tRet (tC (.bl r))
section
variable {X : Cx}
theorem toldB_gives {Ng : List Str} {x a q e : Str} {sg : Scope} {g C : Addr} {cdg : Value} {p1 p2 p3 p4 p5 p6 p7 p8 p9 pn0 : Pos} {j jn : Nat} (hge : sg.names.lookup e = some .globalImplicit) (hme : X.mg e = some (.ref C)) (hde : (e == ("__debug__" : Str)) = false) (h0 : ∀ f : Addr, (L2.start Ng [V.ref f])[0]? = some (some (V.ref f))) :
    GivesTo X Ng x sg g cdg [.Try [.Expr (.Call (.Name a p1) [] [] p2) p3] [.ExceptHandler (some (.Name e p4)) none [.Return (some (.Constant (.bool true) j p5)) p6] p7] [] [] p8, .Return (some (.Constant (.bool false) jn pn0)) p9] a q (TToldB X.K C) := by
  intro f c' s H Q tl act hc h
  refine ⟨_, pss_cons (ps_try_many (X := (cxOf C8.CX0 X.prog X.w X.K X.mg X.base Ng x sg g cdg X.A X.stack s H C8.E0).nox) (Wout := fun _ _ _ _ => False) (l := [(Value.ref C, tsB true)])
      (tb := fun W D σ H => ∃ Ech : XK, (∀ cls d σ' H', Ech cls d H' → W cls d σ' H') ∧ σ[0]? = some (some (.ref f)) ∧ H c' = some (CodeO c' q) ∧ tl Ech H fun _ H' => D.nx σ H')
      rfl rfl takes_none5 (fun W pn xe tk _ => ?_) (.cons ⟨hge, hde, .inl hme⟩ (fun a oe cls d pn _ _ => pss_one (ps_ret pe_bl)) .nil)) (pss_one (ps_ret pe_bl)), ?_⟩
  · refine ⟨fun pins s' σ H' D I h' => ?_⟩
    obtain ⟨Ech, hW, h1, h2, h3⟩ := h'
    have hp := act W pn xe Ech p1 p2 tk hW
    have hq := pss_one (ps_expr (pos := p3) hp)
    exact hq.run pins s' σ H' D I ⟨h1, h2, h3⟩
  · exact ⟨fun cls _ H' => ∃ b, PySem.W.exmOne X.K cls (.ref C) = some b ∧ (b = true → Q (.bl true) H') ∧ (b = false → False), fun cls d σ' H' ⟨b, e1, e2, e3⟩ => ⟨b, e1, fun hb a _ => e2 hb, fun hb => e3 hb⟩, h0 f, hc, h⟩
end
theorem toldB_to {K : PySem.W.Frag} {C : Addr} {tl : (XK → Hp → VK → Prop)} {H : Hp} {Q0 : VK} (Pv : V → Hp → Prop) (a : ∀ Q : VK, (∀ v H', Pv v H' → Q v H') → TToldB K C tl H Q) (b : ∀ v H', Pv v H' → Q0 v H') : TToldB K C tl H Q0 := a Q0 b
/-- what holds behind an expression, named -/
def tMidE (te : TE) : TE := fun σ H Q => ∃ Pv : V → Hp → Prop, te σ H Pv ∧ ∀ v H', Pv v H' → Q v H'
theorem pe_mid {X : Cx} {e : Expr} {te : TE} (h : PE X e te) : PE X e (tMidE te) := ⟨fun pins s σ H Q I ⟨Pv, h1, h2⟩ => wpAny_mono (h.run pins s σ H Pv I h1) (fun u s' ⟨v, H', I', r, q⟩ => ⟨v, H', I', r, h2 v H' q⟩) fun _ _ z => z⟩
end My
/-! x != None by an own __eq__; min of a list of pairs of a number and a text -/
namespace My
open PySem PySem.Spec L2 LamX PyProof.Rows
section
open PySem.W
variable {prog : Program} {w : World} {A : Around} {E : Value → Shared → Prop} {s : Shared} {K : Frag} {x C f : Addr} {ox : Obj} {od : Option Obj} {b tb : Value}
theorem ne_KV {Q : Value → Shared → Prop} (hu : A.units + 1 < cLine) (X : K.In s.heap) (I : InstAt s.heap x ox C od) (hb : Looks (model prog w) s.heap (typeOf b) tb) (hn : notFirst K C tb = true) (hs : findIn K (.ref C) "__ne__" = some (some (.builtin "object.__ne__")))
    (ho : subIn K (.ref C) (.type "object") = some true) (he : findIn K (.ref C) "__eq__" = some (some (.ref f))) (hf : isFn K (.ref f) = true)
    (h : wpAny (model prog w) A.in1 (call (.ref f) [.ref x, b]) (fun v s' => ∃ r, v = .bool r ∧ Q (.bool (!r)) s') E s) : wpAny (model prog w) A (richCompare .NotEq (.ref x) b) Q E s := by
  have one : wpAny (model prog w) A (tryCompare (.ref x) (cmpInfo .NotEq).2.1 b) (fun r s' => ∃ v, r = some v ∧ Q v s') E s := by
    unfold tryCompare
    refine wpAny_bind (ifBound_ne X I hs (wpAny_call (codeAny_call_builtin PySem.F.cmp_object.ne.plain PySem.F.cmpEntry_ne (check_slot PySem.F.cmpKind_ne PySem.F.cmpSplit_ne (I.type.andThen (looks_subIn X ho)) (PySem.F.cmpArgs_ne _ _) ?_))))
    have hb : wpAny (model prog w) A.in1 (callSpecialIfBound? (.ref x) "__eq__" [b]) (fun o s' => ∃ r, o = some (.bool r) ∧ Q (.bool (!r)) s') E s := ifBound_K X I he hf (wpAny_mono h (fun v s' ⟨r, e, q⟩ => ⟨r, by rw [e], q⟩) fun _ _ e => e)
    obtain ⟨hh, g, d, tk, os⟩ := s
    unfold Builtin.«object.__ne__»
    repeat (first | with_reducible refine wpAny_cRoomFor hu ?_ | with_reducible refine wpAny_mono hb (fun o s' ho => ?_) (fun _ _ e => ?_) | wp_step)
    · obtain ⟨r, rfl, q⟩ := ho
      refine wpAny_bind (wpAny_truthy_bool ?_)
      exact wpAny_pure (wpAny_pure ⟨_, rfl, q⟩)
    · assumption
  unfold richCompare
  simp only [oneThing_ref]
  refine wpAny_holding (wpAny_bind (wpAny_cRoomFor (Nat.lt_of_succ_lt hu) ?_))
  refine wpAny_bind (I.type.here (wpAny_bind (hb.here ?_)))
  have fin : wpAny (model prog w) A (tryCompare (.ref x) (cmpInfo .NotEq).2.1 b) (fun r s' => ∃ v, r = some v ∧ Q v s') E s := one
  split
  · rename_i q
    have e : subIn K tb (.ref C) = some false := by
      rcases Bool.or_eq_true_iff.mp hn with e | e
      · rw [beq_iff_eq.mp e] at q; simp at q
      · exact beq_iff_eq.mp e
    refine wpAny_bind ((looks_subIn X e).here ?_)
    simp only [Bool.false_eq_true, if_false]
    refine wpAny_bind (wpAny_mono one (fun r s' z => ?_) fun _ _ e => e)
    obtain ⟨v, rfl, hq⟩ := z
    exact wpAny_pure hq
  · refine wpAny_bind (wpAny_pure ?_)
    simp only [Bool.false_eq_true, if_false]
    refine wpAny_bind (wpAny_mono one (fun r s' z => ?_) fun _ _ e => e)
    obtain ⟨v, rfl, hq⟩ := z
    exact wpAny_pure hq
end
section
variable {X : Cx} {n : Nat}
/-- x != None -/
theorem rcB_nonNe {C f : Addr} {fd : FuncData} {ps : List Str} {R : Addr → V → Bool → Hp → Prop} (c : EqC X.K C f) (hn : PySem.W.subIn X.K (.type "NoneType") (.ref C) = some false) (F : FnOk X.prog X.w X.K X.mg X.base C8.CX0 n f fd ps (spEqB R)) (hb : Binds X.K fd ps []) : RcB X (n + 1) true (DNonB C R) := by
  intro A pins s σ H x y u v b sb I rx ry d
  obtain ⟨p, dx, fs, rfl, rfl, hp, hr⟩ := d
  cases rx
  cases ry
  obtain ⟨mA, J, _⟩ := ins_get I.hok hp
  obtain ⟨od, J, _⟩ := J.look
  refine ne_KV (tb := .type "NoneType") sb.in1.room.units0 I.kIn J (PySem.W.Looks.of_pure rfl) (by unfold PySem.W.notFirst; rw [hn]; simp) c.ne c.ob c.eq c.fn (wpAny_mono (run_eqB (C := C) (y := .non) F hb sb.in1.room sb.in1.fr I rfl hr) (fun v s' hv => ?_) fun _ _ e => e)
  obtain ⟨rfl, q⟩ := hv
  exact ⟨b, rfl, rfl, q⟩
/-! ### min of pairs -/
def prD (p : Int × Str) : PyData := .tuple [.int p.1, .str p.2]
/-- the object holds this pair -/
def PairAt (K : PySem.W.Frag) (H : Hp) (v : V) (p : Int × Str) : Prop := ∃ a, v = .ref a ∧ SqT K H a [.int p.1, .str p.2]
theorem pair_dp {K : PySem.W.Frag} {H : Hp} {v : V} {p : Int × Str} (h : PairAt K H v p) : Dp K H v (prD p) := by
  obtain ⟨a, rfl, h⟩ := h
  exact .tup h (.cons (.int _) (.cons (.str _) .nil))
theorem pairs_dp {K : PySem.W.Frag} {H : Hp} : ∀ {xs : List V} {ps : List (Int × Str)}, xs.length = ps.length → (∀ (i : Nat) x p, xs[i]? = some x → ps[i]? = some p → PairAt K H x p) → DpAll K H xs (ps.map prD)
  | [], [], _, _ => .nil
  | [], _ :: _, h, _ => by cases h
  | _ :: _, [], h, _ => by cases h
  | x :: xs, p :: ps, h, hp => .cons (pair_dp (hp 0 x p rfl rfl)) (pairs_dp (Nat.succ.inj h) fun i y q h1 h2 => hp (i + 1) y q h1 h2)
theorem pairs_alike (ps : List (Int × Str)) : PySem.W.AlikeAll (ps.map prD) := by
  refine ⟨fun x hx y hy => ?_, fun x hx => ?_⟩
  · obtain ⟨p, _, rfl⟩ := List.mem_map.mp hx
    obtain ⟨q, _, rfl⟩ := List.mem_map.mp hy
    rfl
  · obtain ⟨p, _, rfl⟩ := List.mem_map.mp hx
    exact nofun
def ltP (p q : Int × Str) : Bool := PySem.W.dataLt (prD p) (prD q)
def minP (p : Int × Str) (ps : List (Int × Str)) : Int × Str := ps.foldl (fun a y => if ltP y a = true then y else a) p
theorem minD_P : ∀ (ps : List (Int × Str)) (p : Int × Str), PySem.W.minD (prD p) (ps.map prD) = prD (minP p ps)
  | [], _ => rfl
  | q :: ps, p => by
    show PySem.W.minD (if PySem.W.dataLt (prD q) (prD p) then prD q else prD p) (ps.map prD) = prD (minP (if ltP q p = true then q else p) ps)
    have e : (if PySem.W.dataLt (prD q) (prD p) then prD q else prD p) = prD (if ltP q p = true then q else p) := by
      unfold ltP
      split <;> rfl
    rw [e]
    exact minD_P ps _
def rMinP (K : PySem.W.Frag) : List V → Hp → VK → Prop := fun vs H Q => ∃ (a : Addr) (xs : List V) (p : Int × Str) (ps : List (Int × Str)), vs = [V.ref a] ∧ SqL K H a xs ∧ xs.length = ps.length + 1 ∧ (∀ (i : Nat) x q, xs[i]? = some x → (p :: ps)[i]? = some q → PairAt K H x q) ∧
  ∀ v, v ∈ xs → PairAt K H v (minP p ps) → Q v H
theorem reads_int {h : Heap} {i j : Int} {t : Tok} {bs : List Addr} (r : Reads h (.int i t) (.int j) bs) : i = j := by
  cases r
  rfl
theorem reads_str {h : Heap} {i j : Str} {t : Tok} {bs : List Addr} (r : Reads h (.str i t) (.str j) bs) : i = j := by
  cases r
  rfl
theorem pairs_depth : ∀ ps : List (Int × Str), PyData.depthAll (ps.map prD) ≤ 2
  | [] => Nat.zero_le _
  | p :: ps => by
    show max (prD p).depth (PyData.depthAll (ps.map prD)) ≤ 2
    have := pairs_depth ps
    have h2 : (prD p).depth ≤ 2 := by show (max 0 (max 0 0)) + 1 ≤ 2; decide
    omega
theorem cr_minP (hc : X.calm = true) (hu : X.A.units + 64 < cLine) : CallR X (.builtin "min") (rMinP X.K) := by
  intro pins s σ H vs us Q I r h
  obtain ⟨a, xs, p, ps, rfl, hs, hl, hp, q⟩ := h
  obtain ⟨its, rv, hL, _⟩ := I.list hs
  rw [Vals.ref1 r]
  have dp := pairs_dp (ps := p :: ps) hl hp
  obtain ⟨as, ra⟩ := Dp.readsAll I ((p :: ps).map prD) xs its dp rv
  refine PySem.W.min_list_data (x := prD p) (xs := ps.map prD) (I.ok.hd hc) hL.isList (by simpa using ra) (pairs_alike (p :: ps)) (by have := pairs_depth (p :: ps); show _ + 1 + PyData.depthAll ((p :: ps).map prD) < _; omega) fun i v h' tk bs hv hR hk => ?_
  have hv' : its[i]? = some v := by simpa using hv
  have hi : i < its.length := (List.getElem?_eq_some_iff.mp hv').1
  have hx : i < xs.length := by rw [rv.length]; exact hi
  obtain ⟨v2, g1, rx⟩ := rv.get (List.getElem?_eq_getElem hx)
  rw [hv'] at g1
  obtain rfl := Option.some.inj g1
  have hq : i < (p :: ps).length := by rw [List.length_cons, ← hl]; exact hx
  obtain ⟨b, eb, hb⟩ := hp i _ _ (List.getElem?_eq_getElem hx) (List.getElem?_eq_getElem hq)
  refine ⟨xs[i], H, I.kept hk, rx, q _ (List.getElem_mem hx) ?_⟩
  refine ⟨b, eb, ?_⟩
  rw [eb] at rx
  obtain rfl : v = Value.ref b := rx
  rw [minD_P] at hR
  have e : minP p ps = (p :: ps)[i] := by
    obtain ⟨us', r1, t1, _⟩ := I.tuple hb
    obtain ⟨o, e1, _, n, d1⟩ := t1
    have e1' := hk _ _ e1
    unfold prD at hR
    cases hR with
    | tuple k1 k2 k3 k4 =>
      rename_i o2 vs2 n2
      obtain rfl := Option.some.inj (e1'.symm.trans k1)
      rw [d1] at k3
      injection k3 with k5 k6
      subst k5
      cases r1 with
      | cons a1 b1 =>
        cases b1 with
        | cons a2 b2 =>
          cases b2
          obtain ⟨t1, rfl⟩ := (show ∃ t, _ = Value.int _ t from a1)
          obtain ⟨t2, rfl⟩ := (show ∃ t, _ = Value.str _ t from a2)
          have k7 : ReadsAll h' [Value.int ((p :: ps)[i]).1 t1, Value.str ((p :: ps)[i]).2 t2] [.int (minP p ps).1, .str (minP p ps).2] bs := by simpa using k4
          cases k7 with
          | cons c1 c2 =>
            cases c2 with
            | cons c3 c4 =>
              have z1 : ((p :: ps)[i]).1 = (minP p ps).1 := reads_int c1
              have z2 : ((p :: ps)[i]).2 = (minP p ps).2 := reads_str c3
              exact (Prod.ext z1 z2).symm
  rw [e]
  exact hb
end
end My
/-! a def that calls what it got: what comes of it, or which error came -/
namespace My
open PySem L2 LamX PyProof.Rows
/-- try: return a() / except x: return r / .. -/
def TToldR (K : PySem.W.Frag) (l : List (Addr × Str)) : (XK → Hp → VK → Prop) → Hp → VK → Prop := fun tl H Q => tl (wChain K Q l) H Q
section
variable {X : Cx}
theorem toldR_gives {Ng : List Str} {x a q : Str} {sg : Scope} {g : Addr} {cdg : Value} {h₀ : ExceptHandler} {hds : List ExceptHandler} {l : List (Addr × Str)} {p1 p2 p3 p8 : Pos} (hT : HdsT X.mg sg (h₀ :: hds) l) (h0 : ∀ f : Addr, (L2.start Ng [V.ref f])[0]? = some (some (V.ref f))) :
    GivesTo X Ng x sg g cdg [.Try [.Return (some (.Call (.Name a p1) [] [] p2)) p3] (h₀ :: hds) [] [] p8] a q (TToldR X.K l) := by
  intro f c' s H Q tl act hc h
  refine ⟨_, pss_one (ps_try_many (X := (cxOf C8.CX0 X.prog X.w X.K X.mg X.base Ng x sg g cdg X.A X.stack s H C8.E0).nox) (Wout := fun _ _ _ _ => False)
      (tb := fun W D σ H => ∃ Ech : XK, (∀ cls d σ' H', Ech cls d H' → W cls d σ' H') ∧ σ[0]? = some (some (.ref f)) ∧ H c' = some (CodeO c' q) ∧ tl Ech H fun v H' => D.rt v H')
      rfl rfl takes_none5 (fun W pn xe tk _ => ?_) (hds_ok rfl rfl hT)), ?_⟩
  · refine ⟨fun pins s' σ H' D I h' => ?_⟩
    obtain ⟨Ech, hW, h1, h2, h3⟩ := h'
    have hp := act W pn xe Ech p1 p2 tk hW
    have hq := pss_one (ps_ret (pos := p3) hp)
    exact hq.run pins s' σ H' D I ⟨h1, h2, h3⟩
  · exact ⟨wChain X.K Q l, fun cls d σ' H' z => wMany_chain l z, h0 f, hc, h⟩
end
theorem toldR_to {K : PySem.W.Frag} {l : List (Addr × Str)} {tl : (XK → Hp → VK → Prop)} {H : Hp} {Q0 : VK} (Pv : V → Hp → Prop) (a : ∀ Q : VK, (∀ v H', Pv v H' → Q v H') → TToldR K l tl H Q) (b : ∀ v H', Pv v H' → Q0 v H') : TToldR K l tl H Q0 := a Q0 b
end My
/-! x in c, x not in c, of data without dicts -/
namespace My
open PySem L2 LamX PyProof.Rows
section
variable {X : Cx}
def rInD (K : PySem.W.Frag) (neg : Bool) : R2 := fun x y H Q => ∃ (d : PyData) (xs : List PyData), Dp K H x d ∧ (Dp K H y (.list xs) ∨ Dp K H y (.tuple xs)) ∧ PyData.plainAll xs = true ∧ d.plain = true ∧ d.depth ≤ 32 ∧ Q (.bl (if neg then !xs.any fun z => PyData.eqv z d else xs.any fun z => PyData.eqv z d)) H
theorem op_inD (hu : X.A.units + 64 < cLine) : OpR X (compareOp .In) (rInD X.K false) := by
  intro pins s σ H x y v u Q I rx ry h
  obtain ⟨d, xs, hd, hc, hp, hp2, hl, q⟩ := h
  obtain ⟨as, r1⟩ := Dp.reads I d x v hd rx
  have hm : X.A.units + 1 + min (PyData.depthAll xs) d.depth < cLine := by
    have := Nat.min_le_right (PyData.depthAll xs) d.depth
    omega
  rcases hc with hc | hc
  · obtain ⟨bs, r2⟩ := Dp.reads I _ y u hc ry
    exact SeqAt.in_list_data r2 r1 hp hp2 hm ⟨.bl _, H, I, rfl, q⟩
  · obtain ⟨bs, r2⟩ := Dp.reads I _ y u hc ry
    exact SeqAt.in_tuple_data r2 r1 hp hp2 hm ⟨.bl _, H, I, rfl, q⟩
theorem op_notInD (hu : X.A.units + 64 < cLine) : OpR X (compareOp .NotIn) (rInD X.K true) := by
  intro pins s σ H x y v u Q I rx ry h
  obtain ⟨d, xs, hd, hc, hp, hp2, hl, q⟩ := h
  obtain ⟨as, r1⟩ := Dp.reads I d x v hd rx
  have hm : X.A.units + 1 + min (PyData.depthAll xs) d.depth < cLine := by
    have := Nat.min_le_right (PyData.depthAll xs) d.depth
    omega
  rcases hc with hc | hc
  · obtain ⟨bs, r2⟩ := Dp.reads I _ y u hc ry
    exact SeqAt.notIn_list_data r2 r1 hp hp2 hm ⟨.bl _, H, I, rfl, q⟩
  · obtain ⟨bs, r2⟩ := Dp.reads I _ y u hc ry
    exact SeqAt.notIn_tuple_data r2 r1 hp hp2 hm ⟨.bl _, H, I, rfl, q⟩
theorem op_inDK {K : PySem.W.Frag} (h : X.K = K) (hu : X.A.units + 64 < cLine) : OpR X (compareOp .In) (rInD K false) := by
  subst h
  exact op_inD hu
theorem op_notInDK {K : PySem.W.Frag} (h : X.K = K) (hu : X.A.units + 64 < cLine) : OpR X (compareOp .NotIn) (rInD K true) := by
  subst h
  exact op_notInD hu
end
theorem rInD_to {K : PySem.W.Frag} {neg : Bool} {x y : V} {d : PyData} {xs : List PyData} {b : Bool} {H : Hp} {Q : VK} (h1 : Dp K H x d) (h2 : Dp K H y (.list xs) ∨ Dp K H y (.tuple xs)) (p1 : PyData.plainAll xs = true) (p2 : d.plain = true) (hl : d.depth ≤ 32) (e : (if neg then !xs.any fun z => PyData.eqv z d else xs.any fun z => PyData.eqv z d) = b) (q : Q (.bl b) H) : rInD K neg x y H Q :=
  ⟨d, xs, h1, h2, p1, p2, hl, by rw [e]; exact q⟩
end My
/-! try with several clauses, any of them with a name -/
namespace My
open PySem L2 LamX PyProof.Rows
/-- an exception of the body that stands before the clauses -/
def Fell (X : Cx) (pins : List (Addr × Obj)) (σ : L2.St) (H : Hp) (a : Addr) (cls : Value) (d : Option Addr) (s : Shared) : Prop := ∃ (B : Heap) (sI : Shared),
  L2.Inv X pins σ H sI ∧ (∀ (b : Addr) (o : Obj), sI.heap.get? b = some o → b ∉ frs X.stack → B.get? b = some o) ∧ sI.heap.UpToSlots s.heap ∧ HandSPX.FlyingZ B (X.env :: X.outer) a (Zc cls d) s.heap ∧ H a = none ∧ s.os = sI.os ∧ AllBare s.gens
section
variable {X : Cx} {pins : List (Addr × Obj)} {σ : L2.St} {H : Hp} {a : Addr} {cls : Value} {d : Option Addr} {s : Shared}
theorem Fell.inv (F : Fell X pins σ H a cls d s) : L2.Inv X pins σ H s := by
  obtain ⟨B, sI, J, nb, up, fl, _, os, ag⟩ := F
  exact J.landed nb fl.1 up os ag
theorem Fell.at (hs : X.stack = X.env :: X.outer) (hf : X.env.frame = some X.env.locals) (F : Fell X pins σ H a cls d s) :
    ∃ (oe : Obj) (vs : Array Value), s.heap.get? a = some oe ∧ Zc cls d oe ∧ oe.data = .fields vs ∧ L2.Inv (X.suite a ((a, oe) :: (X.pn ++ pins))) [] σ H s := by
  have J := F.inv
  obtain ⟨B, sI, _, _, _, fl, na, _, _⟩ := F
  obtain ⟨oe, vs, e1, e2, e3⟩ := fl.there
  have off : a ∉ frs (X.env :: X.outer) := fun hm => by
    obtain ⟨_, o', q1, q2⟩ := fl.2.2.1.mem hm
    have q3 := Option.some.inj (e1.symm.trans q1)
    subst q3
    exact q2 _ e3
  refine ⟨oe, vs, e1, e2, e3, J.suite e1 e3 na (fun z => off ?_) (fun hm => off ?_)⟩
  · exact List.mem_filterMap.mpr ⟨X.env, .head _, by rw [hf, z]⟩
  · obtain ⟨v, hv, q⟩ := List.mem_filterMap.mp hm
    exact List.mem_filterMap.mpr ⟨v, .tail _ hv, q⟩
/-- a clause: its class, its name's slot, its suite's reading -/
abbrev Cl := Value × Option Nat × (Addr → Value → Option Addr → TS)
def unName (i : Nat) (D : Ends) : Ends := { nx := fun σ H => D.nx (σ.set i none) H, rt := D.rt, bk := fun σ H => D.bk (σ.set i none) H, ct := fun σ H => D.ct (σ.set i none) H }
def runCl (o : Option Nat) (ts : Addr → Value → Option Addr → TS) (a : Addr) (cls : Value) (d : Option Addr) : TS := fun D σ H => match o with
  | none => ts a cls d D σ H
  | some i => i < σ.length → ts a cls d (unName i D) (σ.set i (some (.ref a))) H
def wAll (K : PySem.W.Frag) (Wout : WX) (D : Ends) : List Cl → WX
  | [] => Wout
  | (c, o, ts) :: r => fun cls d σ H => ∃ b, PySem.W.exmOne K cls c = some b ∧ (b = true → ∀ a, H a = none → runCl o ts a cls d D σ H) ∧ (b = false → wAll K Wout D r cls d σ H)
def SuiteOk (X : Cx) (suite : List Stmt) (ts : Addr → Value → Option Addr → TS) : Prop := ∀ (a : Addr) (oe : Obj) (cls : Value) (d : Option Addr) (pn : List (Addr × Obj)), Zc cls d oe → (∃ vs, oe.data = .fields vs) → PSs (X.suite a ((a, oe) :: pn)) suite (ts a cls d)
inductive ClsOk (X : Cx) : List ExceptHandler → List Cl → Prop
  | nil : ClsOk X [] []
  | plain {x : Str} {c : Value} {ts : Addr → Value → Option Addr → TS} {b₀ : Stmt} {suite : List Stmt} {np p' : Pos} {hds : List ExceptHandler} {l : List Cl} (hc : Names X x c) (hsu : SuiteOk X (b₀ :: suite) ts) (r : ClsOk X hds l) :
      ClsOk X (.ExceptHandler (some (.Name x np)) none (b₀ :: suite) p' :: hds) ((c, none, ts) :: l)
  | named {x n : Str} {i : Nat} {c : Value} {ts : Addr → Value → Option Addr → TS} {b₀ : Stmt} {suite : List Stmt} {np p' : Pos} {hds : List ExceptHandler} {l : List Cl} (hN : X.N.Nodup) (hi : X.N[i]? = some n) (hl : X.env.kindOf n = some .local) (hc : Names X x c) (hsu : SuiteOk X (b₀ :: suite) ts) (r : ClsOk X hds l) :
      ClsOk X (.ExceptHandler (some (.Name x np)) (some n) (b₀ :: suite) p' :: hds) ((c, some i, ts) :: l)
/-- the class that a clause names is held against the exception -/
theorem Fell.test {x : Str} {c : Value} {np : Pos} {b : Bool} (hs : X.stack = X.env :: X.outer) (hf : X.env.frame = some X.env.locals) (hc : Names X x c) (F : Fell X pins σ H a cls d s) (hb : PySem.W.exmOne X.K cls c = some b) {Q : Bool → Shared → Prop} {E : Value → Shared → Prop} (q : Q b s) :
    wpAny (model X.prog X.w) (X.A.mark (some (.ref a))) (eval (.Name x np) X.env) (fun v s' => wpAny (model X.prog X.w) (X.A.mark (some (.ref a))) (excMatches (.ref a) v) Q E s') E s := by
  obtain ⟨oe, vs, e1, e2, e3, S⟩ := F.at hs hf
  have LT : PySem.W.Looks (model X.prog X.w) s.heap (typeOf (.ref a)) cls := fun A Q E s' k q => wpAny_typeOf_ref (k _ _ e1) (by rw [e2.1]; exact q)
  have LM := PySem.W.exm_one (M := model X.prog X.w) F.inv.kIn LT hb
  obtain ⟨hg, hd, hm | ⟨hm, hv, hn⟩⟩ := hc
  · exact ld_glob (X := X.suite a ((a, oe) :: (X.pn ++ pins))) S hg hm (LM.here q) hd
  · exact ld_blt (X := X.suite a ((a, oe) :: (X.pn ++ pins))) S hg hm hv (LM.here q) hn hd
/-- the exception takes off again for its suite -/
theorem Fell.on {M : Model} {A : Around} {E : Value → Shared → Prop} {Q : Unit → Shared → Prop} (F : Fell X pins σ H a cls d s) (q : ∀ s', Fell X pins σ H a cls d s' → Q () s') : wpAny M A (setFlight (.ref a) none) Q E s := by
  obtain ⟨B, sI, J, nb, up, fl, na, os, ag⟩ := F
  exact HandSPX.lands_againZ fl fun h' fl' up' => q _ ⟨B, sI, J, nb, up.trans up', fl', na, os, ag⟩
/-- no clause was meant -/
theorem Fell.out {Wout : WX} {Q : Flow → Shared → Prop} (hs : X.stack = X.env :: X.outer) (hf : X.env.frame = some X.env.locals) (tk : Takes X Wout) (F : Fell X pins σ H a cls d s) (hw : Wout cls d σ H) : wpAny (model X.prog X.w) X.A (handleBy (.ref a) X.env []) Q X.xe s := by
  obtain ⟨B, sI, J, nb, up, fl, na, os, ag⟩ := F
  obtain ⟨_, _, _, o, fs, tr, _, _, g1, _, g2, g3, _⟩ := id fl
  have last : wpAny (model X.prog X.w) X.A (setFlight (.ref a) X.env.frame) (fun _ z => wpAny (model X.prog X.w) X.A (throw (.ref a) : Sem Flow) Q X.xe z) X.xe s := by
    rw [hf]
    exact HandSPX.setFlight_upZ fl fun h' hd' up' => wpAny_throw (tk _ _ ⟨a, B, sI, pins, σ, H, cls, d, rfl, J, nb, up.trans up', .inr (.inr (hs ▸ hd')), na, os, ag, hw⟩)
  refine wpAny_handleBy_nil ?_
  unfold PySem.passOn
  refine wpAny_bind (wpAny_field g1 g2 g3 ?_)
  rw [if_neg (show ¬ (Value.ref tr == Value.none) = true from by simp)]
  first
    | exact wpAny_bind (wpAny_pure (wpAny_bind last))
    | exact wpAny_bind last
theorem Fell.caught {Wout : WX} {D : Ends} (ok : X.Ok) (hs : X.stack = X.env :: X.outer) (hf : X.env.frame = some X.env.locals) (tk : Takes X Wout) {hds : List ExceptHandler} {l : List Cl} (hk : ClsOk X hds l) :
    ∀ {s : Shared}, Fell X pins σ H a cls d s → wAll X.K Wout D l cls d σ H → wpAny (model X.prog X.w) X.A (handleBy (.ref a) X.env hds) (SP X pins D) X.xe s := by
  induction hk with
  | nil => exact fun F hw => F.out hs hf tk hw
  | plain hc hsu r ih =>
    intro s F hw
    obtain ⟨b, h1, h2, h3⟩ := hw
    refine wpAny_handleBy_cons (codeAny_handlers_test (F.test hs hf hc h1 ?_)) (by intro q; cases q)
    cases b with
    | false => exact ih F (h3 rfl)
    | true =>
      refine codeAny_handlers_suite (F.on fun s' F' => ?_)
      obtain ⟨oe, vs, e1, e2, e3, S⟩ := F'.at hs hf
      have na : H a = none := by
        obtain ⟨_, _, _, _, _, _, n, _, _⟩ := F'
        exact n
      refine wpAny_mono ((hsu a oe cls d (X.pn ++ pins) e2 ⟨_, e3⟩).run [] _ _ H _ S (h2 rfl a na)) (fun f s6 hsp => ?_) fun _ _ z => z.elim
      cases f with
      | ret u =>
        obtain ⟨v, σ6, H6, S6, rr, q6⟩ := hsp
        exact ⟨v, σ6, H6, S6.unsuite ok, rr, q6⟩
      | next => exact let ⟨σ6, H6, S6, q6⟩ := hsp; ⟨σ6, H6, S6.unsuite ok, q6⟩
      | brk => exact let ⟨σ6, H6, S6, q6⟩ := hsp; ⟨σ6, H6, S6.unsuite ok, q6⟩
      | cont => exact let ⟨σ6, H6, S6, q6⟩ := hsp; ⟨σ6, H6, S6.unsuite ok, q6⟩
  | named hN hi hl hc hsu r ih =>
    intro s F hw
    obtain ⟨b, h1, h2, h3⟩ := hw
    refine wpAny_handleBy_cons (codeAny_handlers_test (F.test hs hf hc h1 ?_)) (by intro q; cases q)
    cases b with
    | false => exact ih F (h3 rfl)
    | true =>
      refine codeAny_handlers_suite_as (F.on fun s' F' => ?_)
      obtain ⟨oe, vs, e1, e2, e3, S⟩ := F'.at hs hf
      have na : H a = none := by
        obtain ⟨_, _, _, _, _, _, n, _, _⟩ := F'
        exact n
      refine store_ok (X := X.suite a ((a, oe) :: (X.pn ++ pins))) (v := .ref a) S hN hi (.inl hl) rfl (fun s5 S5 => ?_) (.inr hl)
      refine wpAny_mono ((hsu a oe cls d (X.pn ++ pins) e2 ⟨_, e3⟩).run [] s5 _ H _ S5 (h2 rfl a na (by rw [F'.inv.len]; exact (List.getElem?_eq_some_iff.mp hi).1))) (fun f s6 hsp => ?_) fun _ _ z => z.elim
      cases f with
      | ret u =>
        obtain ⟨v, σ6, H6, S6, rr, q6⟩ := hsp
        exact gone_ok (S6.unsuite ok) hN hi hl fun s7 J7 => ⟨v, _, H6, J7, rr, q6⟩
      | next =>
        obtain ⟨σ6, H6, S6, q6⟩ := hsp
        exact gone_ok (S6.unsuite ok) hN hi hl fun s7 J7 => ⟨_, H6, J7, q6⟩
      | brk =>
        obtain ⟨σ6, H6, S6, q6⟩ := hsp
        exact gone_ok (S6.unsuite ok) hN hi hl fun s7 J7 => ⟨_, H6, J7, q6⟩
      | cont =>
        obtain ⟨σ6, H6, S6, q6⟩ := hsp
        exact gone_ok (S6.unsuite ok) hN hi hl fun s7 J7 => ⟨_, H6, J7, q6⟩
end
section
variable {X : Cx} {body : List Stmt} {h₀ : ExceptHandler} {hds : List ExceptHandler} {l : List Cl} {pos : Pos} {tb : WX → TS} {Wout : WX}
theorem ps_try_all (hs : X.stack = X.env :: X.outer) (hf : X.env.frame = some X.env.locals) (tk : Takes X Wout)
    (hb : ∀ (W : WX) (pn : List (Addr × Obj)) (xe : Value → Shared → Prop), Takes (X.tr pn xe) W → PassesOwn (model X.prog X.w) X.A X.env xe → PSs (X.tr pn xe) body (tb W)) (hh : ClsOk X (h₀ :: hds) l) :
    PS X (.Try body (h₀ :: hds) [] [] pos) (fun D σ H => tb (wAll X.K Wout D l) D σ H) := by
  refine ⟨fun pins s σ H D I h => ?_⟩
  have ok := I.ok
  have hfr : X.A.frames = some (X.env :: X.outer) := by rw [ok.frames, hs]
  have down : ∀ u s', XE (X.tr (X.pn ++ pins) (fun e z => wpAny (model X.prog X.w) X.A (noteFrame e X.env) (fun _ z2 => wpAny (model X.prog X.w) X.A (setFlight e none) (fun _ z3 => wpAny (model X.prog X.w) X.A (handleBy e X.env (h₀ :: hds)) (SP X pins D) X.xe z3) X.xe z2) X.xe z)) (wAll X.K Wout D l) u s' →
      wpAny (model X.prog X.w) X.A (noteFrame u X.env) (fun _ z2 => wpAny (model X.prog X.w) X.A (setFlight u none) (fun _ z3 => wpAny (model X.prog X.w) X.A (handleBy u X.env (h₀ :: hds)) (SP X pins D) X.xe z3) X.xe z2) X.xe s' := fun u s' xx => by
    obtain ⟨a, B, sI, pins', σ', H', cls, d, rfl, J', nb, up, sky, na, os, ag, w⟩ := xx
    have sky' : L2.Sky B (X.env :: X.outer) a (Zc cls d) X.env.locals s'.heap := hs ▸ sky
    exact Sky.land Zc.steady hfr hf sky' fun h3 fl up3 => Fell.caught ok hs hf tk hh ⟨B, sI, J'.ofTry ok, nb, up.trans up3, fl, na, os, ag⟩ w
  refine wpAny_Try_except (wpAny_mono ((hb _ (X.pn ++ pins) _ down PassesOwn.looking).run [] s σ H D (I.toTry _) h) (fun f s1 hsp => ?_) fun e s1 he => he)
  cases f with
  | ret u =>
    obtain ⟨v, σ', H', J, rr, q⟩ := hsp
    exact ⟨v, σ', H', J.ofTry ok, rr, q⟩
  | next => exact let ⟨σ', H', J, q⟩ := hsp; wpAny_execs_nil ⟨σ', H', J.ofTry ok, q⟩
  | brk => exact let ⟨σ', H', J, q⟩ := hsp; ⟨σ', H', J.ofTry ok, q⟩
  | cont => exact let ⟨σ', H', J, q⟩ := hsp; ⟨σ', H', J.ofTry ok, q⟩
end
/-! ### a def that calls what it got: which error came, with what it tells -/
abbrev CK := Value → Option Addr → Hp → VK → Prop
def ckW (r : Str) : CK := fun _ _ H Q => Q (.str r) H
def FldOf (C : Addr) (f : Str) (cls : Value) (d : Option Addr) (H : Hp) (v : V) : Prop := cls = .ref C ∧ ∃ (dd : Addr) (fs : List (Str × V)), d = some dd ∧ H dd = some (.xd fs) ∧ fs.lookup f = some v
def ckF (C : Addr) (r f : Str) : CK := fun cls d H Q => ∃ v, FldOf C f cls d H v ∧ ∀ t, H t = none → Q (.ref t) (upd H t (.tup [.str r, v]))
def ckFF (C : Addr) (f g : Str) : CK := fun cls d H Q => ∃ v u, FldOf C f cls d H v ∧ FldOf C g cls d H u ∧ ∀ t, H t = none → Q (.ref t) (upd H t (.tup [v, u]))
def ckG (C : Addr) (f : Str) : CK := fun cls d H Q => ∃ v, FldOf C f cls d H v ∧ Q v H
def ckWI (r : Str) (n : Int) : CK := fun _ _ H Q => ∀ t, H t = none → Q (.ref t) (upd H t (.tup [.str r, .int n]))
def wChainA (K : PySem.W.Frag) (Q : VK) : List (Addr × CK) → XK
  | [] => fun _ _ _ => False
  | (C, k) :: l => fun cls d H => ∃ b, PySem.W.exmOne K cls (.ref C) = some b ∧ (b = true → k cls d H Q) ∧ (b = false → wChainA K Q l cls d H)
def TToldA (K : PySem.W.Frag) (l : List (Addr × CK)) : (XK → Hp → VK → Prop) → Hp → VK → Prop := fun tl H Q => tl (wChainA K Q l) H fun _ H' => Q .non H'
inductive HdsA (K : PySem.W.Frag) (mg : Str → Option Value) (sg : Scope) (n : Str) : List ExceptHandler → List (Addr × CK) → Prop
  | nil : HdsA K mg sg n [] []
  | word {e r : Str} {C : Addr} {j : Nat} {p4 p5 p6 p7 : Pos} {hs : List ExceptHandler} {l : List (Addr × CK)} (hge : sg.names.lookup e = some .globalImplicit) (hme : mg e = some (.ref C)) (hde : (e == ("__debug__" : Str)) = false) (t : HdsA K mg sg n hs l) :
      HdsA K mg sg n (.ExceptHandler (some (.Name e p4)) none [.Return (some (.Constant (.str r) j p5)) p6] p7 :: hs) ((C, ckW r) :: l)
  | fld {e r f : Str} {C : Addr} {j k : Nat} {p4 p5 p6 p7 q1 q2 q3 : Pos} {hs : List ExceptHandler} {l : List (Addr × CK)} (hge : sg.names.lookup e = some .globalImplicit) (hme : mg e = some (.ref C)) (hde : (e == ("__debug__" : Str)) = false) (T : XfC K C) (hno : PySem.W.findIn K (.ref C) f = some none) (t : HdsA K mg sg n hs l) :
      HdsA K mg sg n (.ExceptHandler (some (.Name e p4)) (some n) [.Return (some (.Tuple [.Constant (.str r) j p5, .Attribute (.Name n q1) f q2] k q3)) p6] p7 :: hs) ((C, ckF C r f) :: l)
  | flds {e f g : Str} {C : Addr} {k : Nat} {p4 p6 p7 q1 q2 q3 q4 q5 : Pos} {hs : List ExceptHandler} {l : List (Addr × CK)} (hge : sg.names.lookup e = some .globalImplicit) (hme : mg e = some (.ref C)) (hde : (e == ("__debug__" : Str)) = false) (T : XfC K C) (hno : PySem.W.findIn K (.ref C) f = some none) (hno2 : PySem.W.findIn K (.ref C) g = some none) (t : HdsA K mg sg n hs l) :
      HdsA K mg sg n (.ExceptHandler (some (.Name e p4)) (some n) [.Return (some (.Tuple [.Attribute (.Name n q1) f q2, .Attribute (.Name n q4) g q5] k q3)) p6] p7 :: hs) ((C, ckFF C f g) :: l)
  | attr {e f : Str} {C : Addr} {p4 p6 p7 q1 q2 : Pos} {hs : List ExceptHandler} {l : List (Addr × CK)} (hge : sg.names.lookup e = some .globalImplicit) (hme : mg e = some (.ref C)) (hde : (e == ("__debug__" : Str)) = false) (T : XfC K C) (hno : PySem.W.findIn K (.ref C) f = some none) (t : HdsA K mg sg n hs l) :
      HdsA K mg sg n (.ExceptHandler (some (.Name e p4)) (some n) [.Return (some (.Attribute (.Name n q1) f q2)) p6] p7 :: hs) ((C, ckG C f) :: l)
  | num {e r : Str} {C : Addr} {m : Int} {j j2 k : Nat} {p4 p5 p6 p7 q2 q3 : Pos} {hs : List ExceptHandler} {l : List (Addr × CK)} (hge : sg.names.lookup e = some .globalImplicit) (hme : mg e = some (.ref C)) (hde : (e == ("__debug__" : Str)) = false) (t : HdsA K mg sg n hs l) :
      HdsA K mg sg n (.ExceptHandler (some (.Name e p4)) none [.Return (some (.Tuple [.Constant (.str r) j p5, .Constant (.int m) j2 q2] k q3)) p6] p7 :: hs) ((C, ckWI r m) :: l)
theorem at_set {σ : L2.St} {i : Nat} {v : V} (h : i < σ.length) : (σ.set i (some v))[i]? = some (some v) := List.getElem?_set_self h
theorem hdsA_ok {Y : Cx} {mg : Str → Option Value} {sg : Scope} {n : Str} {i : Nat} (hsc : Y.env.scope = sg) (hmg : Y.mg = mg) (hN : Y.N.Nodup) (hi : Y.N[i]? = some n) (hl : sg.names.lookup n = some .local) (hd1 : (n == ("__debug__" : Str)) = false) (hd2 : (n == ("__classdict__" : Str)) = false) :
    ∀ {hs : List ExceptHandler} {l : List (Addr × CK)}, HdsA Y.K mg sg n hs l → ∃ L : List Cl, ClsOk Y hs L ∧ ∀ (D : Ends) (cls : Value) (d : Option Addr) (σ : L2.St) (H : Hp), wChainA Y.K D.rt l cls d H → wAll Y.K (fun _ _ _ _ => False) D L cls d σ H := by
  intro hs l h
  have lk : Y.env.kindOf n = some .local := by
    show Y.env.scope.names.lookup n = _
    rw [hsc]
    exact hl
  have nm : ∀ {e : Str} {C : Addr}, sg.names.lookup e = some .globalImplicit → mg e = some (.ref C) → (e == ("__debug__" : Str)) = false → Names Y e (.ref C) := fun {e C} hge hme hde => ⟨by show Y.env.scope.names.lookup _ = _; rw [hsc]; exact hge, hde, .inl (by rw [hmg]; exact hme)⟩
  induction h with
  | nil => exact ⟨[], .nil, fun D cls d σ H z => z.elim⟩
  | word hge hme hde t ih =>
    obtain ⟨L, h1, h2⟩ := ih
    refine ⟨(_, none, fun _ _ _ => tRet (tC (.str _))) :: L, .plain (nm hge hme hde) (fun a oe cls d pn _ _ => pss_one (ps_ret pe_str)) h1, fun D cls d σ H ⟨b, e1, e2, e3⟩ => ⟨b, e1, fun e a _ => e2 e, fun e => h2 D cls d σ H (e3 e)⟩⟩
  | num hge hme hde t ih =>
    obtain ⟨L, h1, h2⟩ := ih
    refine ⟨(_, none, fun _ _ _ => tRet _) :: L, .plain (nm hge hme hde) (fun a oe cls d pn _ _ => pss_one (ps_ret (pe_tup (pa_cons pe_str (pa_cons pe_int pa_nil))))) h1, fun D cls d σ H ⟨b, e1, e2, e3⟩ => ⟨b, e1, fun e a _ => ?_, fun e => h2 D cls d σ H (e3 e)⟩⟩
    exact ⟨by show 2 ≤ sizeLine; decide, fun t ht => e2 e t ht⟩
  | attr hge hme hde T hno t ih =>
    obtain ⟨L, h1, h2⟩ := ih
    refine ⟨(_, some i, fun a cls d => tRet _) :: L, .named hN hi lk (nm hge hme hde) (fun a oe cls d pn hz hf => pss_one (ps_ret (pe_xf (a := a) (cls := cls) (d := d) T hno hz hf (pe_var hi (.inl lk) hd1 hd2)))) h1, fun D cls d σ H ⟨b, e1, e2, e3⟩ => ⟨b, e1, fun e a _ hlen => ?_, fun e => h2 D cls d σ H (e3 e)⟩⟩
    obtain ⟨v, ⟨hc, dd, fs, hd, hx, hv⟩, q⟩ := e2 e
    exact ⟨_, at_set hlen, rfl, hc, dd, fs, v, hd, hx, hv, q⟩
  | fld hge hme hde T hno t ih =>
    obtain ⟨L, h1, h2⟩ := ih
    refine ⟨(_, some i, fun a cls d => tRet _) :: L, .named hN hi lk (nm hge hme hde) (fun a oe cls d pn hz hf => pss_one (ps_ret (pe_tup (pa_cons pe_str (pa_cons (pe_xf (a := a) (cls := cls) (d := d) T hno hz hf (pe_var hi (.inl lk) hd1 hd2)) pa_nil))))) h1, fun D cls d σ H ⟨b, e1, e2, e3⟩ => ⟨b, e1, fun e a _ hlen => ?_, fun e => h2 D cls d σ H (e3 e)⟩⟩
    obtain ⟨v, ⟨hc, dd, fs, hd, hx, hv⟩, q⟩ := e2 e
    exact ⟨_, at_set hlen, rfl, hc, dd, fs, v, hd, hx, hv, by show 2 ≤ sizeLine; decide, fun t ht => q t ht⟩
  | flds hge hme hde T hno hno2 t ih =>
    obtain ⟨L, h1, h2⟩ := ih
    refine ⟨(_, some i, fun a cls d => tRet _) :: L, .named hN hi lk (nm hge hme hde) (fun a oe cls d pn hz hf => pss_one (ps_ret (pe_tup (pa_cons (pe_xf (a := a) (cls := cls) (d := d) T hno hz hf (pe_var hi (.inl lk) hd1 hd2)) (pa_cons (pe_xf (a := a) (cls := cls) (d := d) T hno2 hz hf (pe_var hi (.inl lk) hd1 hd2)) pa_nil))))) h1, fun D cls d σ H ⟨b, e1, e2, e3⟩ => ⟨b, e1, fun e a _ hlen => ?_, fun e => h2 D cls d σ H (e3 e)⟩⟩
    obtain ⟨v, u, ⟨hc, dd, fs, hd, hx, hv⟩, ⟨_, dd', fs', hd', hx', hu⟩, q⟩ := e2 e
    exact ⟨_, at_set hlen, rfl, hc, dd, fs, v, hd, hx, hv, _, at_set hlen, rfl, hc, dd', fs', u, hd', hx', hu, by show 2 ≤ sizeLine; decide, fun t ht => q t ht⟩
section
variable {X : Cx}
theorem toldA_gives {Ng : List Str} {x a q n : Str} {i : Nat} {sg : Scope} {g : Addr} {cdg : Value} {h₀ : ExceptHandler} {hds : List ExceptHandler} {l : List (Addr × CK)} {p1 p2 p3 p8 p9 pn0 : Pos} {jn : Nat} (hN : Ng.Nodup) (hi : Ng[i]? = some n) (hl : sg.names.lookup n = some .local) (hT : HdsA X.K X.mg sg n (h₀ :: hds) l) (h0 : ∀ f : Addr, (L2.start Ng [V.ref f])[0]? = some (some (V.ref f))) (hd1 : (n == ("__debug__" : Str)) = false := by decide) (hd2 : (n == ("__classdict__" : Str)) = false := by decide) :
    GivesTo X Ng x sg g cdg [.Try [.Expr (.Call (.Name a p1) [] [] p2) p3] (h₀ :: hds) [] [] p8, .Return (some (.Constant .none jn pn0)) p9] a q (TToldA X.K l) := by
  intro f c' s H Q tl act hc h
  obtain ⟨L, hL, hw⟩ := hdsA_ok (Y := (cxOf C8.CX0 X.prog X.w X.K X.mg X.base Ng x sg g cdg X.A X.stack s H C8.E0).nox) rfl rfl hN hi hl hd1 hd2 hT
  refine ⟨_, pss_cons (ps_try_all (Wout := fun _ _ _ _ => False)
      (tb := fun W D σ H => ∃ Ech : XK, (∀ cls d σ' H', Ech cls d H' → W cls d σ' H') ∧ σ[0]? = some (some (.ref f)) ∧ H c' = some (CodeO c' q) ∧ tl Ech H fun _ H' => D.nx σ H')
      rfl rfl takes_none5 (fun W pn xe tk _ => ?_) hL) (pss_one (ps_ret pe_non)), ?_⟩
  · refine ⟨fun pins s' σ H' D I h' => ?_⟩
    obtain ⟨Ech, hW, h1, h2, h3⟩ := h'
    exact (pss_one (ps_expr (pos := p3) (act W pn xe Ech p1 p2 tk hW))).run pins s' σ H' D I ⟨h1, h2, h3⟩
  · exact ⟨wChainA X.K Q l, fun cls d σ' H' z => hw _ cls d σ' H' z, h0 f, hc, h⟩
end
theorem toldA_to {K : PySem.W.Frag} {l : List (Addr × CK)} {tl : (XK → Hp → VK → Prop)} {H : Hp} {Q0 : VK} (Pv : V → Hp → Prop) (a : ∀ Q : VK, (∀ v H', Pv v H' → Q v H') → TToldA K l tl H Q) (b : ∀ v H', Pv v H' → Q0 v H') : TToldA K l tl H Q0 := a Q0 b
/-! ### B.__init__(self, ..), B an own class over ValueError without an __init__ -/
/-- what the written part says of such a base -/
structure BaseC (K : PySem.W.Frag) (S : Addr) : Prop where
  ga : PySem.W.specialIn K (.ref S) "__getattribute__" = some (some (.builtin "type.__getattribute__"))
  rd : PySem.W.readsIn K S (.type "type") = true
  vV : PySem.W.findCls K (.ref S) (.type "type") "__init__" = some (.val (.builtin "ValueError.__init__"))
section
variable {X : Cx} {e : Expr} {es : List Expr} {ta : TA} {S : Addr} {x : Str} {p1 p2 pos : Pos}
theorem pe_binit {pl : Sem Bool} (B : BaseC X.K S) (hg : Gl X x) (hm : X.mg x = some (.ref S)) (ha : PA X (e :: es) ta)
    (hc : eval (.Call (.Attribute (.Name x p1) "__init__" p2) (e :: es) [] pos) X.env = (do
      let v ← eval (.Name x p1) X.env
      standAt p2.atName
      let (f, first) ← holding [v] (getMethod v "__init__" pl)
      callWith pos f first (backTo pos (starEach (e :: es) X.env)) (backToKw pos (keywordEach [] X.env))) := by rfl)
    (hdb : (x == ("__debug__" : Str)) = false := by decide) (he : starEach (e :: es) X.env = (false, eval e X.env) :: starEach es X.env := by rfl) (hpl : (backTo pos (starEach es X.env)).any (·.1) = false := by rfl) :
    PE X (.Call (.Attribute (.Name x p1) "__init__" p2) (e :: es) [] pos) (tVeI X.K ta) := by
  refine ⟨fun pins s σ H Q I h => PySem.W.methodCall_KW (ld_glob I hg hm ?_ hdb) hc⟩
  refine PySem.W.method_cls I.kIn B.ga (PySem.W.cls_value I.kIn B.rd B.vV (by decide +kernel) ?_)
  show wpAny _ _ (callWith pos (Value.builtin "ValueError.__init__") [] (backTo pos (starEach (e :: es) X.env)) []) _ _ _
  refine PyProof.Rows.callWith_method1 (thn (ha.run pos pins _ σ H _ (I.tok _) h) fun us s1 ⟨vs, H1, I1, r1, q1⟩ => ?_) he hpl
  obtain ⟨a, C, ws, rfl, hl, T, ea, q⟩ := q1
  cases r1 with
  | @cons _ u0 _ ur ra rr =>
    obtain rfl : u0 = Value.ref a := ra
    exact oinit_ok T I1 ea (by rw [← Paired.length rr, sizeLine_eq]; omega) fun s' J => ⟨.non, H1, J, rfl, q⟩
end
/-- what is left of an error that told one thing -/
theorem xd_same {H1 : Hp} {a C dx : Addr} {f : Str} {v : V} (na : H1 a = none) (nd : H1 dx = none) (n : dx ≠ a) :
    ∃ H' : Hp, H' = upd (del (upd (upd (upd H1 a (exo a C none)) dx (exd dx [(f, v)])) a (exo a C (some dx))) a) dx (.xd [(f, v)]) ∧ Same H1 H' ∧ H' dx = some (.xd [(f, v)]) := by
  refine ⟨_, rfl, fun b o h => ?_, upd_same⟩
  rw [upd_ne (ne_of_none h nd), del_ne (ne_of_none h na), upd_ne (ne_of_none h na), upd_ne (ne_of_none h nd), upd_ne (ne_of_none h na)]
  exact h
end My
/-! xs.extend(t), t a tuple -/
namespace My
open PySem L2 LamX PyProof.Rows
section
open PySem.AutoSeq1 MeetsSeq MeetsSeq2 MeetsSeq3
set_option maxRecDepth 8000 in
theorem ext_tup (l b : Addr) (xs ys : Array Value) (n m : Nat) (dd : Option Addr) (sl : Array (Option Value)) (few : ¬(!xs.isEmpty && Builtin.List.listTooLong (xs.size + ys.size)) = true) (h1 : xs.size ≤ sizeLine) (h2 : (xs ++ ys).size ≤ sizeLine + 1) :
    Meets (Builtin.«list.extend» ⟨[.ref l, .ref b], []⟩) (fun _ R s => s.heap.get? l = some { cls := .type "list", dict := none, data := .seq xs n, slots := #[] } ∧ s.heap.get? b = some { cls := .type "tuple", dict := dd, data := .seq ys m, slots := sl } ∧ R (.ok (.ret Value.none)) { s with heap := s.heap.update l (Obj.mapSeq fun x => x ++ ys), toks := s.toks }) := by
  refine .of_wp fun prog w A R s ⟨e1, e2, q⟩ => ?_
  obtain ⟨hp, g, d, tk, os⟩ := s
  have k1 := idx_int
  have k2 := AutoSeq1.sub_tuple_tuple
  have k3 := AutoSeq1.sub_list_list
  have k4 := AutoSeq1.sub_tuple_list
  have k5 := AutoSeq1.sub_list_tuple
  wp_walk using (wpAny_updateSeq e1 rfl (hz := h1) (_hz' := h2)), wpAny_loadPart' e1, wpAny_loadPart' e2
  exact ⟨_, rfl, q⟩
end
section
variable {X : Cx}
def rExtendT (K : PySem.W.Frag) : V → List V → Hp → VK → Prop := fun x vs H Q => ∃ l b xs zs, x = .ref l ∧ vs = [.ref b] ∧ H l = some (.lst xs) ∧ SqT K H b zs ∧ xs.length + zs.length ≤ sizeLine ∧ Q .non (upd H l (.lst (xs ++ zs)))
theorem mt_extendT : MtR X "list.extend" (rExtendT X.K) := by
  intro pins s σ H x vs v us Q I rx rv h
  obtain ⟨l, b, xs, zs, rfl, rfl, hH, hB, hz, q⟩ := h
  cases rx
  obtain ⟨u, rfl, ru⟩ := rv.one
  cases ru
  obtain ⟨z1, its, n, r, hl, e⟩ := I.lstM hH
  obtain ⟨jts, r2, tp, z2⟩ := I.tuple hB
  have l1 := r.length
  have l2 := r2.length
  have few : ¬ (!its.toArray.isEmpty && Builtin.List.listTooLong (its.toArray.size + jts.toArray.size)) = true := by
    rw [notLongL (by rw [List.size_toArray, List.size_toArray]; omega), Bool.and_false]
    exact Bool.false_ne_true
  obtain ⟨o, t1, t2, n2, t3⟩ := id tp
  obtain ⟨oc, od, ot, os⟩ := o
  dsimp only at t2 t3
  subst t2 t3
  refine call_meets F.slot_list_extend ⟨_, e, rfl⟩ F.entry_list_extend (F.args_list_extend_2 _ _) (ext_tup l b its.toArray jts.toArray n n2 od os few (by rw [List.size_toArray]; omega) (by rw [Array.size_append, List.size_toArray, List.size_toArray]; omega)) ⟨e, t1, ?_⟩
  exact ⟨.non, _, I.lset (its' := its ++ jts) hH e (by simp) (r.append r2) (by rw [List.length_append]; omega), rfl, q⟩
end
end My
/-! raise X(e, ..) of an own class with an own __init__; a try around one call, several clauses -/
namespace My
open PySem L2 LamX PyProof.Rows
section
variable {X : Cx} {C : Addr} {e : Expr} {es : List Expr} {ta : TA}
/-- raise X(e, ..), in a def's own body -/
theorem ps_errO {E : XK} {E₁ : Value → Shared → Prop} {CY : CXT} {x : Str} {fI : Addr} {k : Nat} {fd : FuncData} {ps : List Str} {sp : Sp} {ds : List Value} {dvs : List V} {p pos p2 : Pos} (T : OexC X.K C) (iC : PySem.W.findIn X.K (.ref C) "__init__" = some (some (.ref fI))) (tI : PySem.W.typeIn X.K (.ref fI) = some (.type "function"))
    (F1 : FnOk X.prog X.w X.K X.mg X.base CY k fI fd ps sp) (hr : Room (k + 1) X.A) (hb : Binds X.K fd ps ds) (hd : Vals dvs ds) (hx0 : Passes CY X (fun _ _ _ => False)) (hm : X.mg x = some (.ref C)) (hg : Gl X x) (ha : PA X (e :: es) ta)
    (hc : X.calm = true) (hs : X.stack = X.env :: X.outer) (hf : X.env.frame = some X.env.locals) (hex : X.ex = [])
    (hx : X.xe = fun e s' => wpAny (model X.prog X.w) X.A (leaving X.env e) (fun _ s'' => CX X.prog X.w X.outer X.H_0 X.s_0 E e s'') E₁ s')
    (hdb : (x == ("__debug__" : Str)) = false := by decide) (he : starEach (e :: es) X.env = (false, eval e X.env) :: starEach es X.env := by rfl) (hpl : (backTo pos (starEach es X.env)).any (·.1) = false := by rfl) :
    PS X (.Raise (some (.Call (.Name x p) (e :: es) [] pos)) none p2) (fun _ σ H => tMkO C sp dvs ta σ H E) := ps_raise hc (takes_of hs hf hex hx) (pmk_oex T iC tI F1 hr hb hd hx0 hg hm ha hdb he hpl)
/-- try: e / except ..: several clauses -/
theorem ps_tryA {n : Str} {i : Nat} {sg : Scope} {h₀ : ExceptHandler} {hds : List ExceptHandler} {l : List (Addr × CK)} {p3 p8 : Pos} {te : XK → TE} (hs : X.stack = X.env :: X.outer) (hf : X.env.frame = some X.env.locals) (hsc : X.env.scope = sg) (hN : X.N.Nodup) (hi : X.N[i]? = some n) (hl : sg.names.lookup n = some .local) (hT : HdsA X.K X.mg sg n (h₀ :: hds) l)
    (call : ∀ (W : WX) (pn : List (Addr × Obj)) (xe : Value → Shared → Prop) (Ech : XK), Takes (X.tr pn xe) W → (∀ cls d σ H, Ech cls d H → W cls d σ H) → PE (X.tr pn xe) e (te Ech))
    (hd1 : (n == ("__debug__" : Str)) = false := by decide) (hd2 : (n == ("__classdict__" : Str)) = false := by decide) (hsw : swapsWith e none p3.line X.env = pure false := by rfl) :
    PS X (.Try [.Expr e p3] (h₀ :: hds) [] [] p8) (fun D σ H => te (wChainA X.K D.rt l) σ H fun _ H' => D.nx σ H') := by
  obtain ⟨L, hL, hw⟩ := hdsA_ok (Y := X) hsc rfl hN hi hl hd1 hd2 hT
  refine ⟨fun pins s σ H D I h => ?_⟩
  refine (ps_try_all (Wout := fun _ _ _ _ => False)
      (tb := fun W D σ H => ∃ Ech : XK, (∀ cls d σ' H', Ech cls d H' → W cls d σ' H') ∧ te Ech σ H fun _ H' => D.nx σ H')
      hs hf takes_none5 (fun W pn xe tk _ => ?_) hL).run pins s σ H D I ⟨wChainA X.K D.rt l, fun cls d σ' H' z => hw D cls d σ' H' z, h⟩
  refine ⟨fun pins s' σ H' D I h' => ?_⟩
  obtain ⟨Ech, hW, h3⟩ := h'
  exact (pss_one (ps_expr (pos := p3) (call W pn xe Ech tk hW) hsw)).run pins s' σ H' D I h3
end
end My
/-! an error out of a comprehension, in a def's own body -/
namespace My
open PySem L2 LamX PyProof.Rows
section
variable {M : Model} {A : Around} {E₀ : Value → Shared → Prop} {s : Shared} {B : Heap} {env : Env} {outer : List Env} {e L : Addr} {Z : Obj → Prop} {fl : Value}
/-- an exception is noted, whatever frame its record names -/
theorem noted_any {Q : Unit → Shared → Prop} (hZ : HandSPX.Steady Z) (hfr : A.frames = some (env :: outer)) (hf : env.frame = some L) (k : B.StaysIn s.heap) (n : B.get? e = none) (l : s.heap.FunFrames B (env :: outer)) (t : HandSPX.TracedZ s.heap B e Z fl)
    (q : ∀ h', HandSPX.HeldZ B (env :: outer) e Z L h' → s.heap.UpToSlots h' → Q () { s with heap := h' }) : wpAny M A (noteFrame (.ref e) env) Q E₀ s := by
  by_cases hl : (fl == rawInt L) = true
  · have z : fl = rawInt L := eq_of_beq hl
    subst z
    exact HandSPX.againZ hf t (q s.heap ⟨k, n, l, t⟩ (Heap.UpToSlots.refl _))
  · obtain ⟨oe, vs, T, oT, ts, g1, g2, g3, g4, g5, g6, g7, g8, g9⟩ := t
    have away : ∀ b, b ≠ T → (s.heap.update T (Obj.mapFields (·.setIfInBounds 3 Value.none))).get? b = s.heap.get? b := fun b hb => Heap.get?_update_other _ _ (Ne.symm hb)
    have nrec : ∀ b o, s.heap.get? b = some o → (∀ x, o.data ≠ .fields x) → b ≠ T := by
      rintro b o hb hd rfl
      rw [g7] at hb
      cases hb
      exact hd ts g8
    unfold noteFrame
    rw [hf]
    refine wpAny_bind (wpAny_field g1 g3 g4 ?_)
    rw [if_pos (by simp : (Value.ref T != Value.none) = true)]
    refine wpAny_bind (wpAny_field g7 g8 g9 ?_)
    rw [if_neg hl]
    refine wpAny_bind (wpAny_setField g7 g8 (Array.getElem?_eq_some_iff.mp g9).1 ?_)
    refine HandSPX.wpAny_entryZ hZ hfr (l.of_keeps fun b o hb hd => ⟨o, (away b (nrec b o hb hd)).trans hb, rfl⟩) hf ((away e (Ne.symm g6)).trans g1) (fun b o hb => (away b (by rintro rfl; rw [g5] at hb; cases hb)).trans (k b o hb)) n g3 (Array.getElem?_eq_some_iff.mp g4).1 g2 fun h' hN => ?_
    exact q h' ⟨hN.1, n, hN.2.1, hN.2.2.1⟩ fun b o hb hd => hN.2.2.2 b o ((away b (nrec b o hb hd)).trans hb) hd
end
/-- frames stand as long as they are left as they are -/
theorem frames_at {h h' base : Heap} : ∀ {l : List Env}, h.FunFrames base l → (∀ b ∈ frs l, h'.get? b = h.get? b) → h'.FunFrames base l
  | [], _, _ => trivial
  | env :: l, ⟨hk, ⟨L, o, hf, hn, ho, hd⟩, hr⟩, e => ⟨hk, ⟨L, o, hf, hn, (e L (List.mem_filterMap.mpr ⟨env, .head _, hf⟩)).trans ho, hd⟩, frames_at hr fun b hb => e b (by
      obtain ⟨v, hv, q⟩ := List.mem_filterMap.mp hb
      exact List.mem_filterMap.mpr ⟨v, .tail _ hv, q⟩)⟩
section
variable {X : Cx} {pins : List (Addr × Obj)} {σ : L2.St} {H : Hp} {sI s' : Shared} {B : Heap} {E : XK} {a : Addr} {cls : Value} {d : Option Addr} {fl : Value} {E₁ : Value → Shared → Prop}
/-- .. and leaves the def -/
theorem leave_any (hs : X.stack = X.env :: X.outer) (hf : X.env.frame = some X.env.locals) (hex : X.ex = []) (I : L2.Inv X pins σ H sI) (nb : ∀ b o, sI.heap.get? b = some o → b ∉ frs X.stack → B.get? b = some o) (up : sI.heap.UpToSlots s'.heap)
    (k : B.StaysIn s'.heap) (n : B.get? a = none) (l : s'.heap.FunFrames B X.stack) (t : HandSPX.TracedZ s'.heap B a (Zc cls d) fl) (na : H a = none) (os : s'.os = sI.os) (ag : AllBare s'.gens) (w : E cls d H) :
    wpAny (model X.prog X.w) X.A (leaving X.env (.ref a)) (fun _ s'' => L2.CX X.prog X.w X.outer X.H_0 X.s_0 E (.ref a) s'') E₁ s' := by
  have hfr : X.A.frames = some (X.env :: X.outer) := by rw [I.ok.frames, hs]
  rw [hs] at l
  unfold leaving
  refine wpAny_bind (noted_any Zc.steady hfr hf k n l t fun h1 hh u1 => ?_)
  refine HandSPX.landsZ hh fun h2 f2 u2 => ?_
  have off : ∀ b o, X.s_0.heap.get? b = some o → b ∉ X.fs → b ∉ frs X.stack := fun b o e hb hm => by
    rcases List.mem_cons.mp (I.stkSub b hm) with z | z
    · have h1 := Heap.lt_size e
      have h3 := I.ok.above
      rw [z] at h1
      exact absurd (Nat.lt_of_lt_of_le h1 h3) (Nat.lt_irrefl _)
    · exact hb z
  have hex' : ∀ b, b ∉ X.ex := fun b hb => by rw [hex] at hb; cases hb
  obtain ⟨k2, n2, l2, t2⟩ := f2
  refine ⟨a, B, H, cls, d, rfl, ⟨k2, n2, l2.2.2, t2⟩, I.inGround nb, ⟨fun b o e z hb => nb b o (I.base.keep b o e z hb (hex' b)) (off b o e hb), fun b o e hb => ?_, fun b o e z => I.base.free b o e z (hex' b), fun b o e hb => ?_, I.base.tups, I.base.frzs, I.base.tbls⟩, na, os.trans I.os, ag, w⟩
  · obtain ⟨_, o₀, e₀, hd⟩ := I.ok.funs.mem hb
    rw [e] at e₀
    cases e₀
    obtain ⟨l1, e1⟩ := I.base.slot b o e (I.ok.frf b hb) hb (hex' b)
    obtain ⟨l2, e2⟩ := up b _ e1 hd
    obtain ⟨l3, e3⟩ := u1 b _ e2 hd
    obtain ⟨l4, e4⟩ := u2 b _ e3 hd
    exact ⟨l4, e4⟩
  · obtain ⟨o', e1⟩ := I.base.there b o e (hex' b)
    exact ⟨o', nb b o' e1 (off b o e hb)⟩
/-- what comes out of a block -/
def OutB (X : Cx) (s3 : Shared) (H3 : Hp) (scope : Scope) (ce : Env) (fp : List Addr) (E : XK) : Value → Shared → Prop := fun u s' =>
  ∃ (pl : List (Addr × Obj)) (σ' : L2.St) (H1 : Hp) (s1 : Shared), L2.Inv (X.blk s3 H3 scope ce fp) pl σ' H1 s1 ∧ L2.CX X.prog X.w X.stack H1 s1 E u s'
theorem block_out {s3 : Shared} {H3 : Hp} {scope : Scope} {ce : Env} {fp : List Addr} {C D : Addr} {Qf : Value → Shared → Prop} {u : Value} (hs : X.stack = X.env :: X.outer) (hf : X.env.frame = some X.env.locals) (hex : X.ex = [])
    (hx : X.xe = fun e s' => wpAny (model X.prog X.w) X.A (leaving X.env e) (fun _ s'' => L2.CX X.prog X.w X.outer X.H_0 X.s_0 E e s'') E₁ s')
    (I3 : L2.Inv X pins σ H3 s3) (hC : ce.locals = C) (hCs : s3.heap.objs.size ≤ C) (hcf : ce.frame = X.env.frame) (hfp : ∀ b ∈ fp, FpOk X pins H3 b) (o : OutB X s3 H3 scope ce fp E u s') :
    notedBy (model X.prog X.w) X.A ce (fun e s2 => compPost (model X.prog X.w) X.A X.xe none Qf (.ref D) C (.error e) s2) u s' := by
  obtain ⟨pl, σ', H1, s1, Ib, c⟩ := o
  obtain ⟨a, B, sI, pi, σi, H', cls, d, rfl, Ii, nb, up, sky, na, os, ag, w⟩ := XE.of_call (X := X.blk s3 H3 scope ce fp) (W := fun cls d _ H => E cls d H) Ib (fun _ _ _ h => h) c
  have hfr : X.A.frames = some (X.env :: X.outer) := by rw [I3.ok.frames, hs]
  have en : noteFrame (.ref a) ce = noteFrame (.ref a) X.env := by
    unfold noteFrame PySem.frameOf
    rw [hcf]
  have IX : L2.Inv X pins σ H' sI := I3.call' (ch := fp) Ii.os Ii.base Ii.hok Ii.bare fun b hb => ⟨(hfp b hb).2.2.2.1, (hfp b hb).2.1, (hfp b hb).2.2.2.2.1, (hfp b hb).2.2.2.2.2⟩
  have fC : FpOk X pins H' C := I3.fpOk hCs (by have z : H' ce.locals = none := Ii.free; rw [hC] at z; exact z)
  have cF : C ∉ frs X.stack := fun hm => by
    rcases List.mem_cons.mp (I3.stkSub C hm) with z | z
    · exact fC.2.1 z
    · exact fC.2.2.1 z
  show wpAny _ _ (noteFrame (.ref a) ce) _ _ _
  rw [en]
  have rest : ∀ h1, HandSPX.HeldZ B (X.env :: X.outer) a (Zc cls d) X.env.locals h1 → s'.heap.UpToSlots h1 → compPost (model X.prog X.w) X.A X.xe none Qf (.ref D) C (.error (.ref a)) { s' with heap := h1 } := fun h1 hh u1 => by
    obtain ⟨k1, n1, l1, t1⟩ := hh
    obtain ⟨m, hm, _⟩ := Ii.loc
    have hm : sI.heap.Ns ce.locals m := hm
    rw [hC] at hm
    obtain ⟨oC, es, ep, gC, rC⟩ := hm
    have gB : B.get? C = some oC := nb C oC gC cF
    refine ⟨m, ⟨oC, es, ep, k1 C oC gB, rC⟩, fun h2 sb ce' _ => ?_⟩
    obtain ⟨B2, b1, b2⟩ := restrict B fun b => decide (b ≠ C)
    obtain ⟨G, q1, q2⟩ := restrict sI.heap fun b => decide (b ≠ C)
    have B2of : ∀ b o, B2.get? b = some o → b ≠ C ∧ B.get? b = some o := fun b o e => by
      by_cases z : b = C
      · rw [b2 b (by simp [z])] at e
        cases e
      · exact ⟨z, by rw [← b1 b (by simp [z])]; exact e⟩
    have Gof : ∀ b o, G.get? b = some o → b ≠ C ∧ sI.heap.get? b = some o := fun b o e => by
      by_cases z : b = C
      · rw [q2 b (by simp [z])] at e
        cases e
      · exact ⟨z, by rw [← q1 b (by simp [z])]; exact e⟩
    have same2 : ∀ b, b ≠ C → h2.get? b = h1.get? b := fun b hb => sb.2 b hb
    have k2 : B2.StaysIn h2 := fun b o e => by
      obtain ⟨z, e'⟩ := B2of b o e
      rw [same2 b z]
      exact k1 b o e'
    have none2 : ∀ b, B.get? b = none → B2.get? b = none := fun b e => by
      cases z : B2.get? b with
      | none => rfl
      | some o =>
        have := (B2of b o z).2
        rw [e] at this
        cases this
    have neC : ∀ b, B.get? b = none → b ≠ C := fun b e z => by rw [z, gB] at e; cases e
    have l2 : h2.FunFrames B2 (X.env :: X.outer) := by
      have lB : ∀ b ∈ frs (X.env :: X.outer), B.get? b = none := fun b hb => (l1.mem hb).1
      have l0 : h1.FunFrames B2 (X.env :: X.outer) := funFrames_none l1 fun b hb => none2 b (lB b hb)
      exact frames_at l0 fun b hb => same2 b fun z => neC b (lB b hb) z
    have t2 : HandSPX.TracedZ h2 B2 a (Zc cls d) (rawInt X.env.locals) := by
      obtain ⟨oe, vs, T, oT, ts, g1, g2, g3, g4, g5, g6, g7, g8, g9⟩ := t1
      exact ⟨oe, vs, T, oT, ts, (same2 a (neC a n1)).trans g1, g2, g3, g4, none2 T g5, g6, (same2 T (neC T g5)).trans g7, g8, g9⟩
    obtain ⟨oe, vs, T, oT, ts, g1, g2, g3, g4, g5, g6, g7, g8, g9⟩ := id t2
    unfold PySem.passOn
    refine wpAny_bind (wpAny_field g1 g3 g4 ?_)
    rw [if_neg (show ¬ (Value.ref T == Value.none) = true by simp)]
    first
      | refine wpAny_bind (wpAny_pure ?_)
      | skip
    refine wpAny_bind (HandSPX.setFlight_anyZ k2 l2 t2 fun h3 k3 l3 t3 u3 => ?_)
    refine wpAny_throw ?_
    rw [hx]
    have J : L2.Inv X pins σ H' { sI with heap := G } := IX.turned (t' := sI.toks) (it := C) (fun b o hb e => by rw [q1 b (by simp [hb])]; exact e) fC.1 fC.2.1 fC.2.2.2.1 fC.2.2.2.2.1 fC.2.2.2.2.2
    refine leave_any hs hf hex (sI := { sI with heap := G }) (B := B2) J (fun b o e hb => ?_) (fun b o e hd => ?_) k3 (none2 a n1) (hs ▸ l3) t3 na os ag w
    · obtain ⟨z, e'⟩ := Gof b o e
      rw [b1 b (by simp [z])]
      exact nb b o e' hb
    · obtain ⟨z, e'⟩ := Gof b o e
      obtain ⟨x1, e1⟩ := up b o e' hd
      obtain ⟨x2, e2⟩ := u1 b _ e1 hd
      obtain ⟨x3, e3⟩ := u3 b _ ((same2 b z).trans e2) hd
      exact ⟨x3, e3⟩
  rcases sky with ⟨f1, f2, f3, oe, vs, f4, f5, f6, f7⟩ | ⟨f1, f2, f3, f4⟩ | ⟨f1, f2, f3, f4⟩
  · have f3 : s'.heap.FunFrames B X.stack := f3
    rw [hs] at f3
    exact HandSPX.look_newZ Zc.steady hfr f3 hf f4 f1 f2 f6 f7 f5 rest
  · have f3 : s'.heap.FunFrames B X.stack := f3
    rw [hs] at f3
    exact noted_any Zc.steady hfr hf f1 f2 f3 f4 rest
  · have f3 : s'.heap.FunFrames B X.stack := f3
    rw [hs] at f3
    exact noted_any Zc.steady hfr hf f1 f2 f3 f4 rest
end
end My
/-! [elt for target in iter if ..] whose elt may let an error out, in a def's own body -/
namespace My
open PySem L2 LamX PyProof.Rows
section
variable {X : Cx} {E : XK} {E₁ : Value → Shared → Prop}
/-- where the block of a comprehension stands -/
abbrev envB (X : Cx) (scope : Scope) (s3 : Shared) : Env := compEnvC scope (cellsFrom (s3.heap.objs.size + 1) scope.names (cloFrom X.env.cells scope.names [])) s3.heap.objs.size X.env
/-- one turn, the errors of the element among its ends -/
theorem turn_out {s3 : Shared} {H3 : Hp} {scope : Scope} {fp : List Addr} {ce : Env} {D : Addr} {R : Result → Shared → Prop} {elt tg : Expr} {ifs : List Expr} {g : TG} {tt : TT} {te : TE} {σ : L2.St} {vs : List Nat} {Nx : Hp → Prop} {Goal : Shared → Prop} {H5 : Hp} {s5 : Shared}
    (pg : PG (X.blk s3 H3 scope ce fp) tg g) (pt : PTs (X.blk s3 H3 scope ce fp) ifs tt) (pe : PE ((X.blk s3 H3 scope ce fp).wish (OutB X s3 H3 scope ce fp E)) elt te)
    (out : ∀ u s', OutB X s3 H3 scope ce fp E u s' → notedBy (model X.prog X.w) X.A ce (fun e s2 => R (.error e) s2) u s')
    {x : V} {u : Value} (I7 : L2.Inv (X.blk s3 H3 scope ce fp) ([] ++ pinsAt fp s5.heap) (wipe σ vs) H5 s5) (r : RelV x u)
    (step : g x (wipe σ vs) H5 fun σ2 H2 => wipe σ2 vs = wipe σ vs ∧ tt σ2 H2 fun b H3 => if b = true then te σ2 H3 fun y H4 => ∃ acc, H4 D = some (.lst acc) ∧ acc.length < sizeLine ∧ Nx (upd H4 D (.lst (acc ++ [y]))) else Nx H3)
    (fin : ∀ (σ8 : L2.St) (s' : Shared) (H' : Hp), wipe σ8 vs = wipe σ vs → L2.Inv (X.blk s3 H3 scope ce fp) ([] ++ pinsAt fp s5.heap) σ8 H' s' → Nx H' → Goal s') :
    wpAny (model X.prog X.w) X.A (assign tg ce u) (fun _ s₂ =>
      wpAny (model X.prog X.w) X.A (forIn ifs true fun c r => if r = true then do let ok ← isTrue c ce (eval c ce); pure (ForInStep.yield ok) else pure (ForInStep.yield r)) (fun ok s₃ =>
        if ok = true then wpAny (model X.prog X.w) X.A (eval elt ce) (fun x s₄ =>
          wpAny (model X.prog X.w) X.A (call (.builtin "list.append") [.ref D, x]) (fun _ s₅ => Goal s₅) (notedBy (model X.prog X.w) X.A ce fun e s' => R (.error e) s') s₄) (notedBy (model X.prog X.w) X.A ce fun e s' => R (.error e) s') s₃
        else Goal s₃) (notedBy (model X.prog X.w) X.A ce fun e s' => R (.error e) s') s₂) (notedBy (model X.prog X.w) X.A ce fun e s' => R (.error e) s') s5 := by
  refine thnF (pg.run _ s5 _ H5 x u _ I7 r step) fun _ s8 ⟨σ8, H8, I8, w8, q8⟩ => ?_
  refine thnF (pt.run _ s8 σ8 H8 _ I8 q8) fun b s9 ⟨H9, I9, q9⟩ => ?_
  cases b with
  | true =>
    have q9 : te σ8 H9 fun y H4 => ∃ acc, H4 D = some (.lst acc) ∧ acc.length < sizeLine ∧ Nx (upd H4 D (.lst (acc ++ [y]))) := q9
    show wpAny _ _ (eval elt ce) _ _ _
    refine wpAny_mono (pe.run _ s9 σ8 H9 _ (I9.wish _) q9) (fun z s10 hz => ?_) fun e s' o => out e s' o
    obtain ⟨yv, H10, I10, r10, acc, a1, a2, a3⟩ := hz
    exact app_ok (X := X.blk s3 H3 scope ce fp) I10.unwish a1 a2 r10 fun s11 I11 => fin σ8 s11 _ w8 I11 a3
  | false => exact fin σ8 s9 H9 w8 I9 q9
theorem pe_lcX {elt tg iter : Expr} {ifs : List Expr} {scope : Scope} {own : List (Str × Nat)} {pos : Pos} {wi : TI} {g : TG} {tt : TT} {te : TE} (hc : X.calm = true) (hN : X.N.Nodup) (hi : PI X tg iter wi) (ok : BlkOk X.N X.env.scope scope own)
    (hg : ∀ (s : Shared) (H : Hp) (C : Addr) (cl : List (Str × Addr)) (fp : List Addr), PG (X.blk s H scope (compEnvC scope cl C X.env) fp) tg g) (ht : ∀ (s : Shared) (H : Hp) (C : Addr) (cl : List (Str × Addr)) (fp : List Addr), PTs (X.blk s H scope (compEnvC scope cl C X.env) fp) ifs tt)
    (he : ∀ (s : Shared) (H : Hp) (C : Addr) (cl : List (Str × Addr)) (fp : List Addr), PE ((X.blk s H scope (compEnvC scope cl C X.env) fp).wish (OutB X s H scope (compEnvC scope cl C X.env) fp E)) elt te)
    (hS : X.stack = X.env :: X.outer) (hf : X.env.frame = some X.env.locals) (hex : X.ex = [])
    (hx : X.xe = fun e s' => wpAny (model X.prog X.w) X.A (leaving X.env e) (fun _ s'' => L2.CX X.prog X.w X.outer X.H_0 X.s_0 E e s'') E₁ s')
    (hs : ∀ x, foldedSetIterable iter X.env x = pure x := by intro _; rfl) :
    PE X (.ListComp elt [⟨tg, iter, ifs, 0⟩] scope pos) (tLc wi g tt te (own.map (·.2))) := by
  refine ⟨fun pins s σ H Q I h => ?_⟩
  rw [eval_ListComp]
  have hcl : ∀ y ∈ scope.names, y.2 = .free → ∃ c, X.env.cells.lookup y.1 = some c := fun y hy e => I.ok.has _ (ok.free y hy e)
  refine wpAny_comprehension_free (use := none) rfl hs (closure_ok hcl) ok.kind (fun y hy e => by rw [ok.uniq y hy, e]) (thn (hi.run pins s σ H _ I h) fun xv s1 hx1 => thn hx1 fun itv s2 h2 => ?_)
  obtain ⟨it, fp, tn, J, H2, e, I2, T, st2, f2, q⟩ := h2
  subst e
  refine wpAny_newObj_type (newEnv_comp ?_) (by show 0 ≤ sizeLine; decide)
  have nD : H2 s2.heap.objs.size = none := I2.hok.fresh (Nat.le_refl _)
  obtain ⟨W, ⟨m0, w0⟩, turn⟩ := q _ nD
  generalize eD : s2.heap.objs.size = D at *
  obtain ⟨s3, e3⟩ : ∃ s3 : Shared, s3 = { s2 with heap := s2.heap.push { cls := .type "list", data := .seq ([] : List Value).toArray } } := ⟨_, rfl⟩
  have h3 : s3.heap = s2.heap.push { cls := .type "list", data := .seq ([] : List Value).toArray } := by rw [e3]
  have I3 : L2.Inv X pins σ (upd H2 D (.lst [])) s3 := by
    rw [e3]
    refine I2.laid (t' := s2.toks) (fun b o e => Heap.get?_push_of_some _ e) (Nat.le_of_eq eD) ⟨Nat.zero_le _, [], 0, .nil, ?_⟩
    rw [← eD]
    exact Heap.get?_push_size _ rfl
  have old : ∀ b ∈ fp, b < s2.heap.objs.size := fun b hb => by
    obtain ⟨o, e, _⟩ := T.obj _ _ st2 b hb
    exact Heap.lt_size e
  have f3 : ∀ b ∈ fp, FpOk X pins (upd H2 D (.lst [])) b ∧ b < s3.heap.objs.size := fun b hb => by
    have lt := old b hb
    have ne : b ≠ D := by rw [← eD]; exact Nat.ne_of_lt lt
    exact ⟨⟨by rw [upd_ne ne]; exact (f2 b hb).1, (f2 b hb).2⟩, by rw [h3, Heap.size_push]; exact Nat.lt_succ_of_lt lt⟩
  have st3 : tn 0 s3.heap := T.keep _ _ _ st2 fun b _ o e => by rw [h3]; exact Heap.get?_push_of_some _ e
  have I4 := block_start I3 ok hN f3
  generalize upd H2 D (.lst []) = H3 at I3 f3 I4 w0
  have pg := hg s3 H3 s3.heap.objs.size (cellsFrom (s3.heap.objs.size + 1) scope.names (cloFrom X.env.cells scope.names [])) fp
  have pt := ht s3 H3 s3.heap.objs.size (cellsFrom (s3.heap.objs.size + 1) scope.names (cloFrom X.env.cells scope.names [])) fp
  have pe := he s3 H3 s3.heap.objs.size (cellsFrom (s3.heap.objs.size + 1) scope.names (cloFrom X.env.cells scope.names [])) fp
  rw [← e3]
  show codeAny _ _ (.compStart (.ListComp elt [⟨tg, iter, ifs, 0⟩] scope pos) 0 (.ref it) (.ref D) (envB X scope s3)) (compPost (model X.prog X.w) X.A X.xe none _ (.ref D) s3.heap.objs.size) { s3 with heap := pushCells (s3.heap.push { cls := .type "dict", data := .dict #[] }) scope.names }
  have hL : (envB X scope s3).locals = s3.heap.objs.size := rfl
  have hF : (envB X scope s3).frame = X.env.frame := rfl
  change L2.Inv (X.blk s3 H3 scope (envB X scope s3) fp) _ _ _ _ at I4
  change PG (X.blk s3 H3 scope (envB X scope s3) fp) _ _ at pg
  change PTs (X.blk s3 H3 scope (envB X scope s3) fp) _ _ at pt
  change PE ((X.blk s3 H3 scope (envB X scope s3) fp).wish (OutB X s3 H3 scope (envB X scope s3) fp E)) _ _ at pe
  generalize envB X scope s3 = ce at *
  have out : ∀ u s', OutB X s3 H3 scope ce fp E u s' → notedBy (model X.prog X.w) X.A ce (fun e s2 => compPost (model X.prog X.w) X.A X.xe none (EP X pins σ Q) (.ref D) s3.heap.objs.size (.error e) s2) u s' := fun u s' o => block_out hS hf hex hx I3 hL (Nat.le_refl _) hF (fun b hb => (f3 b hb).1) o
  have st4 : tn 0 (pushCells (s3.heap.push { cls := .type "dict", data := .dict #[] }) scope.names) := T.keep _ _ _ st3 fun b _ o e => pushCells_keeps _ _ _ _ (Heap.get?_push_of_some _ e)
  have no4 : ∀ b ∈ fp, H3 b = none := fun b hb => (f3 b hb).1.1
  have frb : ∀ {σ' : L2.St} {H' : Hp} {s' : Shared}, L2.Inv (X.blk s3 H3 scope ce fp) [] σ' H' s' → (∀ b ∈ fp, H' b = none) → ∀ b ∈ fp, FpOk (X.blk s3 H3 scope ce fp) [] H' b := fun {σ' H' s'} I' hn b hb =>
    ⟨hn b hb, (I'.ok.exf b hb).1, I'.ok.exfs b hb, .inl hb, fun x c e => (I'.ok.exf b hb).2 x c e, fun p hp => by cases hp⟩
  obtain ⟨s4, e4⟩ : ∃ s4 : Shared, s4 = { s3 with heap := pushCells (s3.heap.push { cls := .type "dict", data := .dict #[] }) scope.names } := ⟨_, rfl⟩
  rw [← e4] at I4 ⊢
  have st4 : tn 0 s4.heap := by rw [e4]; exact st4
  have loop : codeAny (model X.prog X.w) X.A (.compLoop (.ListComp elt [⟨tg, iter, ifs, 0⟩] scope pos) 0 (.ref it) (.ref D) ce) (compPost (model X.prog X.w) X.A X.xe none (EP X pins σ Q) (.ref D) s3.heap.objs.size) s4 := by
    refine compLoop_any (fun n z => ∃ i H', L2.Inv (X.blk s3 H3 scope ce fp) [] (wipe σ (own.map (·.2))) H' z ∧ tn i z.heap ∧ (∀ b ∈ fp, H' b = none) ∧ W i n H') (fun n s5 hI => ?_) m0 ⟨0, H3, I4, st4, no4, w0⟩
    obtain ⟨i, H5, I5, st5, n5, w5⟩ := hI
    rcases turn i n H5 w5 with ⟨stop, qd⟩ | ⟨go, Nx, down, step⟩
    · refine thnF (T.done (X.blk s3 H3 scope ce fp) rfl rfl rfl hc i [] s5 _ H5 (fun _ _ => False) I5 (frb I5 n5) st5 stop) fun r s6 hr => ?_
      obtain ⟨er, I6⟩ := hr
      subst er
      have IX : L2.Inv X pins σ H5 s6 := I3.call' (ch := fp) I6.os I6.base I6.hok I6.bare fun b hb => let k := (f3 b hb).1; ⟨k.2.2.2.1, k.2.1, k.2.2.2.2.1, k.2.2.2.2.2⟩
      have nC : H5 s3.heap.objs.size = none := by
        have z : H5 ce.locals = none := I6.free
        rw [hL] at z
        exact z
      obtain ⟨m, hm, _⟩ := I6.loc
      have hm : s6.heap.Ns ce.locals m := hm
      rw [hL] at hm
      have k := I3.fpOk (Nat.le_refl _) nC
      exact ⟨m, hm, fun h' sb => ⟨.ref D, H5, IX.turned (t' := s6.toks) (fun b o hb e => (sb.2 b hb).trans e) k.1 k.2.1 k.2.2.2.1 k.2.2.2.2.1 k.2.2.2.2.2, rfl, qd⟩⟩
    · refine thnF (T.item (X.blk s3 H3 scope ce fp) rfl rfl rfl hc i [] s5 _ H5 (fun _ _ => False) I5 (frb I5 n5) st5 go) fun r s6 hr => ?_
      obtain ⟨u, er, h6⟩ := hr
      subst er
      refine thnF h6 fun _ s7 h7 => ?_
      obtain ⟨x, H7, I7, r7, y7, st7, n7⟩ := h7
      refine turn_out (R := compPost (model X.prog X.w) X.A X.xe none (EP X pins σ Q) (.ref D) s3.heap.objs.size) pg pt pe out (I7.pinned (frb I7 n7) (T.obj _ _ st7)) r7 (step x H7 y7) fun σ8 z H8 w8 I8 nx => ?_
      obtain ⟨m', lt, w'⟩ := down H8 nx
      have stay : ∀ b ∈ fp, ∀ o, s7.heap.get? b = some o → z.heap.get? b = some o ∧ H8 b = none := fun b hb o e =>
        let k := I8.pin (b, o) (List.mem_append_right _ (List.mem_append_right _ (mem_pinsAt hb e)))
        ⟨k.1, k.2.1⟩
      have ln : (wipe σ (own.map (·.2))).length = σ8.length := by rw [← w8, wipe_length]
      refine ⟨m', lt, i + 1, H8, (I8.unpinned (pins := [])).weak ln (fun j v e => ?_), T.keep _ _ _ st7 fun b hb o e => (stay b hb o e).1, fun b hb => ?_, w'⟩
      · rw [← w8] at e
        exact (wipe_some e).1
      · obtain ⟨o, e, _⟩ := T.obj _ _ st7 b hb
        exact (stay b hb o e).2
  exact codeAny_compStart_list loop (T.self X.A 0 _ _ _ st4 loop)
/-- what a callee lets out leaves the block -/
theorem passB {s : Shared} {H : Hp} {scope : Scope} {ce : Env} {fp : List Addr} : Passes (L2.CX X.prog X.w) ((X.blk s H scope ce fp).wish (OutB X s H scope ce fp E)) E := fun pl σ H1 s1 e s' I c => ⟨pl, σ, H1, s1, I.unwish, c⟩
end
end My
/-! text.index(sign) of a letter of the alphabet -/
namespace My
open PySem L2
/-- where a sign first stands in a text, if it stands there -/
def firstAt (x y : Str) : Nat := (Builtin.Str.occurrences x y 0 x.length 1).headD 0
theorem first_of {x y : Str} (h : Builtin.Str.occurrences x y 0 x.length 1 ≠ []) : ∃ r, Builtin.Str.occurrences x y 0 x.length 1 = firstAt x y :: r := by
  unfold firstAt
  cases e : Builtin.Str.occurrences x y 0 x.length 1 with
  | nil => exact absurd e h
  | cons a r => exact ⟨r, rfl⟩
end My
namespace My
open PySem L2
section
variable {P : Program} {w : World} {K : PySem.W.Frag} {mg : Str → Option Value} {base : Heap}
section
local macro_rules | `(tactic| walk_at "sl") => `(tactic| first | assumption | exact SqL.of upd_same | exact SqL.of (by assumption) | ((with_reducible apply sql_upd); (walk_at "sl"); (first | assumption | exact Ne.symm (by assumption))))
local macro_rules | `(tactic| walk_at "st") => `(tactic| first | assumption | exact SqT.of upd_same | exact SqT.of (by assumption))
local macro_rules | `(tactic| walk_at "sc") => `(tactic| first | rfl | assumption | (show (0 : Int) < _; first | assumption | decide | omega) | exact Or.inl ⟨by omega, by omega⟩ | exact Or.inr ⟨by omega, by omega⟩ | exact ⟨by decide, by decide⟩ | exact ⟨by decide, by decide, by decide⟩)
local macro_rules | `(tactic| walk_at "g1") => `(tactic| first
  | refine ⟨(_ : V), rfl, ?_⟩
  | refine ⟨(_ : Bool), rfl, ?_⟩
  | refine ⟨(_ : Int), (_ : Int), rfl, rfl, ?_⟩
  | refine ⟨(_ : Int), rfl, ?_⟩
  | refine ⟨(_ : Str), rfl, ?_⟩
  | refine ⟨(_ : Addr), (_ : List V), rfl, Or.inl (by walk_at "sl"), ?_⟩
  | refine ⟨(_ : Addr), (_ : List V), rfl, Or.inr (by walk_at "st"), ?_⟩
  | refine ⟨(_ : Addr), (_ : List V), (_ : Int), (_ : V), rfl, rfl, (by walk_at "sl"), (by first | rfl | assumption), ?_⟩
  | refine ⟨(_ : Addr), (_ : List V), (_ : Int), (_ : V), rfl, rfl, (by walk_at "st"), (by first | rfl | assumption), ?_⟩
  | refine ⟨(_ : Addr), (_ : List V), (_ : Int), (_ : Nat), rfl, rfl, upd_same, rfl, ?_⟩
  | refine ⟨(_ : Addr), (_ : List V), (_ : Int), (_ : Nat), rfl, rfl, (by assumption), rfl, ?_⟩
  | refine ⟨(_ : Addr), (_ : Addr), (_ : Addr), (_ : List (Str × V)), (_ : V), rfl, (by assumption), (by assumption), (by assumption), (by first | assumption | rfl), ?_⟩
  | refine Or.inl ⟨(_ : Int), rfl, ?_⟩
  | refine And.intro (by walk_at "sc") ?_
  | refine iteT ?_
  | refine iteF ?_)
def letters : Str := "abcdefghijklmnopqrstuvwxyz"
def isWord (t : Str) : Bool := (decide ((1 : Int) ≤ t.length) && decide ((t.length : Int) ≤ 8)) && t.cps.toList.all fun c => decide (c ∈ letters.cps.toList)
def spIsWord : Sp := fun vs H Q _ => ∃ t : Str, vs = [.str t] ∧ t.length ≤ 1000 ∧ ∀ H', Same H H' → Q (.bl (isWord t)) H'
theorem ok_is_word (T : Top K mg) : FnOk P w K mg base CX0 1 T.a_is_word T.fd_is_word ["text"] spIsWord := by
  refine T.F_is_word.ok sc_is_word (fun vs H Q E h => ?_) (fun cdv A outer s H vs Q E hr h => ?_)
  · obtain ⟨t, rfl, _⟩ := h
    rfl
  · obtain ⟨t, rfl, hl, k⟩ := h
    have hu := hu_of hr
    refine ⟨_, (pss_cons (ps_if (PW.pt (pw_or (pt_not (pt_val (pe_callB call_isi (by rfl) T.m_isinstance (by decide +kernel) (pa_cons (pv 0) (pa_cons (pe_bltn (v := .ty "str") (by rfl) T.m_str (by decide +kernel) rfl) pa_nil))))) (pw_or1 (pt_not (pt_chain op_le op_le pe_int (pe_callB call_len (by rfl) T.m_len (by decide +kernel) (pa_cons (pv 0) pa_nil)) (pe_glob rfl T.g_LONGEST_WORD T.r_LONGEST_WORD)))))) (pss_one (ps_ret pe_bl)) pss_nil)
      (pss_one (ps_ret (pe_callB (cr_all rfl) (by rfl) T.m_all (by decide +kernel) (pa_cons (pe_lc (own := [("letter", 1)]) (g := gName 1) (tt := tYes) rfl sc_is_word.nd (pi_str (pv 0)) (blkOk_by (N := N_is_word) (sc := defScope s_is_word) (by decide +kernel)) (fun _ _ _ _ _ => (pg_name (i := 1) sc_is_word.nd rfl (.inl rfl))) (fun _ _ _ _ _ => pts_nil) (fun _ _ _ _ _ => (pe_cmpR op_in_sign (pv 1) (pe_glob rfl T.g_LETTERS T.r_LETTERS) rfl))) pa_nil))))), ?_⟩
    repeat walk_at "g1"
    refine ⟨.str t, .ty "str", .type "str", .type "str", true, rfl, .ty _, .base (.str t), kit_ty (by decide +kernel), ?_⟩
    repeat walk_at "g1"
    refine ⟨_, _, rfl, ⟨by have := sizeLine_of (show t.length ≤ 1000000 by omega); omega, rfl⟩, ?_⟩
    have e1 : ∀ h : ¬ decide ((1 : Int) ≤ t.length) = true, isWord t = false := fun h => by
      unfold isWord
      rw [Bool.eq_false_iff.mpr h]
      rfl
    have e2 : ∀ h : ¬ decide ((t.length : Int) ≤ 8) = true, isWord t = false := fun h => by
      unfold isWord
      rw [Bool.eq_false_iff.mpr h, Bool.and_false]
      rfl
    repeat walk_at "g1"
    refine ite2 (fun h1 => ?_) (fun h1 => ?_)
    · repeat walk_at "g1"
      refine ite2 (fun h2 => ?_) (fun h2 => ?_)
      · have h2' : ¬ decide ((t.length : Int) ≤ 8) = true := by
          intro z
          rw [z] at h2
          exact absurd h2 (by decide)
        show Q (.bl false) H
        rw [← e2 h2']
        exact k H (Same.refl H)
      · have h2' : decide ((t.length : Int) ≤ 8) = true := by
          cases z : decide ((t.length : Int) ≤ 8) with
          | true => rfl
          | false => rw [z] at h2; exact absurd rfl h2
        refine ⟨.str t, rfl, t, rfl, fun D hD => lc_map walk_str (by show t.length ≤ _; omega) hD (fun i => V.bl (decide (t.cps.toList[i]?.getD 0 ∈ letters.cps.toList))) (fun _ _ => trivial) (fun i x H1 H2 hi s1 hy R r => ?_) (fun H1 s1 hd => ?_) gName_mono⟩
        · obtain ⟨rfl, c, hc, rfl⟩ := hy
          refine ⟨rfl, ?_⟩
          refine ⟨_, rfl, c, letters, rfl, rfl, ?_⟩
          have q := r _ (Same.refl _)
          rw [Array.getElem?_toList, hc] at q
          exact q
        · have el : (List.range t.cps.size).map (fun i => V.bl (decide (t.cps.toList[i]?.getD 0 ∈ letters.cps.toList))) = (t.cps.toList.map fun c => decide (c ∈ letters.cps.toList)).map V.bl := by
            rw [List.map_map]
            refine range_map t.cps.toList _ _ fun i x h => ?_
            rw [h]
            rfl
          refine ⟨D, _, rfl, SqL.of (by rw [hd, el]), ?_⟩
          have ew : isWord t = (t.cps.toList.map fun c => decide (c ∈ letters.cps.toList)).all id := by
            unfold isWord
            rw [h1, h2', List.all_map]
            rfl
          rw [← ew]
          exact k H1 s1
    · repeat walk_at "g1"
      show Q (.bl false) H
      rw [← e1 h1]
      exact k H (Same.refl H)
end
section
local macro_rules | `(tactic| walk_at "sl") => `(tactic| first | assumption | exact SqL.of upd_same | exact SqL.of (by assumption) | ((with_reducible apply sql_upd); (walk_at "sl"); (first | assumption | exact Ne.symm (by assumption))))
local macro_rules | `(tactic| walk_at "st") => `(tactic| first | assumption | exact SqT.of upd_same | exact SqT.of (by assumption))
local macro_rules | `(tactic| walk_at "sc") => `(tactic| first | rfl | assumption | (show (0 : Int) < _; first | assumption | decide | omega) | exact Or.inl ⟨by omega, by omega⟩ | exact Or.inr ⟨by omega, by omega⟩ | exact ⟨by decide, by decide⟩ | exact ⟨by decide, by decide, by decide⟩)
local macro_rules | `(tactic| walk_at "g1") => `(tactic| first
  | refine ⟨(_ : V), rfl, ?_⟩
  | refine ⟨(_ : Bool), rfl, ?_⟩
  | refine ⟨(_ : Int), (_ : Int), rfl, rfl, ?_⟩
  | refine ⟨(_ : Int), rfl, ?_⟩
  | refine ⟨(_ : Str), rfl, ?_⟩
  | refine ⟨(_ : Addr), (_ : List V), rfl, Or.inl (by walk_at "sl"), ?_⟩
  | refine ⟨(_ : Addr), (_ : List V), rfl, Or.inr (by walk_at "st"), ?_⟩
  | refine ⟨(_ : Addr), (_ : List V), (_ : Int), (_ : V), rfl, rfl, (by walk_at "sl"), (by first | rfl | assumption), ?_⟩
  | refine ⟨(_ : Addr), (_ : List V), (_ : Int), (_ : V), rfl, rfl, (by walk_at "st"), (by first | rfl | assumption), ?_⟩
  | refine ⟨(_ : Addr), (_ : List V), (_ : Int), (_ : Nat), rfl, rfl, upd_same, rfl, ?_⟩
  | refine ⟨(_ : Addr), (_ : List V), (_ : Int), (_ : Nat), rfl, rfl, (by assumption), rfl, ?_⟩
  | refine ⟨(_ : Addr), (_ : Addr), (_ : Addr), (_ : List (Str × V)), (_ : V), rfl, (by assumption), (by assumption), (by assumption), (by first | assumption | rfl), ?_⟩
  | refine Or.inl ⟨(_ : Int), rfl, ?_⟩
  | refine And.intro (by walk_at "sc") ?_
  | refine iteT ?_
  | refine iteF ?_)
/-! ### numbers -/
def isNum (n a b : Int) : Bool := decide (a ≤ n) && decide (n ≤ b)
def spIsNumber : Sp := fun vs H Q _ => ∃ n a b : Int, vs = [.int n, .int a, .int b] ∧ Q (.bl (isNum n a b)) H
theorem ok_is_number (T : Top K mg) : FnOk P w K mg base CX0 1 T.a_is_number T.fd_is_number ["number", "least", "greatest"] spIsNumber := by
  refine T.F_is_number.ok sc_is_number (fun vs H Q E h => ?_) (fun cdv A outer s H vs Q E hr h => ?_)
  · obtain ⟨n, a, b, rfl, _⟩ := h
    rfl
  · obtain ⟨n, a, b, rfl, k⟩ := h
    have hu := hu_of hr
    refine ⟨_, (pss_cons (ps_if (PW.pt (pw_or (pt_val (pe_callB call_isi (by rfl) T.m_isinstance (by decide +kernel) (pa_cons (pv 0) (pa_cons (pe_bltn (v := .ty "bool") (by rfl) T.m_bool (by decide +kernel) rfl) pa_nil)))) (pw_or1 (pt_not (pt_val (pe_callB call_isi (by rfl) T.m_isinstance (by decide +kernel) (pa_cons (pv 0) (pa_cons (pe_bltn (v := .ty "int") (by rfl) T.m_int (by decide +kernel) rfl) pa_nil)))))))) (pss_one (ps_ret pe_bl)) pss_nil)
      (pss_one (ps_ret (pe_chain op_le op_le (pv 1) (pv 0) (pv 2))))), ?_⟩
    repeat walk_at "g1"
    refine ⟨.int n, .ty "bool", .type "int", .type "bool", false, rfl, .ty _, .base (.int n), kit_ty (by decide +kernel), ?_⟩
    repeat walk_at "g1"
    refine ⟨.int n, .ty "int", .type "int", .type "int", true, rfl, .ty _, .base (.int n), kit_ty (by decide +kernel), ?_⟩
    repeat walk_at "g1"
    refine ite2 (fun h1 => ?_) (fun h1 => ?_)
    · repeat walk_at "g1"
      have e : isNum n a b = decide (n ≤ b) := by unfold isNum; rw [h1, Bool.true_and]
      rw [e] at k
      exact k
    · have e : isNum n a b = false := by unfold isNum; rw [Bool.eq_false_iff.mpr h1, Bool.false_and]
      rw [e] at k
      exact k
/-! ### the books of a card -/
def asc (bs : List Int) : Bool := (bs.zip (bs.drop 1)).all fun p => decide (p.1 < p.2)
def isBooks (bs : List Int) : Bool := decide (bs.length ≤ 6) && bs.all (fun b => isNum b 1 999) && asc bs
def spAreBooks (K : PySem.W.Frag) : Sp := fun vs H Q _ => ∃ (a : Addr) (bs : List Int), vs = [.ref a] ∧ SqT K H a (bs.map V.int) ∧ bs.length ≤ 1000 ∧ ∀ H', Same H H' → Q (.bl (isBooks bs)) H'
theorem cut1 (xs : List V) : cutV xs (some 1) none = xs.drop 1 := by
  unfold cutV
  rw [show HT.sIx xs.length 0 (some 1) = min 1 xs.length from HT.sIx_nat xs.length 0 1, HT.sIx_none]
  cases xs with
  | nil => rfl
  | cons x r =>
    rw [show min 1 (x :: r).length = 1 by rw [List.length_cons]; omega]
    exact List.take_of_length_le (by rw [List.length_drop]; exact Nat.le_refl _)
theorem gTup2_mono {K : PySem.W.Frag} {i j : Nat} : ∀ (x : V) (σ : St) (H : Hp) (A B : St → Hp → Prop), (∀ σ2 H2, A σ2 H2 → B σ2 H2) → gTup K 2 (gCons (gName i) (gCons (gName j) gNil)) x σ H A → gTup K 2 (gCons (gName i) (gCons (gName j) gNil)) x σ H B :=
  fun _ _ _ _ _ h ⟨a, xs, e, s, l, v, r, e2, v2, r2, e3, e4, q⟩ => ⟨a, xs, e, s, l, v, r, e2, v2, r2, e3, e4, h _ _ q⟩
theorem ok_are_books (T : Top K mg) : FnOk P w K mg base CX0 2 T.a_are_books T.fd_are_books ["books"] (spAreBooks K) := by
  refine T.F_are_books.ok sc_are_books (fun vs H Q E h => ?_) (fun cdv A outer s H vs Q E hr h => ?_)
  · obtain ⟨a, bs, rfl, _⟩ := h
    rfl
  · obtain ⟨a, bs, rfl, hS, hl, k⟩ := h
    have hu := hu_of hr
    refine ⟨_, (pss_cons (ps_if (PW.pt (pw_or (pt_not (pt_val (pe_callB call_isi (by rfl) T.m_isinstance (by decide +kernel) (pa_cons (pv 0) (pa_cons (pe_bltn (v := .ty "tuple") (by rfl) T.m_tuple (by decide +kernel) rfl) pa_nil))))) (pw_or1 (pt_cmpR op_gt (pe_callB call_len_seq (by rfl) T.m_len (by decide +kernel) (pa_cons (pv 0) pa_nil)) (pe_glob rfl T.g_MOST_BOOKS T.r_MOST_BOOKS) (nomark _))))) (pss_one (ps_ret pe_bl)) pss_nil)
      (pss_cons (ps_if (pt_not (pt_val (pe_callB (cr_all rfl) (by rfl) T.m_all (by decide +kernel) (pa_cons (pe_lc (own := [("book", 1)]) (g := gName 1) (tt := tYes) rfl sc_are_books.nd (pi_tup (pv 0)) (blkOk_by (N := N_are_books) (sc := defScope s_are_books) (by decide +kernel)) (fun _ _ _ _ _ => (pg_name (i := 1) sc_are_books.nd rfl (.inl rfl))) (fun _ _ _ _ _ => pts_nil) (fun _ _ _ _ _ => (pe_call (ok_is_number T) (hr.mono (by decide)) (by rfl) T.g_is_number T.F_is_number.kp (b_is_number T) .nil pass0 (pa_cons (pv 1) (pa_cons pe_int (pa_cons (pe_glob rfl T.g_LAST_BOOK T.r_LAST_BOOK) pa_nil)))))) pa_nil)))) (pss_one (ps_ret pe_bl)) pss_nil)
      (pss_one (ps_ret (pe_callB (cr_all rfl) (by rfl) T.m_all (by decide +kernel) (pa_cons (pe_lc (own := [("book", 1), ("later", 2)]) (g := gTup K 2 (gCons (gName 1) (gCons (gName 2) gNil))) (tt := tYes) rfl sc_are_books.nd (RZ.pi_zipA (by rfl) T.m_zip (pa_cons (pv 0) (pa_cons (pe_slice sl_tupA (pv 0) (po_some pe_int) po_none) pa_nil))) (blkOk_by (N := N_are_books) (sc := defScope s_are_books) (by decide +kernel)) (fun _ _ _ _ _ => (pg_tup rfl (pgs_cons (pg_name (i := 1) sc_are_books.nd rfl (.inl rfl)) (pgs_cons (pg_name (i := 2) sc_are_books.nd rfl (.inl rfl)) pgs_nil)))) (fun _ _ _ _ _ => pts_nil) (fun _ _ _ _ _ => (pe_cmpR op_lt (pv 1) (pv 2) (nomark _)))) pa_nil)))))), ?_⟩
    repeat walk_at "g1"
    refine ⟨.ref a, .ty "tuple", .type "tuple", .type "tuple", true, rfl, .ty _, ty_tup hS, kit_ty (by decide +kernel), ?_⟩
    repeat walk_at "g1"
    have hlen : (bs.map V.int).length = bs.length := List.length_map ..
    refine ite2 (fun h1 => ?_) (fun h1 => ?_)
    · repeat walk_at "g1"
      have e : isBooks bs = false := by
        have q := of_decide_eq_true h1
        rw [hlen] at q
        unfold isBooks
        rw [decide_eq_false (by omega), Bool.false_and, Bool.false_and]
      have q := k H (Same.refl H)
      rw [e] at q
      exact q
    · have h6 : decide (bs.length ≤ 6) = true := by
        refine decide_eq_true ?_
        have q := of_decide_eq_false (Bool.eq_false_iff.mpr h1)
        rw [hlen] at q
        omega
      -- all([is_number(book, 1, LAST_BOOK) for book in books])
      refine ⟨.ref a, rfl, a, rfl, ⟨_, hS⟩, fun D hD => lc_map walk_tup (by rw [hlen]; omega) hD (fun i => V.bl (isNum (bs[i]?.getD 0) 1 999)) (fun H1 s1 => s1.seqT hS) (fun i x H1 H2 hi s1 hy R r => ?_) (fun H1 s1 hd => ?_) gName_mono⟩
      · obtain ⟨rfl, hx⟩ := hy
        rw [List.getElem?_map] at hx
        obtain ⟨b, hb, rfl⟩ := Option.map_eq_some_iff.mp hx
        refine ⟨rfl, ?_⟩
        refine ⟨_, rfl, ?_⟩
        have q := r _ (Same.refl _)
        rw [hb] at q
        exact ⟨b, 1, 999, rfl, q⟩
      · have el : (List.range (bs.map V.int).length).map (fun i => V.bl (isNum (bs[i]?.getD 0) 1 999)) = (bs.map fun b => isNum b 1 999).map V.bl := by
          rw [hlen, List.map_map]
          refine range_map bs _ _ fun i x h => ?_
          rw [h]
          rfl
        rw [el] at hd
        refine ⟨D, _, rfl, SqL.of hd, ?_⟩
        repeat walk_at "g1"
        have eall : (bs.map fun b => isNum b 1 999).all id = bs.all fun b => isNum b 1 999 := by rw [List.all_map]; rfl
        rw [eall]
        cases h2 : bs.all fun b => isNum b 1 999 with
        | false =>
          repeat walk_at "g1"
          have e : isBooks bs = false := by
            unfold isBooks
            rw [h2, Bool.and_false, Bool.false_and]
          have q := k H1 s1
          rw [e] at q
          exact q
        | true =>
          repeat walk_at "g1"
          have hS1 := s1.seqT hS
          have asc0 : asc bs = (((List.range (min bs.length (bs.drop 1).length)).map fun i => decide (bs[i]?.getD 0 < (bs.drop 1)[i]?.getD 0)).all id) := by
            unfold asc
            rw [← List.length_zip, range_map (bs.zip (bs.drop 1)) (fun p => decide (p.1 < p.2)) _ fun i p h => ?_, List.all_map]
            · rfl
            · obtain ⟨q1, q2⟩ := List.getElem?_zip_eq_some.mp h
              rw [q1, q2]
              rfl
          have whole : ∀ (c : Addr) (H2 : Hp), Same H1 H2 → SqT K H2 c ((bs.map V.int).drop 1) → ∀ D2, H2 D2 = none → ∀ (Qd : Hp → Prop), (∀ H3, Same H1 H3 → SqL K H3 D2 (((List.range (min bs.length (bs.drop 1).length)).map fun i => decide (bs[i]?.getD 0 < (bs.drop 1)[i]?.getD 0)).map V.bl) → Qd H3) → _ :=
            fun c H2 s2 hC D2 hD2 Qd fin => lc_map (Qd := Qd) (σ := start N_are_books [.ref a]) (g := gTup K 2 (gCons (gName 1) (gCons (gName 2) gNil))) (te := tOp (rI0 fun i j => .bl (decide (i < j))) (tVar 1) (tVar 2)) (vs := [1, 2]) (walk_zipT (K := K) (a := a) (b := c) (xs := bs.map V.int) (ys := (bs.map V.int).drop 1) rfl) (by rw [hlen]; omega) hD2
              (fun i => V.bl (decide (bs[i]?.getD 0 < (bs.drop 1)[i]?.getD 0))) (fun H3 s3 => ⟨s3.seqT (s2.seqT hS1), s3.seqT hC⟩) (fun i x H3 H4 hi s3 hy R r => by
                obtain ⟨Tp, x1, x2, rfl, nT, rfl, e1, e2⟩ := hy
                replace e1 : (bs.map V.int)[i]? = some x1 := e1
                replace e2 : ((bs.map V.int).drop 1)[i]? = some x2 := e2
                rw [List.getElem?_map] at e1
                obtain ⟨b1, hb1, rfl⟩ := Option.map_eq_some_iff.mp e1
                rw [← List.map_drop, List.getElem?_map] at e2
                obtain ⟨b2, hb2, rfl⟩ := Option.map_eq_some_iff.mp e2
                refine ⟨Tp, _, rfl, SqT.of upd_same, rfl, _, _, rfl, _, _, rfl, rfl, rfl, ?_⟩
                refine ⟨_, rfl, _, rfl, b1, b2, rfl, rfl, ?_⟩
                have q := r (upd H3 Tp (.tup [.int b1, .int b2])) (same_new nT)
                rw [hb1, hb2] at q
                exact q) (fun H3 s3 hd3 => fin H3 (s2.trans s3) (SqL.of (by
                  rw [hd3, List.map_map]
                  rw [hlen, List.length_drop, hlen, List.length_drop]
                  rfl))) (gTup2_mono (K := K))
          have last : ∀ (H3 : Hp) (D2 : Addr), Same H1 H3 → SqL K H3 D2 (((List.range (min bs.length (bs.drop 1).length)).map fun i => decide (bs[i]?.getD 0 < (bs.drop 1)[i]?.getD 0)).map V.bl) → rAll K [.ref D2] H3 Q := fun H3 D2 s3 hd3 => by
            refine ⟨D2, _, rfl, hd3, ?_⟩
            rw [← asc0]
            have e : isBooks bs = asc bs := by
              unfold isBooks
              rw [h6, h2, Bool.true_and, Bool.true_and]
            rw [← e]
            exact k H3 (s1.trans s3)
          refine ⟨a, _, rfl, hS1, fun hw => ?_, fun hw c hc => ?_⟩
          · have hC : SqT K H1 a ((bs.map V.int).drop 1) := by
              rw [← cut1]
              have e : cutV (bs.map V.int) (some 1) none = bs.map V.int := by
                unfold cutV
                rw [hw.1, hw.2, Nat.sub_zero, List.drop_zero]
                exact List.take_length
              rw [e]
              exact hS1
            exact ⟨a, a, _, _, rfl, Or.inr ⟨hS1, hC, fun D2 hD2 => whole a H1 (Same.refl _) hC D2 hD2 _ fun H3 s3 q => last H3 D2 s3 q⟩⟩
          · have hC : SqT K (upd H1 c (.tup (cutV (bs.map V.int) (some 1) none))) c ((bs.map V.int).drop 1) := by
              rw [← cut1]
              exact SqT.of upd_same
            exact ⟨a, c, _, _, rfl, Or.inr ⟨(same_new hc).seqT hS1, hC, fun D2 hD2 => whole c _ (same_new hc) hC D2 hD2 _ fun H3 s3 q => last H3 D2 s3 q⟩⟩

/-! ### see, also -/
theorem dec_str {a b : Str} : (decide (V.str a = V.str b)) = decide (a = b) := by
  by_cases h : a = b
  · rw [decide_eq_true h, h]
    exact decide_eq_true rfl
  · rw [decide_eq_false h]
    exact decide_eq_false fun z => h (V.str.inj z)
def isTarget (see heading : Str) : Bool := decide (see = "") || (isWord see && !decide (see = heading))
def spIsTarget : Sp := fun vs H Q _ => ∃ a b : Str, vs = [.str a, .str b] ∧ a.length ≤ 1000 ∧ ∀ H', Same H H' → Q (.bl (isTarget a b)) H'
theorem ok_is_target (T : Top K mg) : FnOk P w K mg base CX0 2 T.a_is_target T.fd_is_target ["see", "heading"] spIsTarget := by
  refine T.F_is_target.ok sc_is_target (fun vs H Q E h => ?_) (fun cdv A outer s H vs Q E hr h => ?_)
  · obtain ⟨a, b, rfl, _⟩ := h
    rfl
  · obtain ⟨a, b, rfl, hl, k⟩ := h
    have hu := hu_of hr
    refine ⟨_, (pss_one (ps_ret (pe_or (pe_cmpR op_eq (pv 0) pe_str (nomark _)) (pe_one (pe_and (pe_call (ok_is_word T) (hr.mono (by decide)) (by rfl) T.g_is_word T.F_is_word.kp (b_is_word T) .nil pass0 (pa_cons (pv 0) pa_nil)) (pe_one (pe_cmpR op_ne (pv 0) (pv 1) (nomark _)))))))), ?_⟩
    repeat walk_at "g1"
    have e0 : (decide (V.str a = V.str "")) = decide (a = "") := by
      by_cases h : a = ""
      · rw [decide_eq_true h, h]
        exact decide_eq_true rfl
      · rw [decide_eq_false h]
        exact decide_eq_false fun z => h (V.str.inj z)
    have e1 : (decide (V.str a = V.str b)) = decide (a = b) := by
      by_cases h : a = b
      · rw [decide_eq_true h, h]
        exact decide_eq_true rfl
      · rw [decide_eq_false h]
        exact decide_eq_false fun z => h (V.str.inj z)
    refine ite2 (fun h1 => ?_) (fun h1 => ?_)
    · rw [show (Str.ofString "") = ("" : Str) from rfl, e0] at h1
      have e : isTarget a b = true := by
        unfold isTarget
        rw [h1, Bool.true_or]
      have q := k H (Same.refl H)
      rw [e] at q
      exact q
    · rw [show (Str.ofString "") = ("" : Str) from rfl, e0] at h1
      have eT : isTarget a b = (isWord a && !decide (a = b)) := by
        unfold isTarget
        rw [Bool.eq_false_iff.mpr h1, Bool.false_or]
      rw [eT] at k
      repeat walk_at "g1"
      intro H1 s1
      cases hw : isWord a with
      | false =>
        repeat walk_at "g1"
        have q := k H1 s1
        rw [hw, Bool.false_and] at q
        exact q
      | true =>
        repeat walk_at "g1"
        have q := k H1 s1
        rw [hw, Bool.true_and, ← e1] at q
        exact q
theorem nodup_le1 {ws : List Str} (h : ws.length ≤ 1) : ws.Nodup := by
  match ws, h with
  | [], _ => exact List.nodup_nil
  | [x], _ => exact List.nodup_cons.mpr ⟨by simp, List.nodup_nil⟩
theorem nodup_eq : ∀ {ws ks : List Str}, ks.Nodup → (∀ k, k ∈ ks ↔ k ∈ ws) → ks.length ≤ ws.length ∧ (ks.length = ws.length ↔ ws.Nodup)
  | [], ks, h, e => by
    have : ks = [] := List.eq_nil_iff_forall_not_mem.mpr fun k z => absurd ((e k).mp z) (List.not_mem_nil)
    subst this
    exact ⟨Nat.le_refl _, fun _ => List.nodup_nil, fun _ => rfl⟩
  | x :: r, ks, h, e => by
    by_cases hx : x ∈ r
    · obtain ⟨a, _⟩ := nodup_eq (ws := r) h fun k => (e k).trans ⟨fun z => (List.mem_cons.mp z).elim (fun y => y ▸ hx) id, List.mem_cons_of_mem _⟩
      refine ⟨Nat.le_succ_of_le a, fun q => ?_, fun q => absurd hx (List.nodup_cons.mp q).1⟩
      rw [List.length_cons] at q
      omega
    · have hm : x ∈ ks := (e x).mpr (List.mem_cons_self ..)
      have hl := List.length_erase_of_mem hm
      have hp := List.length_pos_of_mem hm
      obtain ⟨a, b⟩ := nodup_eq (ws := r) (h.erase x) fun k => by
        rw [h.mem_erase_iff, e k, List.mem_cons]
        exact ⟨fun ⟨n, z⟩ => z.elim (fun y => absurd y n) id, fun z => ⟨fun y => hx (y ▸ z), .inr z⟩⟩
      rw [List.length_cons, List.nodup_cons]
      refine ⟨by omega, fun q => ⟨hx, b.mp (by omega)⟩, fun q => ?_⟩
      have := b.mpr q.2
      omega
def isFurther (ws : List Str) (heading : Str) : Bool := decide (ws.length ≤ 4) && ws.all (fun x => isWord x && !decide (x = heading)) && decide ws.Nodup
def spAreFurther (K : PySem.W.Frag) : Sp := fun vs H Q _ => ∃ (a : Addr) (ws : List Str) (b : Str), vs = [.ref a, .str b] ∧ SqT K H a (ws.map V.str) ∧ ws.length ≤ 1000 ∧ (∀ x ∈ ws, x.length ≤ 1000) ∧ ∀ H', Same H H' → Q (.bl (isFurther ws b)) H'
theorem ok_are_further (T : Top K mg) : FnOk P w K mg base CX0 2 T.a_are_further T.fd_are_further ["also", "heading"] (spAreFurther K) := by
  refine T.F_are_further.ok sc_are_further (fun vs H Q E h => ?_) (fun cdv A outer s H vs Q E hr h => ?_)
  · obtain ⟨a, ws, b, rfl, _⟩ := h
    rfl
  · obtain ⟨a, ws, b, rfl, hS, hl, hx, k⟩ := h
    have hu := hu_of hr
    refine ⟨_, (pss_cons (ps_if (PW.pt (pw_or (pt_not (pt_val (pe_callB call_isi (by rfl) T.m_isinstance (by decide +kernel) (pa_cons (pv 0) (pa_cons (pe_bltn (v := .ty "tuple") (by rfl) T.m_tuple (by decide +kernel) rfl) pa_nil))))) (pw_or1 (pt_cmpR op_gt (pe_callB call_len_seq (by rfl) T.m_len (by decide +kernel) (pa_cons (pv 0) pa_nil)) (pe_glob rfl T.g_MOST_ALSO T.r_MOST_ALSO) (nomark _))))) (pss_one (ps_ret pe_bl)) pss_nil)
      (pss_cons (ps_if (pt_not (pt_val (pe_callB (cr_all rfl) (by rfl) T.m_all (by decide +kernel) (pa_cons (pe_lc (own := [("word", 2)]) (g := gName 2) (tt := tYes) rfl sc_are_further.nd (pi_tup (pv 0)) (blkOk_by (N := N_are_further) (sc := defScope s_are_further) (by decide +kernel)) (fun _ _ _ _ _ => (pg_name (i := 2) sc_are_further.nd rfl (.inl rfl))) (fun _ _ _ _ _ => pts_nil) (fun _ _ _ _ _ => (pe_and (pe_call (ok_is_word T) (hr.mono (by decide)) (by rfl) T.g_is_word T.F_is_word.kp (b_is_word T) .nil pass0 (pa_cons (pv 2) pa_nil)) (pe_one (pe_cmpR op_ne (pv 2) (pv 1) (nomark _)))))) pa_nil)))) (pss_one (ps_ret pe_bl)) pss_nil)
      (pss_one (ps_ret (pe_cmpR op_eq (pe_callB call_lenSS (by rfl) T.m_len (by decide +kernel) (pa_cons (pe_callTy (call_setTSK (K := K) (P := P) (w := w) rfl rfl rfl rfl) (by rfl) T.m_set (by decide +kernel) (pa_cons (pv 0) pa_nil)) pa_nil)) (pe_callB call_len_seq (by rfl) T.m_len (by decide +kernel) (pa_cons (pv 0) pa_nil)) (nomark _)))))), ?_⟩
    repeat walk_at "g1"
    refine ⟨.ref a, .ty "tuple", .type "tuple", .type "tuple", true, rfl, .ty _, ty_tup hS, kit_ty (by decide +kernel), ?_⟩
    repeat walk_at "g1"
    have hlen : (ws.map V.str).length = ws.length := List.length_map ..
    refine ite2 (fun h1 => ?_) (fun h1 => ?_)
    · have q := of_decide_eq_true h1
      rw [hlen] at q
      have h4 : isFurther ws b = false := by
        unfold isFurther
        rw [decide_eq_false (by omega), Bool.false_and, Bool.false_and]
      have k1 := k H (Same.refl H)
      rw [h4] at k1
      repeat walk_at "g1"
      exact k1
    · have hl4 : ws.length ≤ 4 := by
        have q := of_decide_eq_false (Bool.eq_false_iff.mpr fun z => h1 z)
        rw [hlen] at q
        omega
      refine ⟨_, rfl, a, rfl, ⟨_, hS⟩, fun D hD => lc_map walk_tup (by rw [hlen]; omega) hD (fun i => V.bl (isWord (ws[i]?.getD ("" : Str)) && !decide ((ws[i]?.getD ("" : Str)) = b))) (fun H1 s1 => s1.seqT hS) (fun i x H1 H2 hi s1 hy R r => ?_) (fun H1 s1 hd => ?_) gName_mono⟩
      · obtain ⟨rfl, hv⟩ := hy
        rw [List.getElem?_map] at hv
        obtain ⟨z, hz, rfl⟩ := Option.map_eq_some_iff.mp hv
        rw [hz] at r
        refine ⟨rfl, ?_⟩
        refine ⟨_, rfl, z, rfl, hx z (List.mem_of_getElem? hz), fun H3 s3 => ?_⟩
        refine ⟨_, rfl, ?_⟩
        have q := r H3 s3
        cases hw : isWord z with
        | false =>
          repeat walk_at "g1"
          rw [show (some z).getD ("" : Str) = z from rfl, hw, Bool.false_and] at q
          exact q
        | true =>
          repeat walk_at "g1"
          rw [show (some z).getD ("" : Str) = z from rfl, hw, Bool.true_and, ← dec_str] at q
          exact q
      · have el : (List.range (ws.map V.str).length).map (fun i => V.bl (isWord (ws[i]?.getD ("" : Str)) && !decide ((ws[i]?.getD ("" : Str)) = b))) = (ws.map fun x => isWord x && !decide (x = b)).map V.bl := by
          rw [hlen, List.map_map]
          refine range_map ws _ _ fun i x h => ?_
          rw [h]
          rfl
        rw [el] at hd
        refine ⟨D, _, rfl, SqL.of hd, ?_⟩
        have eall : (ws.map fun x => isWord x && !decide (x = b)).all id = ws.all fun x => isWord x && !decide (x = b) := by rw [List.all_map]; rfl
        rw [eall]
        have h4 : decide (ws.length ≤ 4) = true := decide_eq_true (by omega)
        have eT : isFurther ws b = ((ws.all fun x => isWord x && !decide (x = b)) && decide ws.Nodup) := by
          unfold isFurther
          rw [h4, Bool.true_and]
        cases h2 : ws.all fun x => isWord x && !decide (x = b) with
        | false =>
          repeat walk_at "g1"
          have q := k H1 s1
          rw [eT, h2, Bool.false_and] at q
          exact q
        | true =>
          repeat walk_at "g1"
          refine ⟨a, ws, rfl, s1.seqT hS, by omega, fun p ks hp hnd hks => ?_⟩
          obtain ⟨n1, n2⟩ := nodup_eq hnd hks
          refine ⟨p, _, ks.length, rfl, upd_same, by omega, ?_⟩
          have s2 := s1.trans (same_new (o := SetSO P w p (fun j => decide (j ∈ ws)) ks.length) hp)
          refine ⟨_, rfl, a, _, rfl, .inr (s2.seqT hS), ?_⟩
          have q := k _ s2
          rw [eT, h2, Bool.true_and] at q
          refine ⟨rfl, ?_⟩
          have e : decide (V.int (ks.length : Int) = V.int ((ws.map V.str).length : Int)) = decide ws.Nodup := by
            rw [hlen]
            by_cases z : ws.Nodup
            · rw [decide_eq_true z, decide_eq_true (by rw [n2.mpr z])]
            · rw [decide_eq_false z, decide_eq_false fun y => z (n2.mp (by have := V.int.inj y; omega))]
          rw [e]
          exact q
end
section
local macro_rules | `(tactic| walk_at "sl") => `(tactic| first | assumption | exact SqL.of upd_same | exact SqL.of (by assumption) | ((with_reducible apply sql_upd); (walk_at "sl"); (first | assumption | exact Ne.symm (by assumption))))
local macro_rules | `(tactic| walk_at "st") => `(tactic| first | assumption | exact SqT.of upd_same | exact SqT.of (by assumption))
local macro_rules | `(tactic| walk_at "sc") => `(tactic| first | rfl | assumption | (show (0 : Int) < _; first | assumption | decide | omega) | exact Or.inl ⟨by omega, by omega⟩ | exact Or.inr ⟨by omega, by omega⟩ | exact ⟨by decide, by decide⟩ | exact ⟨by decide, by decide, by decide⟩)
local macro_rules | `(tactic| walk_at "g1") => `(tactic| first
  | refine ⟨(_ : V), rfl, ?_⟩
  | refine ⟨(_ : Bool), rfl, ?_⟩
  | refine ⟨(_ : Int), (_ : Int), rfl, rfl, ?_⟩
  | refine ⟨(_ : Int), rfl, ?_⟩
  | refine ⟨(_ : Str), rfl, ?_⟩
  | refine ⟨(_ : Addr), (_ : List V), rfl, Or.inl (by walk_at "sl"), ?_⟩
  | refine ⟨(_ : Addr), (_ : List V), rfl, Or.inr (by walk_at "st"), ?_⟩
  | refine ⟨(_ : Addr), (_ : List V), (_ : Int), (_ : V), rfl, rfl, (by walk_at "sl"), (by first | rfl | assumption), ?_⟩
  | refine ⟨(_ : Addr), (_ : List V), (_ : Int), (_ : V), rfl, rfl, (by walk_at "st"), (by first | rfl | assumption), ?_⟩
  | refine ⟨(_ : Addr), (_ : List V), (_ : Int), (_ : Nat), rfl, rfl, upd_same, rfl, ?_⟩
  | refine ⟨(_ : Addr), (_ : List V), (_ : Int), (_ : Nat), rfl, rfl, (by assumption), rfl, ?_⟩
  | refine ⟨(_ : Addr), (_ : Addr), (_ : Addr), (_ : List (Str × V)), (_ : V), rfl, (by assumption), (by assumption), (by assumption), (by first | assumption | rfl), ?_⟩
  | refine Or.inl ⟨(_ : Int), rfl, ?_⟩
  | refine And.intro (by walk_at "sc") ?_
  | refine iteT ?_
  | refine iteF ?_)
/-! ### cards -/
structure CD where
  heading : Str
  books : List Int
  see : Str
  also : List Str
/-- a card that is as it must be -/
structure CD.Good (c : CD) : Prop where
  h : isWord c.heading = true
  b : isBooks c.books = true
  t : isTarget c.see c.heading = true
  e : c.see = "" ∨ (c.books = [] ∧ c.also = [])
  a : isFurther c.also c.heading = true
theorem CD.Good.lh {c : CD} (g : c.Good) : c.heading.length ≤ 8 := by
  have q := g.h
  unfold isWord at q
  rw [Bool.and_eq_true, Bool.and_eq_true] at q
  have := of_decide_eq_true q.1.2
  omega
theorem word_len {x : Str} (g : isWord x = true) : x.length ≤ 8 := by
  unfold isWord at g
  rw [Bool.and_eq_true, Bool.and_eq_true] at g
  have := of_decide_eq_true g.1.2
  omega
theorem CD.Good.ls {c : CD} (g : c.Good) : c.see.length ≤ 8 := by
  have q := g.t
  unfold isTarget at q
  rw [Bool.or_eq_true, Bool.and_eq_true] at q
  rcases q with q | q
  · rw [of_decide_eq_true q]
    decide
  · exact word_len q.1
theorem CD.Good.lb {c : CD} (g : c.Good) : c.books.length ≤ 6 := by
  have q := g.b
  unfold isBooks at q
  rw [Bool.and_eq_true, Bool.and_eq_true] at q
  exact of_decide_eq_true q.1.1
theorem CD.Good.la {c : CD} (g : c.Good) : c.also.length ≤ 4 := by
  have q := g.a
  unfold isFurther at q
  rw [Bool.and_eq_true, Bool.and_eq_true] at q
  exact of_decide_eq_true q.1.1
theorem CD.Good.wa {c : CD} (g : c.Good) : ∀ x ∈ c.also, isWord x = true := fun x hx => by
  have q := g.a
  unfold isFurther at q
  rw [Bool.and_eq_true, Bool.and_eq_true] at q
  have q2 := List.all_eq_true.mp q.1.2 x hx
  rw [Bool.and_eq_true] at q2
  exact q2.1
/-! ### a card as it stands -/
def cardFlds (h b s a : V) : List (Str × V) := putF "_also" a (putF "_see" s (putF "_books" b (putF "_heading" h [])))
theorem cf_eq (h b s a : V) : cardFlds h b s a = ([(("_heading" : Str), h), (("_books" : Str), b), (("_see" : Str), s), (("_also" : Str), a)] : List (Str × V)) := by
  rfl
theorem cf_heading (h b s a : V) : (cardFlds h b s a).lookup ("_heading" : Str) = some h := by rw [cf_eq]; rfl
theorem cf_books (h b s a : V) : (cardFlds h b s a).lookup ("_books" : Str) = some b := by rw [cf_eq]; rfl
theorem cf_see (h b s a : V) : (cardFlds h b s a).lookup ("_see" : Str) = some s := by rw [cf_eq]; rfl
theorem cf_also (h b s a : V) : (cardFlds h b s a).lookup ("_also" : Str) = some a := by rw [cf_eq]; rfl
/-- the card c of the class C stands at p -/
def CardAt (K : PySem.W.Frag) (C : Addr) (H : Hp) (p : Addr) (c : CD) : Prop := ∃ (dx b a : Addr), H p = some (.ins C dx (cardFlds (.str c.heading) (.ref b) (.str c.see) (.ref a))) ∧ SqT K H b (c.books.map V.int) ∧ SqT K H a (c.also.map V.str)
theorem CardAt.imm {C : Addr} {H H' : Hp} {p : Addr} {c : CD} (h : CardAt K C H p c) (s : Imm H H') : CardAt K C H' p c := by
  obtain ⟨dx, b, a, h1, h2, h3⟩ := h
  exact ⟨dx, b, a, s _ _ h1 rfl, s.seqT h2, s.seqT h3⟩
theorem CardAt.same {C : Addr} {H H' : Hp} {p : Addr} {c : CD} (h : CardAt K C H p c) (s : Same H H') : CardAt K C H' p c := h.imm s.imm
/-- the first part of a card that is wrong -/
def headingP : Str := "heading"
def booksP : Str := "books"
def seeP : Str := "see"
def alsoP : Str := "also"
def wrongP (c : CD) : Option Str :=
  if isWord c.heading = false then some headingP
  else if isBooks c.books = false then some booksP
  else if isTarget c.see c.heading = false then some seeP
  else if ¬ c.see = "" ∧ (¬ c.books = [] ∨ ¬ c.also = []) then some seeP
  else if isFurther c.also c.heading = false then some alsoP
  else none
def strOV : Option Str → V
  | none => .non
  | some t => .str t
/-- what is asked of the parts of a card: that they are not too long -/
structure Room4 (c : CD) : Prop where
  h : c.heading.length ≤ 1000
  s : c.see.length ≤ 1000
  b : c.books.length ≤ 1000
  a : c.also.length ≤ 1000
  x : ∀ y ∈ c.also, y.length ≤ 1000
  o : ∀ y ∈ c.also, PyData.strOk y = true
theorem ints_nil (ns : List Int) : (!(PyData.tuple (ns.map PyData.int)).eqv (.tuple [])) = !decide (ns = []) := by
  cases ns <;> rfl
theorem strs_nil (ns : List Str) : (!(PyData.tuple (ns.map PyData.str)).eqv (.tuple [])) = !decide (ns = []) := by
  cases ns <;> rfl
def spWrongPartX (K : PySem.W.Frag) : Sp := fun vs H Q _ => ∃ (c : CD) (b a : Addr), vs = [.str c.heading, .ref b, .str c.see, .ref a] ∧ Room4 c ∧ SqT K H b (c.books.map V.int) ∧ SqT K H a (c.also.map V.str) ∧ ∀ H', Same H H' → Q (strOV (wrongP c)) H'
theorem ok_wrong_part (T : Top K mg) : FnOk P w K mg base CX0 3 T.a_wrong_part T.fd_wrong_part ["heading", "books", "see", "also"] (spWrongPartX K) := by
  refine T.F_wrong_part.ok sc_wrong_part (fun vs H Q E h => ?_) (fun cdv A outer s H vs Q E hr h => ?_)
  · obtain ⟨c, b, a, rfl, _⟩ := h
    rfl
  · obtain ⟨c, b, a, rfl, g, hB, hA, k⟩ := h
    have hu := hu_of hr
    refine ⟨_, (pss_cons (ps_if (pt_not (pt_val (pe_call (ok_is_word T) (hr.mono (by decide)) (by rfl) T.g_is_word T.F_is_word.kp (b_is_word T) .nil pass0 (pa_cons (pv 0) pa_nil)))) (pss_one (ps_ret pe_str)) pss_nil)
      (pss_cons (ps_if (pt_not (pt_val (pe_call (ok_are_books T) (hr.mono (by decide)) (by rfl) T.g_are_books T.F_are_books.kp (b_are_books T) .nil pass0 (pa_cons (pv 1) pa_nil)))) (pss_one (ps_ret pe_str)) pss_nil)
      (pss_cons (ps_if (pt_not (pt_val (pe_call (ok_is_target T) (hr.mono (by decide)) (by rfl) T.g_is_target T.F_is_target.kp (b_is_target T) .nil pass0 (pa_cons (pv 2) (pa_cons (pv 0) pa_nil))))) (pss_one (ps_ret pe_str)) pss_nil)
      (pss_cons (ps_if (PW.pt (pw_and (pt_cmpR op_ne (pv 2) pe_str (nomark _)) (pw_and1 (PW.pt (pw_or (pt_cmpR (op_neD hr.units) (pv 1) (pe_tup pa_nil) (nomark _)) (pw_or1 (pt_cmpR (op_neD hr.units) (pv 3) (pe_tup pa_nil) (nomark _)))))))) (pss_one (ps_ret pe_str)) pss_nil)
      (pss_cons (ps_if (pt_not (pt_val (pe_call (ok_are_further T) (hr.mono (by decide)) (by rfl) T.g_are_further T.F_are_further.kp (b_are_further T) .nil pass0 (pa_cons (pv 3) (pa_cons (pv 0) pa_nil))))) (pss_one (ps_ret pe_str)) pss_nil)
      (pss_one (ps_ret pe_non))))))), ?_⟩
    have kk : ∀ H', Same H H' → Q (strOV (wrongP c)) H' := k
    unfold wrongP at kk
    refine ⟨_, rfl, c.heading, rfl, g.h, fun H1 s1 => ?_⟩
    cases h1 : isWord c.heading with
    | false =>
      rw [if_pos h1] at kk
      repeat walk_at "g1"
      exact kk H1 s1
    | true =>
    rw [if_neg (by rw [h1]; simp)] at kk
    repeat walk_at "g1"
    refine ⟨b, c.books, rfl, s1.seqT hB, g.b, fun H2 s2 => ?_⟩
    have s12 := s1.trans s2
    cases h2 : isBooks c.books with
    | false =>
      rw [if_pos h2] at kk
      repeat walk_at "g1"
      exact kk H2 s12
    | true =>
    rw [if_neg (by rw [h2]; simp)] at kk
    repeat walk_at "g1"
    refine ⟨c.see, c.heading, rfl, g.s, fun H3 s3 => ?_⟩
    have s13 := s12.trans s3
    cases h3 : isTarget c.see c.heading with
    | false =>
      rw [if_pos h3] at kk
      repeat walk_at "g1"
      exact kk H3 s13
    | true =>
    rw [if_neg (by rw [h3]; simp)] at kk
    repeat walk_at "g1"
    by_cases hs : c.see = ""
    · have e : (!decide (V.str c.see = V.str (Str.ofString ""))) = false := by
        rw [hs]
        exact congrArg _ (decide_eq_true rfl)
      rw [e]
      rw [if_neg (fun z => z.1 hs)] at kk
      refine iteF ?_
      repeat walk_at "g1"
      refine ⟨a, c.also, c.heading, rfl, s13.seqT hA, g.a, g.x, fun H5 s5 => ?_⟩
      have s15 := s13.trans s5
      cases h5 : isFurther c.also c.heading with
      | false =>
        rw [if_pos h5] at kk
        repeat walk_at "g1"
        exact kk H5 s15
      | true =>
        rw [if_neg (by rw [h5]; simp)] at kk
        repeat walk_at "g1"
        exact kk H5 s15
    · have e : (!decide (V.str c.see = V.str (Str.ofString ""))) = true := by
        have q : decide (V.str c.see = V.str (Str.ofString "")) = false := decide_eq_false fun z => hs (V.str.inj z)
        rw [q]
        rfl
      rw [e]
      refine iteT ?_
      refine ⟨_, rfl, Nat.zero_le _, fun p hp => ⟨.tuple (c.books.map .int), .tuple [], dp_tInts ((same_new hp).seqT (s13.seqT hB)), dp_nil (SqT.of upd_same), sh_tInts _, rfl, ?_⟩⟩
      have s14 : Same H (upd H3 p (.tup [])) := s13.trans (same_new hp)
      generalize upd H3 p (.tup []) = H4 at *
      rw [ints_nil]
      by_cases hb : c.books = []
      · rw [decide_eq_true hb]
        repeat walk_at "g1"
        refine ⟨Nat.zero_le _, fun p2 hp2 => ⟨.tuple (c.also.map .str), .tuple [], dp_tStrs ((same_new hp2).seqT (s14.seqT hA)), dp_nil (SqT.of upd_same), sh_tStrs _ g.o, rfl, ?_⟩⟩
        have s15 : Same H (upd H4 p2 (.tup [])) := s14.trans (same_new hp2)
        generalize upd H4 p2 (.tup []) = H5 at *
        rw [strs_nil]
        by_cases ha : c.also = []
        · rw [decide_eq_true ha]
          rw [if_neg (fun z => z.2.elim (fun y => y hb) fun y => y ha)] at kk
          repeat walk_at "g1"
          refine ⟨a, c.also, c.heading, rfl, s15.seqT hA, g.a, g.x, fun H6 s6 => ?_⟩
          have s16 := s15.trans s6
          cases h5 : isFurther c.also c.heading with
          | false =>
            rw [if_pos h5] at kk
            repeat walk_at "g1"
            exact kk H6 s16
          | true =>
            rw [if_neg (by rw [h5]; simp)] at kk
            repeat walk_at "g1"
            exact kk H6 s16
        · rw [decide_eq_false ha]
          rw [if_pos ⟨hs, .inr ha⟩] at kk
          repeat walk_at "g1"
          exact kk H5 s15
      · rw [decide_eq_false hb]
        rw [if_pos ⟨hs, .inl hb⟩] at kk
        repeat walk_at "g1"
        exact kk H4 s14
end
section
local macro_rules | `(tactic| walk_at "sl") => `(tactic| first | assumption | exact SqL.of upd_same | exact SqL.of (by assumption) | ((with_reducible apply sql_upd); (walk_at "sl"); (first | assumption | exact Ne.symm (by assumption))))
local macro_rules | `(tactic| walk_at "st") => `(tactic| first | assumption | exact SqT.of upd_same | exact SqT.of (by assumption))
local macro_rules | `(tactic| walk_at "sc") => `(tactic| first | rfl | assumption | (show (0 : Int) < _; first | assumption | decide | omega) | exact Or.inl ⟨by omega, by omega⟩ | exact Or.inr ⟨by omega, by omega⟩ | exact ⟨by decide, by decide⟩ | exact ⟨by decide, by decide, by decide⟩)
local macro_rules | `(tactic| walk_at "g1") => `(tactic| first
  | refine ⟨(_ : V), rfl, ?_⟩
  | refine ⟨(_ : Bool), rfl, ?_⟩
  | refine ⟨(_ : Int), (_ : Int), rfl, rfl, ?_⟩
  | refine ⟨(_ : Int), rfl, ?_⟩
  | refine ⟨(_ : Str), rfl, ?_⟩
  | refine ⟨(_ : Addr), (_ : List V), rfl, Or.inl (by walk_at "sl"), ?_⟩
  | refine ⟨(_ : Addr), (_ : List V), rfl, Or.inr (by walk_at "st"), ?_⟩
  | refine ⟨(_ : Addr), (_ : List V), (_ : Int), (_ : V), rfl, rfl, (by walk_at "sl"), (by first | rfl | assumption), ?_⟩
  | refine ⟨(_ : Addr), (_ : List V), (_ : Int), (_ : V), rfl, rfl, (by walk_at "st"), (by first | rfl | assumption), ?_⟩
  | refine ⟨(_ : Addr), (_ : List V), (_ : Int), (_ : Nat), rfl, rfl, upd_same, rfl, ?_⟩
  | refine ⟨(_ : Addr), (_ : List V), (_ : Int), (_ : Nat), rfl, rfl, (by assumption), rfl, ?_⟩
  | refine ⟨(_ : Addr), (_ : Addr), (_ : Addr), (_ : List (Str × V)), (_ : V), rfl, (by assumption), (by assumption), (by assumption), (by first | assumption | rfl), ?_⟩
  | refine Or.inl ⟨(_ : Int), rfl, ?_⟩
  | refine And.intro (by walk_at "sc") ?_
  | refine iteT ?_
  | refine iteF ?_)
/-! ### Card.__init__ of parts that are right, over any wrong_part -/
theorem good_none {c : CD} (g : c.Good) : wrongP c = none := by
  unfold wrongP
  rw [g.h, g.b, g.t, g.a]
  rw [if_neg (by decide), if_neg (by decide), if_neg (by decide), if_neg (fun z => by
    rcases g.e with e | e
    · exact z.1 e
    · exact z.2.elim (fun y => y e.1) (fun y => y e.2)), if_neg (by decide)]
theorem word_strOk {x : Str} (h : isWord x = true) : PyData.strOk x = true := by
  unfold isWord at h
  rw [Bool.and_eq_true] at h
  have q : ∀ c ∈ letters.cps.toList, decide (c < 0x110000) = true := by decide +kernel
  unfold PyData.strOk
  rw [← Array.all_toList]
  exact List.all_eq_true.mpr fun c hc => q c (of_decide_eq_true (List.all_eq_true.mp h.2 c hc))
theorem good_room {c : CD} (g : c.Good) : Room4 c := by
  have h1 := g.lh
  have h2 := g.ls
  have h3 := g.lb
  have h4 := g.la
  exact ⟨by omega, by omega, by omega, by omega, fun y hy => by have := word_len (g.wa y hy); omega, fun y hy => word_strOk (g.wa y hy)⟩
def spCardInit (K : PySem.W.Frag) (C : Addr) : Sp := fun vs H Q _ => ∃ (p dx : Addr) (c : CD) (b a : Addr), vs = [.ref p, .str c.heading, .ref b, .str c.see, .ref a] ∧ H p = some (.ins C dx []) ∧ c.Good ∧ SqT K H b (c.books.map V.int) ∧ SqT K H a (c.also.map V.str) ∧ c.also.length ≤ 4 ∧
  ∀ H', But p H H' → CardAt K C H' p c → Q .non H'
theorem But.upd2 {r : Addr} {H H1 : Hp} {o : HO} (a : But r H H1) : But r H (L2.upd H1 r o) := a.upd
theorem ok_Card_init (T : Top K mg) : FnOk P w K mg base CX0 4 T.a_Card_init T.fd_Card_init ["self", "heading", "books", "see", "also"] (spCardInit K T.c_Card) := by
  refine T.F_Card_init.ok sc_Card_init (fun vs H Q E h => ?_) (fun cdv A outer s H vs Q E hr h => ?_)
  · obtain ⟨p, dx, c, b, a, rfl, _⟩ := h
    rfl
  · obtain ⟨p, dx, c, b, a, rfl, hp, g, hB, hA, hl, k⟩ := h
    have hu := hu_of hr
    refine ⟨_, PSs.nox (pss_cons (ps_set (i := 5) sc_Card_init.nd rfl (.inl rfl) (pe_call (ok_wrong_part T) (hr.mono (by decide)) (by rfl) T.g_wrong_part T.F_wrong_part.kp (b_wrong_part T) .nil pass0 (pa_cons (pv 1) (pa_cons (pv 2) (pa_cons (pv 3) (pa_cons (pv 4) pa_nil))))))
      (pss_cons (ps_if (pt_cmpR op_notN (pv 5) pe_non (nomark _)) (pss_one (ps_never)) pss_nil)
      (pss_cons (ps_fld (pv 0) (pv 1) rfl)
      (pss_cons (ps_fld (pv 0) (pv 2) rfl)
      (pss_cons (ps_fld (pv 0) (pv 3) rfl)
      (pss_one (ps_fld (pv 0) (pv 4) rfl))))))), ?_⟩
    repeat walk_at "g1"
    refine ⟨c, b, a, rfl, good_room g, hB, hA, fun H1 s1 => ?_⟩
    rw [good_none g]
    repeat walk_at "g1"
    have hp1 := s1 _ _ hp
    refine ⟨p, T.c_Card, dx, [], rfl, hp1, T.cl_Card, T.n_Card__heading, (by show 0 < 1000; decide), ?_⟩
    repeat walk_at "g1"
    refine ⟨p, T.c_Card, dx, _, rfl, upd_same, T.cl_Card, T.n_Card__books, (by show 1 < 1000; decide), ?_⟩
    repeat walk_at "g1"
    refine ⟨p, T.c_Card, dx, _, rfl, upd_same, T.cl_Card, T.n_Card__see, (by show 2 < 1000; decide), ?_⟩
    repeat walk_at "g1"
    refine ⟨p, T.c_Card, dx, _, rfl, upd_same, T.cl_Card, T.n_Card__also, (by show 3 < 1000; decide), ?_⟩
    have nb : ∀ {q : Addr} {xs : List V}, SqT K H1 q xs → q ≠ p ∨ True := fun _ => .inr True.intro
    have st : ∀ {q : Addr} {xs : List V} {o : HO}, SqT K H1 q xs → SqT K (upd H1 p o) q xs := fun {q xs o} h => by
      rcases h with (h | ⟨u, h⟩) | h
      · exact .inl (.inl (by rw [upd_ne (ne_of h hp1 (by intro z; cases z))]; exact h))
      · exact .inl (.inr ⟨u, by rw [upd_ne (ne_of h hp1 (by intro z; cases z))]; exact h⟩)
      · exact .inr h
    have e4 : ∀ o1 o2 o3 o4 : HO, upd (upd (upd (upd H1 p o1) p o2) p o3) p o4 = upd H1 p o4 := fun o1 o2 o3 o4 => by rw [upd_upd, upd_upd, upd_upd]
    show Q .non (upd (upd (upd (upd H1 p _) p _) p _) p _)
    rw [e4]
    refine k _ (fun q o h n => ?_) ⟨dx, b, a, upd_same, st (s1.seqT hB), st (s1.seqT hA)⟩
    rw [upd_ne n]
    exact s1 _ _ h
/-! ### what a card tells -/
def spGet (K : PySem.W.Frag) (C : Addr) (f : Str) : Sp := fun vs H Q _ => ∃ (p dx : Addr) (fs : List (Str × V)) (v : V), vs = [.ref p] ∧ H p = some (.ins C dx fs) ∧ fs.lookup f = some v ∧ Q v H
theorem ok_Card_heading (T : Top K mg) : FnOk P w K mg base CX0 1 T.a_Card_heading T.fd_Card_heading ["self"] (spGet K T.c_Card "_heading") := by
  refine T.F_Card_heading.ok sc_Card_heading (fun vs H Q E h => ?_) (fun cdv A outer s H vs Q E hr h => ?_)
  · obtain ⟨p, dx, fs, v, rfl, _⟩ := h
    rfl
  · obtain ⟨p, dx, fs, v, rfl, hp, hv, k⟩ := h
    exact ⟨_, (pss_one (ps_ret (pe_fld (pv 0) rfl))), _, rfl, p, _, dx, fs, v, rfl, hp, T.cl_Card, T.n_Card__heading, hv, k⟩
end
section
local macro_rules | `(tactic| walk_at "sl") => `(tactic| first | assumption | exact SqL.of upd_same | exact SqL.of (by assumption) | ((with_reducible apply sql_upd); (walk_at "sl"); (first | assumption | exact Ne.symm (by assumption))))
local macro_rules | `(tactic| walk_at "st") => `(tactic| first | assumption | exact SqT.of upd_same | exact SqT.of (by assumption))
local macro_rules | `(tactic| walk_at "sc") => `(tactic| first | rfl | assumption | (show (0 : Int) < _; first | assumption | decide | omega) | exact Or.inl ⟨by omega, by omega⟩ | exact Or.inr ⟨by omega, by omega⟩ | exact ⟨by decide, by decide⟩ | exact ⟨by decide, by decide, by decide⟩)
local macro_rules | `(tactic| walk_at "g1") => `(tactic| first
  | refine ⟨(_ : V), rfl, ?_⟩
  | refine ⟨(_ : Bool), rfl, ?_⟩
  | refine ⟨(_ : Int), (_ : Int), rfl, rfl, ?_⟩
  | refine ⟨(_ : Int), rfl, ?_⟩
  | refine ⟨(_ : Str), rfl, ?_⟩
  | refine ⟨(_ : Addr), (_ : List V), rfl, Or.inl (by walk_at "sl"), ?_⟩
  | refine ⟨(_ : Addr), (_ : List V), rfl, Or.inr (by walk_at "st"), ?_⟩
  | refine ⟨(_ : Addr), (_ : List V), (_ : Int), (_ : V), rfl, rfl, (by walk_at "sl"), (by first | rfl | assumption), ?_⟩
  | refine ⟨(_ : Addr), (_ : List V), (_ : Int), (_ : V), rfl, rfl, (by walk_at "st"), (by first | rfl | assumption), ?_⟩
  | refine ⟨(_ : Addr), (_ : List V), (_ : Int), (_ : Nat), rfl, rfl, upd_same, rfl, ?_⟩
  | refine ⟨(_ : Addr), (_ : List V), (_ : Int), (_ : Nat), rfl, rfl, (by assumption), rfl, ?_⟩
  | refine ⟨(_ : Addr), (_ : Addr), (_ : Addr), (_ : List (Str × V)), (_ : V), rfl, (by assumption), (by assumption), (by assumption), (by first | assumption | rfl), ?_⟩
  | refine Or.inl ⟨(_ : Int), rfl, ?_⟩
  | refine And.intro (by walk_at "sc") ?_
  | refine iteT ?_
  | refine iteF ?_)
/-! ### Card.__init__, or InvalidCard -/
theorem xd_gen {H1 H2 : Hp} {a dx : Addr} {fs : List (Str × V)} (na : H1 a = none) (nd : H1 dx = none) (h : ∀ b, b ≠ a → b ≠ dx → H2 b = H1 b) : Same H1 (upd (del H2 a) dx (.xd fs)) := fun b o e => by
  have n1 := ne_of_none e na
  have n2 := ne_of_none e nd
  rw [upd_ne n2, del_ne n1, h b n1 n2]
  exact e
def partS : Str := "wrong part of a card: "
theorem part_len : partS.length = 22 := by decide +kernel
def spInitP (C : Addr) : Sp := fun vs H Q _ => ∃ (a : Addr) (t : Str), vs = [.ref a, .str t] ∧ t.length ≤ 1000 ∧ H a = some (exo a C none) ∧ ∀ dx, H dx = none → dx ≠ a → Q .non (upd (upd H dx (exd dx [("part", .str t)])) a (exo a C (some dx)))
theorem ok_InvalidCard_init (T : Top K mg) : FnOk P w K mg base CX0 1 T.a_InvalidCard_init T.fd_InvalidCard_init ["self", "part"] (spInitP T.c_InvalidCard) := by
  refine T.F_InvalidCard_init.ok sc_InvalidCard_init (fun vs H Q E h => ?_) (fun cdv A outer s H vs Q E hr h => ?_)
  · obtain ⟨a, t, rfl, _⟩ := h
    rfl
  · obtain ⟨a, t, rfl, hl, ha, k⟩ := h
    have hu := hu_of hr
    refine ⟨_, (pss_cons (ps_expr (pe_binit ⟨T.bg_SeeError, T.br_SeeError, T.bv_SeeError⟩ (by rfl) T.g_SeeError (pa_cons (pv 0) (pa_cons (pe_joined (PJ.cons pe_str (PJ.cons (pe_fmt (pv 1)) PJ.nil))) pa_nil))))
      (pss_one (ps_ost (pv 0) (pv 1)))), ?_⟩
    refine ⟨_, rfl, partS, rfl, Nat.le_of_lt (sizeLine_of (by rw [PySem.Str.length_append, part_len]; show 0 + _ ≤ _; omega)), ?_⟩
    rw [fstr_empty]
    refine ⟨_, rfl, .inl ⟨t, rfl, Nat.le_of_lt (sizeLine_of (by omega)), t, rfl, Nat.le_of_lt (sizeLine_of (by rw [PySem.Str.length_append, part_len]; omega)), ?_⟩⟩
    refine ⟨a, T.c_InvalidCard, _, rfl, by show 1 ≤ 1000; decide, T.ox_InvalidCard, ha, ?_⟩
    refine ⟨_, rfl, _, rfl, a, T.c_InvalidCard, rfl, T.ox_InvalidCard, T.nf_InvalidCard_part, .inl ⟨ha, fun dx hdx hne => ?_⟩⟩
    exact k dx hdx hne
def spCardInitX (K : PySem.W.Frag) (C cE : Addr) : Sp := fun vs H Q E => ∃ (p dx : Addr) (c : CD) (b a : Addr), vs = [.ref p, .str c.heading, .ref b, .str c.see, .ref a] ∧ H p = some (.ins C dx []) ∧ Room4 c ∧ SqT K H b (c.books.map V.int) ∧ SqT K H a (c.also.map V.str) ∧
  ∀ H', (wrongP c = none → But p H H' → CardAt K C H' p c → Q .non H') ∧ (∀ t dd, wrongP c = some t → Same H H' → H' dd = some (.xd [("part", .str t)]) → E (.ref cE) (some dd) H')
theorem wrongP_len {c : CD} {t : Str} (h : wrongP c = some t) : t.length ≤ 1000 := by
  have q : ∀ x ∈ [headingP, booksP, seeP, alsoP], x.length ≤ 1000 := by decide +kernel
  refine q t ?_
  unfold wrongP at h
  repeat' split at h
  all_goals first
    | (cases h; simp)
    | cases h
theorem okx_Card_init (T : Top K mg) : FnOk P w K mg base (L2.CX P w) 4 T.a_Card_init T.fd_Card_init ["self", "heading", "books", "see", "also"] (spCardInitX K T.c_Card T.c_InvalidCard) := by
  refine T.F_Card_init.ok sc_Card_init (fun vs H Q E h => ?_) (fun cdv A outer s H vs Q E hr h => ?_)
  · obtain ⟨p, dx, c, b, a, rfl, _⟩ := h
    rfl
  · obtain ⟨p, dx, c, b, a, rfl, hp, g, hB, hA, k⟩ := h
    have hu := hu_of hr
    refine ⟨_, (pss_cons (ps_nox (ps_set (i := 5) sc_Card_init.nd rfl (.inl rfl) (pe_call (ok_wrong_part T) (hr.mono (by decide)) (by rfl) T.g_wrong_part T.F_wrong_part.kp (b_wrong_part T) .nil pass0 (pa_cons (pv 1) (pa_cons (pv 2) (pa_cons (pv 3) (pa_cons (pv 4) pa_nil)))))))
      (pss_cons (ps_if (pt_cmpR op_notN (pv 5) pe_non (nomark _)) (pss_one (ps_errO T.ox_InvalidCard T.oi_InvalidCard T.ot_InvalidCard (ok_InvalidCard_init T) (hr.mono (by decide)) (b_InvalidCard_init T) .nil pass0 T.g_InvalidCard (by rfl) (pa_cons (pv 5) pa_nil) rfl rfl rfl rfl rfl)) pss_nil)
      (pss_cons (ps_nox (ps_fld (pv 0) (pv 1) rfl))
      (pss_cons (ps_nox (ps_fld (pv 0) (pv 2) rfl))
      (pss_cons (ps_nox (ps_fld (pv 0) (pv 3) rfl))
      (pss_one (ps_nox (ps_fld (pv 0) (pv 4) rfl)))))))), ?_⟩
    refine ⟨_, rfl, _, rfl, _, rfl, _, rfl, c, b, a, rfl, g, hB, hA, fun H1 s1 => ?_⟩
    cases hw : wrongP c with
    | some t =>
      refine ⟨_, rfl, rfl, _, rfl, ?_⟩
      refine iteT ?_
      refine ⟨_, rfl, by show 1 ≤ 1000; decide, fun a' ha' => ⟨a', t, rfl, wrongP_len hw, upd_same, fun dx' hdx hne => ⟨rfl, dx', _, upd_same, by rw [upd_ne hne, upd_same], by rw [upd_ne hne] at hdx; exact hdx, ?_⟩⟩⟩
      rw [upd_ne hne] at hdx
      exact (k _).2 t dx' hw (s1.trans (xd_gen ha' hdx fun b n1 n2 => by rw [upd_ne n1, upd_ne n2, upd_ne n1])) upd_same
    | none =>
      refine ⟨_, rfl, rfl, _, rfl, ?_⟩
      refine iteF ?_
      have hp1 := s1 _ _ hp
      refine ⟨_, rfl, _, rfl, p, T.c_Card, dx, [], rfl, hp1, T.cl_Card, T.n_Card__heading, (by show 0 < 1000; decide), ?_⟩
      refine ⟨_, rfl, _, rfl, p, T.c_Card, dx, _, rfl, upd_same, T.cl_Card, T.n_Card__books, (by show 1 < 1000; decide), ?_⟩
      refine ⟨_, rfl, _, rfl, p, T.c_Card, dx, _, rfl, upd_same, T.cl_Card, T.n_Card__see, (by show 2 < 1000; decide), ?_⟩
      refine ⟨_, rfl, _, rfl, p, T.c_Card, dx, _, rfl, upd_same, T.cl_Card, T.n_Card__also, (by show 3 < 1000; decide), ?_⟩
      have nb : ∀ {q : Addr} {xs : List V}, SqT K H1 q xs → q ≠ p ∨ True := fun _ => .inr True.intro
      have st : ∀ {q : Addr} {xs : List V} {o : HO}, SqT K H1 q xs → SqT K (upd H1 p o) q xs := fun {q xs o} h => by
        rcases h with (h | ⟨u, h⟩) | h
        · exact .inl (.inl (by rw [upd_ne (ne_of h hp1 (by intro z; cases z))]; exact h))
        · exact .inl (.inr ⟨u, by rw [upd_ne (ne_of h hp1 (by intro z; cases z))]; exact h⟩)
        · exact .inr h
      have e4 : ∀ o1 o2 o3 o4 : HO, upd (upd (upd (upd H1 p o1) p o2) p o3) p o4 = upd H1 p o4 := fun o1 o2 o3 o4 => by rw [upd_upd, upd_upd, upd_upd]
      show Q .non (upd (upd (upd (upd H1 p _) p _) p _) p _)
      rw [e4]
      refine (k _).1 hw (fun q o h n => ?_) ⟨dx, b, a, upd_same, st (s1.seqT hB), st (s1.seqT hA)⟩
      rw [upd_ne n]
      exact s1 _ _ h
end
section
local macro_rules | `(tactic| walk_at "sl") => `(tactic| first | assumption | exact SqL.of upd_same | exact SqL.of (by assumption) | ((with_reducible apply sql_upd); (walk_at "sl"); (first | assumption | exact Ne.symm (by assumption))))
local macro_rules | `(tactic| walk_at "st") => `(tactic| first | assumption | exact SqT.of upd_same | exact SqT.of (by assumption))
local macro_rules | `(tactic| walk_at "sc") => `(tactic| first | rfl | assumption | (show (0 : Int) < _; first | assumption | decide | omega) | exact Or.inl ⟨by omega, by omega⟩ | exact Or.inr ⟨by omega, by omega⟩ | exact ⟨by decide, by decide⟩ | exact ⟨by decide, by decide, by decide⟩)
local macro_rules | `(tactic| walk_at "g1") => `(tactic| first
  | refine ⟨(_ : V), rfl, ?_⟩
  | refine ⟨(_ : Bool), rfl, ?_⟩
  | refine ⟨(_ : Int), (_ : Int), rfl, rfl, ?_⟩
  | refine ⟨(_ : Int), rfl, ?_⟩
  | refine ⟨(_ : Str), rfl, ?_⟩
  | refine ⟨(_ : Addr), (_ : List V), rfl, Or.inl (by walk_at "sl"), ?_⟩
  | refine ⟨(_ : Addr), (_ : List V), rfl, Or.inr (by walk_at "st"), ?_⟩
  | refine ⟨(_ : Addr), (_ : List V), (_ : Int), (_ : V), rfl, rfl, (by walk_at "sl"), (by first | rfl | assumption), ?_⟩
  | refine ⟨(_ : Addr), (_ : List V), (_ : Int), (_ : V), rfl, rfl, (by walk_at "st"), (by first | rfl | assumption), ?_⟩
  | refine ⟨(_ : Addr), (_ : List V), (_ : Int), (_ : Nat), rfl, rfl, upd_same, rfl, ?_⟩
  | refine ⟨(_ : Addr), (_ : List V), (_ : Int), (_ : Nat), rfl, rfl, (by assumption), rfl, ?_⟩
  | refine ⟨(_ : Addr), (_ : Addr), (_ : Addr), (_ : List (Str × V)), (_ : V), rfl, (by assumption), (by assumption), (by assumption), (by first | assumption | rfl), ?_⟩
  | refine Or.inl ⟨(_ : Int), rfl, ?_⟩
  | refine And.intro (by walk_at "sc") ?_
  | refine iteT ?_
  | refine iteF ?_)
/-! ### drawers -/
def drawFlds (t : V) : List (Str × V) := putF "_cards" t []
theorem df_cards (t : V) : (drawFlds t).lookup ("_cards" : Str) = some t := rfl
def Cards (K : PySem.W.Frag) (C : Addr) (H : Hp) (ps : List Addr) (cs : List CD) : Prop := ps.length = cs.length ∧ ∀ (i : Nat) (q : Addr) (c : CD), ps[i]? = some q → cs[i]? = some c → CardAt K C H q c
theorem Cards.imm {C : Addr} {H H' : Hp} {ps : List Addr} {cs : List CD} (h : Cards K C H ps cs) (s : Imm H H') : Cards K C H' ps cs := ⟨h.1, fun i q c h1 h2 => (h.2 i q c h1 h2).imm s⟩
theorem Cards.get {C : Addr} {H : Hp} {ps : List Addr} {cs : List CD} (h : Cards K C H ps cs) {i : Nat} {q : Addr} (hi : ps[i]? = some q) : ∃ c, cs[i]? = some c ∧ CardAt K C H q c := by
  have l := (List.getElem?_eq_some_iff.mp hi).1
  rw [h.1] at l
  exact ⟨cs[i], List.getElem?_eq_getElem l, h.2 i q _ hi (List.getElem?_eq_getElem l)⟩
/-- the drawer of the cards cs stands at p -/
def DrawerAt (K : PySem.W.Frag) (CD' CC : Addr) (H : Hp) (p : Addr) (cs : List CD) : Prop := ∃ (dx t : Addr) (ps : List Addr), H p = some (.ins CD' dx (drawFlds (.ref t))) ∧ SqT K H t (ps.map V.ref) ∧ Cards K CC H ps cs
theorem DrawerAt.imm {D C : Addr} {H H' : Hp} {p : Addr} {cs : List CD} (h : DrawerAt K D C H p cs) (s : Imm H H') : DrawerAt K D C H' p cs := by
  obtain ⟨dx, t, ps, h1, h2, h3⟩ := h
  exact ⟨dx, t, ps, s _ _ h1 rfl, s.seqT h2, h3.imm s⟩
def spDrawerInit (K : PySem.W.Frag) (C : Addr) : Sp := fun vs H Q _ => ∃ (p dx t : Addr) (xs : List V), vs = [.ref p, .ref t] ∧ H p = some (.ins C dx []) ∧ SqT K H t xs ∧ xs.length ≤ 16 ∧
  ∀ H', But p H H' → H' p = some (.ins C dx (drawFlds (.ref t))) → Q .non H'
theorem ok_Drawer_init (T : Top K mg) : FnOk P w K mg base CX0 2 T.a_Drawer_init T.fd_Drawer_init ["self", "cards"] (spDrawerInit K T.c_Drawer) := by
  refine T.F_Drawer_init.ok sc_Drawer_init (fun vs H Q E h => ?_) (fun cdv A outer s H vs Q E hr h => ?_)
  · obtain ⟨p, dx, t, xs, rfl, _⟩ := h
    rfl
  · obtain ⟨p, dx, t, xs, rfl, hp, hT, hl, k⟩ := h
    have hu := hu_of hr
    refine ⟨_, (pss_cons (ps_if (pt_cmpR op_gt (pe_callB call_len_seq (by rfl) T.m_len (by decide +kernel) (pa_cons (pv 1) pa_nil)) (pe_glob rfl T.g_MOST_CARDS T.r_MOST_CARDS) (nomark _)) (pss_one (ps_never)) pss_nil)
      (pss_one (ps_fld (pv 0) (pe_callTy call_tupleT (by rfl) T.m_tuple (by decide +kernel) (pa_cons (pv 1) pa_nil)) rfl))), ?_⟩
    repeat walk_at "g1"
    refine ite2 (fun h1 => ?_) (fun h1 => ?_)
    · have q := of_decide_eq_true h1
      omega
    · repeat walk_at "g1"
      refine ⟨t, xs, rfl, hT, ?_⟩
      repeat walk_at "g1"
      refine ⟨p, T.c_Drawer, dx, [], rfl, hp, T.cl_Drawer, T.n_Drawer__cards, (by show 0 < 1000; decide), ?_⟩
      exact k _ (fun q o h n => by rw [upd_ne n]; exact h) upd_same
theorem ok_Drawer_cards (T : Top K mg) : FnOk P w K mg base CX0 1 T.a_Drawer_cards T.fd_Drawer_cards ["self"] (spGet K T.c_Drawer "_cards") := by
  refine T.F_Drawer_cards.ok sc_Drawer_cards (fun vs H Q E h => ?_) (fun cdv A outer s H vs Q E hr h => ?_)
  · obtain ⟨p, dx, fs, v, rfl, _⟩ := h
    rfl
  · obtain ⟨p, dx, fs, v, rfl, hp, hv, k⟩ := h
    exact ⟨_, (pss_one (ps_ret (pe_fld (pv 0) rfl))), _, rfl, p, _, dx, fs, v, rfl, hp, T.cl_Drawer, T.n_Drawer__cards, hv, k⟩
def heads (cs : List CD) : List Str := cs.map CD.heading
/-- the order of texts -/
def leS (a b : Str) : Bool := !decide (b.cps.toList < a.cps.toList)
def risesBy (ws : List Str) : Bool := (ws.zip (ws.drop 1)).all fun p => leS p.1 p.2
end
section
local macro_rules | `(tactic| walk_at "sl") => `(tactic| first | assumption | exact SqL.of upd_same | exact SqL.of (by assumption) | ((with_reducible apply sql_upd); (walk_at "sl"); (first | assumption | exact Ne.symm (by assumption))))
local macro_rules | `(tactic| walk_at "st") => `(tactic| first | assumption | exact SqT.of upd_same | exact SqT.of (by assumption))
local macro_rules | `(tactic| walk_at "sc") => `(tactic| first | rfl | assumption | (show (0 : Int) < _; first | assumption | decide | omega) | exact Or.inl ⟨by omega, by omega⟩ | exact Or.inr ⟨by omega, by omega⟩ | exact ⟨by decide, by decide⟩ | exact ⟨by decide, by decide, by decide⟩)
local macro_rules | `(tactic| walk_at "g1") => `(tactic| first
  | refine ⟨(_ : V), rfl, ?_⟩
  | refine ⟨(_ : Bool), rfl, ?_⟩
  | refine ⟨(_ : Int), (_ : Int), rfl, rfl, ?_⟩
  | refine ⟨(_ : Int), rfl, ?_⟩
  | refine ⟨(_ : Str), rfl, ?_⟩
  | refine ⟨(_ : Addr), (_ : List V), rfl, Or.inl (by walk_at "sl"), ?_⟩
  | refine ⟨(_ : Addr), (_ : List V), rfl, Or.inr (by walk_at "st"), ?_⟩
  | refine ⟨(_ : Addr), (_ : List V), (_ : Int), (_ : V), rfl, rfl, (by walk_at "sl"), (by first | rfl | assumption), ?_⟩
  | refine ⟨(_ : Addr), (_ : List V), (_ : Int), (_ : V), rfl, rfl, (by walk_at "st"), (by first | rfl | assumption), ?_⟩
  | refine ⟨(_ : Addr), (_ : List V), (_ : Int), (_ : Nat), rfl, rfl, upd_same, rfl, ?_⟩
  | refine ⟨(_ : Addr), (_ : List V), (_ : Int), (_ : Nat), rfl, rfl, (by assumption), rfl, ?_⟩
  | refine ⟨(_ : Addr), (_ : Addr), (_ : Addr), (_ : List (Str × V)), (_ : V), rfl, (by assumption), (by assumption), (by assumption), (by first | assumption | rfl), ?_⟩
  | refine Or.inl ⟨(_ : Int), rfl, ?_⟩
  | refine And.intro (by walk_at "sc") ?_
  | refine iteT ?_
  | refine iteF ?_)
/-- the script: never the row -/
def Scr (K : PySem.W.Frag) (H : Hp) (r sc : Addr) (xs : List V) : Prop := (SqL K H sc xs ∧ sc ≠ r) ∨ ∀ H' : Hp, SqL K H' sc xs
theorem Scr.upd {H : Hp} {r sc : Addr} {xs : List V} {o : HO} (h : Scr K H r sc xs) : Scr K (L2.upd H r o) r sc xs := h.imp (fun z => ⟨sql_upd z.1 z.2, z.2⟩) id
theorem Scr.sql {H : Hp} {r sc : Addr} {xs : List V} (h : Scr K H r sc xs) : SqL K H sc xs := h.elim (fun z => z.1) fun z => z H
theorem Scr.new {H : Hp} {r sc : Addr} {xs : List V} {o : HO} (h : SqL K H sc xs) (hr : H r = none) : Scr K (L2.upd H r o) r sc xs := by
  rcases h with (h | ⟨u, h⟩) | h
  · exact .inl ⟨sql_upd (.inl (.inl h)) (ne_of_none h hr), ne_of_none h hr⟩
  · exact .inl ⟨sql_upd (.inl (.inr ⟨u, h⟩)) (ne_of_none h hr), ne_of_none h hr⟩
  · exact .inr fun H' => .inr h
local macro_rules | `(tactic| walk_at "sl") => `(tactic| first | exact Scr.sql (by assumption) | exact Scr.sql (Scr.upd (by assumption)) | exact Scr.sql (Scr.upd (Scr.upd (by assumption))) | exact Scr.sql (Scr.upd (Scr.upd (Scr.upd (by assumption)))))
/-- the law's row: the script, how many were taken, the seed, what is left of a great cell -/
def RowAt (K : PySem.W.Frag) (H : Hp) (r sc : Addr) (ns : List Int) : Prop := ∃ (n1 : Nat) (n2 n3 : Int), H r = some (.lst [.ref sc, .int n1, .int n2, .int n3]) ∧ Scr K H r sc (ns.map V.int) ∧ 0 ≤ n2 ∧ n2 < 2147483647
theorem RowAt.same {H H' : Hp} {r sc : Addr} {ns : List Int} (h : RowAt K H r sc ns) (s : Same H H') : RowAt K H' r sc ns := by
  obtain ⟨n1, n2, n3, h1, h2, h3⟩ := h
  exact ⟨n1, n2, n3, s _ _ h1, h2.imp (fun z => ⟨s.seq z.1, z.2⟩) id, h3⟩
theorem RowAt.at {H : Hp} {r sc : Addr} {ns : List Int} (h : RowAt K H r sc ns) : ∃ o, H r = some o ∧ immO o = false := by
  obtain ⟨n1, n2, n3, h1, _⟩ := h
  exact ⟨_, h1, rfl⟩
theorem RowAt.new {H : Hp} {r sc D : Addr} {ns : List Int} (h : RowAt K H r sc ns) (hD : H D = none) : D ≠ r ∧ (sc ≠ D ∨ ∀ H' : Hp, SqL K H' sc (ns.map V.int)) := by
  obtain ⟨n1, n2, n3, h1, h2, _⟩ := h
  refine ⟨fun e => (by rw [e, h1] at hD; cases hD), ?_⟩
  rcases h2 with ⟨(h | ⟨u, h⟩) | h, _⟩ | h
  · exact .inl (ne_of_none h hD)
  · exact .inl (ne_of_none h hD)
  · exact .inr fun H' => .inr h
  · exact .inr h
theorem RowAt.mut {H : Hp} {r sc D : Addr} {ns : List Int} {o : HO} (h : RowAt K H r sc ns) (hD : D ≠ r ∧ (sc ≠ D ∨ ∀ H' : Hp, SqL K H' sc (ns.map V.int))) : RowAt K (upd H D o) r sc ns := by
  obtain ⟨n1, n2, n3, h1, h2, h3⟩ := h
  refine ⟨n1, n2, n3, kn h1 hD.1.symm, ?_, h3⟩
  rcases hD.2 with h | h
  · exact h2.imp (fun z => ⟨sql_upd z.1 h, z.2⟩) id
  · exact .inr h
def spTaken (K : PySem.W.Frag) : Sp := fun vs H Q _ => ∃ (r sc : Addr) (ns : List Int) (m : Int), vs = [.ref r, .int m] ∧ 0 < m ∧ m < 1000 ∧ RowAt K H r sc ns ∧ ∀ (i : Nat) (H' : Hp), (i : Int) < m → But r H H' → RowAt K H' r sc ns → Q (.int i) H'
theorem ok_llaw_taken (T : Top K mg) : FnOk P w K mg base CX0 1 T.a_llaw_taken T.fd_llaw_taken ["_law_row", "_law_many"] (spTaken K) := by
  refine T.F_llaw_taken.ok sc_llaw_taken (fun vs H Q E h => ?_) (fun cdv A outer s H vs Q E hr h => ?_)
  · obtain ⟨r, sc, ns, m, rfl, _⟩ := h
    rfl
  · obtain ⟨r, sc, ns, m, rfl, hm0, hm1, ⟨n1, n2, n3, hR, hX, h2, h3⟩, k⟩ := h
    have hu := hu_of hr
    have hdv : ∀ i : Int, CDivW i m := fun i => wide_div (b := 10) hm0 (by omega) (by decide) (by decide)
    have hin : ∀ x : Int, ∃ i : Nat, (i : Int) < m ∧ V.int (x % m) = V.int i := fun x => ⟨(x % m).toNat, by
      have h1 := Int.emod_nonneg x (Int.ne_of_gt hm0)
      have h2 := Int.emod_lt_of_pos x hm0
      omega, by
      have h1 := Int.emod_nonneg x (Int.ne_of_gt hm0)
      rw [Int.toNat_of_nonneg h1]⟩
    have hmd : ∀ x : Int, 0 ≤ x % 2147483647 ∧ x % 2147483647 < 2147483647 := fun x => ⟨Int.emod_nonneg x (by decide), Int.emod_lt_of_pos x (by decide)⟩
    refine ⟨_, (pss_cons (ps_if (pt_cmpR op_gt (pe_ix ix_list (pv 0) pe_int (fun _ _ => rfl)) pe_int (nomark _)) (pss_cons (ps_set (i := 2) sc_llaw_taken.nd rfl (.inl rfl) (pe_op op_mod (pe_callTy call_int1 (by rfl) T.m_int (by decide +kernel) (pa_cons (pe_ix ix_list (pv 0) pe_int (fun _ _ => rfl)) pa_nil)) (pv 1)))
        (pss_cons (ps_asg (pe_op op_fdivW (pe_ix ix_list (pv 0) pe_int (fun _ _ => rfl)) (pv 1)) (pg_sub (pv 0) pe_int set_list))
        (pss_one (ps_ret (pv 2))))) pss_nil)
      (pss_cons (ps_asg (pe_op op_add (pe_ix ix_list (pv 0) pe_int (fun _ _ => rfl)) pe_int) (pg_sub (pv 0) pe_int set_list))
      (pss_cons (ps_if (pt_cmpR op_gt (pe_ix ix_list (pv 0) pe_int (fun _ _ => rfl)) (pe_callB call_len_seq (by rfl) T.m_len (by decide +kernel) (pa_cons (pe_ix ix_list (pv 0) pe_int (fun _ _ => rfl)) pa_nil)) (nomark _)) (pss_cons (ps_asg (pe_op op_mod (pe_callTy call_int1 (by rfl) T.m_int (by decide +kernel) (pa_cons (pe_op op_add (pe_op op_mul (pe_ix ix_list (pv 0) pe_int (fun _ _ => rfl)) pe_int) pe_int) pa_nil)) pe_int) (pg_sub (pv 0) pe_int set_list))
        (pss_one (ps_ret (pe_op op_mod (pe_callTy call_int1 (by rfl) T.m_int (by decide +kernel) (pa_cons (pe_op op_fdiv (pe_ix ix_list (pv 0) pe_int (fun _ _ => rfl)) pe_int) pa_nil)) (pv 1))))) pss_nil)
      (pss_cons (ps_set (i := 3) sc_llaw_taken.nd rfl (.inl rfl) (pe_ix ix_list (pe_ix ix_list (pv 0) pe_int (fun _ _ => rfl)) (pe_op op_sub (pe_ix ix_list (pv 0) pe_int (fun _ _ => rfl)) pe_int) (fun _ _ => rfl)))
      (pss_cons (ps_asg (pe_op op_mod (pe_callTy call_int1 (by rfl) T.m_int (by decide +kernel) (pa_cons (pe_op op_add (pe_op op_add (pe_op op_mul (pe_ix ix_list (pv 0) pe_int (fun _ _ => rfl)) pe_int) (pv 3)) pe_int) pa_nil)) pe_int) (pg_sub (pv 0) pe_int set_list))
      (pss_cons (ps_if (pt_cmpR op_ge (pv 3) (pe_op op_pow pe_int pe_int) (nomark _)) (pss_one (ps_asg (pe_op op_fdivW (pv 3) (pv 1)) (pg_sub (pv 0) pe_int set_list))) pss_nil)
      (pss_one (ps_ret (pe_op op_mod (pe_callTy call_int1 (by rfl) T.m_int (by decide +kernel) (pa_cons (pv 3) pa_nil)) (pv 1)))))))))), ?_⟩
    have hd3 := hdv n3
    repeat walk_at "g1"
    refine ite2 (fun _ => ?_) (fun _ => ?_)
    · repeat walk_at "g1"
      obtain ⟨i, hi, e⟩ := hin n3
      show Q (V.int (n3 % m)) _
      rw [e]
      exact k i _ hi But.refl.upd ⟨n1, n2, _, upd_same, hX.upd, h2, h3⟩
    · repeat walk_at "g1"
      have hx := hmd (n2 * 48271 + 11)
      refine ite2 (fun _ => ?_) (fun hlt => ?_)
      · repeat walk_at "g1"
        obtain ⟨i, hi, e⟩ := hin ((n2 * 48271 + 11) % 2147483647 / 7)
        show Q (V.int ((n2 * 48271 + 11) % 2147483647 / 7 % m)) _
        rw [e]
        exact k i _ hi But.refl.upd.upd ⟨n1 + 1, _, n3, upd_same, hX.upd.upd, hx.1, hx.2⟩
      · have hlt' : ¬ ((((ns.map V.int).length : Nat) : Int) < (n1 : Int) + 1) := fun z => hlt (decide_eq_true z)
        rw [List.length_map] at hlt'
        have hn1 : n1 < ns.length := by omega
        have hat : atI (ns.map V.int) ((n1 : Int) + 1 - 1) = some (.int ns[n1]) := by
          rw [Int.add_sub_cancel]
          exact atI_nat (by rw [List.getElem?_map, List.getElem?_eq_getElem hn1]; rfl)
        have hx := hmd (n2 * 48271 + ns[n1] + 11)
        have hdc := hdv ns[n1]
        obtain ⟨i, hi, e⟩ := hin ns[n1]
        repeat walk_at "g1"
        refine ite2 (fun _ => ?_) (fun _ => ?_)
        · repeat walk_at "g1"
          show Q (V.int (ns[n1] % m)) _
          rw [e]
          exact k i _ hi But.refl.upd.upd.upd ⟨n1 + 1, _, _, upd_same, hX.upd.upd.upd, hx.1, hx.2⟩
        · repeat walk_at "g1"
          show Q (V.int (ns[n1] % m)) _
          rw [e]
          exact k i _ hi But.refl.upd.upd ⟨n1 + 1, _, n3, upd_same, hX.upd.upd, hx.1, hx.2⟩
end
section
local macro_rules | `(tactic| walk_at "sl") => `(tactic| first | assumption | exact SqL.of upd_same | exact SqL.of (by assumption) | ((with_reducible apply sql_upd); (walk_at "sl"); (first | assumption | exact Ne.symm (by assumption))))
local macro_rules | `(tactic| walk_at "st") => `(tactic| first | assumption | exact SqT.of upd_same | exact SqT.of (by assumption))
local macro_rules | `(tactic| walk_at "sc") => `(tactic| first | rfl | assumption | (show (0 : Int) < _; first | assumption | decide | omega) | exact Or.inl ⟨by omega, by omega⟩ | exact Or.inr ⟨by omega, by omega⟩ | exact ⟨by decide, by decide⟩ | exact ⟨by decide, by decide, by decide⟩)
local macro_rules | `(tactic| walk_at "g1") => `(tactic| first
  | refine ⟨(_ : V), rfl, ?_⟩
  | refine ⟨(_ : Bool), rfl, ?_⟩
  | refine ⟨(_ : Int), (_ : Int), rfl, rfl, ?_⟩
  | refine ⟨(_ : Int), rfl, ?_⟩
  | refine ⟨(_ : Str), rfl, ?_⟩
  | refine ⟨(_ : Addr), (_ : List V), rfl, Or.inl (by walk_at "sl"), ?_⟩
  | refine ⟨(_ : Addr), (_ : List V), rfl, Or.inr (by walk_at "st"), ?_⟩
  | refine ⟨(_ : Addr), (_ : List V), (_ : Int), (_ : V), rfl, rfl, (by walk_at "sl"), (by first | rfl | assumption), ?_⟩
  | refine ⟨(_ : Addr), (_ : List V), (_ : Int), (_ : V), rfl, rfl, (by walk_at "st"), (by first | rfl | assumption), ?_⟩
  | refine ⟨(_ : Addr), (_ : List V), (_ : Int), (_ : Nat), rfl, rfl, upd_same, rfl, ?_⟩
  | refine ⟨(_ : Addr), (_ : List V), (_ : Int), (_ : Nat), rfl, rfl, (by assumption), rfl, ?_⟩
  | refine ⟨(_ : Addr), (_ : Addr), (_ : Addr), (_ : List (Str × V)), (_ : V), rfl, (by assumption), (by assumption), (by assumption), (by first | assumption | rfl), ?_⟩
  | refine Or.inl ⟨(_ : Int), rfl, ?_⟩
  | refine And.intro (by walk_at "sc") ?_
  | refine iteT ?_
  | refine iteF ?_)
/-! ### how headings are looked up -/
def ltS (a b : Str) : Bool := decide (a.cps.toList < b.cps.toList)
/-- one after another: the place, how many are looked at -/
def along (g : Bool) (h : Str) : Nat → List Str → Option Nat × Nat
  | i, [] => (none, i)
  | i, x :: r => if x = h then (some i, i + 1) else if (g && ltS h x) = true then (none, i + 1) else along g h (i + 1) r
/-- by halves: the place, the places that are looked at -/
def halves (ws : List Str) (h : Str) : Nat → Int → Int → List Int → Option Nat × List Int
  | 0, _, _, ps => (none, ps)
  | n + 1, lo, hi, ps => if lo ≤ hi then
      (if ws[((lo + hi) / 2).toNat]?.getD "" = h then (some ((lo + hi) / 2).toNat, ps ++ [(lo + hi) / 2])
       else if ltS h (ws[((lo + hi) / 2).toNat]?.getD "") = true then halves ws h n lo ((lo + hi) / 2 - 1) (ps ++ [(lo + hi) / 2])
       else halves ws h n ((lo + hi) / 2 + 1) hi (ps ++ [(lo + hi) / 2]))
     else (none, ps)
def upTo (n : Nat) : List Int := (List.range n).map fun (i : Nat) => (i : Int)
def alongOf (ws : List Str) (g : Bool) (h : Str) : Option Nat × List Int := ((along g h 0 ws).1, upTo (along g h 0 ws).2)
def halvesOf (ws : List Str) (h : Str) : Option Nat × List Int := halves ws h (ws.length + 1) 0 ((ws.length : Int) - 1) []
def seekOf (ws : List Str) (rule h : Str) : Option Nat × List Int := if rule = "half" then halvesOf ws h else alongOf ws (decide (rule = "leaf")) h
def onV : Option Nat → V
  | none => .non
  | some i => .int i
/-- what a look-up tells, at t -/
def Seen (K : PySem.W.Frag) (H : Hp) (t : Addr) (r : Option Nat × List Int) : Prop := ∃ p : Addr, SqT K H t [onV r.1, .ref p] ∧ SqT K H p (r.2.map V.int)
theorem Seen.imm {H H' : Hp} {t : Addr} {r : Option Nat × List Int} (h : Seen K H t r) (s : Imm H H') : Seen K H' t r := by
  obtain ⟨p, h1, h2⟩ := h
  exact ⟨p, s.seqT h1, s.seqT h2⟩
theorem rNe_to {x y : V} {b : Bool} {H : Hp} {Q : VK} (s : scal x y = true) (e : (!decide (x = y)) = b) (q : Q (.bl b) H) : rNe x y H Q := ⟨s, by rw [e]; exact q⟩
theorem rEq_to {x y : V} {b : Bool} {H : Hp} {Q : VK} (s : scal x y = true) (e : decide (x = y) = b) (q : Q (.bl b) H) : rEq x y H Q := ⟨s, by rw [e]; exact q⟩
theorem rEqD_to {x y : V} {d1 d2 : PyData} {b : Bool} {H : Hp} {Q : VK} (h1 : Dp K H x d1) (h2 : Dp K H y d2) (s1 : SeqAt.shaped d1 = true) (s2 : SeqAt.shaped d2 = true) (e : d1.eqv d2 = b) (q : Q (.bl b) H) : rEqD K x y H Q := ⟨d1, d2, h1, h2, s1, s2, by rw [e]; exact q⟩
theorem rNeD_to {x y : V} {d1 d2 : PyData} {b : Bool} {H : Hp} {Q : VK} (h1 : Dp K H x d1) (h2 : Dp K H y d2) (s1 : SeqAt.shaped d1 = true) (s2 : SeqAt.shaped d2 = true) (e : (!d1.eqv d2) = b) (q : Q (.bl b) H) : rNeD K x y H Q := ⟨d1, d2, h1, h2, s1, s2, by rw [e]; exact q⟩
theorem rI0_to {f : Int → Int → V} {i j : Int} {v : V} {H : Hp} {Q : VK} (e : f i j = v) (q : Q v H) : rI0 f (.int i) (.int j) H Q := ⟨i, j, rfl, rfl, by rw [e]; exact q⟩
theorem rgV_up (n : Nat) : rgV 0 (n : Int) = (upTo n).map V.int := by
  unfold rgV upTo
  rw [List.map_map]
  show (List.range ((n : Int) - 0).toNat).map _ = _
  rw [Int.sub_zero, Int.toNat_natCast]
  apply List.map_congr_left
  intro i _
  show V.int (0 + (i : Int)) = V.int i
  rw [Int.zero_add]
theorem along_bound (g : Bool) (h : Str) : ∀ (ws : List Str) (i : Nat), (along g h i ws).2 ≤ i + ws.length
  | [], i => Nat.le_refl _
  | x :: r, i => by
    unfold along
    rw [List.length_cons]
    split
    · show i + 1 ≤ _
      omega
    · split
      · show i + 1 ≤ _
        omega
      · have := along_bound g h r (i + 1)
        omega
def rules3 : List Str := ["all", "leaf", "half"]
end
section
local macro_rules | `(tactic| walk_at "sl") => `(tactic| first | assumption | exact SqL.of upd_same | exact SqL.of (by assumption) | ((with_reducible apply sql_upd); (walk_at "sl"); (first | assumption | exact Ne.symm (by assumption))))
local macro_rules | `(tactic| walk_at "st") => `(tactic| first | assumption | exact SqT.of upd_same | exact SqT.of (by assumption))
local macro_rules | `(tactic| walk_at "sc") => `(tactic| first | rfl | assumption | (show (0 : Int) < _; first | assumption | decide | omega) | exact Or.inl ⟨by omega, by omega⟩ | exact Or.inr ⟨by omega, by omega⟩ | exact ⟨by decide, by decide⟩ | exact ⟨by decide, by decide, by decide⟩)
local macro_rules | `(tactic| walk_at "g1") => `(tactic| first
  | refine ⟨(_ : V), rfl, ?_⟩
  | refine ⟨(_ : Bool), rfl, ?_⟩
  | refine ⟨(_ : Int), (_ : Int), rfl, rfl, ?_⟩
  | refine ⟨(_ : Int), rfl, ?_⟩
  | refine ⟨(_ : Str), rfl, ?_⟩
  | refine ⟨(_ : Addr), (_ : List V), rfl, Or.inl (by walk_at "sl"), ?_⟩
  | refine ⟨(_ : Addr), (_ : List V), rfl, Or.inr (by walk_at "st"), ?_⟩
  | refine ⟨(_ : Addr), (_ : List V), (_ : Int), (_ : V), rfl, rfl, (by walk_at "sl"), (by first | rfl | assumption), ?_⟩
  | refine ⟨(_ : Addr), (_ : List V), (_ : Int), (_ : V), rfl, rfl, (by walk_at "st"), (by first | rfl | assumption), ?_⟩
  | refine ⟨(_ : Addr), (_ : List V), (_ : Int), (_ : Nat), rfl, rfl, upd_same, rfl, ?_⟩
  | refine ⟨(_ : Addr), (_ : List V), (_ : Int), (_ : Nat), rfl, rfl, (by assumption), rfl, ?_⟩
  | refine ⟨(_ : Addr), (_ : Addr), (_ : Addr), (_ : List (Str × V)), (_ : V), rfl, (by assumption), (by assumption), (by assumption), (by first | assumption | rfl), ?_⟩
  | refine Or.inl ⟨(_ : Int), rfl, ?_⟩
  | refine And.intro (by walk_at "sc") ?_
  | refine iteT ?_
  | refine iteF ?_)
/-! ### the law's own searcher -/
def hereOf (r : Str) (lo hi : Int) : Int := if r = "half" then (lo + hi - 1) / 2 else lo
def J (ws : List Str) (r h : Str) (lo hi : Int) (ps : List Int) : Prop :=
  (r = "half" ∧ ∃ f, (hi - lo).toNat < f ∧ halvesOf ws h = halves ws h f lo (hi - 1) ps) ∨
  (r ≠ "half" ∧ ((hi = ws.length ∧ ps = upTo lo.toNat ∧ along (decide (r = "leaf")) h 0 ws = along (decide (r = "leaf")) h lo.toNat (ws.drop lo.toNat)) ∨ (hi ≤ lo ∧ alongOf ws (decide (r = "leaf")) h = (none, ps))))
theorem upTo_succ (n : Nat) : upTo (n + 1) = upTo n ++ [(n : Int)] := by
  unfold upTo
  rw [List.range_succ, List.map_append]
  rfl
theorem J_start (ws : List Str) (r h : Str) : J ws r h 0 ws.length [] := by
  by_cases e : r = "half"
  · exact .inl ⟨e, ws.length + 1, by omega, rfl⟩
  · exact .inr ⟨e, .inl ⟨rfl, rfl, rfl⟩⟩
theorem J_stop {ws : List Str} {r h : Str} {lo hi : Int} {ps : List Int} (j : J ws r h lo hi ps) (h0 : 0 ≤ lo) (hs : hi ≤ lo) : seekOf ws r h = (none, ps) := by
  rcases j with ⟨e, f, hf, q⟩ | ⟨e, ⟨h1, h2, h3⟩ | ⟨_, h2⟩⟩
  · unfold seekOf
    rw [if_pos e, q]
    cases f with
    | zero => rfl
    | succ f =>
      show (if lo ≤ hi - 1 then _ else _) = _
      rw [if_neg (by omega)]
  · unfold seekOf
    rw [if_neg e]
    unfold alongOf
    have hl : ws.length ≤ lo.toNat := by omega
    rw [h3, List.drop_eq_nil_of_le hl, h2]
    rfl
  · unfold seekOf
    rw [if_neg e, h2]
theorem J_in {ws : List Str} {r h : Str} {lo hi : Int} {ps : List Int} (j : J ws r h lo hi ps) (h0 : 0 ≤ lo) (hs : lo < hi) (hn : hi ≤ ws.length) : 0 ≤ hereOf r lo hi ∧ lo ≤ hereOf r lo hi ∧ hereOf r lo hi < hi := by
  unfold hereOf
  split
  · omega
  · omega
theorem J_half {ws : List Str} {h : Str} {lo hi : Int} {ps : List Int} {f : Nat} {x : Str} (h0 : 0 ≤ lo) (hs : lo < hi) (hx : ws[((lo + hi - 1) / 2).toNat]? = some x) :
    halves ws h (f + 1) lo (hi - 1) ps = if x = h then (some ((lo + hi - 1) / 2).toNat, ps ++ [(lo + hi - 1) / 2]) else if ltS h x = true then halves ws h f lo ((lo + hi - 1) / 2 - 1) (ps ++ [(lo + hi - 1) / 2]) else halves ws h f ((lo + hi - 1) / 2 + 1) (hi - 1) (ps ++ [(lo + hi - 1) / 2]) := by
  have e : lo + (hi - 1) = lo + hi - 1 := by omega
  show (if lo ≤ hi - 1 then (if ws[((lo + (hi - 1)) / 2).toNat]?.getD "" = h then _ else _) else _) = _
  rw [if_pos (by omega), e, hx]
  rfl
theorem J_along {ws : List Str} {g : Bool} {h : Str} {n : Nat} {x : Str} (hx : ws[n]? = some x) : along g h n (ws.drop n) = if x = h then (some n, n + 1) else if (g && ltS h x) = true then (none, n + 1) else along g h (n + 1) (ws.drop (n + 1)) := by
  have hn := (List.getElem?_eq_some_iff.mp hx).1
  have hd : ws.drop n = x :: ws.drop (n + 1) := by
    rw [List.drop_eq_getElem_cons hn]
    rw [List.getElem?_eq_getElem hn] at hx
    rw [Option.some.inj hx]
  rw [hd]
  rfl
theorem J_hit {ws : List Str} {r h : Str} {lo hi : Int} {ps : List Int} (j : J ws r h lo hi ps) (h0 : 0 ≤ lo) (hs : lo < hi) (hx : ws[(hereOf r lo hi).toNat]? = some h) : seekOf ws r h = (some (hereOf r lo hi).toNat, ps ++ [hereOf r lo hi]) := by
  rcases j with ⟨e, f, hf, q⟩ | ⟨e, ⟨h1, h2, h3⟩ | ⟨h4, _⟩⟩
  · have eh : hereOf r lo hi = (lo + hi - 1) / 2 := if_pos e
    rw [eh] at hx ⊢
    obtain ⟨f, rfl⟩ : ∃ f', f = f' + 1 := ⟨f - 1, by omega⟩
    unfold seekOf
    rw [if_pos e, q, J_half h0 hs hx, if_pos rfl]
  · have eh : hereOf r lo hi = lo := if_neg e
    rw [eh] at hx ⊢
    unfold seekOf
    rw [if_neg e]
    unfold alongOf
    rw [h3, J_along hx, if_pos rfl, upTo_succ, Int.toNat_of_nonneg h0, h2]
  · omega
theorem J_up {ws : List Str} {r h x : Str} {lo hi : Int} {ps : List Int} (hr : r ∈ rules3) (j : J ws r h lo hi ps) (h0 : 0 ≤ lo) (hs : lo < hi) (hx : ws[(hereOf r lo hi).toNat]? = some x) (hne : x ≠ h) (hlt : ltS h x = true) (ha : r ≠ "all") :
    J ws r h lo (if r = "half" then hereOf r lo hi else lo) (ps ++ [hereOf r lo hi]) := by
  rcases j with ⟨e, f, hf, q⟩ | ⟨e, ⟨h1, h2, h3⟩ | ⟨h4, _⟩⟩
  · have eh : hereOf r lo hi = (lo + hi - 1) / 2 := if_pos e
    rw [if_pos e]
    rw [eh] at hx ⊢
    obtain ⟨f, rfl⟩ : ∃ f', f = f' + 1 := ⟨f - 1, by omega⟩
    rw [J_half h0 hs hx, if_neg hne, if_pos hlt] at q
    exact .inl ⟨e, f, by omega, q⟩
  · have eh : hereOf r lo hi = lo := if_neg e
    rw [if_neg e]
    rw [eh] at hx ⊢
    have hl : r = "leaf" := by
      unfold rules3 at hr
      rcases List.mem_cons.mp hr with h | hr
      · exact absurd h ha
      · rcases List.mem_cons.mp hr with h | hr
        · exact h
        · exact absurd (List.mem_singleton.mp hr) e
    refine .inr ⟨e, .inr ⟨Int.le_refl _, ?_⟩⟩
    unfold alongOf
    rw [h3, J_along hx, if_neg hne, if_pos (by rw [decide_eq_true hl, hlt]; rfl), upTo_succ, Int.toNat_of_nonneg h0, h2]
  · omega
theorem J_down {ws : List Str} {r h x : Str} {lo hi : Int} {ps : List Int} (hr : r ∈ rules3) (j : J ws r h lo hi ps) (h0 : 0 ≤ lo) (hs : lo < hi) (hx : ws[(hereOf r lo hi).toNat]? = some x) (hne : x ≠ h) (hno : ¬ (ltS h x = true ∧ r ≠ "all")) :
    J ws r h (hereOf r lo hi + 1) hi (ps ++ [hereOf r lo hi]) := by
  rcases j with ⟨e, f, hf, q⟩ | ⟨e, ⟨h1, h2, h3⟩ | ⟨h4, _⟩⟩
  · have eh : hereOf r lo hi = (lo + hi - 1) / 2 := if_pos e
    have ha : r ≠ "all" := by
      rw [e]
      decide
    rw [eh] at hx ⊢
    obtain ⟨f, rfl⟩ : ∃ f', f = f' + 1 := ⟨f - 1, by omega⟩
    rw [J_half h0 hs hx, if_neg hne, if_neg (fun z => hno ⟨z, ha⟩)] at q
    exact .inl ⟨e, f, by omega, q⟩
  · have eh : hereOf r lo hi = lo := if_neg e
    rw [eh] at hx ⊢
    have hb : ¬ (decide (r = "leaf") && ltS h x) = true := fun z => by
      rw [Bool.and_eq_true] at z
      refine hno ⟨z.2, fun ha => ?_⟩
      have := of_decide_eq_true z.1
      rw [ha] at this
      exact absurd this (by decide)
    rw [J_along hx, if_neg hne, if_neg hb] at h3
    have e1 : (lo + 1).toNat = lo.toNat + 1 := by omega
    refine .inr ⟨e, .inl ⟨h1, ?_, ?_⟩⟩
    · rw [e1, upTo_succ, Int.toNat_of_nonneg h0, h2]
    · rw [e1]
      exact h3
  · omega
theorem tC_to {v : V} {σ : St} {H : Hp} {Q : VK} (q : Q v H) : tC v σ H Q := q
theorem ifE {c : Bool} {ta tb : TE} {σ : St} {H : Hp} {Q : VK} (v : V) (H' : Hp) (q : Q v H') (a : c = true → Q v H' → ta σ H Q) (b : ¬ c = true → Q v H' → tb σ H Q) : if c = true then ta σ H Q else tb σ H Q := by
  split
  · exact a (by assumption) q
  · exact b (by assumption) q
theorem str_dec (a b : Str) : decide (V.str a = V.str b) = decide (a = b) := by
  by_cases e : a = b
  · rw [decide_eq_true e, decide_eq_true (congrArg V.str e)]
  · rw [decide_eq_false e, decide_eq_false fun z => e (V.str.inj z)]
end
section
local macro_rules | `(tactic| walk_at "sl") => `(tactic| first | assumption | exact SqL.of upd_same | exact SqL.of (by assumption) | ((with_reducible apply sql_upd); (walk_at "sl"); (first | assumption | exact Ne.symm (by assumption))))
local macro_rules | `(tactic| walk_at "st") => `(tactic| first | assumption | exact SqT.of upd_same | exact SqT.of (by assumption))
local macro_rules | `(tactic| walk_at "sc") => `(tactic| first | rfl | assumption | (show (0 : Int) < _; first | assumption | decide | omega) | exact Or.inl ⟨by omega, by omega⟩ | exact Or.inr ⟨by omega, by omega⟩ | exact ⟨by decide, by decide⟩ | exact ⟨by decide, by decide, by decide⟩)
local macro_rules | `(tactic| walk_at "g1") => `(tactic| first
  | refine ⟨(_ : V), rfl, ?_⟩
  | refine ⟨(_ : Bool), rfl, ?_⟩
  | refine ⟨(_ : Int), (_ : Int), rfl, rfl, ?_⟩
  | refine ⟨(_ : Int), rfl, ?_⟩
  | refine ⟨(_ : Str), rfl, ?_⟩
  | refine ⟨(_ : Addr), (_ : List V), rfl, Or.inl (by walk_at "sl"), ?_⟩
  | refine ⟨(_ : Addr), (_ : List V), rfl, Or.inr (by walk_at "st"), ?_⟩
  | refine ⟨(_ : Addr), (_ : List V), (_ : Int), (_ : V), rfl, rfl, (by walk_at "sl"), (by first | rfl | assumption), ?_⟩
  | refine ⟨(_ : Addr), (_ : List V), (_ : Int), (_ : V), rfl, rfl, (by walk_at "st"), (by first | rfl | assumption), ?_⟩
  | refine ⟨(_ : Addr), (_ : List V), (_ : Int), (_ : Nat), rfl, rfl, upd_same, rfl, ?_⟩
  | refine ⟨(_ : Addr), (_ : List V), (_ : Int), (_ : Nat), rfl, rfl, (by assumption), rfl, ?_⟩
  | refine ⟨(_ : Addr), (_ : Addr), (_ : Addr), (_ : List (Str × V)), (_ : V), rfl, (by assumption), (by assumption), (by assumption), (by first | assumption | rfl), ?_⟩
  | refine Or.inl ⟨(_ : Int), rfl, ?_⟩
  | refine And.intro (by walk_at "sc") ?_
  | refine iteT ?_
  | refine iteF ?_)
/-! ### places; a drawer without some cards -/
/-- the cards but those of some places -/
def lessAt {α : Type} (cs : List α) (ns : List Int) : List α := (List.range cs.length).filterMap fun (i : Nat) => if ((i : Int) ∈ ns) then none else cs[i]?
theorem lessAt_map {α β : Type} (f : α → β) (cs : List α) (ns : List Int) : lessAt (cs.map f) ns = (lessAt cs ns).map f := by
  unfold lessAt
  rw [List.length_map, List.map_filterMap]
  congr 1
  funext i
  rw [List.getElem?_map]
  split <;> rfl
theorem lessAt_sub {α : Type} {cs : List α} {ns : List Int} {x : α} (h : x ∈ lessAt cs ns) : x ∈ cs := by
  unfold lessAt at h
  obtain ⟨i, _, e⟩ := List.mem_filterMap.mp h
  split at e
  · cases e
  · exact List.mem_of_getElem? e
theorem lessAt_len {α : Type} (cs : List α) (ns : List Int) : (lessAt cs ns).length ≤ cs.length := by
  unfold lessAt
  have q := List.length_filterMap_le (fun (i : Nat) => if ((i : Int) ∈ ns) then none else cs[i]?) (List.range cs.length)
  rw [List.length_range] at q
  exact q
theorem Cards.zip {C : Addr} {H : Hp} {ps : List Addr} {cs : List CD} (h : Cards K C H ps cs) : ps = (ps.zip cs).map Prod.fst ∧ cs = (ps.zip cs).map Prod.snd ∧ ∀ z ∈ ps.zip cs, CardAt K C H z.1 z.2 := by
  refine ⟨(List.map_fst_zip (Nat.le_of_eq h.1)).symm, (List.map_snd_zip (Nat.le_of_eq h.1.symm)).symm, fun z hz => ?_⟩
  obtain ⟨i, hi⟩ := List.getElem?_of_mem hz
  obtain ⟨h1, h2⟩ := List.getElem?_zip_eq_some.mp hi
  exact h.2 i _ _ h1 h2
theorem Cards.of_zip {C : Addr} {H : Hp} {zs : List (Addr × CD)} (h : ∀ z ∈ zs, CardAt K C H z.1 z.2) : Cards K C H (zs.map Prod.fst) (zs.map Prod.snd) := by
  refine ⟨by rw [List.length_map, List.length_map], fun i q c h1 h2 => ?_⟩
  rw [List.getElem?_map] at h1 h2
  obtain ⟨z, hz, rfl⟩ := Option.map_eq_some_iff.mp h1
  rw [hz] at h2
  cases h2
  exact h z (List.mem_of_getElem? hz)
theorem Cards.less {C : Addr} {H : Hp} {ps : List Addr} {cs : List CD} (h : Cards K C H ps cs) (ns : List Int) : Cards K C H (lessAt ps ns) (lessAt cs ns) := by
  obtain ⟨e1, e2, h3⟩ := h.zip
  rw [e1]
  generalize hz : ps.zip cs = zs at *
  rw [e2, lessAt_map, lessAt_map]
  exact Cards.of_zip fun z hz' => h3 z (lessAt_sub hz')
theorem inV_int {i : Int} : ∀ ns : List Int, inV (.int i) (ns.map V.int) = decide (i ∈ ns)
  | [] => rfl
  | n :: r => by
    show (eqV (.int n) (.int i) || inV (.int i) (r.map V.int)) = _
    rw [inV_int r]
    show ((n == i) || _) = _
    by_cases e : n = i
    · subst e
      simp
    · have e2 : (n == i) = false := beq_eq_false_iff_ne.mpr e
      rw [e2, Bool.false_or]
      by_cases e3 : i ∈ r
      · rw [decide_eq_true e3, decide_eq_true (List.mem_cons_of_mem _ e3)]
      · rw [decide_eq_false e3, decide_eq_false fun z => (List.mem_cons.mp z).elim (fun z => e z.symm) e3]
theorem flat_ints : ∀ ns : List Int, (ns.map V.int).all flatV = true
  | [] => rfl
  | _ :: r => flat_ints r
end
section
local macro_rules | `(tactic| walk_at "sl") => `(tactic| first | assumption | exact SqL.of upd_same | exact SqL.of (by assumption) | ((with_reducible apply sql_upd); (walk_at "sl"); (first | assumption | exact Ne.symm (by assumption))))
local macro_rules | `(tactic| walk_at "st") => `(tactic| first | assumption | exact SqT.of upd_same | exact SqT.of (by assumption))
local macro_rules | `(tactic| walk_at "sc") => `(tactic| first | rfl | assumption | (show (0 : Int) < _; first | assumption | decide | omega) | exact Or.inl ⟨by omega, by omega⟩ | exact Or.inr ⟨by omega, by omega⟩ | exact ⟨by decide, by decide⟩ | exact ⟨by decide, by decide, by decide⟩)
local macro_rules | `(tactic| walk_at "g1") => `(tactic| first
  | refine ⟨(_ : V), rfl, ?_⟩
  | refine ⟨(_ : Bool), rfl, ?_⟩
  | refine ⟨(_ : Int), (_ : Int), rfl, rfl, ?_⟩
  | refine ⟨(_ : Int), rfl, ?_⟩
  | refine ⟨(_ : Str), rfl, ?_⟩
  | refine ⟨(_ : Addr), (_ : List V), rfl, Or.inl (by walk_at "sl"), ?_⟩
  | refine ⟨(_ : Addr), (_ : List V), rfl, Or.inr (by walk_at "st"), ?_⟩
  | refine ⟨(_ : Addr), (_ : List V), (_ : Int), (_ : V), rfl, rfl, (by walk_at "sl"), (by first | rfl | assumption), ?_⟩
  | refine ⟨(_ : Addr), (_ : List V), (_ : Int), (_ : V), rfl, rfl, (by walk_at "st"), (by first | rfl | assumption), ?_⟩
  | refine ⟨(_ : Addr), (_ : List V), (_ : Int), (_ : Nat), rfl, rfl, upd_same, rfl, ?_⟩
  | refine ⟨(_ : Addr), (_ : List V), (_ : Int), (_ : Nat), rfl, rfl, (by assumption), rfl, ?_⟩
  | refine ⟨(_ : Addr), (_ : Addr), (_ : Addr), (_ : List (Str × V)), (_ : V), rfl, (by assumption), (by assumption), (by assumption), (by first | assumption | rfl), ?_⟩
  | refine Or.inl ⟨(_ : Int), rfl, ?_⟩
  | refine And.intro (by walk_at "sc") ?_
  | refine iteT ?_
  | refine iteF ?_)
/-! ### the law's cards -/
open LamX
def w6 : List Str := ["ant", "bee", "cat", "dog", "elk", "fox"]
def g1 : List Str := ["gnu"]
def w7 : List Str := ["ant", "bee", "cat", "dog", "elk", "fox", "gnu"]
structure GoodL (c : CD) : Prop where
  good : c.Good
  h : c.heading ∈ w7
  s : c.see = "" ∨ c.see ∈ w7
  a : ∀ x ∈ c.also, x ∈ w7
theorem w7_word : ∀ x ∈ w7, isWord x = true := by decide +kernel
theorem w7_nodup : w7.Nodup := by decide +kernel
theorem tabs_but {T : List (Addr × Str)} {H H' : Hp} {r sc : Addr} {ns : List Int} (h : Tabs T H) (b : But r H H') (R : RowAt K H r sc ns) : Tabs T H' := fun p hp => by
  obtain ⟨n1, n2, n3, hr, _⟩ := R
  obtain ⟨ps, h1, h2, h3⟩ := h p hp
  refine ⟨ps, b _ _ h1 fun e => ?_, h2, fun pos cv hc => ?_⟩
  · rw [e, hr] at h1
    cases h1
  · obtain ⟨c, e1, e2⟩ := h3 pos cv hc
    refine ⟨c, e1, b _ _ e2 fun e => ?_⟩
    rw [e, hr] at e2
    cases e2
theorem fm_filter (z : Str) : ∀ l : List Str, l.filterMap (fun y => if y = z then none else some (V.str y)) = (l.filter fun y => !decide (y = z)).map V.str
  | [] => rfl
  | y :: l => by
    rw [List.filterMap_cons, List.filter_cons, fm_filter z l]
    by_cases h : y = z
    · rw [if_pos h, decide_eq_true h]
      rfl
    · rw [if_neg h, decide_eq_false h]
      rfl
def othersOf (z : Str) (nm : List Str) : List Str := (nm ++ g1).filter fun y => !decide (y = z)
theorem int_dec (a b : Int) : decide (V.int a = V.int b) = decide (a = b) := by
  by_cases h : a = b
  · rw [decide_eq_true h, decide_eq_true (congrArg V.int h)]
  · rw [decide_eq_false h, decide_eq_false fun z => h (V.int.inj z)]
theorem good_see {z y : Str} (hz : z ∈ w7) (hy : y ∈ w7) (hne : y ≠ z) : GoodL ⟨z, [], y, []⟩ := by
  refine ⟨⟨w7_word z hz, (show isBooks [] = true by decide), ?_, .inr ⟨rfl, rfl⟩, rfl⟩, hz, .inr hy, nofun⟩
  show isTarget y z = true
  unfold isTarget
  rw [w7_word y hy, decide_eq_false hne]
  simp
theorem good_entry {z : Str} {bs : List Int} {hs : List Str} (hz : z ∈ w7) (hb : isBooks bs = true) (ha : ∀ x ∈ hs, x ∈ w7 ∧ x ≠ z) (hn : hs.Nodup) (hl : hs.length ≤ 4) : GoodL ⟨z, bs, "", hs⟩ := by
  refine ⟨⟨w7_word z hz, hb, ?_, .inl rfl, ?_⟩, hz, .inl rfl, fun x hx => (ha x hx).1⟩
  · show isTarget "" z = true
    unfold isTarget
    rw [decide_eq_true rfl, Bool.true_or]
  · show isFurther hs z = true
    unfold isFurther
    rw [decide_eq_true hl, decide_eq_true hn, Bool.and_true, Bool.true_and, List.all_eq_true]
    intro x hx
    rw [w7_word x (ha x hx).1, decide_eq_false (ha x hx).2]
    rfl
theorem nodup_leI : ∀ {ks ws : List Int}, ks.Nodup → (∀ k ∈ ks, k ∈ ws) → ks.length ≤ ws.length
  | [], _, _, _ => Nat.zero_le _
  | k :: ks, ws, hn, hs => by
    have hk := hs k (.head _)
    obtain ⟨h1, h2⟩ := List.nodup_cons.mp hn
    have := nodup_leI (ws := ws.erase k) h2 fun x hx => (List.mem_erase_of_ne fun e => h1 (by rw [← e]; exact hx)).mpr (hs x (.tail _ hx))
    rw [List.length_erase_of_mem hk] at this
    have := List.length_pos_of_mem hk
    rw [List.length_cons]
    omega
theorem asc_of : ∀ {ms : List Int}, ms.Pairwise (· < ·) → asc ms = true
  | [], _ => rfl
  | [_], _ => rfl
  | a :: b :: ms, h => by
    obtain ⟨h1, h2⟩ := List.pairwise_cons.mp h
    have q := asc_of h2
    show (decide (a < b) && ((b :: ms).zip ms).all fun p => decide (p.1 < p.2)) = true
    rw [decide_eq_true (h1 b (.head _)), Bool.true_and]
    exact q
theorem books_ok {ms : List Int} (hl : ms.length ≤ 6) (hb : ∀ k ∈ ms, 1 ≤ k ∧ k ≤ 999) (h : ms.Pairwise (· < ·)) : isBooks ms = true := by
  unfold isBooks
  rw [decide_eq_true hl, asc_of h, Bool.and_true, Bool.true_and, List.all_eq_true]
  intro k hk
  unfold isNum
  rw [decide_eq_true (hb k hk).1, decide_eq_true (hb k hk).2]
  rfl
/-- the cards, filed -/
def cardLe (a b : CD) : Bool := PySem.W.dataLe false keyD (.non, a.heading) (.non, b.heading)
def fileOf (cs : List CD) : List CD := cs.mergeSort cardLe
theorem fileOf_perm (cs : List CD) : (fileOf cs).Perm cs := List.mergeSort_perm _ _
theorem but_mut {r p : Addr} {H H1 : Hp} {o : HO} (b : But r H H1) (n : H p = none) : But r H (upd H1 p o) := fun c x h hn => by
  rw [upd_ne (ne_of_none h n)]
  exact b c x h hn
theorem seq_nat {n i : Nat} (h : i < n) : seqIndex? (i : Int) n = some i := by
  unfold seqIndex?
  show (if (decide (0 ≤ (if (i : Int) < 0 then (i : Int) + n else i)) && decide ((if (i : Int) < 0 then (i : Int) + n else i) < (n : Int))) = true then some (if (i : Int) < 0 then (i : Int) + n else i).toNat else none) = some i
  rw [if_neg (by omega : ¬ (i : Int) < 0), decide_eq_true (by omega : (0 : Int) ≤ i), decide_eq_true (by omega : (i : Int) < n)]
  rfl
theorem erase_map {α β : Type} (f : α → β) : ∀ (l : List α) (i : Nat), (l.map f).eraseIdx i = (l.eraseIdx i).map f
  | [], _ => rfl
  | _ :: _, 0 => rfl
  | x :: l, i + 1 => by
    show f x :: (l.map f).eraseIdx i = f x :: (l.eraseIdx i).map f
    rw [erase_map f l i]
theorem erase_perm {α : Type} : ∀ {l : List α} {i : Nat} (h : i < l.length), (l[i] :: l.eraseIdx i).Perm l
  | x :: l, 0, _ => List.Perm.refl _
  | x :: l, i + 1, h => (List.Perm.swap x (l[i]'(Nat.lt_of_succ_lt_succ h)) (l.eraseIdx i)).trans ((erase_perm (l := l) (Nat.lt_of_succ_lt_succ h)).cons x)
def lenAtH (a : Addr) : St → Hp → Nat := fun _ H => match H a with
  | some (.lst xs) => xs.length
  | _ => 0
end
section
local macro_rules | `(tactic| walk_at "sl") => `(tactic| first | assumption | exact SqL.of upd_same | exact SqL.of (by assumption) | ((with_reducible apply sql_upd); (walk_at "sl"); (first | assumption | exact Ne.symm (by assumption))))
local macro_rules | `(tactic| walk_at "st") => `(tactic| first | assumption | exact SqT.of upd_same | exact SqT.of (by assumption))
local macro_rules | `(tactic| walk_at "sc") => `(tactic| first | rfl | assumption | (show (0 : Int) < _; first | assumption | decide | omega) | exact Or.inl ⟨by omega, by omega⟩ | exact Or.inr ⟨by omega, by omega⟩ | exact ⟨by decide, by decide⟩ | exact ⟨by decide, by decide, by decide⟩)
local macro_rules | `(tactic| walk_at "g1") => `(tactic| first
  | refine ⟨(_ : V), rfl, ?_⟩
  | refine ⟨(_ : Bool), rfl, ?_⟩
  | refine ⟨(_ : Int), (_ : Int), rfl, rfl, ?_⟩
  | refine ⟨(_ : Int), rfl, ?_⟩
  | refine ⟨(_ : Str), rfl, ?_⟩
  | refine ⟨(_ : Addr), (_ : List V), rfl, Or.inl (by walk_at "sl"), ?_⟩
  | refine ⟨(_ : Addr), (_ : List V), rfl, Or.inr (by walk_at "st"), ?_⟩
  | refine ⟨(_ : Addr), (_ : List V), (_ : Int), (_ : V), rfl, rfl, (by walk_at "sl"), (by first | rfl | assumption), ?_⟩
  | refine ⟨(_ : Addr), (_ : List V), (_ : Int), (_ : V), rfl, rfl, (by walk_at "st"), (by first | rfl | assumption), ?_⟩
  | refine ⟨(_ : Addr), (_ : List V), (_ : Int), (_ : Nat), rfl, rfl, upd_same, rfl, ?_⟩
  | refine ⟨(_ : Addr), (_ : List V), (_ : Int), (_ : Nat), rfl, rfl, (by assumption), rfl, ?_⟩
  | refine ⟨(_ : Addr), (_ : Addr), (_ : Addr), (_ : List (Str × V)), (_ : V), rfl, (by assumption), (by assumption), (by assumption), (by first | assumption | rfl), ?_⟩
  | refine Or.inl ⟨(_ : Int), rfl, ?_⟩
  | refine And.intro (by walk_at "sc") ?_
  | refine iteT ?_
  | refine iteF ?_)
/-! ### the law's own card -/
theorem kb3_Card (T : Top K mg) : ∃ ds, Vals [.ref T.e_Card_init_2] ds ∧ Binds K T.fd_Card_init ["self", "heading", "books", "see", "also"] ds :=
  T.F_Card_init.binds1 (ps := ["self", "heading", "books", "see", "also"]) 4 2 (by simp) rfl (fun T kV doc pm an cdv ct us its l1 l2 => match us, its, l1, l2 with | [_, _, _, _], [_, _, _], _, _ => ⟨_, rfl, rfl⟩)
theorem kb4_Card (T : Top K mg) : Binds K T.fd_Card_init ["self", "heading", "books", "see", "also"] [] := by
  obtain ⟨ds, h1, h2⟩ := T.F_Card_init.binds1 (ps := ["self", "heading", "books", "see", "also"]) 5 3 (by simp) rfl (fun T kV doc pm an cdv ct us its l1 l2 => match us, its, l1, l2 with | [_, _, _, _, _], [_, _, _], _, _ => ⟨_, rfl, rfl⟩)
  cases h1
  exact h2
/-- the books that the law's cards have -/
def b4' : List Int := [1, 2, 3, 300]
structure GoodT (c : CD) : Prop where
  l : GoodL c
  bk : ∀ k ∈ c.books, k ∈ b4'
def spPCard (K : PySem.W.Frag) (C : Addr) : Sp := fun vs H Q _ => ∃ (r sc : Addr) (ns : List Int), vs = [.ref r] ∧ RowAt K H r sc ns ∧
  ∀ (q : Addr) (H' : Hp) (c : CD), But r H H' → RowAt K H' r sc ns → CardAt K C H' q c → GoodT c → q ≠ r → Q (.ref q) H'
def p5 : List Str := ["ant", "bee", "cat", "dog", "elk"]
def oth5 (z : Str) : List Str := w6.filter fun y => !decide (y = z)
def b4 : List Int := [1, 2, 3, 300]
theorem oth5_len : ∀ z ∈ p5, (oth5 z).length = 5 := by decide +kernel
theorem oth5_mem {z x : Str} (h : x ∈ oth5 z) : x ∈ w7 ∧ x ≠ z := by
  obtain ⟨h1, h2⟩ := List.mem_filter.mp h
  exact ⟨List.mem_append_left g1 h1, fun e => by rw [decide_eq_true e] at h2; cases h2⟩
theorem p5_w7 : ∀ x ∈ p5, x ∈ w7 := by decide +kernel
theorem w6_nodup : w6.Nodup := by decide +kernel
theorem b4_asc : b4.Pairwise (· < ·) := by decide +kernel
theorem b4_in : ∀ k ∈ b4, 1 ≤ k ∧ k ≤ 999 := by decide +kernel
/-- a comprehension that takes from the row for each item: a part of the items -/
theorem sub_snoc {α : Type} {ys xs : List α} {i : Nat} {x : α} (h : ys.Sublist (xs.take i)) (hx : xs[i]? = some x) : (ys ++ [x]).Sublist (xs.take (i + 1)) := by
  rw [List.take_add_one, hx]
  exact h.append (List.Sublist.refl _)
theorem sub_more {α : Type} {ys xs : List α} {i : Nat} (h : ys.Sublist (xs.take i)) : ys.Sublist (xs.take (i + 1)) := by
  rw [List.take_add_one]
  exact h.trans (List.sublist_append_left _ _)
theorem ok_llaw_card (T : Top K mg) : FnOk P w K mg base CX0 6 T.a_llaw_card T.fd_llaw_card ["_law_row"] (spPCard K T.c_Card) := by
  refine T.F_llaw_card.ok sc_llaw_card (fun vs H Q E h => ?_) (fun cdv A outer s H vs Q E hr h => ?_)
  · obtain ⟨r, sc, ns, rfl, _⟩ := h
    rfl
  · obtain ⟨r, sc, ns, rfl, hR, k⟩ := h
    have hu := hu_of hr
    obtain ⟨ds3, hv3, hb3⟩ := kb3_Card T
    refine ⟨_, (pss_cons (ps_set (i := 1) sc_llaw_card.nd rfl (.inl rfl) (pe_lst (pa_cons pe_str (pa_cons pe_str (pa_cons pe_str (pa_cons pe_str (pa_cons pe_str pa_nil)))))))
      (pss_cons (ps_asg (pe_tup (pa_cons (pe_ix ix_list (pv 1) (pe_call (ok_llaw_taken T) (hr.mono (by decide)) (by rfl) T.g_llaw_taken T.F_llaw_taken.kp (b_llaw_taken T) .nil pass0 (pa_cons (pv 0) (pa_cons pe_int pa_nil))) (fun _ _ => rfl)) (pa_cons (pe_call (ok_llaw_taken T) (hr.mono (by decide)) (by rfl) T.g_llaw_taken T.F_llaw_taken.kp (b_llaw_taken T) .nil pass0 (pa_cons (pv 0) (pa_cons pe_int pa_nil))) pa_nil))) (pg_tup rfl (pgs_cons (pg_name (i := 2) sc_llaw_card.nd rfl (.inr rfl)) (pgs_cons (pg_name (i := 3) sc_llaw_card.nd rfl (.inl rfl)) pgs_nil))))
      (pss_cons (ps_setLc (i := 4) (own := [("_law_other", 6)]) (g := gName 6) rfl sc_llaw_card.nd rfl rfl (sw_true rfl rfl rfl (by decide +kernel)) (pi_list (pe_op op_cat (pv 1) (pe_lst (pa_cons pe_str pa_nil)))) (blkOk_by (N := N_llaw_card) (sc := defScope s_llaw_card) (by decide +kernel)) (fun _ _ _ _ _ => (pg_name (i := 6) sc_llaw_card.nd rfl (.inl rfl))) (fun _ _ _ _ _ => (pts_one (pt_cmpR op_ne (pv 6) (pv 2) (nomark _)))) (fun _ _ _ _ _ => (pv 6)))
      (pss_cons (ps_if (pt_cmpR op_eq (pv 3) pe_int (nomark _)) (pss_one (ps_ret (pe_make T.Mk_Card (ok_Card_init T) (hr.mono (by decide)) (by rfl) T.g_Card hb3 hv3 pass0 (pa_cons (pv 2) (pa_cons (pe_tup pa_nil) (pa_cons (pe_ix ix_list (pv 4) (pe_call (ok_llaw_taken T) (hr.mono (by decide)) (by rfl) T.g_llaw_taken T.F_llaw_taken.kp (b_llaw_taken T) .nil pass0 (pa_cons (pv 0) (pa_cons pe_int pa_nil))) (fun _ _ => rfl)) pa_nil)))))) pss_nil)
      (pss_cons (ps_set (i := 5) sc_llaw_card.nd rfl (.inl rfl) (pe_callTy call_tuple_of (by rfl) T.m_tuple (by decide +kernel) (pa_cons (pe_slice sl_list (pe_lc (own := [("_law_other", 6)]) (g := gName 6) rfl sc_llaw_card.nd (pi_list (pv 4)) (blkOk_by (N := N_llaw_card) (sc := defScope s_llaw_card) (by decide +kernel)) (fun _ _ _ _ _ => (pg_name (i := 6) sc_llaw_card.nd rfl (.inl rfl))) (fun _ _ _ _ _ => (pts_one (pt_cmpR op_eq (pe_call (ok_llaw_taken T) (hr.mono (by decide)) (by rfl) T.g_llaw_taken T.F_llaw_taken.kp (b_llaw_taken T) .nil pass0 (pa_cons (pv 0) (pa_cons pe_int pa_nil))) pe_int (nomark _)))) (fun _ _ _ _ _ => (pv 6))) po_none (po_some pe_int)) pa_nil)))
      (pss_one (ps_ret (pe_make T.Mk_Card (ok_Card_init T) (hr.mono (by decide)) (by rfl) T.g_Card (kb4_Card T) .nil pass0 (pa_cons (pv 2) (pa_cons (pe_callTy call_tuple_of (by rfl) T.m_tuple (by decide +kernel) (pa_cons (pe_lc (own := [("_law_one", 7)]) (g := gName 7) rfl sc_llaw_card.nd (pi_tup (pe_tup (pa_cons pe_int (pa_cons pe_int (pa_cons pe_int (pa_cons pe_int pa_nil)))))) (blkOk_by (N := N_llaw_card) (sc := defScope s_llaw_card) (by decide +kernel)) (fun _ _ _ _ _ => (pg_name (i := 7) sc_llaw_card.nd rfl (.inl rfl))) (fun _ _ _ _ _ => (pts_one (pt_cmpR op_eq (pe_call (ok_llaw_taken T) (hr.mono (by decide)) (by rfl) T.g_llaw_taken T.F_llaw_taken.kp (b_llaw_taken T) .nil pass0 (pa_cons (pv 0) (pa_cons pe_int pa_nil))) pe_int (nomark _)))) (fun _ _ _ _ _ => (pv 7))) pa_nil)) (pa_cons pe_str (pa_cons (pv 5) pa_nil)))))))))))), ?_⟩
    refine ⟨by show 5 ≤ sizeLine; decide, fun ln hln => ?_⟩
    have R1 : RowAt K (upd H ln (.lst (p5.map V.str))) r sc ns := hR.same (same_new hln)
    have e1 : (upd H ln (.lst (p5.map V.str))) ln = some (.lst (p5.map V.str)) := upd_same
    have hlr : ln ≠ r := (hR.new hln).1
    have b1 : But r H (upd H ln (.lst (p5.map V.str))) := (same_new hln).but
    show gName 1 (.ref ln) (L2.start N_llaw_card [V.ref r]) (upd H ln (.lst (p5.map V.str))) _
    generalize upd H ln (.lst (p5.map V.str)) = H1 at *
    refine ⟨_, rfl, _, rfl, r, sc, ns, 5, rfl, by decide, by decide, R1, fun n1 H2 hn1 b2 R2 => ?_⟩
    have h15 : n1 < p5.length := by show n1 < 5; omega
    have hz : p5[n1]? = some p5[n1] := List.getElem?_eq_getElem h15
    have hzm : p5[n1] ∈ p5 := List.getElem_mem h15
    have e2 := b2 _ _ e1 hlr
    refine ⟨ln, _, (n1 : Nat), .str p5[n1], rfl, rfl, SqL.of e2, atI_nat (by rw [List.getElem?_map, hz]; rfl), ?_⟩
    generalize p5[n1] = z at *
    refine ⟨_, rfl, r, sc, ns, 3, rfl, by decide, by decide, R2, fun n2 H3 hn2 b3 R3 => ?_⟩
    refine ⟨by show 2 ≤ sizeLine; decide, fun t2 ht2 => ?_⟩
    have t2q : SqT K (upd H3 t2 (.tup [.str z, .int (n2 : Nat)])) t2 [.str z, .int (n2 : Nat)] := SqT.of upd_same
    have s4 : Same H3 (upd H3 t2 (.tup [.str z, .int (n2 : Nat)])) := same_new ht2
    have e4 := s4 _ _ (b3 _ _ e2 hlr)
    have R4 := R3.same s4
    have b4' : But r H (upd H3 t2 (.tup [.str z, .int (n2 : Nat)])) := ((b1.trans b2).trans b3).same s4
    generalize upd H3 t2 (.tup [.str z, .int (n2 : Nat)]) = H4 at *
    refine ⟨t2, _, rfl, t2q, rfl, ?_⟩
    refine ⟨_, _, rfl, _, _, rfl, rfl, ?_⟩
    clear t2q ht2 s4 R1 R2 R3 e1 e2 b1 b2 b3 h15 hz hn1 hln
    refine ⟨_, rfl, by show 1 ≤ sizeLine; decide, fun lg hlg => ?_⟩
    refine ⟨ln, lg, _, _, rfl, rfl, kp e4 hlg, upd_same, Nat.le_of_lt (sizeLine_of (by show 6 ≤ 1000000; decide)), fun lo hlo => ?_⟩
    have s5 : Same H4 (upd (upd H4 lg (.lst [.str "fox"])) lo (.lst (p5.map V.str ++ [.str "fox"]))) := (same_new hlg).trans (same_new hlo)
    have ho : (upd (upd H4 lg (.lst [.str "fox"])) lo (.lst (p5.map V.str ++ [.str "fox"]))) lo = some (.lst (w6.map V.str)) := upd_same
    generalize upd (upd H4 lg (.lst [.str "fox"])) lo (.lst (p5.map V.str ++ [.str "fox"])) = H5 at *
    refine ⟨lo, rfl, ⟨_, SqL.of ho⟩, fun D hD => lc_fn (walk_list (xs := w6.map V.str)) (by show 6 ≤ 1000000; decide) hD (fun j => (w6[j]?.bind fun y => if y = z then none else some (V.str y))) (fun H' s' => s'.seq (SqL.of ho)) (fun i x H10 H11 hi s10 hy Rr R0 r1 r0 => ?_) (fun H6 s6 hd => ?_)⟩
    · obtain ⟨rfl, hx⟩ := hy
      rw [List.getElem?_map] at hx
      obtain ⟨y, hy, rfl⟩ := Option.map_eq_some_iff.mp hx
      rw [hy] at r1 r0
      refine ⟨rfl, ?_⟩
      refine ⟨_, rfl, _, rfl, rNe_to (b := !decide (y = z)) rfl (by rw [str_dec]) ?_⟩
      refine ⟨_, rfl, ?_⟩
      by_cases hyz : y = z
      · rw [decide_eq_true hyz]
        exact iteF (r0 _ (if_pos hyz) (Same.refl _))
      · rw [decide_eq_false hyz]
        exact iteT ⟨_, rfl, r1 _ _ (if_neg hyz) (Same.refl _)⟩
    have hd2 : H6 D = some (.lst ((oth5 z).map V.str)) := by
      rw [hd, List.length_map, range_fm w6 (fun y => if y = z then none else some (V.str y)) _ (fun i x h => by rw [h]; rfl), fm_filter]
      rfl
    have R6 := R4.same (s5.trans s6)
    have b6 : But r H H6 := b4'.same (s5.trans s6)
    have hDr : D ≠ r := ((R4.same s5).new hD).1
    clear hd s5 s6 ho R4 b4' e4 hlg hlo hD
    have hz7 := p5_w7 z hzm
    refine ⟨_, rfl, tC_to (rEq_to (b := decide ((n2 : Int) = 0)) rfl (by rw [int_dec]) ?_)⟩
    refine ⟨_, rfl, ?_⟩
    by_cases h0 : (n2 : Int) = 0
    · rw [decide_eq_true h0]
      refine iteT ?_
      refine ⟨_, rfl, Nat.zero_le _, fun t0 ht0 => ?_⟩
      have R7 := R6.same (same_new (o := .tup []) ht0)
      have d7 := (same_new (o := .tup []) ht0) _ _ hd2
      have z7 : SqT K (upd H6 t0 (.tup [])) t0 (([] : List Int).map V.int) := SqT.of upd_same
      have b7 : But r H (upd H6 t0 (.tup [])) := b6.same (same_new ht0)
      have nt0 : t0 ≠ r := (R6.new ht0).1
      generalize upd H6 t0 (.tup []) = H7 at *
      refine ⟨_, rfl, _, rfl, r, sc, ns, 5, rfl, by decide, by decide, R7, fun n5 H8 hn5 b8 R8 => ?_⟩
      have h5 : n5 < (oth5 z).length := by rw [oth5_len z hzm]; omega
      have hy : (oth5 z)[n5]? = some (oth5 z)[n5] := List.getElem?_eq_getElem h5
      obtain ⟨hy7, hyz⟩ := oth5_mem (List.getElem_mem h5)
      refine ⟨D, _, (n5 : Nat), .str (oth5 z)[n5], rfl, rfl, SqL.of (b8 _ _ d7 hDr), atI_nat (by rw [List.getElem?_map, hy]; rfl), ?_⟩
      generalize (oth5 z)[n5] = y at *
      have z8 := b8.seqT nt0 z7
      have b08 := b7.trans b8
      clear d7 z7 R7 b7 b8 hd2 b6 R6 hy h5 ht0
      intro q dx hq hdx hne
      have sN : Same H8 (upd (upd H8 dx (.own q)) q (.ins T.c_Card dx [])) := fun b o e => by
        rw [upd_ne (ne_of_none e hq), upd_ne (ne_of_none e hdx)]
        exact e
      have hg := good_see hz7 hy7 hyz
      refine ⟨q, dx, ⟨z, [], y, []⟩, t0, T.e_Card_init_2, rfl, upd_same, hg.good, sN.seqT z8, T.ek_Card_init_2 _, Nat.zero_le _, fun H9 b9 c9 => ⟨rfl, ?_⟩⟩
      have s9 : Same H8 H9 := fun b o e => b9 b o (sN b o e) (ne_of_none e hq)
      exact k q H9 _ (b08.same s9) (R8.same s9) c9 ⟨hg, fun _ h => nomatch h⟩ (R8.new hq).1
    · rw [decide_eq_false h0]
      refine iteF ?_
      refine ⟨_, rfl, D, rfl, ⟨_, SqL.of hd2⟩, fun D2 hD2 => lc_it (walk_list (xs := (oth5 z).map V.str)) (fun i H7 => But r H6 H7 ∧ RowAt K H7 r sc ns ∧ D2 ≠ r ∧ ∃ ys : List Str, ys.Sublist ((oth5 z).take i) ∧ H7 D2 = some (.lst (ys.map V.str)))
        ⟨(same_new hD2).but, R6.same (same_new hD2), (R6.new hD2).1, [], List.nil_sublist _, upd_same⟩ (fun i H7 _ hP => hP.1.seq hDr (SqL.of hd2)) (fun i x H7 H8 hi hP hy => ?_) (fun H7 hP => ?_)⟩
      · obtain ⟨b7, R7, nD2, ys, hys, e7⟩ := hP
        obtain ⟨rfl, hx⟩ := hy
        rw [List.getElem?_map] at hx
        obtain ⟨y, hy, rfl⟩ := Option.map_eq_some_iff.mp hx
        have h5 := oth5_len z hzm
        have hyl : ys.length ≤ 5 := by
          have := hys.length_le
          rw [List.length_take] at this
          omega
        refine ⟨rfl, ?_⟩
        refine ⟨_, rfl, r, sc, ns, 4, rfl, by decide, by decide, R7, fun n H9 hn b9 R9 => ?_⟩
        refine tC_to (rEq_to (b := decide ((n : Int) = 0)) rfl (by rw [int_dec]) ?_)
        refine ⟨_, rfl, ?_⟩
        have e9 := b9 _ _ e7 nD2
        by_cases h0 : (n : Int) = 0
        · rw [decide_eq_true h0]
          refine iteT ?_
          exact ⟨_, rfl, _, e9, sizeLine_of (by rw [List.length_map]; omega), but_mut (b7.trans b9) hD2, R9.mut (R6.new hD2), nD2, ys ++ [y], sub_snoc hys hy, by rw [upd_same, List.map_append]; rfl⟩
        · rw [decide_eq_false h0]
          refine iteF ?_
          exact ⟨b7.trans b9, R9, nD2, ys, sub_more hys, e9⟩
      · obtain ⟨b7, R7, nD2, ys, hys, e7⟩ := hP
        have hys5 : ys.Sublist (oth5 z) := hys.trans (List.take_sublist _ _)
        clear hys
        refine ⟨_, rfl, D2, ys.map V.str, rfl, SqL.of e7, fun n4 hn4 => ?_⟩
        have hcut : cutV (ys.map V.str) none (some 4) = (ys.take 4).map V.str := by
          rw [List.map_take]
          exact cut_take (ys.map V.str) 4
        rw [hcut]
        have hs4 : (ys.take 4).Sublist (oth5 z) := (List.take_sublist _ _).trans hys5
        have hl4 : (ys.take 4).length ≤ 4 := by rw [List.length_take]; omega
        generalize ys.take 4 = hs at *
        refine ⟨n4, _, rfl, .inl ⟨SqL.of upd_same, fun th hth => ?_⟩⟩
        have s8 : Same H7 (upd (upd H7 n4 (.lst (hs.map V.str))) th (.tup (hs.map V.str))) := (same_new hn4).trans (same_new hth)
        have t8 : SqT K (upd (upd H7 n4 (.lst (hs.map V.str))) th (.tup (hs.map V.str))) th (hs.map V.str) := SqT.of upd_same
        have nth : th ≠ r := ((R7.same (same_new (o := .lst (hs.map V.str)) hn4)).new hth).1
        have R8 := R7.same s8
        have b8 : But r H (upd (upd H7 n4 (.lst (hs.map V.str))) th (.tup (hs.map V.str))) := (b6.trans b7).same s8
        generalize upd (upd H7 n4 (.lst (hs.map V.str))) th (.tup (hs.map V.str)) = H8 at *
        clear s8 R7 b7 e7 hn4 hth hcut hys5 b6 R6 hd2 hD2 nD2
        refine ⟨_, rfl, by show 4 ≤ sizeLine; decide, fun t4 ht4 => ?_⟩
        have nt4 : t4 ≠ r := (R8.new ht4).1
        have R9 := R8.same (same_new (o := .tup [.int 1, .int 2, .int 3, .int 300]) ht4)
        have b9 : But r H (upd H8 t4 (.tup [.int 1, .int 2, .int 3, .int 300])) := b8.same (same_new ht4)
        have t9 := (same_new (o := .tup [.int 1, .int 2, .int 3, .int 300]) ht4).seqT t8
        have q9 : SqT K (upd H8 t4 (.tup [.int 1, .int 2, .int 3, .int 300])) t4 (b4.map V.int) := SqT.of upd_same
        generalize upd H8 t4 (.tup [.int 1, .int 2, .int 3, .int 300]) = H9 at *
        clear R8 b8 t8 ht4
        refine ⟨t4, rfl, ⟨_, q9⟩, fun D3 hD3 => lc_it (walk_tup (xs := b4.map V.int)) (fun i H10 => But r H9 H10 ∧ RowAt K H10 r sc ns ∧ D3 ≠ r ∧ ∃ bs : List Int, bs.Sublist (b4.take i) ∧ H10 D3 = some (.lst (bs.map V.int)))
          ⟨(same_new hD3).but, R9.same (same_new hD3), (R9.new hD3).1, [], List.nil_sublist _, upd_same⟩ (fun i H10 _ hP => hP.1.seqT nt4 q9) (fun i x H10 H11 hi hP hy => ?_) (fun H10 hP => ?_)⟩
        · obtain ⟨b10, R10, nD3, bs, hbs, e10⟩ := hP
          obtain ⟨rfl, hx⟩ := hy
          rw [List.getElem?_map] at hx
          obtain ⟨b, hb, rfl⟩ := Option.map_eq_some_iff.mp hx
          have hbl : bs.length ≤ 4 := by
            have := hbs.length_le
            rw [List.length_take] at this
            have : b4.length = 4 := rfl
            omega
          refine ⟨rfl, ?_⟩
          refine ⟨_, rfl, r, sc, ns, 3, rfl, by decide, by decide, R10, fun n H12 hn b12 R12 => ?_⟩
          refine tC_to (rEq_to (b := decide ((n : Int) = 0)) rfl (by rw [int_dec]) ?_)
          refine ⟨_, rfl, ?_⟩
          have e12 := b12 _ _ e10 nD3
          by_cases h0 : (n : Int) = 0
          · rw [decide_eq_true h0]
            refine iteT ?_
            exact ⟨_, rfl, _, e12, sizeLine_of (by rw [List.length_map]; omega), but_mut (b10.trans b12) hD3, R12.mut (R9.new hD3), nD3, bs ++ [b], sub_snoc hbs hb, by rw [upd_same, List.map_append]; rfl⟩
          · rw [decide_eq_false h0]
            refine iteF ?_
            exact ⟨b10.trans b12, R12, nD3, bs, sub_more hbs, e12⟩
        · obtain ⟨b10, R10, nD3, bs, hbs, e10⟩ := hP
          have hbs4 : bs.Sublist b4 := hbs.trans (List.take_sublist _ _)
          have hbl : bs.length ≤ 6 := by
            have := hbs4.length_le
            have : b4.length = 4 := rfl
            omega
          refine ⟨D3, _, rfl, .inl ⟨SqL.of e10, fun tb htb => ?_⟩⟩
          have t11 := (b10.same (same_new (o := .tup (bs.map V.int)) htb)).seqT nth t9
          have q11 : SqT K (upd H10 tb (.tup (bs.map V.int))) tb (bs.map V.int) := SqT.of upd_same
          have R11 := R10.same (same_new (o := .tup (bs.map V.int)) htb)
          have b11 : But r H (upd H10 tb (.tup (bs.map V.int))) := (b9.trans b10).same (same_new htb)
          generalize upd H10 tb (.tup (bs.map V.int)) = H11 at *
          clear R10 b10 b9 R9 t9 q9 e10 hD3 hbs htb
          refine ⟨_, rfl, ?_⟩
          intro q dx hq hdx hne
          have sN : Same H11 (upd (upd H11 dx (.own q)) q (.ins T.c_Card dx [])) := fun b o e => by
            rw [upd_ne (ne_of_none e hq), upd_ne (ne_of_none e hdx)]
            exact e
          have hg : GoodL ⟨z, bs, "", hs⟩ := good_entry hz7 (books_ok hbl (fun k hk => b4_in k (hbs4.subset hk)) (b4_asc.sublist hbs4)) (fun x hx => oth5_mem (hs4.subset hx)) ((w6_nodup.sublist List.filter_sublist).sublist hs4) hl4
          refine ⟨q, dx, ⟨z, bs, "", hs⟩, tb, th, rfl, upd_same, hg.good, sN.seqT q11, sN.seqT t11, hl4, fun H12 b12 c12 => ⟨rfl, ?_⟩⟩
          have s12 : Same H11 H12 := fun b o e => b12 b o (sN b o e) (ne_of_none e hq)
          exact k q H12 _ (b11.same s12) (R11.same s12) c12 ⟨hg, fun k hk => hbs4.subset hk⟩ (R11.new hq).1
end
section
local macro_rules | `(tactic| walk_at "sl") => `(tactic| first | assumption | exact SqL.of upd_same | exact SqL.of (by assumption) | ((with_reducible apply sql_upd); (walk_at "sl"); (first | assumption | exact Ne.symm (by assumption))))
local macro_rules | `(tactic| walk_at "st") => `(tactic| first | assumption | exact SqT.of upd_same | exact SqT.of (by assumption))
local macro_rules | `(tactic| walk_at "sc") => `(tactic| first | rfl | assumption | (show (0 : Int) < _; first | assumption | decide | omega) | exact Or.inl ⟨by omega, by omega⟩ | exact Or.inr ⟨by omega, by omega⟩ | exact ⟨by decide, by decide⟩ | exact ⟨by decide, by decide, by decide⟩)
local macro_rules | `(tactic| walk_at "g1") => `(tactic| first
  | refine ⟨(_ : V), rfl, ?_⟩
  | refine ⟨(_ : Bool), rfl, ?_⟩
  | refine ⟨(_ : Int), (_ : Int), rfl, rfl, ?_⟩
  | refine ⟨(_ : Int), rfl, ?_⟩
  | refine ⟨(_ : Str), rfl, ?_⟩
  | refine ⟨(_ : Addr), (_ : List V), rfl, Or.inl (by walk_at "sl"), ?_⟩
  | refine ⟨(_ : Addr), (_ : List V), rfl, Or.inr (by walk_at "st"), ?_⟩
  | refine ⟨(_ : Addr), (_ : List V), (_ : Int), (_ : V), rfl, rfl, (by walk_at "sl"), (by first | rfl | assumption), ?_⟩
  | refine ⟨(_ : Addr), (_ : List V), (_ : Int), (_ : V), rfl, rfl, (by walk_at "st"), (by first | rfl | assumption), ?_⟩
  | refine ⟨(_ : Addr), (_ : List V), (_ : Int), (_ : Nat), rfl, rfl, upd_same, rfl, ?_⟩
  | refine ⟨(_ : Addr), (_ : List V), (_ : Int), (_ : Nat), rfl, rfl, (by assumption), rfl, ?_⟩
  | refine ⟨(_ : Addr), (_ : Addr), (_ : Addr), (_ : List (Str × V)), (_ : V), rfl, (by assumption), (by assumption), (by assumption), (by first | assumption | rfl), ?_⟩
  | refine Or.inl ⟨(_ : Int), rfl, ?_⟩
  | refine And.intro (by walk_at "sc") ?_
  | refine iteT ?_
  | refine iteF ?_)
/-! ### the law's own drawer -/
open LamX
theorem cards_sort {C : Addr} {H : Hp} {ps : List Addr} {cs : List CD} (h : Cards K C H ps cs) : ∃ bs : List (V × Str), bs.map (·.1) = ps.map V.ref ∧ (∀ b ∈ bs, RKi C "_heading" H b.1 b.2) ∧ ∃ ps' : List Addr, (sortBy bs).map (·.1) = ps'.map V.ref ∧ ∀ H', Imm H H' → Cards K C H' ps' (fileOf cs) := by
  obtain ⟨e1, e2, hz⟩ := h.zip
  generalize ps.zip cs = zs at *
  subst e1 e2
  refine ⟨zs.map fun z => (V.ref z.1, z.2.heading), by rw [List.map_map, List.map_map]; rfl, fun b hb => ?_, (zs.mergeSort fun z z' => cardLe z.2 z'.2).map Prod.fst, ?_, fun H' im => ?_⟩
  · obtain ⟨z, hm, rfl⟩ := List.mem_map.mp hb
    obtain ⟨dx, b, a, e, _⟩ := hz z hm
    exact ⟨z.1, dx, _, rfl, e, cf_heading _ _ _ _⟩
  · have q1 : sortBy (zs.map fun z => (V.ref z.1, z.2.heading)) = (zs.mergeSort fun z z' => cardLe z.2 z'.2).map fun z => (V.ref z.1, z.2.heading) := (List.map_mergeSort (r := fun (z z' : Addr × CD) => cardLe z.2 z'.2) (s := PySem.W.dataLe false keyD) (f := fun (z : Addr × CD) => (V.ref z.1, z.2.heading)) (fun a _ b _ => rfl)).symm
    rw [q1, List.map_map, List.map_map]
    rfl
  · have q2 : fileOf (zs.map Prod.snd) = (zs.mergeSort fun z z' => cardLe z.2 z'.2).map Prod.snd := (List.map_mergeSort (r := fun (z z' : Addr × CD) => cardLe z.2 z'.2) (s := cardLe) (f := Prod.snd) (fun a _ b _ => rfl)).symm
    rw [q2]
    exact Cards.of_zip fun z hm => (hz z ((List.mergeSort_perm _ _).mem_iff.mp hm)).imm im
theorem cards_snoc {C : Addr} {H H' : Hp} {ps : List Addr} {cs : List CD} {q : Addr} {c : CD} (I : Cards K C H ps cs) (im : Imm H H') (hv : CardAt K C H' q c) : Cards K C H' (ps ++ [q]) (cs ++ [c]) := by
  have I9 := I.imm im
  refine ⟨by rw [List.length_append, List.length_append, I.1]; rfl, fun m u d h1 h2 => ?_⟩
  by_cases hm : m < ps.length
  · rw [List.getElem?_append_left hm] at h1
    rw [List.getElem?_append_left (by rw [← I.1]; exact hm)] at h2
    exact I9.2 m u d h1 h2
  · have hl := (List.getElem?_eq_some_iff.mp h1).1
    rw [List.length_append, List.length_singleton] at hl
    obtain rfl : m = ps.length := by omega
    rw [List.getElem?_append_right (Nat.le_refl _), Nat.sub_self] at h1
    rw [I.1, List.getElem?_append_right (Nat.le_refl _), Nat.sub_self] at h2
    cases h1
    cases h2
    exact hv
abbrev lamP : Str := "_law_drawer" ++ ".<locals>." ++ "<lambda>"
def spPDrawer (K : PySem.W.Frag) (D C tP : Addr) : Sp := fun vs H Q _ => ∃ (r sc : Addr) (ns : List Int) (m : Nat), vs = [.ref r, .int (m : Nat)] ∧ m ≤ 16 ∧ RowAt K H r sc ns ∧ Tabs [(tP, lamP)] H ∧
  ∀ (q : Addr) (H' : Hp) (cs : List CD), cs.length ≤ m → ButN r H H' → Tabs [(tP, lamP)] H' → RowAt K H' r sc ns → DrawerAt K D C H' q cs → (∀ c ∈ cs, GoodT c) → q ≠ r → Q (.ref q) H'
theorem rowAt_ext {H H' : Hp} {r sc : Addr} {ns : List Int} (R : RowAt K H r sc ns) (e : ExtN H H') : RowAt K H' r sc ns := by
  obtain ⟨n1, n2, n3, h1, h2, h3⟩ := R
  exact ⟨n1, n2, n3, e _ _ h1 (fun _ z => nomatch z), h2.imp (fun z => ⟨extN_sql e z.1, z.2⟩) id, h3⟩
theorem ok_llaw_drawer (T : Top K mg) {c tP : Addr} (hcode : T.fd_llaw_drawer.code = .ref c) (TB : TabB base mg c tP) : FnOk P w K mg base CX0 7 T.a_llaw_drawer T.fd_llaw_drawer ["_law_row", "_law_most"] (spPDrawer K T.c_Drawer T.c_Card tP) := by
  refine T.F_llaw_drawer.okC sc_llaw_drawer (fun vs H Q E h => ?_) (fun A outer s H vs Q E hr h => ?_)
  · obtain ⟨r, sc, ns, m, rfl, _⟩ := h
    rfl
  · obtain ⟨r, sc, ns, m, rfl, hm, hR, hT, k⟩ := h
    have hu := hu_of hr
    refine ⟨_, (pss_cons (ps_setLc (i := 2) (own := [("_law_k", 3)]) (g := gName 3) (tt := tYes) rfl sc_llaw_drawer.nd rfl rfl (sw_true rfl rfl rfl (by decide +kernel)) (pi_range1 (by rfl) T.m_range (pa_cons (pe_call (ok_llaw_taken T) (hr.mono (by decide)) (by rfl) T.g_llaw_taken T.F_llaw_taken.kp (b_llaw_taken T) .nil pass0 (pa_cons (pv 0) (pa_cons (pe_op op_add (pv 1) pe_int) pa_nil))) pa_nil)) (blkOk_by (N := N_llaw_drawer) (sc := defScope s_llaw_drawer) (by decide +kernel)) (fun _ _ _ _ _ => (pg_name (i := 3) sc_llaw_drawer.nd rfl (.inl rfl))) (fun _ _ _ _ _ => pts_nil) (fun _ _ _ _ _ => (pe_call (ok_llaw_card T) (hr.mono (by decide)) (by rfl) T.g_llaw_card T.F_llaw_card.kp (b_llaw_card T) .nil pass0 (pa_cons (pv 0) pa_nil))))
      (pss_cons (ps_mid (ps_if (pt_cmpR op_eq (pe_call (ok_llaw_taken T) (hr.mono (by decide)) (by rfl) T.g_llaw_taken T.F_llaw_taken.kp (b_llaw_taken T) .nil pass0 (pa_cons (pv 0) (pa_cons pe_int pa_nil))) pe_int (nomark _)) (pss_one (ps_set (i := 2) sc_llaw_drawer.nd rfl (.inl rfl) (pe_sortProp (by rfl) T.m_sorted (pv 2) TB hcode hr T.cl_Card T.P_Card_heading T.F_Card_heading (b_Card_heading T) T.n_Card__heading))) pss_nil))
      (pss_one (ps_ret (pe_make T.Mk_Drawer (ok_Drawer_init T) (hr.mono (by decide)) (by rfl) T.g_Drawer (b_Drawer_init T) .nil pass0 (pa_cons (pe_callTy call_tuple_of (by rfl) T.m_tuple (by decide +kernel) (pa_cons (pv 2) pa_nil)) pa_nil)))))), ?_⟩
    refine ⟨_, rfl, _, rfl, _, _, rfl, rfl, ?_⟩
    refine ⟨r, sc, ns, (m : Int) + 1, rfl, by omega, by omega, hR, fun n H1 hn b1 R1 => ?_⟩
    refine ⟨_, rfl, by omega, by omega, fun D hD => ?_⟩
    have hDr := R1.new hD
    refine lc_it (walk_range (n := n)) (fun i H2 => But r H1 H2 ∧ RowAt K H2 r sc ns ∧ ∃ (ps : List Addr) (cs : List CD), cs.length = i ∧ (∀ c ∈ cs, GoodT c) ∧ H2 D = some (.lst (ps.map V.ref)) ∧ Cards K T.c_Card H2 ps cs)
      ⟨(same_new hD).but, R1.same (same_new hD), [], [], rfl, (fun _ h => nomatch h), upd_same, ⟨rfl, fun i q c h _ => nomatch h⟩⟩ (fun _ _ _ _ => trivial) (fun i x H2 H3 hi hP hy => ?_) (fun H2 hP => ?_)
    · obtain ⟨b2, R2, ps, cs, hcl, hG, e2, C2⟩ := hP
      obtain ⟨rfl, rfl⟩ := hy
      refine ⟨rfl, tYes_of ?_⟩
      refine ⟨_, rfl, r, sc, ns, rfl, R2, fun q H4 c b4 R4 c4 hg hqr => ?_⟩
      have e4 := b4 _ _ e2 hDr.1
      obtain ⟨o, ho1, ho2⟩ := R2.at
      have im4 : Imm _ (upd H4 D (.lst (ps.map V.ref ++ [.ref q]))) := (b4.imm ho1 ho2).mut e4 rfl
      have hpl := C2.1
      refine ⟨_, e4, sizeLine_of (by rw [List.length_map]; omega), but_mut (b2.trans b4) hD, R4.mut hDr, ps ++ [q], cs ++ [c], by rw [List.length_append, hcl]; rfl, fun c' hc' => ?_, by rw [upd_same, List.map_append]; rfl, cards_snoc C2 im4 (c4.imm (Imm.refl.mut e4 rfl))⟩
      rcases List.mem_append.mp hc' with h | h
      · exact hG c' h
      · rw [List.mem_singleton.mp h]
        exact hg
    · obtain ⟨b2, R2, ps, cs, hcl, hG, e2, C2⟩ := hP
      have b02 : But r H H2 := b1.trans b2
      clear b1 R1 hD b2
      refine ⟨fun σ H3 => ∃ (fl : Addr) (ps : List Addr) (cs : List CD) (y3 : Option V), σ = [some (.ref r), some (.int (m : Nat)), some (.ref fl), y3] ∧ cs.length ≤ m ∧ ButN r H H3 ∧ Tabs [(tP, lamP)] H3 ∧ RowAt K H3 r sc ns ∧ H3 fl = some (.lst (ps.map V.ref)) ∧ Cards K T.c_Card H3 ps cs ∧ ∀ c ∈ cs, GoodT c, ?_, fun σ H3 hP => ?_⟩
      · refine ⟨_, rfl, r, sc, ns, 2, rfl, by decide, by decide, R2, fun n4 H3 hn4 b3 R3 => ?_⟩
        refine tC_to (rEq_to (b := decide ((n4 : Int) = 0)) rfl (by rw [int_dec]) ?_)
        refine ⟨_, rfl, ?_⟩
        have e3 := b3 _ _ e2 hDr.1
        have b03 : But r H H3 := b02.trans b3
        obtain ⟨o, ho1, ho2⟩ := R2.at
        have C3 := C2.imm (b3.imm ho1 ho2)
        have T3 : Tabs [(tP, lamP)] H3 := tabs_but hT b03 hR
        by_cases h4 : (n4 : Int) = 0
        · rw [decide_eq_true h4]
          refine iteT ?_
          obtain ⟨bs, eb, hb, ps', es, hs⟩ := cards_sort C3
          refine ⟨_, rfl, T3, D, bs, rfl, by rw [eb]; exact SqL.of e3, hb, fun p H4 e4 T4 hp => ?_⟩
          have s5 : Same H4 (upd H4 p (.lst ((sortBy bs).map (·.1)))) := same_new hp
          refine ⟨p, ps', fileOf cs, _, rfl, by rw [(fileOf_perm cs).length_eq]; omega, ButN.ext b03 fun b o h n => s5 _ _ (e4 b o h n), T4.ext s5, (rowAt_ext R3 e4).same s5, by rw [upd_same, es], hs _ ((extN_imm e4).trans s5.imm), fun c hc => hG c ((fileOf_perm cs).mem_iff.mp hc)⟩
        · rw [decide_eq_false h4]
          refine iteF ?_
          exact ⟨D, ps, cs, _, rfl, by omega, ButN.of b03, T3, R3, e3, C3, hG⟩
      · obtain ⟨fl, ps, cs, y3, rfl, hcm, b3, T3, R3, e3, C3, hG⟩ := hP
        refine ⟨_, rfl, fl, _, rfl, .inl ⟨SqL.of e3, fun u hu' => ?_⟩⟩
        intro x dx hx hdx hne
        have s6 : Same H3 (upd H3 u (.tup (ps.map V.ref))) := same_new hu'
        have s7 : Same (upd H3 u (.tup (ps.map V.ref))) (upd (upd (upd H3 u (.tup (ps.map V.ref))) dx (.own x)) x (.ins T.c_Drawer dx [])) := fun b o e => by
          rw [upd_ne (ne_of_none e hx), upd_ne (ne_of_none e hdx)]
          exact e
        refine ⟨x, dx, u, _, rfl, upd_same, s7.seqT (SqT.of upd_same), by rw [List.length_map, C3.1]; omega, fun H7 b7 h7 => ⟨rfl, ?_⟩⟩
        have s8 : Same (upd H3 u (.tup (ps.map V.ref))) H7 := fun b o e => b7 b o (s7 b o e) (ne_of_none e hx)
        have s9 := s6.trans s8
        exact k x H7 cs hcm (fun b o e n m => s9 _ _ (b3 b o e n m)) (T3.ext s9) (R3.same s9) ⟨dx, u, ps, h7, s8.seqT (SqT.of upd_same), C3.imm s9.imm⟩ hG ((R3.same s6).new hx).1
end
section
local macro_rules | `(tactic| walk_at "sl") => `(tactic| first | assumption | exact SqL.of upd_same | exact SqL.of (by assumption) | ((with_reducible apply sql_upd); (walk_at "sl"); (first | assumption | exact Ne.symm (by assumption))))
local macro_rules | `(tactic| walk_at "st") => `(tactic| first | assumption | exact SqT.of upd_same | exact SqT.of (by assumption))
local macro_rules | `(tactic| walk_at "sc") => `(tactic| first | rfl | assumption | (show (0 : Int) < _; first | assumption | decide | omega) | exact Or.inl ⟨by omega, by omega⟩ | exact Or.inr ⟨by omega, by omega⟩ | exact ⟨by decide, by decide⟩ | exact ⟨by decide, by decide, by decide⟩)
local macro_rules | `(tactic| walk_at "g1") => `(tactic| first
  | refine ⟨(_ : V), rfl, ?_⟩
  | refine ⟨(_ : Bool), rfl, ?_⟩
  | refine ⟨(_ : Int), (_ : Int), rfl, rfl, ?_⟩
  | refine ⟨(_ : Int), rfl, ?_⟩
  | refine ⟨(_ : Str), rfl, ?_⟩
  | refine ⟨(_ : Addr), (_ : List V), rfl, Or.inl (by walk_at "sl"), ?_⟩
  | refine ⟨(_ : Addr), (_ : List V), rfl, Or.inr (by walk_at "st"), ?_⟩
  | refine ⟨(_ : Addr), (_ : List V), (_ : Int), (_ : V), rfl, rfl, (by walk_at "sl"), (by first | rfl | assumption), ?_⟩
  | refine ⟨(_ : Addr), (_ : List V), (_ : Int), (_ : V), rfl, rfl, (by walk_at "st"), (by first | rfl | assumption), ?_⟩
  | refine ⟨(_ : Addr), (_ : List V), (_ : Int), (_ : Nat), rfl, rfl, upd_same, rfl, ?_⟩
  | refine ⟨(_ : Addr), (_ : List V), (_ : Int), (_ : Nat), rfl, rfl, (by assumption), rfl, ?_⟩
  | refine ⟨(_ : Addr), (_ : Addr), (_ : Addr), (_ : List (Str × V)), (_ : V), rfl, (by assumption), (by assumption), (by assumption), (by first | assumption | rfl), ?_⟩
  | refine Or.inl ⟨(_ : Int), rfl, ?_⟩
  | refine And.intro (by walk_at "sc") ?_
  | refine iteT ?_
  | refine iteF ?_)
/-! ### a card's books -/
theorem ok_Card_books (T : Top K mg) : FnOk P w K mg base CX0 1 T.a_Card_books T.fd_Card_books ["self"] (spGet K T.c_Card "_books") := by
  refine T.F_Card_books.ok sc_Card_books (fun vs H Q E h => ?_) (fun cdv A outer s H vs Q E hr h => ?_)
  · obtain ⟨p, dx, fs, v, rfl, _⟩ := h
    rfl
  · obtain ⟨p, dx, fs, v, rfl, hp, hv, k⟩ := h
    exact ⟨_, (pss_one (ps_ret (pe_fld (pv 0) rfl))), _, rfl, p, _, dx, fs, v, rfl, hp, T.cl_Card, T.n_Card__books, hv, k⟩
end
section
local macro_rules | `(tactic| walk_at "sl") => `(tactic| first | assumption | exact SqL.of upd_same | exact SqL.of (by assumption) | ((with_reducible apply sql_upd); (walk_at "sl"); (first | assumption | exact Ne.symm (by assumption))))
local macro_rules | `(tactic| walk_at "st") => `(tactic| first | assumption | exact SqT.of upd_same | exact SqT.of (by assumption))
local macro_rules | `(tactic| walk_at "sc") => `(tactic| first | rfl | assumption | (show (0 : Int) < _; first | assumption | decide | omega) | exact Or.inl ⟨by omega, by omega⟩ | exact Or.inr ⟨by omega, by omega⟩ | exact ⟨by decide, by decide⟩ | exact ⟨by decide, by decide, by decide⟩)
local macro_rules | `(tactic| walk_at "g1") => `(tactic| first
  | refine ⟨(_ : V), rfl, ?_⟩
  | refine ⟨(_ : Bool), rfl, ?_⟩
  | refine ⟨(_ : Int), (_ : Int), rfl, rfl, ?_⟩
  | refine ⟨(_ : Int), rfl, ?_⟩
  | refine ⟨(_ : Str), rfl, ?_⟩
  | refine ⟨(_ : Addr), (_ : List V), rfl, Or.inl (by walk_at "sl"), ?_⟩
  | refine ⟨(_ : Addr), (_ : List V), rfl, Or.inr (by walk_at "st"), ?_⟩
  | refine ⟨(_ : Addr), (_ : List V), (_ : Int), (_ : V), rfl, rfl, (by walk_at "sl"), (by first | rfl | assumption), ?_⟩
  | refine ⟨(_ : Addr), (_ : List V), (_ : Int), (_ : V), rfl, rfl, (by walk_at "st"), (by first | rfl | assumption), ?_⟩
  | refine ⟨(_ : Addr), (_ : List V), (_ : Int), (_ : Nat), rfl, rfl, upd_same, rfl, ?_⟩
  | refine ⟨(_ : Addr), (_ : List V), (_ : Int), (_ : Nat), rfl, rfl, (by assumption), rfl, ?_⟩
  | refine ⟨(_ : Addr), (_ : Addr), (_ : Addr), (_ : List (Str × V)), (_ : V), rfl, (by assumption), (by assumption), (by assumption), (by first | assumption | rfl), ?_⟩
  | refine Or.inl ⟨(_ : Int), rfl, ?_⟩
  | refine And.intro (by walk_at "sc") ?_
  | refine iteT ?_
  | refine iteF ?_)
/-! ### the items of words, the checksum -/
def oneS (c : Nat) : Str := ⟨#[c]⟩
def signW (c : Nat) : Int := ((firstAt letters (oneS c) : Nat) : Int) + 1
def codesW (t : Str) : List Int := (t.length : Int) :: t.cps.toList.map signW
theorem letter_at : ∀ c ∈ letters.cps.toList, Builtin.Str.occurrences letters (oneS c) 0 letters.length 1 ≠ [] := by decide +kernel
theorem word_at {t : Str} (h : isWord t = true) : ∀ c ∈ t.cps.toList, c ∈ letters.cps.toList := fun c hc => by
  unfold isWord at h
  rw [Bool.and_eq_true] at h
  exact of_decide_eq_true (List.all_eq_true.mp h.2 c hc)
def spWordC (K : PySem.W.Frag) : Sp := fun vs H Q _ => ∃ t : Str, vs = [.str t] ∧ isWord t = true ∧ ∀ H' l, Same H H' → H l = none → H' l = some (.lst ((codesW t).map V.int)) → Q (.ref l) H'
theorem ok_codes_of_word (T : Top K mg) : FnOk P w K mg base CX0 1 T.a_codes_of_word T.fd_codes_of_word ["word"] (spWordC K) := by
  refine T.F_codes_of_word.ok sc_codes_of_word (fun vs H Q E h => ?_) (fun cdv A outer s H vs Q E hr h => ?_)
  · obtain ⟨t, rfl, _⟩ := h
    rfl
  · obtain ⟨t, rfl, hw, k⟩ := h
    have hu := hu_of hr
    refine ⟨_, (pss_one (ps_ret (pe_op op_cat (pe_lst (pa_cons (pe_callB call_len (by rfl) T.m_len (by decide +kernel) (pa_cons (pv 0) pa_nil)) pa_nil)) (pe_lc (own := [("letter", 1)]) (g := gName 1) (tt := tYes) rfl sc_codes_of_word.nd (pi_str (pv 0)) (blkOk_by (N := N_codes_of_word) (sc := defScope s_codes_of_word) (by decide +kernel)) (fun _ _ _ _ _ => (pg_name (i := 1) sc_codes_of_word.nd rfl (.inl rfl))) (fun _ _ _ _ _ => pts_nil) (fun _ _ _ _ _ => (pe_op op_add (pe_m1 PySem.F.slot_str_index PySem.F.type_str_index mt_sindex (pe_glob rfl T.g_LETTERS T.r_LETTERS) (pv 1)) pe_int)))))), ?_⟩
    have hl := word_len hw
    refine ⟨_, rfl, _, _, rfl, ⟨by have := sizeLine_of (show t.length ≤ 1000000 by omega); omega, rfl⟩, ?_⟩
    refine ⟨by show 1 ≤ sizeLine; decide, fun p hp => ?_⟩
    have s1 : Same H (upd H p (.lst [.int t.length])) := same_new hp
    have e1 : (upd H p (.lst [.int t.length])) p = some (.lst [.int t.length]) := upd_same
    generalize upd H p (.lst [.int t.length]) = H1 at *
    refine ⟨_, rfl, t, rfl, fun D hD => lc_map walk_str (by show t.length ≤ _; omega) hD (fun i => V.int (signW (t.cps.toList[i]?.getD 0))) (fun _ _ => trivial) (fun i x H2 H3 hi s2 hy R r => ?_) (fun H2 s2 hd => ?_) gName_mono⟩
    · obtain ⟨rfl, c, hc, rfl⟩ := hy
      have hc' : t.cps.toList[i]? = some c := by rw [Array.getElem?_toList]; exact hc
      obtain ⟨rs, hr⟩ := first_of (letter_at c (word_at hw c (List.mem_of_getElem? hc')))
      refine ⟨rfl, ?_⟩
      refine ⟨⟨_, rfl⟩, _, rfl, letters, oneS c, _, rs, rfl, rfl, hr, ?_⟩
      refine ⟨_, _, rfl, rfl, ?_⟩
      have := r _ (Same.refl _)
      rw [hc'] at this
      exact this
    · have el : (List.range t.cps.size).map (fun i => V.int (signW (t.cps.toList[i]?.getD 0))) = (t.cps.toList.map signW).map V.int := by
        rw [List.map_map]
        refine range_map t.cps.toList _ _ fun i x h => ?_
        rw [h]
        rfl
      rw [el] at hd
      refine ⟨p, D, _, _, rfl, rfl, s2 _ _ e1, hd, by rw [List.length_map, List.length_map]; show 1 + t.length ≤ _; have := sizeLine_of (show (100 : Nat) ≤ 1000000 by omega); omega, fun l hlw => ?_⟩
      refine k _ l ((s1.trans s2).trans (same_new hlw)) ?_ upd_same
      cases z : H l with
      | none => rfl
      | some o =>
        rw [(s1.trans s2) _ _ z] at hlw
        cases hlw
def chkOf : Int → List Int → Int
  | c, [] => c
  | c, n :: r => chkOf ((15 * c + n) % 233) r
theorem chkOf_rng : ∀ {ns : List Int} {c : Int}, 0 ≤ c ∧ c < 233 → 0 ≤ chkOf c ns ∧ chkOf c ns < 233
  | [], _, h => h
  | n :: r, c, _ => by
    unfold chkOf
    exact chkOf_rng ⟨Int.emod_nonneg _ (by decide), Int.emod_lt_of_pos _ (by decide)⟩
theorem chkOf_snoc : ∀ (ns : List Int) (c n : Int), chkOf c (ns ++ [n]) = (15 * chkOf c ns + n) % 233
  | [], _, _ => rfl
  | x :: r, c, n => chkOf_snoc r _ n
def spChk (K : PySem.W.Frag) : Sp := fun vs H Q _ => ∃ (l : Addr) (ns : List Int), vs = [.ref l] ∧ SqL K H l (ns.map V.int) ∧ ∀ H', Same H H' → Q (.int (chkOf 7 ns)) H'
theorem ok_checksum_of (T : Top K mg) : FnOk P w K mg base CX0 1 T.a_checksum_of T.fd_checksum_of ["codes"] (spChk K) := by
  refine T.F_checksum_of.ok sc_checksum_of (fun vs H Q E h => ?_) (fun cdv A outer s H vs Q E hr h => ?_)
  · obtain ⟨l, ns, rfl, _⟩ := h
    rfl
  · obtain ⟨l, ns, rfl, hL, k⟩ := h
    have hu := hu_of hr
    refine ⟨_, (pss_cons (ps_set (i := 1) sc_checksum_of.nd rfl (.inl rfl) (pe_glob rfl T.g_FIRST_CHECKSUM T.r_FIRST_CHECKSUM))
      (pss_cons (ps_for PassesOwn.never rfl (pi_list (pv 0)) (pg_name (i := 2) sc_checksum_of.nd rfl (.inl rfl))
        (pss_one (ps_set (i := 1) sc_checksum_of.nd rfl (.inl rfl) (pe_op op_mod (pe_op op_add (pe_op op_mul pe_int (pv 1)) (pv 2)) pe_int))))
      (pss_one (ps_ret (pv 1))))), ?_⟩
    refine ⟨_, rfl, l, rfl, ⟨_, hL⟩, for_list (K := K) (a := l) (xs := ns.map V.int) (fun i σ H1 => ∃ (c : Int) (y2 : Option V), σ = [some (.ref l), some (.int c), y2] ∧ H1 = H ∧ 0 ≤ c ∧ c < 233 ∧ c = chkOf 7 (ns.take i)) ⟨7, _, rfl, rfl, by decide, by decide, rfl⟩ (fun i σ H1 _ ⟨_, _, _, e, _⟩ => by rw [e]; exact hL) (fun i x σ H1 hi hP => ?_) (fun σ H1 hP => ?_)⟩
    · obtain ⟨c, y2, rfl, rfl, c1, c2, ec⟩ := hP
      rw [List.getElem?_map] at hi
      obtain ⟨n, hni, rfl⟩ := Option.map_eq_some_iff.mp hi
      refine ⟨_, rfl, _, _, rfl, rfl, .inl ⟨by decide, by decide⟩, ?_⟩
      refine ⟨_, rfl, _, _, rfl, rfl, _, _, rfl, rfl, by show (0 : Int) < 233; decide, ?_⟩
      refine ⟨(15 * c + n) % 233, _, rfl, rfl, Int.emod_nonneg _ (by decide), Int.emod_lt_of_pos _ (by decide), ?_⟩
      rw [List.take_add_one, hni]
      show _ = chkOf 7 (ns.take i ++ [n])
      rw [chkOf_snoc, ← ec]
    · obtain ⟨c, y2, rfl, rfl, c1, c2, ec⟩ := hP
      rw [List.length_map, List.take_length] at ec
      refine ⟨_, rfl, ?_⟩
      rw [ec]
      exact k _ (Same.refl _)
theorem chk_rng (ns : List Int) : 0 ≤ chkOf 7 ns ∧ chkOf 7 ns < 233 := chkOf_rng (by decide)
def spChecked (K : PySem.W.Frag) : Sp := fun vs H Q _ => ∃ (l : Addr) (ns : List Int), vs = [.ref l] ∧ H l = some (.lst (ns.map V.int)) ∧ ns.length ≤ 1000 ∧ ∀ H' p, Same H H' → H' p = some (.lst ((ns ++ [chkOf 7 ns]).map V.int)) → Q (.ref p) H'
theorem ok_llaw_checked (T : Top K mg) : FnOk P w K mg base CX0 1 T.a_llaw_checked T.fd_llaw_checked ["_law_items"] (spChecked K) := by
  refine T.F_llaw_checked.ok sc_llaw_checked (fun vs H Q E h => ?_) (fun cdv A outer s H vs Q E hr h => ?_)
  · obtain ⟨l, ns, rfl, _⟩ := h
    rfl
  · obtain ⟨l, ns, rfl, hL, hl, k⟩ := h
    have hu := hu_of hr
    refine ⟨_, (pss_cons (ps_set (i := 1) sc_llaw_checked.nd rfl (.inl rfl) pe_int)
      (pss_cons (ps_for PassesOwn.never rfl (pi_list (pv 0)) (pg_name (i := 2) sc_llaw_checked.nd rfl (.inl rfl))
        (pss_one (ps_set (i := 1) sc_llaw_checked.nd rfl (.inl rfl) (pe_op op_mod (pe_callTy call_int1 (by rfl) T.m_int (by decide +kernel) (pa_cons (pe_op op_add (pe_op op_mul pe_int (pv 1)) (pv 2)) pa_nil)) pe_int))))
      (pss_one (ps_ret (pe_op op_cat (pv 0) (pe_lst (pa_cons (pv 1) pa_nil))))))), ?_⟩
    refine ⟨_, rfl, l, rfl, ⟨_, SqL.of hL⟩, for_list (K := K) (a := l) (xs := ns.map V.int) (fun i σ H1 => ∃ (c : Int) (y2 : Option V), σ = [some (.ref l), some (.int c), y2] ∧ H1 = H ∧ 0 ≤ c ∧ c < 233 ∧ c = chkOf 7 (ns.take i)) ⟨7, _, rfl, rfl, by decide, by decide, rfl⟩ (fun i σ H1 _ ⟨_, _, _, e, _⟩ => by rw [e]; exact SqL.of hL) (fun i x σ H1 hi hP => ?_) (fun σ H1 hP => ?_)⟩
    · obtain ⟨c, y2, rfl, rfl, c1, c2, ec⟩ := hP
      rw [List.getElem?_map] at hi
      obtain ⟨n, hni, rfl⟩ := Option.map_eq_some_iff.mp hi
      refine ⟨_, rfl, _, _, rfl, rfl, .inl ⟨by decide, by decide⟩, ?_⟩
      refine ⟨_, rfl, _, _, rfl, rfl, .inl ⟨_, rfl, _, _, rfl, rfl, by show (0 : Int) < 233; decide, ?_⟩⟩
      refine ⟨(15 * c + n) % 233, _, rfl, rfl, Int.emod_nonneg _ (by decide), Int.emod_lt_of_pos _ (by decide), ?_⟩
      rw [List.take_add_one, hni]
      show _ = chkOf 7 (ns.take i ++ [n])
      rw [chkOf_snoc, ← ec]
    · obtain ⟨c, y2, rfl, rfl, c1, c2, ec⟩ := hP
      rw [List.length_map, List.take_length] at ec
      refine ⟨_, rfl, _, rfl, by show 1 ≤ sizeLine; decide, fun p hp => ?_⟩
      rw [ec]
      have hsz := sizeLine_of (show (2000 : Nat) ≤ 1000000 by omega)
      refine ⟨l, p, _, _, rfl, rfl, (same_new hp) _ _ hL, upd_same, by rw [List.length_map]; show ns.length + 1 ≤ _; omega, fun q hq => ?_⟩
      refine k _ q ((same_new hp).trans (same_new hq)) ?_
      rw [upd_same, List.map_append]
      rfl
end
section
local macro_rules | `(tactic| walk_at "sl") => `(tactic| first | assumption | exact SqL.of upd_same | exact SqL.of (by assumption) | ((with_reducible apply sql_upd); (walk_at "sl"); (first | assumption | exact Ne.symm (by assumption))))
local macro_rules | `(tactic| walk_at "st") => `(tactic| first | assumption | exact SqT.of upd_same | exact SqT.of (by assumption))
local macro_rules | `(tactic| walk_at "sc") => `(tactic| first | rfl | assumption | (show (0 : Int) < _; first | assumption | decide | omega) | exact Or.inl ⟨by omega, by omega⟩ | exact Or.inr ⟨by omega, by omega⟩ | exact ⟨by decide, by decide⟩ | exact ⟨by decide, by decide, by decide⟩)
local macro_rules | `(tactic| walk_at "g1") => `(tactic| first
  | refine ⟨(_ : V), rfl, ?_⟩
  | refine ⟨(_ : Bool), rfl, ?_⟩
  | refine ⟨(_ : Int), (_ : Int), rfl, rfl, ?_⟩
  | refine ⟨(_ : Int), rfl, ?_⟩
  | refine ⟨(_ : Str), rfl, ?_⟩
  | refine ⟨(_ : Addr), (_ : List V), rfl, Or.inl (by walk_at "sl"), ?_⟩
  | refine ⟨(_ : Addr), (_ : List V), rfl, Or.inr (by walk_at "st"), ?_⟩
  | refine ⟨(_ : Addr), (_ : List V), (_ : Int), (_ : V), rfl, rfl, (by walk_at "sl"), (by first | rfl | assumption), ?_⟩
  | refine ⟨(_ : Addr), (_ : List V), (_ : Int), (_ : V), rfl, rfl, (by walk_at "st"), (by first | rfl | assumption), ?_⟩
  | refine ⟨(_ : Addr), (_ : List V), (_ : Int), (_ : Nat), rfl, rfl, upd_same, rfl, ?_⟩
  | refine ⟨(_ : Addr), (_ : List V), (_ : Int), (_ : Nat), rfl, rfl, (by assumption), rfl, ?_⟩
  | refine ⟨(_ : Addr), (_ : Addr), (_ : Addr), (_ : List (Str × V)), (_ : V), rfl, (by assumption), (by assumption), (by assumption), (by first | assumption | rfl), ?_⟩
  | refine Or.inl ⟨(_ : Int), rfl, ?_⟩
  | refine And.intro (by walk_at "sc") ?_
  | refine iteT ?_
  | refine iteF ?_)
/-! ### what else a card tells; the drawer's headings -/
theorem ok_Card_see (T : Top K mg) : FnOk P w K mg base CX0 1 T.a_Card_see T.fd_Card_see ["self"] (spGet K T.c_Card "_see") := by
  refine T.F_Card_see.ok sc_Card_see (fun vs H Q E h => ?_) (fun cdv A outer s H vs Q E hr h => ?_)
  · obtain ⟨p, dx, fs, v, rfl, _⟩ := h
    rfl
  · obtain ⟨p, dx, fs, v, rfl, hp, hv, k⟩ := h
    exact ⟨_, (pss_one (ps_ret (pe_fld (pv 0) rfl))), _, rfl, p, _, dx, fs, v, rfl, hp, T.cl_Card, T.n_Card__see, hv, k⟩
theorem ok_Card_also (T : Top K mg) : FnOk P w K mg base CX0 1 T.a_Card_also T.fd_Card_also ["self"] (spGet K T.c_Card "_also") := by
  refine T.F_Card_also.ok sc_Card_also (fun vs H Q E h => ?_) (fun cdv A outer s H vs Q E hr h => ?_)
  · obtain ⟨p, dx, fs, v, rfl, _⟩ := h
    rfl
  · obtain ⟨p, dx, fs, v, rfl, hp, hv, k⟩ := h
    exact ⟨_, (pss_one (ps_ret (pe_fld (pv 0) rfl))), _, rfl, p, _, dx, fs, v, rfl, hp, T.cl_Card, T.n_Card__also, hv, k⟩
/-- whether a card leads -/
def spLeads (K : PySem.W.Frag) (C : Addr) : Sp := fun vs H Q _ => ∃ (p dx : Addr) (fs : List (Str × V)) (x : Str), vs = [.ref p] ∧ H p = some (.ins C dx fs) ∧ fs.lookup ("_see" : Str) = some (.str x) ∧ Q (.bl (!decide (x = ""))) H
theorem ok_Card_leads (T : Top K mg) : FnOk P w K mg base CX0 1 T.a_Card_leads T.fd_Card_leads ["self"] (spLeads K T.c_Card) := by
  refine T.F_Card_leads.ok sc_Card_leads (fun vs H Q E h => ?_) (fun cdv A outer s H vs Q E hr h => ?_)
  · obtain ⟨p, dx, fs, x, rfl, _⟩ := h
    rfl
  · obtain ⟨p, dx, fs, x, rfl, hp, hv, k⟩ := h
    refine ⟨_, (pss_one (ps_ret (pe_cmpR op_ne (pe_fld (pv 0) rfl) pe_str (nomark _)))), _, rfl, p, _, dx, fs, _, rfl, hp, T.cl_Card, T.n_Card__see, hv, ?_⟩
    exact tC_to (rNe_to (b := !decide (x = "")) rfl (by rw [str_dec]) k)
/-! ### the items of cards -/
def codesB (bs : List Int) : List Int := bs.flatMap fun k => [k / 256, k % 256]
def codesA (ws : List Str) : List Int := ws.flatMap codesW
def codesC (c : CD) : List Int := if c.see = "" then codesW c.heading ++ ([(c.books.length : Int) + 1] ++ (codesB c.books ++ ([(c.also.length : Int)] ++ codesA c.also))) else codesW c.heading ++ [0] ++ codesW c.see
theorem wlen {t : Str} (h : isWord t = true) : (codesW t).length ≤ 9 := by
  have := word_len h
  unfold codesW
  rw [List.length_cons, List.length_map, Array.length_toList]
  show t.length + 1 ≤ 9
  omega
theorem codesB_snoc (bs : List Int) (k : Int) : codesB (bs ++ [k]) = codesB bs ++ [k / 256, k % 256] := by
  unfold codesB
  rw [List.flatMap_append]
  rfl
theorem codesA_snoc (ws : List Str) (t : Str) : codesA (ws ++ [t]) = codesA ws ++ codesW t := by
  unfold codesA
  rw [List.flatMap_append]
  simp
theorem codesB_len (bs : List Int) : (codesB bs).length = 2 * bs.length := by
  induction bs with
  | nil => rfl
  | cons b r ih =>
    show (b / 256 :: b % 256 :: codesB r).length = _
    rw [List.length_cons, List.length_cons, ih, List.length_cons]
    omega
theorem codesA_len : ∀ {ws : List Str}, (∀ x ∈ ws, isWord x = true) → (codesA ws).length ≤ 9 * ws.length
  | [], _ => Nat.le_refl _
  | w :: r, h => by
    show (codesW w ++ codesA r).length ≤ _
    have := wlen (h w (.head _))
    have := codesA_len fun x hx => h x (.tail _ hx)
    rw [List.length_append, List.length_cons]
    omega
theorem see_word {c : CD} (g : c.Good) (h : ¬ c.see = "") : isWord c.see = true := by
  have q := g.t
  unfold isTarget at q
  rw [Bool.or_eq_true, Bool.and_eq_true] at q
  rcases q with q | q
  · exact absurd (of_decide_eq_true q) h
  · exact q.1
def spCodesC (K : PySem.W.Frag) (C : Addr) : Sp := fun vs H Q _ => ∃ (p : Addr) (c : CD), vs = [.ref p] ∧ CardAt K C H p c ∧ c.Good ∧ ∀ H' l, Same H H' → H l = none → H' l = some (.lst ((codesC c).map V.int)) → Q (.ref l) H'
theorem ok_codes_of_card (T : Top K mg) : FnOk P w K mg base CX0 3 T.a_codes_of_card T.fd_codes_of_card ["card"] (spCodesC K T.c_Card) := by
  refine T.F_codes_of_card.ok sc_codes_of_card (fun vs H Q E h => ?_) (fun cdv A outer s H vs Q E hr h => ?_)
  · obtain ⟨p, c, rfl, _⟩ := h
    rfl
  · obtain ⟨p, c, rfl, hc, g, k⟩ := h
    have hu := hu_of hr
    refine ⟨_, (pss_cons (ps_set (i := 1) sc_codes_of_card.nd rfl (.inl rfl) (pe_call (ok_codes_of_word T) (hr.mono (by decide)) (by rfl) T.g_codes_of_word T.F_codes_of_word.kp (b_codes_of_word T) .nil pass0 (pa_cons (pe_prop (pv 0) T.cl_Card T.P_Card_heading (ok_Card_heading T) (hr.mono (by decide)) (b_Card_heading T) .nil pass0 rfl) pa_nil)))
      (pss_cons (ps_if (pt_val (pe_prop (pv 0) T.cl_Card T.P_Card_leads (ok_Card_leads T) (hr.mono (by decide)) (b_Card_leads T) .nil pass0 rfl)) (pss_one (ps_ret (pe_op op_cat (pe_op op_cat (pv 1) (pe_lst (pa_cons pe_int pa_nil))) (pe_call (ok_codes_of_word T) (hr.mono (by decide)) (by rfl) T.g_codes_of_word T.F_codes_of_word.kp (b_codes_of_word T) .nil pass0 (pa_cons (pe_prop (pv 0) T.cl_Card T.P_Card_see (ok_Card_see T) (hr.mono (by decide)) (b_Card_see T) .nil pass0 rfl) pa_nil))))) pss_nil)
      (pss_cons (ps_expr (pe_bm PySem.F.plainAttrs_list PySem.F.slot_list_append PySem.F.type_list_append mt_append (pv 1) (pa_cons (pe_op op_add (pe_callB call_len_seq (by rfl) T.m_len (by decide +kernel) (pa_cons (pe_prop (pv 0) T.cl_Card T.P_Card_books (ok_Card_books T) (hr.mono (by decide)) (b_Card_books T) .nil pass0 rfl) pa_nil)) pe_int) pa_nil)))
      (pss_cons (ps_for PassesOwn.never rfl (pi_tup (pe_prop (pv 0) T.cl_Card T.P_Card_books (ok_Card_books T) (hr.mono (by decide)) (b_Card_books T) .nil pass0 rfl)) (pg_name (i := 2) sc_codes_of_card.nd rfl (.inl rfl))
        (pss_one (ps_expr (pe_bm PySem.F.plainAttrs_list PySem.F.slot_list_extend PySem.F.type_list_extend mt_extend (pv 1) (pa_cons (pe_lst (pa_cons (pe_op op_fdiv (pv 2) pe_int) (pa_cons (pe_op op_mod (pv 2) pe_int) pa_nil))) pa_nil)))))
      (pss_cons (ps_expr (pe_bm PySem.F.plainAttrs_list PySem.F.slot_list_append PySem.F.type_list_append mt_append (pv 1) (pa_cons (pe_callB call_len_seq (by rfl) T.m_len (by decide +kernel) (pa_cons (pe_prop (pv 0) T.cl_Card T.P_Card_also (ok_Card_also T) (hr.mono (by decide)) (b_Card_also T) .nil pass0 rfl) pa_nil)) pa_nil)))
      (pss_cons (ps_for PassesOwn.never rfl (pi_tup (pe_prop (pv 0) T.cl_Card T.P_Card_also (ok_Card_also T) (hr.mono (by decide)) (b_Card_also T) .nil pass0 rfl)) (pg_name (i := 3) sc_codes_of_card.nd rfl (.inl rfl))
        (pss_one (ps_expr (pe_bm PySem.F.plainAttrs_list PySem.F.slot_list_extend PySem.F.type_list_extend mt_extend (pv 1) (pa_cons (pe_call (ok_codes_of_word T) (hr.mono (by decide)) (by rfl) T.g_codes_of_word T.F_codes_of_word.kp (b_codes_of_word T) .nil pass0 (pa_cons (pv 3) pa_nil)) pa_nil)))))
      (pss_one (ps_ret (pv 1))))))))), ?_⟩
    obtain ⟨dx, bb, aa, hp, hpb, hpa⟩ := hc
    have hsz := sizeLine_of (show (1000 : Nat) ≤ 1000000 by omega)
    have hbl := g.lb
    have hal := g.la
    have hwl := wlen g.h
    refine ⟨_, rfl, p, dx, _, rfl, hp, p, dx, _, _, rfl, hp, cf_heading _ _ _ _, c.heading, rfl, g.h, fun H1 l s1 hl e1 => ?_⟩
    have p1 := s1 _ _ hp
    unfold codesC at k
    refine ⟨_, rfl, p, dx, _, rfl, p1, p, dx, _, c.see, rfl, p1, cf_see _ _ _ _, ?_⟩
    refine ⟨_, rfl, ?_⟩
    by_cases hs : c.see = ""
    · rw [decide_eq_true hs]
      rw [if_pos hs] at k
      refine iteF ?_
      refine ⟨_, rfl, .inl ⟨rfl, _, SqL.of e1⟩, ?_⟩
      refine ⟨_, rfl, p, dx, _, rfl, p1, p, dx, _, _, rfl, p1, cf_books _ _ _ _, bb, _, rfl, .inr (s1.seqT hpb), ?_⟩
      rw [List.length_map]
      refine ⟨_, _, rfl, rfl, ?_⟩
      refine ⟨l, _, _, rfl, rfl, e1, by rw [List.length_map]; omega, ?_⟩
      have s2 : Same H (upd H1 l (.lst ((codesW c.heading).map V.int ++ [.int ((c.books.length : Nat) + 1)]))) := same_mut s1 hl
      have e2 : (upd H1 l (.lst ((codesW c.heading).map V.int ++ [.int ((c.books.length : Nat) + 1)]))) l = some (.lst ((codesW c.heading ++ [(c.books.length : Int) + 1]).map V.int)) := by
        rw [upd_same, List.map_append]
        rfl
      generalize upd H1 l (.lst ((codesW c.heading).map V.int ++ [.int ((c.books.length : Nat) + 1)])) = H2 at *
      have p2 := s2 _ _ hp
      clear e1 p1
      refine ⟨_, rfl, p, dx, _, rfl, p2, p, dx, _, _, rfl, p2, cf_books _ _ _ _, bb, rfl, ⟨_, s2.seqT hpb⟩, for_tup (K := K) (a := bb) (xs := c.books.map V.int) (fun i σ H3 => ∃ y2 y3, σ = [some (.ref p), some (.ref l), y2, y3] ∧ Same H H3 ∧ H3 l = some (.lst ((codesW c.heading ++ [(c.books.length : Int) + 1] ++ codesB (c.books.take i)).map V.int))) ⟨_, _, rfl, s2, by rw [e2]; simp [codesB]⟩ (fun i σ H3 _ ⟨_, _, _, s, _⟩ => s.seqT hpb) (fun i x σ H3 hi hP => ?_) (fun σ H3 hP => ?_)⟩
      · obtain ⟨y2, y3, rfl, s3, e3⟩ := hP
        rw [List.getElem?_map] at hi
        obtain ⟨b, hb, rfl⟩ := Option.map_eq_some_iff.mp hi
        have htl : (c.books.take i).length ≤ 6 := by rw [List.length_take]; omega
        refine ⟨_, rfl, .inl ⟨rfl, _, SqL.of e3⟩, ?_⟩
        refine ⟨_, rfl, _, _, rfl, rfl, ⟨by decide, by decide⟩, ?_⟩
        refine ⟨_, rfl, _, _, rfl, rfl, by show (0 : Int) < 256; decide, ?_⟩
        refine ⟨by show 2 ≤ sizeLine; decide, fun q hq => ?_⟩
        have e4 := (same_new (o := .lst [.int (b / 256), .int (b % 256)]) hq) _ _ e3
        have s4 := s3.trans (same_new (o := .lst [.int (b / 256), .int (b % 256)]) hq)
        refine ⟨l, q, _, _, rfl, rfl, e4, upd_same, by rw [List.length_map, List.length_append, List.length_append, codesB_len]; show _ + 1 + _ + 2 ≤ _; omega, ?_⟩
        refine ⟨_, _, rfl, same_mut s4 hl, ?_⟩
        rw [upd_same, List.take_add_one, hb]
        show _ = some (HO.lst ((codesW c.heading ++ [(c.books.length : Int) + 1] ++ codesB (c.books.take i ++ [b])).map V.int))
        rw [codesB_snoc, ← List.append_assoc, List.map_append (l₂ := [b / 256, b % 256])]
        rfl
      · obtain ⟨y2, y3, rfl, s3, e3⟩ := hP
        rw [List.length_map, List.take_length] at e3
        have p3 := s3 _ _ hp
        refine ⟨_, rfl, .inl ⟨rfl, _, SqL.of e3⟩, ?_⟩
        refine ⟨_, rfl, p, dx, _, rfl, p3, p, dx, _, _, rfl, p3, cf_also _ _ _ _, aa, _, rfl, .inr (s3.seqT hpa), ?_⟩
        rw [List.length_map]
        refine ⟨l, _, _, rfl, rfl, e3, by rw [List.length_map, List.length_append, List.length_append, codesB_len]; show _ + 1 + _ < _; omega, ?_⟩
        have s4 := same_mut (o := .lst ((codesW c.heading ++ [(c.books.length : Int) + 1] ++ codesB c.books).map V.int ++ [.int (c.also.length : Nat)])) s3 hl
        have e4 : (upd H3 l (.lst ((codesW c.heading ++ [(c.books.length : Int) + 1] ++ codesB c.books).map V.int ++ [.int (c.also.length : Nat)]))) l = some (.lst ((codesW c.heading ++ [(c.books.length : Int) + 1] ++ codesB c.books ++ [(c.also.length : Int)]).map V.int)) := by
          rw [upd_same, List.map_append (l₂ := [(c.also.length : Int)])]
          rfl
        generalize upd H3 l (.lst ((codesW c.heading ++ [(c.books.length : Int) + 1] ++ codesB c.books).map V.int ++ [.int (c.also.length : Nat)])) = H4 at *
        have p4 := s4 _ _ hp
        refine ⟨_, rfl, p, dx, _, rfl, p4, p, dx, _, _, rfl, p4, cf_also _ _ _ _, aa, rfl, ⟨_, s4.seqT hpa⟩, for_tup (K := K) (a := aa) (xs := c.also.map V.str) (fun i σ H5 => ∃ y2 y3, σ = [some (.ref p), some (.ref l), y2, y3] ∧ Same H H5 ∧ H5 l = some (.lst ((codesW c.heading ++ [(c.books.length : Int) + 1] ++ codesB c.books ++ [(c.also.length : Int)] ++ codesA (c.also.take i)).map V.int))) ⟨_, _, rfl, s4, by rw [e4]; simp [codesA]⟩ (fun i σ H5 _ ⟨_, _, _, s, _⟩ => s.seqT hpa) (fun i x σ H5 hi hP => ?_) (fun σ H5 hP => ?_)⟩
        · obtain ⟨y2, y3, rfl, s5, e5⟩ := hP
          rw [List.getElem?_map] at hi
          obtain ⟨t, ht, rfl⟩ := Option.map_eq_some_iff.mp hi
          have hwt := g.wa t (List.mem_of_getElem? ht)
          have hta : (codesA (c.also.take i)).length ≤ 9 * (c.also.take i).length := codesA_len fun x hx => g.wa x (List.mem_of_mem_take hx)
          have htl : (c.also.take i).length ≤ 4 := by rw [List.length_take]; omega
          have hw9 := wlen hwt
          refine ⟨_, rfl, .inl ⟨rfl, _, SqL.of e5⟩, ?_⟩
          refine ⟨_, rfl, t, rfl, hwt, fun H6 q s6 hq e6 => ?_⟩
          refine ⟨l, q, _, _, rfl, rfl, s6 _ _ e5, e6, by rw [List.length_map, List.length_map, List.length_append, List.length_append, List.length_append, List.length_append, codesB_len]; show _ + 1 + _ + 1 + _ + _ ≤ _; omega, ?_⟩
          refine ⟨_, _, rfl, same_mut (s5.trans s6) hl, ?_⟩
          rw [upd_same, List.take_add_one, ht, ← List.map_append]
          show _ = some (HO.lst ((codesW c.heading ++ [(c.books.length : Int) + 1] ++ codesB c.books ++ [(c.also.length : Int)] ++ codesA (c.also.take i ++ [t])).map V.int))
          rw [codesA_snoc, ← List.append_assoc]
        · obtain ⟨y2, y3, rfl, s5, e5⟩ := hP
          rw [List.length_map, List.take_length] at e5
          refine ⟨_, rfl, ?_⟩
          refine k _ l s5 hl ?_
          rw [e5]
          simp
    · rw [decide_eq_false hs]
      rw [if_neg hs] at k
      refine iteT ?_
      have hsw := see_word g hs
      have hwl2 := wlen hsw
      refine ⟨_, rfl, by show 1 ≤ sizeLine; decide, fun q hq => ?_⟩
      have s2 := s1.trans (same_new (o := .lst [.int 0]) hq)
      refine ⟨l, q, _, _, rfl, rfl, (same_new hq) _ _ e1, upd_same, by rw [List.length_map]; show _ + 1 ≤ _; omega, fun u hu' => ?_⟩
      have s3 := s2.trans (same_new (o := .lst ((codesW c.heading).map V.int ++ [.int 0])) hu')
      have e3 : (upd (upd H1 q (.lst [.int 0])) u (.lst ((codesW c.heading).map V.int ++ [.int 0]))) u = some (.lst ((codesW c.heading ++ [0]).map V.int)) := by
        rw [upd_same, List.map_append]
        rfl
      generalize upd (upd H1 q (.lst [.int 0])) u (.lst ((codesW c.heading).map V.int ++ [.int 0])) = H3 at *
      have p3 := s3 _ _ hp
      refine ⟨_, rfl, p, dx, _, rfl, p3, p, dx, _, _, rfl, p3, cf_see _ _ _ _, c.see, rfl, hsw, fun H4 l4 s4 hl4 e4 => ?_⟩
      refine ⟨u, l4, _, _, rfl, rfl, s4 _ _ e3, e4, by rw [List.length_map, List.length_map, List.length_append]; show _ + 1 + _ ≤ _; omega, fun x hx => ?_⟩
      refine k _ x ((s3.trans s4).trans (same_new hx)) ?_ ?_
      · cases z : H x with
        | none => rfl
        | some o =>
          rw [(s3.trans s4) _ _ z] at hx
          cases hx
      · rw [upd_same, ← List.map_append]
end
section
local macro_rules | `(tactic| walk_at "sl") => `(tactic| first | assumption | exact SqL.of upd_same | exact SqL.of (by assumption) | ((with_reducible apply sql_upd); (walk_at "sl"); (first | assumption | exact Ne.symm (by assumption))))
local macro_rules | `(tactic| walk_at "st") => `(tactic| first | assumption | exact SqT.of upd_same | exact SqT.of (by assumption))
local macro_rules | `(tactic| walk_at "sc") => `(tactic| first | rfl | assumption | (show (0 : Int) < _; first | assumption | decide | omega) | exact Or.inl ⟨by omega, by omega⟩ | exact Or.inr ⟨by omega, by omega⟩ | exact ⟨by decide, by decide⟩ | exact ⟨by decide, by decide, by decide⟩)
local macro_rules | `(tactic| walk_at "g1") => `(tactic| first
  | refine ⟨(_ : V), rfl, ?_⟩
  | refine ⟨(_ : Bool), rfl, ?_⟩
  | refine ⟨(_ : Int), (_ : Int), rfl, rfl, ?_⟩
  | refine ⟨(_ : Int), rfl, ?_⟩
  | refine ⟨(_ : Str), rfl, ?_⟩
  | refine ⟨(_ : Addr), (_ : List V), rfl, Or.inl (by walk_at "sl"), ?_⟩
  | refine ⟨(_ : Addr), (_ : List V), rfl, Or.inr (by walk_at "st"), ?_⟩
  | refine ⟨(_ : Addr), (_ : List V), (_ : Int), (_ : V), rfl, rfl, (by walk_at "sl"), (by first | rfl | assumption), ?_⟩
  | refine ⟨(_ : Addr), (_ : List V), (_ : Int), (_ : V), rfl, rfl, (by walk_at "st"), (by first | rfl | assumption), ?_⟩
  | refine ⟨(_ : Addr), (_ : List V), (_ : Int), (_ : Nat), rfl, rfl, upd_same, rfl, ?_⟩
  | refine ⟨(_ : Addr), (_ : List V), (_ : Int), (_ : Nat), rfl, rfl, (by assumption), rfl, ?_⟩
  | refine ⟨(_ : Addr), (_ : Addr), (_ : Addr), (_ : List (Str × V)), (_ : V), rfl, (by assumption), (by assumption), (by assumption), (by first | assumption | rfl), ?_⟩
  | refine Or.inl ⟨(_ : Int), rfl, ?_⟩
  | refine And.intro (by walk_at "sc") ?_
  | refine iteT ?_
  | refine iteF ?_)
theorem ok_Drawer_len (T : Top K mg) : FnOk P w K mg base CX0 1 T.a_Drawer_len T.fd_Drawer_len ["self"] (fun vs H Q _ => ∃ (p : Addr) (cs : List CD), vs = [.ref p] ∧ DrawerAt K T.c_Drawer T.c_Card H p cs ∧ cs.length ≤ 1000 ∧ Q (.int cs.length) H) := by
  refine T.F_Drawer_len.ok sc_Drawer_len (fun vs H Q E h => ?_) (fun cdv A outer s H vs Q E hr h => ?_)
  · obtain ⟨p, cs, rfl, _⟩ := h
    rfl
  · obtain ⟨p, cs, rfl, ⟨dx, t, ps, hp, hT, hC⟩, hl, k⟩ := h
    have hu := hu_of hr
    refine ⟨_, (pss_one (ps_ret (pe_callB call_len_seq (by rfl) T.m_len (by decide +kernel) (pa_cons (pe_fld (pv 0) rfl) pa_nil)))), ?_⟩
    refine ⟨_, rfl, p, _, dx, _, _, rfl, hp, T.cl_Drawer, T.n_Drawer__cards, df_cards _, t, _, rfl, .inr hT, ?_⟩
    rw [List.length_map, hC.1]
    exact k
/-! ### the code of a drawer -/
def itemsD (cs : List CD) : List Int := [97, (cs.length : Int)] ++ cs.flatMap codesC
theorem codesC_len {c : CD} (g : c.Good) : (codesC c).length ≤ 70 := by
  have h1 := wlen g.h
  have h2 := g.lb
  have h3 := g.la
  have h4 := codesA_len g.wa
  unfold codesC
  by_cases hs : c.see = ""
  · rw [if_pos hs, List.length_append, List.length_append, List.length_append, List.length_append, codesB_len]
    show _ + (1 + (_ + (1 + _))) ≤ 70
    omega
  · rw [if_neg hs, List.length_append, List.length_append]
    have := wlen (see_word g hs)
    show _ + 1 + _ ≤ 70
    omega
theorem codesCs_len : ∀ {cs : List CD}, (∀ c ∈ cs, c.Good) → (cs.flatMap codesC).length ≤ 70 * cs.length
  | [], _ => Nat.le_refl _
  | c :: r, h => by
    have h1 := codesC_len (h c (.head _))
    have h2 := codesCs_len fun x hx => h x (.tail _ hx)
    rw [List.flatMap_cons, List.length_append, List.length_cons]
    omega
def spEncode (K : PySem.W.Frag) (D C : Addr) : Sp := fun vs H Q _ => ∃ (p : Addr) (cs : List CD), vs = [.ref p] ∧ DrawerAt K D C H p cs ∧ cs.length ≤ 16 ∧ (∀ c ∈ cs, c.Good) ∧ ∀ H' l, Same H H' → H' l = some (.lst ((itemsD cs ++ [chkOf 7 (itemsD cs)]).map V.int)) → Q (.ref l) H'
theorem ok_encode_drawer (T : Top K mg) : FnOk P w K mg base CX0 4 T.a_encode_drawer T.fd_encode_drawer ["drawer"] (spEncode K T.c_Drawer T.c_Card) := by
  refine T.F_encode_drawer.ok sc_encode_drawer (fun vs H Q E h => ?_) (fun cdv A outer s H vs Q E hr h => ?_)
  · obtain ⟨p, cs, rfl, _⟩ := h
    rfl
  · obtain ⟨p, cs, rfl, hD, h16, hg, k⟩ := h
    have hu := hu_of hr
    refine ⟨_, (pss_cons (ps_set (i := 1) sc_encode_drawer.nd rfl (.inl rfl) (pe_lst (pa_cons (pe_glob rfl T.g_MARK T.r_MARK) (pa_cons (pe_callB (call_lenOwn T.M_Drawer_len (ok_Drawer_len T) (hr.mono (by decide)) (b_Drawer_len T) pass0) (by rfl) T.m_len (by decide +kernel) (pa_cons (pv 0) pa_nil)) pa_nil))))
      (pss_cons (ps_for PassesOwn.never rfl (pi_tup (pe_prop (pv 0) T.cl_Drawer T.P_Drawer_cards (ok_Drawer_cards T) (hr.mono (by decide)) (b_Drawer_cards T) .nil pass0 rfl)) (pg_name (i := 2) sc_encode_drawer.nd rfl (.inl rfl))
        (pss_one (ps_expr (pe_bm PySem.F.plainAttrs_list PySem.F.slot_list_extend PySem.F.type_list_extend mt_extend (pv 1) (pa_cons (pe_call (ok_codes_of_card T) (hr.mono (by decide)) (by rfl) T.g_codes_of_card T.F_codes_of_card.kp (b_codes_of_card T) .nil pass0 (pa_cons (pv 2) pa_nil)) pa_nil)))))
      (pss_cons (ps_expr (pe_bm PySem.F.plainAttrs_list PySem.F.slot_list_append PySem.F.type_list_append mt_append (pv 1) (pa_cons (pe_call (ok_checksum_of T) (hr.mono (by decide)) (by rfl) T.g_checksum_of T.F_checksum_of.kp (b_checksum_of T) .nil pass0 (pa_cons (pv 1) pa_nil)) pa_nil)))
      (pss_one (ps_ret (pv 1)))))), ?_⟩
    have hsz := sizeLine_of (show (10000 : Nat) ≤ 1000000 by omega)
    obtain ⟨dx, t, ps, hp, hT, hC⟩ := id hD
    refine ⟨_, rfl, p, dx, _, rfl, hp, p, cs, rfl, hD, by omega, _, rfl, by omega, by omega, ?_⟩
    refine ⟨by show 2 ≤ sizeLine; decide, fun l hl => ?_⟩
    have s1 : Same H (upd H l (.lst [.int 97, .int (cs.length : Nat)])) := same_new hl
    have e1 : (upd H l (.lst [.int 97, .int (cs.length : Nat)])) l = some (.lst (([97, (cs.length : Int)] ++ (cs.take 0).flatMap codesC).map V.int)) := upd_same
    generalize upd H l (.lst [.int 97, .int (cs.length : Nat)]) = H1 at *
    have hpl := hC.1
    have p1 := s1 _ _ hp
    refine ⟨_, rfl, p, dx, _, rfl, p1, p, dx, _, _, rfl, p1, df_cards _, t, rfl, ⟨_, s1.seqT hT⟩, for_tup (K := K) (a := t) (xs := ps.map V.ref) (fun i σ H2 => ∃ y2, σ = [some (.ref p), some (.ref l), y2] ∧ Same H H2 ∧ H2 l = some (.lst (([97, (cs.length : Int)] ++ (cs.take i).flatMap codesC).map V.int))) ⟨_, rfl, s1, e1⟩ (fun i σ H2 _ ⟨_, _, s, _⟩ => s.seqT hT) (fun i x σ H2 hi hP => ?_) (fun σ H2 hP => ?_)⟩
    · obtain ⟨y2, rfl, s2, e2⟩ := hP
      rw [List.getElem?_map] at hi
      obtain ⟨q, hq, rfl⟩ := Option.map_eq_some_iff.mp hi
      obtain ⟨c, hc, hcq⟩ := hC.get hq
      have gc := hg c (List.mem_of_getElem? hc)
      have lc := codesC_len gc
      have lt := codesCs_len (cs := cs.take i) fun x hx => hg x (List.mem_of_mem_take hx)
      have lt2 : (cs.take i).length ≤ 16 := by rw [List.length_take]; omega
      refine ⟨_, rfl, .inl ⟨rfl, _, SqL.of e2⟩, ?_⟩
      refine ⟨_, rfl, q, c, rfl, hcq.same s2, gc, fun H3 r s3 hr3 e3 => ?_⟩
      refine ⟨l, r, _, _, rfl, rfl, s3 _ _ e2, e3, by rw [List.length_map, List.length_map, List.length_append]; show 2 + _ + _ ≤ _; omega, ?_⟩
      refine ⟨_, rfl, same_mut (s2.trans s3) hl, ?_⟩
      rw [upd_same, List.take_add_one, hc, ← List.map_append]
      show _ = some (HO.lst (([97, (cs.length : Int)] ++ (cs.take i ++ [c]).flatMap codesC).map V.int))
      rw [List.flatMap_append, List.append_assoc]
      simp
    · obtain ⟨y2, rfl, s2, e2⟩ := hP
      rw [List.length_map, hpl, List.take_length] at e2
      have lt := codesCs_len hg
      have e2 : H2 l = some (.lst ((itemsD cs).map V.int)) := e2
      have li : (itemsD cs).length ≤ 2000 := by
        unfold itemsD
        rw [List.length_append]
        show 2 + _ ≤ _
        omega
      refine ⟨_, rfl, .inl ⟨rfl, _, SqL.of e2⟩, ?_⟩
      refine ⟨_, rfl, l, itemsD cs, rfl, SqL.of e2, fun H3 s3 => ?_⟩
      have e3 := s3 _ _ e2
      refine ⟨l, _, _, rfl, rfl, e3, by rw [List.length_map]; omega, ?_⟩
      refine ⟨_, rfl, ?_⟩
      refine k _ l (same_mut (s2.trans s3) hl) ?_
      rw [upd_same, List.map_append]
      rfl
end
section
local macro_rules | `(tactic| walk_at "sl") => `(tactic| first | assumption | exact SqL.of upd_same | exact SqL.of (by assumption) | ((with_reducible apply sql_upd); (walk_at "sl"); (first | assumption | exact Ne.symm (by assumption))))
local macro_rules | `(tactic| walk_at "st") => `(tactic| first | assumption | exact SqT.of upd_same | exact SqT.of (by assumption))
local macro_rules | `(tactic| walk_at "sc") => `(tactic| first | rfl | assumption | (show (0 : Int) < _; first | assumption | decide | omega) | exact Or.inl ⟨by omega, by omega⟩ | exact Or.inr ⟨by omega, by omega⟩ | exact ⟨by decide, by decide⟩ | exact ⟨by decide, by decide, by decide⟩)
local macro_rules | `(tactic| walk_at "g1") => `(tactic| first
  | refine ⟨(_ : V), rfl, ?_⟩
  | refine ⟨(_ : Bool), rfl, ?_⟩
  | refine ⟨(_ : Int), (_ : Int), rfl, rfl, ?_⟩
  | refine ⟨(_ : Int), rfl, ?_⟩
  | refine ⟨(_ : Str), rfl, ?_⟩
  | refine ⟨(_ : Addr), (_ : List V), rfl, Or.inl (by walk_at "sl"), ?_⟩
  | refine ⟨(_ : Addr), (_ : List V), rfl, Or.inr (by walk_at "st"), ?_⟩
  | refine ⟨(_ : Addr), (_ : List V), (_ : Int), (_ : V), rfl, rfl, (by walk_at "sl"), (by first | rfl | assumption), ?_⟩
  | refine ⟨(_ : Addr), (_ : List V), (_ : Int), (_ : V), rfl, rfl, (by walk_at "st"), (by first | rfl | assumption), ?_⟩
  | refine ⟨(_ : Addr), (_ : List V), (_ : Int), (_ : Nat), rfl, rfl, upd_same, rfl, ?_⟩
  | refine ⟨(_ : Addr), (_ : List V), (_ : Int), (_ : Nat), rfl, rfl, (by assumption), rfl, ?_⟩
  | refine ⟨(_ : Addr), (_ : Addr), (_ : Addr), (_ : List (Str × V)), (_ : V), rfl, (by assumption), (by assumption), (by assumption), (by first | assumption | rfl), ?_⟩
  | refine Or.inl ⟨(_ : Int), rfl, ?_⟩
  | refine And.intro (by walk_at "sc") ?_
  | refine iteT ?_
  | refine iteF ?_)
/-! ### how codes are read, plainly: an item that cannot stand there is told by its offset -/
abbrev Rd (α : Type) := Except Nat (α × Nat)
def bnd {α β : Type} (x : Rd α) (f : α → Nat → Rd β) : Rd β := match x with
  | .error e => .error e
  | .ok (a, o) => f a o
def numAt (vs : List V) (o : Nat) (lo hi : Int) : Option Int := match vs[o]? with
  | some (.int n) => if isNum n lo hi = true then some n else none
  | _ => none
def rdN (vs : List V) (lo hi : Int) (o : Nat) : Rd Int := match numAt vs o lo hi with
  | none => .error o
  | some n => .ok (n, o + 1)
def letterAt (n : Int) : Nat := (letters.cps.toList[(n - 1).toNat]?).getD 0
def rdLet (vs : List V) : Nat → List Nat → Nat → Rd (List Nat)
  | 0, acc, o => .ok (acc, o)
  | m + 1, acc, o => bnd (rdN vs 1 26 o) fun n o => rdLet vs m (acc ++ [letterAt n]) o
def strOf (l : List Nat) : Str := ⟨l.toArray⟩
def rdWord (vs : List V) (o : Nat) : Rd Str := bnd (rdN vs 1 8 o) fun m o => bnd (rdLet vs m.toNat [] o) fun l o => .ok (strOf l, o)
def rdBk (vs : List V) (last : Int) (o : Nat) : Rd Int := bnd (rdN vs 0 3 o) fun q o1 => bnd (rdN vs 0 255 o1) fun r o2 => if isNum (256 * q + r) (last + 1) 999 = true then .ok (256 * q + r, o2) else .error o
def lastOf (l : List Int) : Int := l.getLast?.getD 0
def rdBooks (vs : List V) : Nat → List Int → Nat → Rd (List Int)
  | 0, acc, o => .ok (acc, o)
  | m + 1, acc, o => bnd (rdBk vs (lastOf acc) o) fun b o => rdBooks vs m (acc ++ [b]) o
def rdAlso (vs : List V) : Nat → List Str → Nat → Rd (List Str)
  | 0, acc, o => .ok (acc, o)
  | m + 1, acc, o => bnd (rdWord vs o) fun t o => rdAlso vs m (acc ++ [t]) o
def rdParts (vs : List V) (o : Nat) : Rd CD := bnd (rdWord vs o) fun h o => bnd (rdN vs 0 7 o) fun m o =>
  if m = 0 then bnd (rdWord vs o) fun s o => .ok (⟨h, [], s, []⟩, o)
  else bnd (rdBooks vs (m - 1).toNat [] o) fun bs o => bnd (rdN vs 0 4 o) fun a o => bnd (rdAlso vs a.toNat [] o) fun ws o => .ok (⟨h, bs, "", ws⟩, o)
def rdRows (vs : List V) : Nat → List CD → Nat → Rd (List CD)
  | 0, acc, o => .ok (acc, o)
  | m + 1, acc, o => bnd (rdParts vs o) fun c o => rdRows vs m (acc ++ [c]) o
def intOf : V → Int
  | .int n => n
  | _ => 0
def chkV (vs : List V) (o : Nat) : Int := chkOf 7 ((vs.take o).map intOf)
def rdHead (vs : List V) : Rd (List CD) := bnd (rdN vs 97 97 0) fun _ o => bnd (rdN vs 0 16 o) fun m o => rdRows vs m.toNat [] o
def rdAll (vs : List V) : Rd (List CD) := bnd (rdHead vs) fun cs o => bnd (rdN vs (chkV vs o) (chkV vs o) o) fun _ o1 => if o1 < vs.length then .error o1 else .ok (cs, o1)
/-- the first card that is wrong -/
def outC : List CD → Option Str
  | [] => none
  | c :: r => match wrongP c with
    | some t => some t
    | none => outC r
/-- the items of a list: integers and booleans -/
def itemV : V → Bool
  | .int _ => true
  | .bl _ => true
  | _ => false
theorem bnd_ok {α β : Type} {x : Rd α} {f : α → Nat → Rd β} {b : β × Nat} (h : bnd x f = .ok b) : ∃ a o, x = .ok (a, o) ∧ f a o = .ok b := by
  cases x with
  | error e => cases h
  | ok p => exact ⟨p.1, p.2, rfl, h⟩
theorem bnd_at {α β : Type} {x : Rd α} {f : α → Nat → Rd β} {a : α} {o : Nat} (h : x = .ok (a, o)) : bnd x f = f a o := by
  rw [h]
  rfl
theorem bnd_er {α β : Type} {x : Rd α} {f : α → Nat → Rd β} {e : Nat} (h : x = .error e) : bnd x f = .error e := by
  rw [h]
  rfl
theorem rdN_ok {vs : List V} {lo hi : Int} {o : Nat} {n : Int} {o1 : Nat} (h : rdN vs lo hi o = .ok (n, o1)) : o1 = o + 1 ∧ vs[o]? = some (.int n) ∧ lo ≤ n ∧ n ≤ hi := by
  unfold rdN numAt at h
  split at h
  · cases h
  · rename_i m hm
    cases h
    split at hm
    · rename_i k hk
      split at hm
      · rename_i hin
        cases hm
        unfold isNum at hin
        rw [Bool.and_eq_true] at hin
        exact ⟨rfl, hk, of_decide_eq_true hin.1, of_decide_eq_true hin.2⟩
      · cases hm
    · cases hm
theorem rdN_lt {vs : List V} {lo hi : Int} {o : Nat} {n : Int} {o1 : Nat} (h : rdN vs lo hi o = .ok (n, o1)) : o1 ≤ vs.length := by
  obtain ⟨e, h1, _⟩ := rdN_ok h
  have := (List.getElem?_eq_some_iff.mp h1).1
  omega
/-- a reading lies within the list -/
def Within {α : Type} (vs : List V) (o : Nat) (x : Rd α) : Prop := ∀ a o1, x = .ok (a, o1) → o ≤ o1 ∧ o1 ≤ vs.length
theorem Within.bnd {α β : Type} {vs : List V} {o : Nat} {x : Rd α} {f : α → Nat → Rd β} (h : Within vs o x) (g : ∀ a o1, o1 ≤ vs.length → Within vs o1 (f a o1)) : Within vs o (bnd x f) := fun b o2 e => by
  obtain ⟨a, o1, h1, h2⟩ := bnd_ok e
  obtain ⟨q1, q2⟩ := h a o1 h1
  obtain ⟨q3, q4⟩ := g a o1 q2 b o2 h2
  exact ⟨Nat.le_trans q1 q3, q4⟩
theorem Within.ok {α : Type} {vs : List V} {o : Nat} {a : α} (h : o ≤ vs.length) : Within vs o (.ok (a, o)) := fun b o1 e => by
  cases e
  exact ⟨Nat.le_refl _, h⟩
theorem Within.er {α : Type} {vs : List V} {o e : Nat} : Within vs o (.error e : Rd α) := fun b o1 h => nomatch h
theorem within_N {vs : List V} {lo hi : Int} {o : Nat} : Within vs o (rdN vs lo hi o) := fun n o1 h => ⟨by have := (rdN_ok h).1; omega, rdN_lt h⟩
theorem within_let {vs : List V} : ∀ {m : Nat} {acc : List Nat} {o : Nat}, o ≤ vs.length → Within vs o (rdLet vs m acc o)
  | 0, _, _, h => Within.ok h
  | m + 1, _, _, _ => within_N.bnd fun _ _ h => within_let h
theorem within_word {vs : List V} {o : Nat} : Within vs o (rdWord vs o) := within_N.bnd fun _ _ h => (within_let h).bnd fun _ _ h => Within.ok h
theorem within_also {vs : List V} : ∀ {m : Nat} {acc : List Str} {o : Nat}, o ≤ vs.length → Within vs o (rdAlso vs m acc o)
  | 0, _, _, h => Within.ok h
  | m + 1, _, _, _ => within_word.bnd fun _ _ h => within_also h
theorem within_bk {vs : List V} {last : Int} {o : Nat} : Within vs o (rdBk vs last o) := within_N.bnd fun _ _ h => within_N.bnd fun _ _ h => by
  split
  · exact Within.ok h
  · exact Within.er
theorem within_books {vs : List V} : ∀ {m : Nat} {acc : List Int} {o : Nat}, o ≤ vs.length → Within vs o (rdBooks vs m acc o)
  | 0, _, _, h => Within.ok h
  | m + 1, _, _, _ => within_bk.bnd fun _ _ h => within_books h
theorem within_parts {vs : List V} {o : Nat} : Within vs o (rdParts vs o) := within_word.bnd fun _ _ h => within_N.bnd fun _ _ h => by
  split
  · exact within_word.bnd fun _ _ h => Within.ok h
  · exact (within_books h).bnd fun _ _ h => within_N.bnd fun _ _ h => (within_also h).bnd fun _ _ h => Within.ok h
theorem within_rows {vs : List V} : ∀ {m : Nat} {acc : List CD} {o : Nat}, o ≤ vs.length → Within vs o (rdRows vs m acc o)
  | 0, _, _, h => Within.ok h
  | m + 1, _, _, _ => within_parts.bnd fun _ _ h => within_rows h
/-- an error is told of an item within the list, or behind it -/
def ErrIn {α : Type} (vs : List V) (x : Rd α) : Prop := ∀ e, x = .error e → e ≤ vs.length
theorem ErrIn.bnd {α β : Type} {vs : List V} {x : Rd α} {f : α → Nat → Rd β} (h : ErrIn vs x) (g : ∀ a o1, x = .ok (a, o1) → ErrIn vs (f a o1)) : ErrIn vs (bnd x f) := fun e he => by
  cases hx : x with
  | error d => rw [hx] at he; cases he; exact h _ hx
  | ok p =>
    rw [hx] at he
    exact g p.1 p.2 hx e he
theorem ErrIn.ok {α : Type} {vs : List V} {p : α × Nat} : ErrIn vs (.ok p : Rd α) := fun e h => nomatch h
theorem errin_N {vs : List V} {lo hi : Int} {o : Nat} (h : o ≤ vs.length) : ErrIn vs (rdN vs lo hi o) := fun e he => by
  unfold rdN at he
  split at he
  · cases he
    exact h
  · cases he
theorem errin_let {vs : List V} : ∀ {m : Nat} {acc : List Nat} {o : Nat}, o ≤ vs.length → ErrIn vs (rdLet vs m acc o)
  | 0, _, _, _ => ErrIn.ok
  | m + 1, _, _, h => (errin_N h).bnd fun _ _ e => errin_let (within_N _ _ e).2
theorem errin_word {vs : List V} {o : Nat} (h : o ≤ vs.length) : ErrIn vs (rdWord vs o) := (errin_N h).bnd fun _ _ e => (errin_let (within_N _ _ e).2).bnd fun _ _ _ => ErrIn.ok
theorem errin_also {vs : List V} : ∀ {m : Nat} {acc : List Str} {o : Nat}, o ≤ vs.length → ErrIn vs (rdAlso vs m acc o)
  | 0, _, _, _ => ErrIn.ok
  | m + 1, _, _, h => (errin_word h).bnd fun _ _ e => errin_also (within_word _ _ e).2
theorem errin_bk {vs : List V} {last : Int} {o : Nat} (h : o ≤ vs.length) : ErrIn vs (rdBk vs last o) := (errin_N h).bnd fun _ _ e => (errin_N (within_N _ _ e).2).bnd fun _ _ _ => by
  split
  · exact ErrIn.ok
  · intro e he
    cases he
    exact h
theorem errin_books {vs : List V} : ∀ {m : Nat} {acc : List Int} {o : Nat}, o ≤ vs.length → ErrIn vs (rdBooks vs m acc o)
  | 0, _, _, _ => ErrIn.ok
  | m + 1, _, _, h => (errin_bk h).bnd fun _ _ e => errin_books (within_bk _ _ e).2
theorem errin_parts {vs : List V} {o : Nat} (h : o ≤ vs.length) : ErrIn vs (rdParts vs o) := (errin_word h).bnd fun _ _ e => (errin_N (within_word _ _ e).2).bnd fun _ _ e => by
  have h := (within_N _ _ e).2
  split
  · exact (errin_word h).bnd fun _ _ _ => ErrIn.ok
  · exact (errin_books h).bnd fun _ _ e => (errin_N ((within_books h) _ _ e).2).bnd fun _ _ e => (errin_also (within_N _ _ e).2).bnd fun _ _ _ => ErrIn.ok
theorem errin_rows {vs : List V} : ∀ {m : Nat} {acc : List CD} {o : Nat}, o ≤ vs.length → ErrIn vs (rdRows vs m acc o)
  | 0, _, _, _ => ErrIn.ok
  | m + 1, _, _, h => (errin_parts h).bnd fun _ _ e => errin_rows (within_parts _ _ e).2
/-! ### what is read is not too long -/
theorem letterAt_in {n : Int} (h1 : 1 ≤ n) (h2 : n ≤ 26) : letterAt n ∈ letters.cps.toList := by
  have q : ∀ i < 26, (letters.cps.toList[i]?).getD 0 ∈ letters.cps.toList := by decide +kernel
  exact q _ (by omega)
theorem let_ok {vs : List V} : ∀ {m : Nat} {acc : List Nat} {o : Nat} {l : List Nat} {o1 : Nat}, rdLet vs m acc o = .ok (l, o1) → l.length = acc.length + m ∧ ((∀ c ∈ acc, c ∈ letters.cps.toList) → ∀ c ∈ l, c ∈ letters.cps.toList)
  | 0, acc, o, l, o1, h => by
    cases h
    exact ⟨rfl, fun z => z⟩
  | m + 1, acc, o, l, o1, h => by
    obtain ⟨n, o2, h1, h2⟩ := bnd_ok h
    obtain ⟨_, _, g1, g2⟩ := rdN_ok h1
    obtain ⟨q1, q2⟩ := let_ok h2
    refine ⟨by rw [q1, List.length_append]; show acc.length + 1 + m = _; omega, fun z => q2 fun c hc => ?_⟩
    rcases List.mem_append.mp hc with hc | hc
    · exact z c hc
    · rw [List.mem_singleton.mp hc]
      exact letterAt_in g1 g2
structure WordR (t : Str) : Prop where
  l : t.length ≤ 8
  w : isWord t = true
theorem word_ok {vs : List V} {o : Nat} {t : Str} {o1 : Nat} (h : rdWord vs o = .ok (t, o1)) : WordR t := by
  obtain ⟨n, o2, h1, h2⟩ := bnd_ok h
  obtain ⟨l, o3, h3, h4⟩ := bnd_ok h2
  cases h4
  obtain ⟨_, _, g1, g2⟩ := rdN_ok h1
  obtain ⟨q1, q2⟩ := let_ok h3
  have hl : (strOf l).length = l.length := rfl
  have hl2 : l.length = n.toNat := by rw [q1]; show 0 + _ = _; omega
  refine ⟨by omega, ?_⟩
  unfold isWord
  rw [decide_eq_true (by rw [hl]; omega), decide_eq_true (by rw [hl]; omega)]
  rw [Bool.and_self, Bool.true_and]
  exact List.all_eq_true.mpr fun c hc => decide_eq_true (q2 (fun _ h => nomatch h) c hc)
/-- the parts of a card that was read have room -/
theorem books_len {vs : List V} : ∀ {m : Nat} {acc : List Int} {o : Nat} {l : List Int} {o1 : Nat}, rdBooks vs m acc o = .ok (l, o1) → l.length = acc.length + m
  | 0, acc, o, l, o1, h => by
    cases h
    rfl
  | m + 1, acc, o, l, o1, h => by
    obtain ⟨n, o2, h1, h2⟩ := bnd_ok h
    rw [books_len h2, List.length_append]
    show acc.length + 1 + m = _
    omega
theorem also_ok {vs : List V} : ∀ {m : Nat} {acc : List Str} {o : Nat} {l : List Str} {o1 : Nat}, rdAlso vs m acc o = .ok (l, o1) → l.length = acc.length + m ∧ ((∀ t ∈ acc, WordR t) → ∀ t ∈ l, WordR t)
  | 0, acc, o, l, o1, h => by
    cases h
    exact ⟨rfl, fun z => z⟩
  | m + 1, acc, o, l, o1, h => by
    obtain ⟨n, o2, h1, h2⟩ := bnd_ok h
    obtain ⟨q1, q2⟩ := also_ok h2
    refine ⟨by rw [q1, List.length_append]; show acc.length + 1 + m = _; omega, fun z => q2 fun c hc => ?_⟩
    rcases List.mem_append.mp hc with hc | hc
    · exact z c hc
    · rw [List.mem_singleton.mp hc]
      exact word_ok h1
theorem parts_room {vs : List V} {o : Nat} {c : CD} {o1 : Nat} (h : rdParts vs o = .ok (c, o1)) : Room4 c := by
  obtain ⟨t, o2, h1, h2⟩ := bnd_ok h
  obtain ⟨m, o3, h3, h4⟩ := bnd_ok h2
  have w1 := (word_ok h1).l
  obtain ⟨_, _, m1, m2⟩ := rdN_ok h3
  split at h4
  · obtain ⟨s, o4, h5, h6⟩ := bnd_ok h4
    cases h6
    have w2 := (word_ok h5).l
    exact ⟨by show t.length ≤ _; omega, by show s.length ≤ _; omega, Nat.zero_le _, Nat.zero_le _, (fun _ h => nomatch h), (fun _ h => nomatch h)⟩
  · obtain ⟨bs, o4, h5, h6⟩ := bnd_ok h4
    obtain ⟨a, o5, h7, h8⟩ := bnd_ok h6
    obtain ⟨ws, o6, h9, h10⟩ := bnd_ok h8
    cases h10
    have b1 := books_len h5
    obtain ⟨_, _, a1, a2⟩ := rdN_ok h7
    obtain ⟨w1', w2⟩ := also_ok h9
    have w2 := w2 (fun _ h => nomatch h)
    refine ⟨by show t.length ≤ _; omega, Nat.zero_le _, ?_, ?_, fun y hy => ?_, fun y hy => word_strOk (w2 y hy).w⟩
    · show bs.length ≤ _
      rw [b1]
      show 0 + _ ≤ _
      omega
    · show ws.length ≤ _
      rw [w1']
      show 0 + _ ≤ _
      omega
    · have := (w2 y hy).l
      omega
theorem rows_room {vs : List V} : ∀ {m : Nat} {acc : List CD} {o : Nat} {l : List CD} {o1 : Nat}, rdRows vs m acc o = .ok (l, o1) → l.length = acc.length + m ∧ ((∀ c ∈ acc, Room4 c) → ∀ c ∈ l, Room4 c)
  | 0, acc, o, l, o1, h => by
    cases h
    exact ⟨rfl, fun z => z⟩
  | m + 1, acc, o, l, o1, h => by
    obtain ⟨n, o2, h1, h2⟩ := bnd_ok h
    obtain ⟨q1, q2⟩ := rows_room h2
    refine ⟨by rw [q1, List.length_append]; show acc.length + 1 + m = _; omega, fun z => q2 fun c hc => ?_⟩
    rcases List.mem_append.mp hc with hc | hc
    · exact z c hc
    · rw [List.mem_singleton.mp hc]
      exact parts_room h1
end
section
local macro_rules | `(tactic| walk_at "sl") => `(tactic| first | assumption | exact SqL.of upd_same | exact SqL.of (by assumption) | ((with_reducible apply sql_upd); (walk_at "sl"); (first | assumption | exact Ne.symm (by assumption))))
local macro_rules | `(tactic| walk_at "st") => `(tactic| first | assumption | exact SqT.of upd_same | exact SqT.of (by assumption))
local macro_rules | `(tactic| walk_at "sc") => `(tactic| first | rfl | assumption | (show (0 : Int) < _; first | assumption | decide | omega) | exact Or.inl ⟨by omega, by omega⟩ | exact Or.inr ⟨by omega, by omega⟩ | exact ⟨by decide, by decide⟩ | exact ⟨by decide, by decide, by decide⟩)
local macro_rules | `(tactic| walk_at "g1") => `(tactic| first
  | refine ⟨(_ : V), rfl, ?_⟩
  | refine ⟨(_ : Bool), rfl, ?_⟩
  | refine ⟨(_ : Int), (_ : Int), rfl, rfl, ?_⟩
  | refine ⟨(_ : Int), rfl, ?_⟩
  | refine ⟨(_ : Str), rfl, ?_⟩
  | refine ⟨(_ : Addr), (_ : List V), rfl, Or.inl (by walk_at "sl"), ?_⟩
  | refine ⟨(_ : Addr), (_ : List V), rfl, Or.inr (by walk_at "st"), ?_⟩
  | refine ⟨(_ : Addr), (_ : List V), (_ : Int), (_ : V), rfl, rfl, (by walk_at "sl"), (by first | rfl | assumption), ?_⟩
  | refine ⟨(_ : Addr), (_ : List V), (_ : Int), (_ : V), rfl, rfl, (by walk_at "st"), (by first | rfl | assumption), ?_⟩
  | refine ⟨(_ : Addr), (_ : List V), (_ : Int), (_ : Nat), rfl, rfl, upd_same, rfl, ?_⟩
  | refine ⟨(_ : Addr), (_ : List V), (_ : Int), (_ : Nat), rfl, rfl, (by assumption), rfl, ?_⟩
  | refine ⟨(_ : Addr), (_ : Addr), (_ : Addr), (_ : List (Str × V)), (_ : V), rfl, (by assumption), (by assumption), (by assumption), (by first | assumption | rfl), ?_⟩
  | refine Or.inl ⟨(_ : Int), rfl, ?_⟩
  | refine And.intro (by walk_at "sc") ?_
  | refine iteT ?_
  | refine iteF ?_)
/-! ### is_number of any item -/
def isNumV (v : V) (lo hi : Int) : Bool := match v with
  | .int n => isNum n lo hi
  | _ => false
def spIsNumV : Sp := fun vs H Q _ => ∃ (v : V) (a b : Int), vs = [v, .int a, .int b] ∧ itemV v = true ∧ Q (.bl (isNumV v a b)) H
theorem okv_is_number (T : Top K mg) : FnOk P w K mg base CX0 1 T.a_is_number T.fd_is_number ["number", "least", "greatest"] spIsNumV := by
  refine T.F_is_number.ok sc_is_number (fun vs H Q E h => ?_) (fun cdv A outer s H vs Q E hr h => ?_)
  · obtain ⟨v, a, b, rfl, _⟩ := h
    rfl
  · obtain ⟨v, a, b, rfl, hv, k⟩ := h
    have hu := hu_of hr
    refine ⟨_, (pss_cons (ps_if (PW.pt (pw_or (pt_val (pe_callB call_isi (by rfl) T.m_isinstance (by decide +kernel) (pa_cons (pv 0) (pa_cons (pe_bltn (v := .ty "bool") (by rfl) T.m_bool (by decide +kernel) rfl) pa_nil)))) (pw_or1 (pt_not (pt_val (pe_callB call_isi (by rfl) T.m_isinstance (by decide +kernel) (pa_cons (pv 0) (pa_cons (pe_bltn (v := .ty "int") (by rfl) T.m_int (by decide +kernel) rfl) pa_nil)))))))) (pss_one (ps_ret pe_bl)) pss_nil)
      (pss_one (ps_ret (pe_chain op_le op_le (pv 1) (pv 0) (pv 2))))), ?_⟩
    cases v with
    | int n =>
      refine ⟨_, rfl, .int n, .ty "bool", .type "int", .type "bool", false, rfl, .ty _, .base (.int n), kit_ty (by decide +kernel), ?_⟩
      repeat walk_at "g1"
      refine ⟨.int n, .ty "int", .type "int", .type "int", true, rfl, .ty _, .base (.int n), kit_ty (by decide +kernel), ?_⟩
      repeat walk_at "g1"
      refine ite2 (fun h1 => ?_) (fun h1 => ?_)
      · repeat walk_at "g1"
        have e : isNumV (.int n) a b = decide (n ≤ b) := by show isNum n a b = _; unfold isNum; rw [h1, Bool.true_and]
        rw [e] at k
        exact k
      · have e : isNumV (.int n) a b = false := by show isNum n a b = _; unfold isNum; rw [Bool.eq_false_iff.mpr h1, Bool.false_and]
        rw [e] at k
        exact k
    | bl c =>
      refine ⟨_, rfl, .bl c, .ty "bool", .type "bool", .type "bool", true, rfl, .ty _, .base (.bl c), kit_ty (by decide +kernel), ?_⟩
      repeat walk_at "g1"
      exact k
    | _ => cases hv
/-! ### DecodeError.__init__ -/
def codS : Str := "wrong item of a code: "
theorem cod_len : codS.length = 22 := by decide +kernel
def strN (p : Nat) : Str := toString ((p : Nat) : Int)
theorem strN_len : ∀ p < 500, (strN p).length ≤ 3 := by decide +kernel
theorem logN : ∀ p < 500, (((p : Nat) : Int)).natAbs.log2 < 1920 := by decide +kernel
def xdO (o : Nat) : List (Str × V) := [("offset", .int (o : Nat))]
def spInitO (C : Addr) : Sp := fun vs H Q _ => ∃ (a : Addr) (o : Nat), vs = [.ref a, .int (o : Nat)] ∧ o < 500 ∧ H a = some (exo a C none) ∧ ∀ dx, H dx = none → dx ≠ a → Q .non (upd (upd H dx (exd dx (xdO o))) a (exo a C (some dx)))
theorem ok_DecodeError_init (T : Top K mg) : FnOk P w K mg base CX0 1 T.a_DecodeError_init T.fd_DecodeError_init ["self", "offset"] (spInitO T.c_DecodeError) := by
  refine T.F_DecodeError_init.ok sc_DecodeError_init (fun vs H Q E h => ?_) (fun cdv A outer s H vs Q E hr h => ?_)
  · obtain ⟨a, o, rfl, _⟩ := h
    rfl
  · obtain ⟨a, o, rfl, ho, ha, k⟩ := h
    have hu := hu_of hr
    refine ⟨_, (pss_cons (ps_expr (pe_binit ⟨T.bg_SeeError, T.br_SeeError, T.bv_SeeError⟩ (by rfl) T.g_SeeError (pa_cons (pv 0) (pa_cons (pe_joined (PJ.cons pe_str (PJ.cons (pe_fmt (pv 1)) PJ.nil))) pa_nil))))
      (pss_one (ps_ost (pv 0) (pv 1)))), ?_⟩
    have l1 := strN_len o ho
    refine ⟨_, rfl, codS, rfl, Nat.le_of_lt (sizeLine_of (by rw [PySem.Str.length_append, cod_len]; show 0 + _ ≤ _; omega)), ?_⟩
    rw [fstr_empty]
    refine ⟨_, rfl, .inr ⟨_, rfl, logN o ho, strN o, rfl, Nat.le_of_lt (sizeLine_of (by rw [PySem.Str.length_append, cod_len]; omega)), ?_⟩⟩
    refine ⟨a, T.c_DecodeError, _, rfl, by show 1 ≤ 1000; decide, T.ox_DecodeError, ha, ?_⟩
    refine ⟨_, rfl, _, rfl, a, T.c_DecodeError, rfl, T.ox_DecodeError, T.nf_DecodeError_offset, .inl ⟨ha, fun dx hdx hne => ?_⟩⟩
    exact k dx hdx hne
/-! ### the reader of a code -/
def rdFlds (l : Addr) (o : Int) : List (Str × V) := putF "offset" (.int o) (putF "codes" (.ref l) [])
theorem rd_codes (l : Addr) (o : Int) : (rdFlds l o).lookup ("codes" : Str) = some (.ref l) := rfl
theorem rd_offset (l : Addr) (o : Int) : (rdFlds l o).lookup ("offset" : Str) = some (.int o) := rfl
theorem rd_put (l : Addr) (o o' : Int) : putF "offset" (.int o') (rdFlds l o) = rdFlds l o' := rfl
/-- a reader of the items vs stands at p, before the item o -/
structure RA (R : Addr) (H : Hp) (p l : Addr) (vs : List V) (o : Nat) : Prop where
  hp : ∃ dx, H p = some (.ins R dx (rdFlds l (o : Nat)))
  hl : H l = some (.lst vs)
  hn : l ≠ p
theorem RA.mut {R : Addr} {H : Hp} {p l D : Addr} {vs : List V} {j : Nat} {ob : HO} (h : RA R H p l vs j) (n1 : p ≠ D) (n2 : l ≠ D) : RA R (upd H D ob) p l vs j := by
  obtain ⟨⟨d, a1⟩, a2, a3⟩ := h
  exact ⟨⟨d, by rw [upd_ne n1]; exact a1⟩, by rw [upd_ne n2]; exact a2, a3⟩
theorem RA.same {R : Addr} {H H' : Hp} {p l : Addr} {vs : List V} {j : Nat} (h : RA R H p l vs j) (s : Same H H') : RA R H' p l vs j := by
  obtain ⟨⟨d, a1⟩, a2, a3⟩ := h
  exact ⟨⟨d, s _ _ a1⟩, s _ _ a2, a3⟩
theorem RA.new {R : Addr} {H H1 : Hp} {p l D : Addr} {vs : List V} {j : Nat} (h : RA R H1 p l vs j) (b : But p H H1) (n : H1 D = none) : p ≠ D ∧ l ≠ D ∧ H D = none := by
  obtain ⟨⟨d, a1⟩, a2, a3⟩ := h
  have np : p ≠ D := fun e => by rw [e, n] at a1; cases a1
  refine ⟨np, (fun e => by rw [e, n] at a2; cases a2), ?_⟩
  cases z : H D with
  | none => rfl
  | some o =>
    have := b _ _ z np.symm
    rw [n] at this
    cases this
def spReaderInit (K : PySem.W.Frag) (R : Addr) : Sp := fun vs H Q _ => ∃ (p dx a : Addr) (ns : List V), vs = [.ref p, .ref a] ∧ H p = some (.ins R dx []) ∧ SqL K H a ns ∧ ∀ H' l, H l = none → But p H H' → RA R H' p l ns 0 → Q .non H'
theorem ok_Reader_init (T : Top K mg) : FnOk P w K mg base CX0 1 T.a_Reader_init T.fd_Reader_init ["self", "codes"] (spReaderInit K T.c_Reader) := by
  refine T.F_Reader_init.ok sc_Reader_init (fun vs H Q E h => ?_) (fun cdv A outer s H vs Q E hr h => ?_)
  · obtain ⟨p, dx, a, ns, rfl, _⟩ := h
    rfl
  · obtain ⟨p, dx, a, ns, rfl, hp, ha, k⟩ := h
    have hu := hu_of hr
    refine ⟨_, (pss_cons (ps_fld (pv 0) (pe_callTy call_list_of (by rfl) T.m_list (by decide +kernel) (pa_cons (pv 1) pa_nil)) rfl)
      (pss_one (ps_fld (pv 0) pe_int rfl))), ?_⟩
    refine ⟨_, rfl, a, _, rfl, .inl ha, fun l hl => ?_⟩
    have s1 : Same H (upd H l (.lst ns)) := same_new hl
    have e1 : (upd H l (.lst ns)) l = some (.lst ns) := upd_same
    generalize upd H l (.lst ns) = H1 at *
    have hlp : l ≠ p := fun e => by rw [e, hp] at hl; cases hl
    refine ⟨_, rfl, p, T.c_Reader, dx, [], rfl, s1 _ _ hp, T.cl_Reader, T.n_Reader_codes, (by show 0 < 1000; decide), ?_⟩
    refine ⟨_, rfl, p, T.c_Reader, dx, _, rfl, upd_same, T.cl_Reader, T.n_Reader_offset, (by show 1 < 1000; decide), ?_⟩
    refine k _ l hl (fun q o h n => by rw [upd_ne n, upd_ne n]; exact s1 _ _ h) ⟨⟨dx, upd_same⟩, ?_, hlp⟩
    rw [upd_ne hlp, upd_ne hlp]
    exact e1
/-- the list that is read -/
structure Items (vs : List V) : Prop where
  n : vs.length ≤ 400
  v : ∀ v ∈ vs, itemV v = true
/-- what comes of a reading of the reader at p: what v tells of it is wanted, or the error with its offset -/
def RdOut {α : Type} (cE R : Addr) (H : Hp) (p l : Addr) (vs : List V) (x : Rd α) (Q : α → Hp → Prop) (E : XK) : Prop :=
  (∀ a o, x = .ok (a, o) → ∀ H', But p H H' → RA R H' p l vs o → Q a H') ∧ (∀ e, x = .error e → ∀ H' dd, But p H H' → H' dd = some (.xd (xdO e)) → E (.ref cE) (some dd) H')
theorem rdN_at {vs : List V} {o : Nat} {v : V} {lo hi : Int} (hv : vs[o]? = some v) : rdN vs lo hi o = if isNumV v lo hi = true then .ok (intOf v, o + 1) else .error o := by
  unfold rdN numAt
  rw [hv]
  cases v with
  | int n =>
    show (match (if isNum n lo hi = true then some n else none : Option Int) with | none => (.error o : Rd Int) | some n => .ok (n, o + 1)) = if isNum n lo hi = true then _ else _
    by_cases h : isNum n lo hi = true
    · rw [if_pos h, if_pos h]
      rfl
    · rw [if_neg h, if_neg h]
  | _ => rfl
def spRdN (R cE : Addr) : Sp := fun zs H Q E => ∃ (p l : Addr) (vs : List V) (o : Nat) (lo hi : Int), zs = [.ref p, .int lo, .int hi] ∧ RA R H p l vs o ∧ Items vs ∧ o ≤ vs.length ∧ RdOut cE R H p l vs (rdN vs lo hi o) (fun n H' => Q (.int n) H') E
theorem okx_Reader_read_number (T : Top K mg) : FnOk P w K mg base (L2.CX P w) 3 T.a_Reader_read_number T.fd_Reader_read_number ["self", "least", "greatest"] (spRdN T.c_Reader T.c_DecodeError) := by
  refine T.F_Reader_read_number.okX sc_Reader_read_number (fun vs H Q E h => ?_) (fun cdv A outer s H vs Q E hr h => ?_)
  · obtain ⟨p, l, vs, o, lo, hi, rfl, _⟩ := h
    rfl
  · obtain ⟨p, l, vs, o, lo, hi, rfl, ⟨⟨dx, hp⟩, hl, hlp⟩, it, ho, k1, k2⟩ := h
    have hu := hu_of hr
    have hn := it.n
    refine ⟨_, (pss_cons (ps_if (PW.pt (pw_or (pt_cmpR op_eq (pe_fld (pv 0) rfl) (pe_callB call_len_seq (by rfl) T.m_len (by decide +kernel) (pa_cons (pe_fld (pv 0) rfl) pa_nil)) (nomark _)) (pw_or1 (pt_not (pt_val (pe_call (okv_is_number T) (hr.mono (by decide)) (by rfl) T.g_is_number T.F_is_number.kp (b_is_number T) .nil pass0 (pa_cons (pe_ix ix_list (pe_fld (pv 0) rfl) (pe_fld (pv 0) rfl) (fun _ _ => rfl)) (pa_cons (pv 1) (pa_cons (pv 2) pa_nil))))))))) (pss_one (ps_errO T.ox_DecodeError T.oi_DecodeError T.ot_DecodeError (ok_DecodeError_init T) (hr.mono (by decide)) (b_DecodeError_init T) .nil pass0 T.g_DecodeError (by rfl) (pa_cons (pe_fld (pv 0) rfl) pa_nil) rfl rfl rfl rfl rfl)) pss_nil)
      (pss_cons (ps_nox (ps_set (i := 3) sc_Reader_read_number.nd rfl (.inl rfl) (pe_ix ix_list (pe_fld (pv 0) rfl) (pe_fld (pv 0) rfl) (fun _ _ => rfl))))
      (pss_cons (ps_nox (ps_fldaug (pv 0) pe_int iop_add))
      (pss_one (ps_nox (ps_ret (pv 3))))))), ?_⟩
    have raise : rdN vs lo hi o = .error o → ∀ (a' : Addr), H a' = none → ∀ dx', upd H a' (exo a' T.c_DecodeError none) dx' = none → dx' ≠ a' → E (.ref T.c_DecodeError) (some dx') (upd (del (upd (upd (upd H a' (exo a' T.c_DecodeError none)) dx' (exd dx' (xdO o))) a' (exo a' T.c_DecodeError (some dx'))) a') dx' (.xd (xdO o))) := fun e a' ha' dx' hdx hne => by
      rw [upd_ne hne] at hdx
      exact k2 o e _ dx' (xd_gen ha' hdx fun b n1 n2 => by rw [upd_ne n1, upd_ne n2, upd_ne n1]).but upd_same
    refine ⟨_, rfl, p, T.c_Reader, dx, _, _, rfl, hp, T.cl_Reader, T.n_Reader_offset, rd_offset _ _, ?_⟩
    refine ⟨_, rfl, p, T.c_Reader, dx, _, _, rfl, hp, T.cl_Reader, T.n_Reader_codes, rd_codes _ _, l, _, rfl, .inl (SqL.of hl), ?_⟩
    refine rEq_to (b := decide (o = vs.length)) rfl (by rw [int_dec]; exact decide_eq_decide.mpr (by omega)) ?_
    refine ⟨_, rfl, ?_⟩
    by_cases he : o = vs.length
    · rw [decide_eq_true he]
      have er : rdN vs lo hi o = .error o := by
        unfold rdN numAt
        rw [List.getElem?_eq_none (by omega)]
      refine iteT ?_
      refine iteT ?_
      refine ⟨_, rfl, p, T.c_Reader, dx, _, _, rfl, hp, T.cl_Reader, T.n_Reader_offset, rd_offset _ _, by show 1 ≤ 1000; decide, fun a' ha' => ⟨a', o, rfl, by omega, upd_same, fun dx' hdx hne => ⟨rfl, dx', _, upd_same, by rw [upd_ne hne, upd_same], by rw [upd_ne hne] at hdx; exact hdx, ?_⟩⟩⟩
      exact raise er a' ha' dx' hdx hne
    · rw [decide_eq_false he]
      refine iteF ?_
      have hv : vs[o]? = some vs[o] := List.getElem?_eq_getElem (by omega)
      have hiv := it.v _ (List.mem_of_getElem? hv)
      generalize vs[o] = v at hv hiv
      have hat : atI vs ((o : Nat) : Int) = some v := atI_nat hv
      have e0 := rdN_at (lo := lo) (hi := hi) hv
      refine ⟨_, rfl, p, T.c_Reader, dx, _, _, rfl, hp, T.cl_Reader, T.n_Reader_codes, rd_codes _ _, ?_⟩
      refine ⟨_, rfl, p, T.c_Reader, dx, _, _, rfl, hp, T.cl_Reader, T.n_Reader_offset, rd_offset _ _, l, _, ((o : Nat) : Int), v, rfl, rfl, SqL.of hl, hat, ?_⟩
      refine ⟨_, rfl, _, rfl, v, lo, hi, rfl, hiv, ?_⟩
      cases hin : isNumV v lo hi with
      | false =>
        rw [hin] at e0
        refine ⟨_, rfl, iteT ?_⟩
        refine ⟨_, rfl, p, T.c_Reader, dx, _, _, rfl, hp, T.cl_Reader, T.n_Reader_offset, rd_offset _ _, by show 1 ≤ 1000; decide, fun a' ha' => ⟨a', o, rfl, by omega, upd_same, fun dx' hdx hne => ⟨rfl, dx', _, upd_same, by rw [upd_ne hne, upd_same], by rw [upd_ne hne] at hdx; exact hdx, ?_⟩⟩⟩
        exact raise e0 a' ha' dx' hdx hne
      | true =>
        rw [hin] at e0
        cases v with
        | int n =>
          refine ⟨_, rfl, iteF ?_⟩
          refine ⟨_, rfl, p, T.c_Reader, dx, _, _, rfl, hp, T.cl_Reader, T.n_Reader_codes, rd_codes _ _, ?_⟩
          refine ⟨_, rfl, p, T.c_Reader, dx, _, _, rfl, hp, T.cl_Reader, T.n_Reader_offset, rd_offset _ _, l, _, ((o : Nat) : Int), .int n, rfl, rfl, SqL.of hl, hat, ?_⟩
          refine ⟨_, rfl, p, T.c_Reader, dx, _, _, rfl, hp, T.cl_Reader, T.n_Reader_offset, rd_offset _ _, _, _, rfl, rfl, dx, _, hp, by show 2 < 1000; decide, ?_⟩
          rw [rd_put]
          refine ⟨_, rfl, ?_⟩
          refine k1 n (o + 1) e0 _ (fun q ob h n => by rw [upd_ne n]; exact h) ⟨⟨dx, ?_⟩, ?_, hlp⟩
          · rw [upd_same, show (((o + 1 : Nat)) : Int) = (o : Int) + 1 by omega]
          · rw [upd_ne hlp]
            exact hl
        | _ => cases hin
end
section
local macro_rules | `(tactic| walk_at "sl") => `(tactic| first | assumption | exact SqL.of upd_same | exact SqL.of (by assumption) | ((with_reducible apply sql_upd); (walk_at "sl"); (first | assumption | exact Ne.symm (by assumption))))
local macro_rules | `(tactic| walk_at "st") => `(tactic| first | assumption | exact SqT.of upd_same | exact SqT.of (by assumption))
local macro_rules | `(tactic| walk_at "sc") => `(tactic| first | rfl | assumption | (show (0 : Int) < _; first | assumption | decide | omega) | exact Or.inl ⟨by omega, by omega⟩ | exact Or.inr ⟨by omega, by omega⟩ | exact ⟨by decide, by decide⟩ | exact ⟨by decide, by decide, by decide⟩)
local macro_rules | `(tactic| walk_at "g1") => `(tactic| first
  | refine ⟨(_ : V), rfl, ?_⟩
  | refine ⟨(_ : Bool), rfl, ?_⟩
  | refine ⟨(_ : Int), (_ : Int), rfl, rfl, ?_⟩
  | refine ⟨(_ : Int), rfl, ?_⟩
  | refine ⟨(_ : Str), rfl, ?_⟩
  | refine ⟨(_ : Addr), (_ : List V), rfl, Or.inl (by walk_at "sl"), ?_⟩
  | refine ⟨(_ : Addr), (_ : List V), rfl, Or.inr (by walk_at "st"), ?_⟩
  | refine ⟨(_ : Addr), (_ : List V), (_ : Int), (_ : V), rfl, rfl, (by walk_at "sl"), (by first | rfl | assumption), ?_⟩
  | refine ⟨(_ : Addr), (_ : List V), (_ : Int), (_ : V), rfl, rfl, (by walk_at "st"), (by first | rfl | assumption), ?_⟩
  | refine ⟨(_ : Addr), (_ : List V), (_ : Int), (_ : Nat), rfl, rfl, upd_same, rfl, ?_⟩
  | refine ⟨(_ : Addr), (_ : List V), (_ : Int), (_ : Nat), rfl, rfl, (by assumption), rfl, ?_⟩
  | refine ⟨(_ : Addr), (_ : Addr), (_ : Addr), (_ : List (Str × V)), (_ : V), rfl, (by assumption), (by assumption), (by assumption), (by first | assumption | rfl), ?_⟩
  | refine Or.inl ⟨(_ : Int), rfl, ?_⟩
  | refine And.intro (by walk_at "sc") ?_
  | refine iteT ?_
  | refine iteF ?_)
/-! ### words and books, or the error -/
theorem one_join : ∀ l : List Nat, TL.joinL [] (l.map fun c => [c]) = l
  | [] => rfl
  | [_] => rfl
  | a :: b :: r => by
    have ih := one_join (b :: r)
    show [a] ++ ([] ++ TL.joinL [] ((b :: r).map fun c => [c])) = _
    rw [ih]
    rfl
theorem join_ones (t : Str) : Txt.join Str.empty (t.cps.toList.map oneS) = t := by
  rw [TL.join_eq]
  apply TL.ext_tl
  rw [TL.tl_join, List.map_map]
  exact one_join t.cps.toList
theorem ones_sum (l : List Nat) : ((l.map oneS).map (·.length)).sum = l.length := by
  induction l with
  | nil => rfl
  | cons a r ih =>
    rw [List.map_cons, List.map_cons, List.sum_cons, ih, List.length_cons]
    show 1 + _ = _
    omega
theorem letter_get {n : Int} (h1 : 1 ≤ n) (h2 : n ≤ 26) : atI letters.cps.toList (n - 1) = some (letterAt n) := by
  have q : ∀ i < 26, atI letters.cps.toList ((i : Nat) : Int) = some ((letters.cps.toList[i]?).getD 0) := by decide +kernel
  have := q (n - 1).toNat (by omega)
  rw [show (((n - 1).toNat : Nat) : Int) = n - 1 by omega] at this
  exact this
def spRdWord (R cE : Addr) : Sp := fun zs H Q E => ∃ (p l : Addr) (vs : List V) (o : Nat), zs = [.ref p] ∧ RA R H p l vs o ∧ Items vs ∧ o ≤ vs.length ∧ RdOut cE R H p l vs (rdWord vs o) (fun t H' => Q (.str t) H') E
theorem okx_Reader_read_word (T : Top K mg) : FnOk P w K mg base (L2.CX P w) 4 T.a_Reader_read_word T.fd_Reader_read_word ["self"] (spRdWord T.c_Reader T.c_DecodeError) := by
  refine T.F_Reader_read_word.okX sc_Reader_read_word (fun vs H Q E h => ?_) (fun cdv A outer s H vs Q E hr h => ?_)
  · obtain ⟨p, l, vs, o, rfl, _⟩ := h
    rfl
  · obtain ⟨p, l, vs, o, rfl, hR, it, ho, k1, k2⟩ := h
    have hu := hu_of hr
    have hn := it.n
    refine ⟨_, (pss_cons (ps_set (i := 1) sc_Reader_read_word.nd rfl (.inl rfl) (pe_meth (pv 0) T.cl_Reader T.M_Reader_read_number (okx_Reader_read_number T) (hr.mono (by decide)) (b_Reader_read_number T) .nil (passX (fun _ _ _ h => h) rfl rfl rfl rfl) (pa_cons pe_int (pa_cons (pe_glob rfl T.g_LONGEST_WORD T.r_LONGEST_WORD) pa_nil))))
      (pss_cons (ps_nox (ps_set (i := 2) sc_Reader_read_word.nd rfl (.inl rfl) (pe_lst pa_nil)))
      (pss_cons (ps_for (passes_of rfl) rfl (pi_range1 (by rfl) T.m_range (pa_cons (pv 1) pa_nil)) (pg_name (i := 3) sc_Reader_read_word.nd rfl (.inl rfl))
        (pss_one (ps_expr (pe_bm PySem.F.plainAttrs_list PySem.F.slot_list_append PySem.F.type_list_append mt_append (pv 2) (pa_cons (pe_ix ix_str (pe_glob rfl T.g_LETTERS T.r_LETTERS) (pe_op op_sub (pe_meth (pv 0) T.cl_Reader T.M_Reader_read_number (okx_Reader_read_number T) (hr.mono (by decide)) (b_Reader_read_number T) .nil (passX (fun _ _ _ h => h) rfl rfl rfl rfl) (pa_cons pe_int (pa_cons (pe_callB call_len (by rfl) T.m_len (by decide +kernel) (pa_cons (pe_glob rfl T.g_LETTERS T.r_LETTERS) pa_nil)) pa_nil))) pe_int) (fun _ _ => rfl)) pa_nil)))))
      (pss_one (ps_nox (ps_ret (pe_join pe_str (pv 2)))))))), ?_⟩
    obtain ⟨dx, hp⟩ := hR.hp
    refine ⟨_, rfl, p, dx, _, rfl, hp, rfl, p, l, vs, o, 1, 8, rfl, hR, it, ho, fun n o1 e1 H1 b1 R1 => ?_, fun e he H' dd b hd => k2 e (bnd_er he) H' dd b hd⟩
    obtain ⟨_, _, n1, n2⟩ := rdN_ok e1
    have ho1 := rdN_lt e1
    refine ⟨Nat.zero_le _, fun D hD => ?_⟩
    obtain ⟨nDp, nDl, hDH⟩ := R1.new b1 hD
    refine ⟨_, rfl, _, rfl, by omega, by omega, for_range (lo := 0) (n := n.toNat) (fun i σ H2 => ∃ (y3 : Option V) (acc : List Nat) (oi : Nat), σ = [some (.ref p), some (.int n), some (.ref D), y3] ∧ But p H H2 ∧ RA T.c_Reader H2 p l vs oi ∧ oi ≤ vs.length ∧ H2 D = some (.lst ((acc.map oneS).map V.str)) ∧ acc.length = i ∧ rdLet vs n.toNat [] o1 = rdLet vs (n.toNat - i) acc oi) ⟨_, [], o1, rfl, but_mut b1 hDH, R1.mut nDp nDl, ho1, upd_same, rfl, rfl⟩ (fun i σ H2 hi hP => ?_) (fun σ H2 hP => ?_)⟩
    · obtain ⟨y3, acc, oi, rfl, b2, R2, hoi, e2, hl, er⟩ := hP
      rw [show n.toNat - i = (n.toNat - (i + 1)) + 1 by omega] at er
      have er : rdLet vs n.toNat [] o1 = bnd (rdN vs 1 26 oi) fun n' o => rdLet vs (n.toNat - (i + 1)) (acc ++ [letterAt n']) o := er
      obtain ⟨dx2, hp2⟩ := R2.hp
      refine ⟨_, rfl, .inl ⟨rfl, _, SqL.of e2⟩, ?_⟩
      refine ⟨_, rfl, p, dx2, _, rfl, hp2, rfl, _, _, rfl, ⟨by show 26 ≤ sizeLine; decide, rfl⟩, p, l, vs, oi, 1, 26, rfl, R2, it, hoi, fun x o2 ex H3 b3 R3 => ?_, fun e he H' dd b hd => k2 e ((bnd_at e1).trans (bnd_er (er.trans (bnd_er he)))) H' dd (b2.trans b) hd⟩
      obtain ⟨_, _, g1, g2⟩ := rdN_ok ex
      refine ⟨_, _, rfl, rfl, letters, x - 1, letterAt x, rfl, rfl, by show 26 ≤ sizeLine; decide, letter_get g1 g2, ?_⟩
      have e3 := b3 _ _ e2 nDp.symm
      refine ⟨D, _, _, rfl, rfl, e3, by have := sizeLine_of (show (100 : Nat) ≤ 1000000 by omega); rw [List.length_map, List.length_map]; omega, ?_⟩
      refine ⟨_, acc ++ [letterAt x], o2, rfl, but_mut (b2.trans b3) hDH, R3.mut nDp nDl, rdN_lt ex, ?_, by rw [List.length_append, hl]; rfl, er.trans (bnd_at ex)⟩
      rw [upd_same, List.map_append, List.map_append]
      rfl
    · obtain ⟨y3, acc, oi, rfl, b2, R2, hoi, e2, hl, er⟩ := hP
      rw [Nat.sub_self] at er
      refine ⟨⟨_, rfl⟩, _, rfl, Str.empty, D, _, rfl, rfl, .inl (SqL.of e2), ?_, ?_⟩
      · rw [ones_sum]
        show _ + _ * 0 ≤ _
        omega
      · have ej : Txt.join Str.empty (acc.map oneS) = strOf acc := join_ones (strOf acc)
        rw [ej]
        exact k1 _ oi ((bnd_at e1).trans (bnd_at er)) H2 b2 R2
def spRdBook (R cE : Addr) : Sp := fun zs H Q E => ∃ (p l : Addr) (vs : List V) (o : Nat) (last : Int), zs = [.ref p, .int last] ∧ RA R H p l vs o ∧ Items vs ∧ o ≤ vs.length ∧ RdOut cE R H p l vs (rdBk vs last o) (fun b H' => Q (.int b) H') E
theorem okx_Reader_read_book (T : Top K mg) : FnOk P w K mg base (L2.CX P w) 4 T.a_Reader_read_book T.fd_Reader_read_book ["self", "last"] (spRdBook T.c_Reader T.c_DecodeError) := by
  refine T.F_Reader_read_book.okX sc_Reader_read_book (fun vs H Q E h => ?_) (fun cdv A outer s H vs Q E hr h => ?_)
  · obtain ⟨p, l, vs, o, last, rfl, _⟩ := h
    rfl
  · obtain ⟨p, l, vs, o, last, rfl, hR, it, ho, k1, k2⟩ := h
    have hu := hu_of hr
    have hn := it.n
    refine ⟨_, (pss_cons (ps_nox (ps_set (i := 2) sc_Reader_read_book.nd rfl (.inl rfl) (pe_fld (pv 0) rfl)))
      (pss_cons (ps_set (i := 3) sc_Reader_read_book.nd rfl (.inl rfl) (pe_meth (pv 0) T.cl_Reader T.M_Reader_read_number (okx_Reader_read_number T) (hr.mono (by decide)) (b_Reader_read_number T) .nil (passX (fun _ _ _ h => h) rfl rfl rfl rfl) (pa_cons pe_int (pa_cons pe_int pa_nil))))
      (pss_cons (ps_set (i := 4) sc_Reader_read_book.nd rfl (.inl rfl) (pe_op op_add (pe_op op_mul pe_int (pv 3)) (pe_meth (pv 0) T.cl_Reader T.M_Reader_read_number (okx_Reader_read_number T) (hr.mono (by decide)) (b_Reader_read_number T) .nil (passX (fun _ _ _ h => h) rfl rfl rfl rfl) (pa_cons pe_int (pa_cons pe_int pa_nil)))))
      (pss_cons (ps_if (pt_not (pt_val (pe_call (ok_is_number T) (hr.mono (by decide)) (by rfl) T.g_is_number T.F_is_number.kp (b_is_number T) .nil pass0 (pa_cons (pv 4) (pa_cons (pe_op op_add (pv 1) pe_int) (pa_cons (pe_glob rfl T.g_LAST_BOOK T.r_LAST_BOOK) pa_nil)))))) (pss_one (ps_errO T.ox_DecodeError T.oi_DecodeError T.ot_DecodeError (ok_DecodeError_init T) (hr.mono (by decide)) (b_DecodeError_init T) .nil pass0 T.g_DecodeError (by rfl) (pa_cons (pv 2) pa_nil) rfl rfl rfl rfl rfl)) pss_nil)
      (pss_one (ps_nox (ps_ret (pv 4)))))))), ?_⟩
    obtain ⟨dx, hp⟩ := hR.hp
    refine ⟨_, rfl, p, T.c_Reader, dx, _, _, rfl, hp, T.cl_Reader, T.n_Reader_offset, rd_offset _ _, ?_⟩
    refine ⟨_, rfl, p, dx, _, rfl, hp, rfl, p, l, vs, o, 0, 3, rfl, hR, it, ho, fun q o1 e1 H1 b1 R1 => ?_, fun e he H' dd b hd => k2 e (bnd_er he) H' dd b hd⟩
    obtain ⟨_, _, q1, q2⟩ := rdN_ok e1
    obtain ⟨dx1, hp1⟩ := R1.hp
    refine ⟨_, rfl, _, _, rfl, rfl, .inl ⟨by decide, by decide⟩, ?_⟩
    refine ⟨_, rfl, p, dx1, _, rfl, hp1, rfl, p, l, vs, o1, 0, 255, rfl, R1, it, rdN_lt e1, fun r o2 e2 H2 b2 R2 => ?_, fun e he H' dd b hd => k2 e ((bnd_at e1).trans (bnd_er he)) H' dd (b1.trans b) hd⟩
    have e12 : rdBk vs last o = if isNum (256 * q + r) (last + 1) 999 = true then .ok (256 * q + r, o2) else .error o := (bnd_at e1).trans (bnd_at e2)
    refine ⟨_, _, rfl, rfl, ?_⟩
    refine ⟨_, rfl, _, rfl, _, _, rfl, rfl, 256 * q + r, last + 1, 999, rfl, ?_⟩
    cases hin : isNum (256 * q + r) (last + 1) 999 with
    | true =>
      rw [hin] at e12
      exact ⟨_, rfl, iteF ⟨_, rfl, k1 _ o2 e12 H2 (b1.trans b2) R2⟩⟩
    | false =>
      rw [hin] at e12
      refine ⟨_, rfl, iteT ?_⟩
      refine ⟨_, rfl, by show 1 ≤ 1000; decide, fun a' ha' => ⟨a', o, rfl, by omega, upd_same, fun dx' hdx hne => ⟨rfl, dx', _, upd_same, by rw [upd_ne hne, upd_same], by rw [upd_ne hne] at hdx; exact hdx, ?_⟩⟩⟩
      rw [upd_ne hne] at hdx
      exact k2 o e12 _ dx' ((b1.trans b2).same (xd_gen ha' hdx fun b n1 n2 => by rw [upd_ne n1, upd_ne n2, upd_ne n1])) upd_same
end
section
local macro_rules | `(tactic| walk_at "sl") => `(tactic| first | assumption | exact SqL.of upd_same | exact SqL.of (by assumption) | ((with_reducible apply sql_upd); (walk_at "sl"); (first | assumption | exact Ne.symm (by assumption))))
local macro_rules | `(tactic| walk_at "st") => `(tactic| first | assumption | exact SqT.of upd_same | exact SqT.of (by assumption))
local macro_rules | `(tactic| walk_at "sc") => `(tactic| first | rfl | assumption | (show (0 : Int) < _; first | assumption | decide | omega) | exact Or.inl ⟨by omega, by omega⟩ | exact Or.inr ⟨by omega, by omega⟩ | exact ⟨by decide, by decide⟩ | exact ⟨by decide, by decide, by decide⟩)
local macro_rules | `(tactic| walk_at "g1") => `(tactic| first
  | refine ⟨(_ : V), rfl, ?_⟩
  | refine ⟨(_ : Bool), rfl, ?_⟩
  | refine ⟨(_ : Int), (_ : Int), rfl, rfl, ?_⟩
  | refine ⟨(_ : Int), rfl, ?_⟩
  | refine ⟨(_ : Str), rfl, ?_⟩
  | refine ⟨(_ : Addr), (_ : List V), rfl, Or.inl (by walk_at "sl"), ?_⟩
  | refine ⟨(_ : Addr), (_ : List V), rfl, Or.inr (by walk_at "st"), ?_⟩
  | refine ⟨(_ : Addr), (_ : List V), (_ : Int), (_ : V), rfl, rfl, (by walk_at "sl"), (by first | rfl | assumption), ?_⟩
  | refine ⟨(_ : Addr), (_ : List V), (_ : Int), (_ : V), rfl, rfl, (by walk_at "st"), (by first | rfl | assumption), ?_⟩
  | refine ⟨(_ : Addr), (_ : List V), (_ : Int), (_ : Nat), rfl, rfl, upd_same, rfl, ?_⟩
  | refine ⟨(_ : Addr), (_ : List V), (_ : Int), (_ : Nat), rfl, rfl, (by assumption), rfl, ?_⟩
  | refine ⟨(_ : Addr), (_ : Addr), (_ : Addr), (_ : List (Str × V)), (_ : V), rfl, (by assumption), (by assumption), (by assumption), (by first | assumption | rfl), ?_⟩
  | refine Or.inl ⟨(_ : Int), rfl, ?_⟩
  | refine And.intro (by walk_at "sc") ?_
  | refine iteT ?_
  | refine iteF ?_)
/-! ### the parts of a card, or the error -/
/-- the four parts of a card, a tuple -/
def PartsAt (K : PySem.W.Frag) (H : Hp) (v : V) (c : CD) : Prop := ∃ t b a, v = .ref t ∧ SqT K H t [.str c.heading, .ref b, .str c.see, .ref a] ∧ SqT K H b (c.books.map V.int) ∧ SqT K H a (c.also.map V.str)
theorem lastOf_snoc (l : List Int) (z : Int) : lastOf (l ++ [z]) = z := by
  unfold lastOf
  rw [List.getLast?_concat]
  rfl
def spRdParts (K : PySem.W.Frag) (R cE : Addr) : Sp := fun zs H Q E => ∃ (p l : Addr) (vs : List V) (o : Nat), zs = [.ref p] ∧ RA R H p l vs o ∧ Items vs ∧ o ≤ vs.length ∧ RdOut cE R H p l vs (rdParts vs o) (fun c H' => ∀ v, PartsAt K H' v c → Q v H') E
theorem okx_Reader_read_parts (T : Top K mg) : FnOk P w K mg base (L2.CX P w) 5 T.a_Reader_read_parts T.fd_Reader_read_parts ["self"] (spRdParts K T.c_Reader T.c_DecodeError) := by
  refine T.F_Reader_read_parts.okX sc_Reader_read_parts (fun vs H Q E h => ?_) (fun cdv A outer s H vs Q E hr h => ?_)
  · obtain ⟨p, l, vs, o, rfl, _⟩ := h
    rfl
  · obtain ⟨p, l, vs, o, rfl, hR, it, ho, k1, k2⟩ := h
    have hu := hu_of hr
    have hn := it.n
    refine ⟨_, (pss_cons (ps_set (i := 1) sc_Reader_read_parts.nd rfl (.inl rfl) (pe_meth0 (pv 0) T.cl_Reader T.M_Reader_read_word (okx_Reader_read_word T) (hr.mono (by decide)) (b_Reader_read_word T) .nil (passX (fun _ _ _ h => h) rfl rfl rfl rfl)))
      (pss_cons (ps_set (i := 2) sc_Reader_read_parts.nd rfl (.inl rfl) (pe_meth (pv 0) T.cl_Reader T.M_Reader_read_number (okx_Reader_read_number T) (hr.mono (by decide)) (b_Reader_read_number T) .nil (passX (fun _ _ _ h => h) rfl rfl rfl rfl) (pa_cons pe_int (pa_cons (pe_op op_add (pe_glob rfl T.g_MOST_BOOKS T.r_MOST_BOOKS) pe_int) pa_nil))))
      (pss_cons (ps_if (pt_cmpR op_eq (pv 2) pe_int (nomark _)) (pss_one (ps_ret (pe_tup (pa_cons (pv 1) (pa_cons (pe_tup pa_nil) (pa_cons (pe_meth0 (pv 0) T.cl_Reader T.M_Reader_read_word (okx_Reader_read_word T) (hr.mono (by decide)) (b_Reader_read_word T) .nil (passX (fun _ _ _ h => h) rfl rfl rfl rfl)) (pa_cons (pe_tup pa_nil) pa_nil))))))) pss_nil)
      (pss_cons (ps_nox (ps_set (i := 3) sc_Reader_read_parts.nd rfl (.inl rfl) (pe_lst pa_nil)))
      (pss_cons (ps_for (passes_of rfl) rfl (pi_range1 (by rfl) T.m_range (pa_cons (pe_op op_sub (pv 2) pe_int) pa_nil)) (pg_name (i := 4) sc_Reader_read_parts.nd rfl (.inl rfl))
        (pss_one (ps_expr (pe_bm PySem.F.plainAttrs_list PySem.F.slot_list_append PySem.F.type_list_append mt_append (pv 3) (pa_cons (pe_meth (pv 0) T.cl_Reader T.M_Reader_read_book (okx_Reader_read_book T) (hr.mono (by decide)) (b_Reader_read_book T) .nil (passX (fun _ _ _ h => h) rfl rfl rfl rfl) (pa_cons (pe_ifExp (pt_truth (pv 3) (by intro _; rfl)) (pe_ix ix_list (pv 3) (pe_un un_neg pe_int) (fun _ _ => rfl)) pe_int) pa_nil)) pa_nil)))))
      (pss_cons (ps_nox (ps_set (i := 5) sc_Reader_read_parts.nd rfl (.inl rfl) (pe_lst pa_nil)))
      (pss_cons (ps_for (passes_of rfl) rfl (pi_range1 (by rfl) T.m_range (pa_cons (pe_meth (pv 0) T.cl_Reader T.M_Reader_read_number (okx_Reader_read_number T) (hr.mono (by decide)) (b_Reader_read_number T) .nil (passX (fun _ _ _ h => h) rfl rfl rfl rfl) (pa_cons pe_int (pa_cons (pe_glob rfl T.g_MOST_ALSO T.r_MOST_ALSO) pa_nil))) pa_nil)) (pg_name (i := 4) sc_Reader_read_parts.nd rfl (.inl rfl))
        (pss_one (ps_expr (pe_bm PySem.F.plainAttrs_list PySem.F.slot_list_append PySem.F.type_list_append mt_append (pv 5) (pa_cons (pe_meth0 (pv 0) T.cl_Reader T.M_Reader_read_word (okx_Reader_read_word T) (hr.mono (by decide)) (b_Reader_read_word T) .nil (passX (fun _ _ _ h => h) rfl rfl rfl rfl)) pa_nil)))))
      (pss_one (ps_nox (ps_ret (pe_tup (pa_cons (pv 1) (pa_cons (pe_callTy call_tuple_of (by rfl) T.m_tuple (by decide +kernel) (pa_cons (pv 3) pa_nil)) (pa_cons pe_str (pa_cons (pe_callTy call_tuple_of (by rfl) T.m_tuple (by decide +kernel) (pa_cons (pv 5) pa_nil)) pa_nil))))))))))))))), ?_⟩
    obtain ⟨dx, hp⟩ := hR.hp
    refine ⟨_, rfl, p, dx, _, rfl, hp, rfl, p, l, vs, o, rfl, hR, it, ho, fun t o1 e1 H1 b1 R1 => ?_, fun e he H' dd b hd => k2 e (bnd_er he) H' dd b hd⟩
    obtain ⟨dx1, hp1⟩ := R1.hp
    have ho1 := (within_word _ _ e1).2
    refine ⟨_, rfl, p, dx1, _, rfl, hp1, rfl, _, _, rfl, rfl, p, l, vs, o1, 0, 7, rfl, R1, it, ho1, fun m o2 e2 H2 b2 R2 => ?_, fun e he H' dd b hd => k2 e ((bnd_at e1).trans (bnd_er he)) H' dd (b1.trans b) hd⟩
    obtain ⟨_, _, m1, m2⟩ := rdN_ok e2
    have ho2 := rdN_lt e2
    have b02 := b1.trans b2
    have e12 := (bnd_at (f := fun h o => bnd (rdN vs 0 7 o) fun m o =>
      if m = 0 then bnd (rdWord vs o) fun s o => .ok ((⟨h, [], s, []⟩ : CD), o)
      else bnd (rdBooks vs (m - 1).toNat [] o) fun bs o => bnd (rdN vs 0 4 o) fun a o => bnd (rdAlso vs a.toNat [] o) fun ws o => .ok (⟨h, bs, "", ws⟩, o)) e1).trans (bnd_at e2)
    have e12 : rdParts vs o = if m = 0 then bnd (rdWord vs o2) fun s o => .ok ((⟨t, [], s, []⟩ : CD), o)
      else bnd (rdBooks vs (m - 1).toNat [] o2) fun bs o => bnd (rdN vs 0 4 o) fun a o => bnd (rdAlso vs a.toNat [] o) fun ws o => .ok (⟨t, bs, "", ws⟩, o) := e12
    refine ⟨_, rfl, tC_to (rEq_to (b := decide (m = 0)) rfl (by rw [int_dec]) ?_)⟩
    obtain ⟨dx2, hp2⟩ := R2.hp
    refine ⟨_, rfl, ?_⟩
    by_cases h0 : m = 0
    · rw [decide_eq_true h0]
      rw [if_pos h0] at e12
      refine iteT ?_
      refine ⟨_, rfl, Nat.zero_le _, fun tb htb => ?_⟩
      have s3 : Same H2 (upd H2 tb (.tup [])) := same_new htb
      have zb : SqT K (upd H2 tb (.tup [])) tb (([] : List Int).map V.int) := SqT.of upd_same
      have ntb : tb ≠ p := fun e => by rw [e, hp2] at htb; cases htb
      have R2' := R2.same s3
      have b3 : But p H (upd H2 tb (.tup [])) := b02.same s3
      have hp3 := s3 _ _ hp2
      generalize upd H2 tb (.tup []) = H3 at *
      refine ⟨_, rfl, p, dx2, _, rfl, hp3, rfl, p, l, vs, o2, rfl, R2', it, ho2, fun s' o3 e3 H4 b4 R4 => ?_, fun e he H' dd b hd => k2 e (e12.trans (bnd_er he)) H' dd (b3.trans b) hd⟩
      have zb4 := b4.seqT ntb zb
      refine ⟨Nat.zero_le _, fun ta hta => ?_⟩
      have s5 : Same H4 (upd H4 ta (.tup [])) := same_new hta
      have za : SqT K (upd H4 ta (.tup [])) ta (([] : List Str).map V.str) := SqT.of upd_same
      have zb5 := s5.seqT zb4
      have b5 : But p H (upd H4 ta (.tup [])) := (b3.trans b4).same s5
      have R5 := R4.same s5
      generalize upd H4 ta (.tup []) = H5 at *
      refine ⟨by show 4 ≤ sizeLine; decide, fun tt ht => ?_⟩
      have s6 := same_new (o := .tup [.str t, .ref tb, .str s', .ref ta]) ht
      exact k1 ⟨t, [], s', []⟩ o3 (e12.trans (bnd_at e3)) _ (b5.same s6) (R5.same s6) _ ⟨tt, tb, ta, rfl, SqT.of upd_same, s6.seqT zb5, s6.seqT za⟩
    · rw [decide_eq_false h0]
      rw [if_neg h0] at e12
      refine iteF ?_
      refine ⟨Nat.zero_le _, fun D hD => ?_⟩
      obtain ⟨nDp, nDl, hDH⟩ := R2.new b02 hD
      refine ⟨_, rfl, _, _, rfl, rfl, _, rfl, by omega, by omega, for_range (lo := 0) (n := (m - 1).toNat) (fun i σ H3 => ∃ (y4 y5 : Option V) (acc : List Int) (oi : Nat), σ = [some (.ref p), some (.str t), some (.int m), some (.ref D), y4, y5] ∧ But p H H3 ∧ RA T.c_Reader H3 p l vs oi ∧ oi ≤ vs.length ∧ H3 D = some (.lst (acc.map V.int)) ∧ acc.length = i ∧ rdBooks vs (m - 1).toNat [] o2 = rdBooks vs ((m - 1).toNat - i) acc oi) ⟨_, _, [], o2, rfl, but_mut b02 hDH, R2.mut nDp nDl, ho2, upd_same, rfl, rfl⟩ (fun i σ H3 hi hP => ?_) (fun σ H3 hP => ?_)⟩
      · obtain ⟨y4, y5, acc, oi, rfl, b3, R3, hoi, e3, hl, er⟩ := hP
        rw [show (m - 1).toNat - i = ((m - 1).toNat - (i + 1)) + 1 by omega] at er
        have er : rdBooks vs (m - 1).toNat [] o2 = bnd (rdBk vs (lastOf acc) oi) fun b o => rdBooks vs ((m - 1).toNat - (i + 1)) (acc ++ [b]) o := er
        obtain ⟨dx3, hp3⟩ := R3.hp
        refine ⟨_, rfl, .inl ⟨rfl, _, SqL.of e3⟩, ?_⟩
        refine ⟨_, rfl, p, dx3, _, rfl, hp3, rfl, ?_⟩
        have hsz : acc.length < sizeLine := sizeLine_of (by omega)
        by_cases hacc : acc = []
        · subst hacc
          refine ⟨_, rfl, false, .inl ⟨_, SqL.of e3, rfl⟩, iteF ?_⟩
          refine ⟨p, l, vs, oi, lastOf [], rfl, R3, it, hoi, fun b o3 eb H4 b4 R4 => ?_, fun e he H' dd b hd => k2 e (e12.trans (bnd_er (er.trans (bnd_er he)))) H' dd (b3.trans b) hd⟩
          have e4 := b4 _ _ e3 nDp.symm
          refine ⟨D, _, _, rfl, rfl, e4, by rw [List.length_map]; exact hsz, ?_⟩
          refine ⟨_, _, [] ++ [b], o3, rfl, but_mut (b3.trans b4) hDH, R4.mut nDp nDl, (within_bk _ _ eb).2, ?_, by rw [← hl]; rfl, er.trans (bnd_at eb)⟩
          rw [upd_same]
          rfl
        · obtain ⟨pre, z, rfl⟩ : ∃ pre z, acc = pre ++ [z] := ⟨acc.dropLast, acc.getLast hacc, (List.dropLast_concat_getLast hacc).symm⟩
          rw [lastOf_snoc] at er
          have et : (pre ++ [z]).map V.int = pre.map V.int ++ [.int z] := by rw [List.map_append]; rfl
          have hlast : atI ((pre ++ [z]).map V.int) (-1) = some (.int z) := by rw [et]; exact atI_last _ _
          refine ⟨_, rfl, true, .inl ⟨_, SqL.of e3, by rw [et]; simp⟩, iteT ?_⟩
          refine ⟨_, rfl, _, rfl, D, _, -1, .int z, rfl, rfl, SqL.of e3, hlast, ?_⟩
          refine ⟨p, l, vs, oi, z, rfl, R3, it, hoi, fun b o3 eb H4 b4 R4 => ?_, fun e he H' dd b hd => k2 e (e12.trans (bnd_er (er.trans (bnd_er he)))) H' dd (b3.trans b) hd⟩
          have e4 := b4 _ _ e3 nDp.symm
          refine ⟨D, _, _, rfl, rfl, e4, by rw [List.length_map]; exact hsz, ?_⟩
          refine ⟨_, _, pre ++ [z] ++ [b], o3, rfl, but_mut (b3.trans b4) hDH, R4.mut nDp nDl, (within_bk _ _ eb).2, ?_, by rw [List.length_append, hl]; rfl, er.trans (bnd_at eb)⟩
          rw [upd_same, List.map_append (l₂ := [b])]
          rfl
      · obtain ⟨y4, y5, bs, o3, rfl, b3, R3, ho3, e3, hl, er⟩ := hP
        rw [Nat.sub_self] at er
        have er : rdBooks vs (m - 1).toNat [] o2 = .ok (bs, o3) := er
        have e13 := e12.trans (bnd_at er)
        refine ⟨Nat.zero_le _, fun D2 hD2 => ?_⟩
        obtain ⟨nDp2, nDl2, hDH2⟩ := R3.new b3 hD2
        have nD2 : D ≠ D2 := fun e => by rw [e, hD2] at e3; cases e3
        have R4 := R3.mut (ob := .lst []) nDp2 nDl2
        obtain ⟨dx4, hp4⟩ := R4.hp
        refine ⟨_, rfl, p, dx4, _, rfl, hp4, rfl, p, l, vs, o3, 0, 4, rfl, R4, it, ho3, fun a o4 e4 H5 b5 R5 => ?_, fun e he H' dd b hd => k2 e (e13.trans (bnd_er he)) H' dd ((but_mut b3 hDH2).trans b) hd⟩
        obtain ⟨_, _, a1, a2⟩ := rdN_ok e4
        have e14 := e13.trans (bnd_at e4)
        have e5 : H5 D = some (.lst (bs.map V.int)) := b5 _ _ (by rw [upd_ne nD2]; exact e3) nDp.symm
        have f5 : H5 D2 = some (.lst ((([] : List Str).map V.str))) := b5 _ _ upd_same nDp2.symm
        have b05 : But p H H5 := (but_mut b3 hDH2).trans b5
        refine ⟨_, rfl, by omega, by omega, for_range (lo := 0) (n := a.toNat) (fun i σ H6 => ∃ (y4 : Option V) (acc : List Str) (oi : Nat), σ = [some (.ref p), some (.str t), some (.int m), some (.ref D), y4, some (.ref D2)] ∧ But p H H6 ∧ RA T.c_Reader H6 p l vs oi ∧ oi ≤ vs.length ∧ H6 D = some (.lst (bs.map V.int)) ∧ H6 D2 = some (.lst (acc.map V.str)) ∧ acc.length = i ∧ rdAlso vs a.toNat [] o4 = rdAlso vs (a.toNat - i) acc oi) ⟨_, [], o4, rfl, b05, R5, rdN_lt e4, e5, f5, rfl, rfl⟩ (fun i σ H6 hi hP => ?_) (fun σ H6 hP => ?_)⟩
        · obtain ⟨y4, acc, oi, rfl, b6, R6, hoi, e6, f6, hl, er⟩ := hP
          rw [show a.toNat - i = (a.toNat - (i + 1)) + 1 by omega] at er
          have er : rdAlso vs a.toNat [] o4 = bnd (rdWord vs oi) fun t o => rdAlso vs (a.toNat - (i + 1)) (acc ++ [t]) o := er
          obtain ⟨dx6, hp6⟩ := R6.hp
          refine ⟨_, rfl, .inl ⟨rfl, _, SqL.of f6⟩, ?_⟩
          refine ⟨_, rfl, p, dx6, _, rfl, hp6, rfl, p, l, vs, oi, rfl, R6, it, hoi, fun x o5 ex H7 b7 R7 => ?_, fun e he H' dd b hd => k2 e (e14.trans (bnd_er (er.trans (bnd_er he)))) H' dd (b6.trans b) hd⟩
          have e7 := b7 _ _ e6 nDp.symm
          have f7 := b7 _ _ f6 nDp2.symm
          refine ⟨D2, _, _, rfl, rfl, f7, by rw [List.length_map]; exact sizeLine_of (by omega), ?_⟩
          refine ⟨_, acc ++ [x], o5, rfl, but_mut (b6.trans b7) hDH2, R7.mut nDp2 nDl2, (within_word _ _ ex).2, by rw [upd_ne nD2]; exact e7, ?_, by rw [List.length_append, hl]; rfl, er.trans (bnd_at ex)⟩
          rw [upd_same, List.map_append]
          rfl
        · obtain ⟨y4, ws, o5, rfl, b6, R6, hoi, e6, f6, hl2, er2⟩ := hP
          rw [Nat.sub_self] at er2
          have er2 : rdAlso vs a.toNat [] o4 = .ok (ws, o5) := er2
          refine ⟨_, rfl, _, rfl, D, _, rfl, .inl ⟨SqL.of e6, fun tb htb => ?_⟩⟩
          have s7 : Same H6 (upd H6 tb (.tup (bs.map V.int))) := same_new htb
          have zb : SqT K (upd H6 tb (.tup (bs.map V.int))) tb (bs.map V.int) := SqT.of upd_same
          generalize upd H6 tb (.tup (bs.map V.int)) = H7 at *
          refine ⟨_, rfl, D2, _, rfl, .inl ⟨SqL.of (s7 _ _ f6), fun ta hta => ?_⟩⟩
          have s8 : Same H7 (upd H7 ta (.tup (ws.map V.str))) := same_new hta
          have za : SqT K (upd H7 ta (.tup (ws.map V.str))) ta (ws.map V.str) := SqT.of upd_same
          have zb8 := s8.seqT zb
          generalize upd H7 ta (.tup (ws.map V.str)) = H8 at *
          refine ⟨by show 4 ≤ sizeLine; decide, fun tt ht => ?_⟩
          have s9 := same_new (o := .tup [.str t, .ref tb, .str "", .ref ta]) ht
          have s69 := (s7.trans s8).trans s9
          exact k1 ⟨t, bs, "", ws⟩ o5 (e14.trans (bnd_at er2)) _ (b6.same s69) (R6.same s69) _ ⟨tt, tb, ta, rfl, SqT.of upd_same, s9.seqT zb8, s9.seqT za⟩
end
section
local macro_rules | `(tactic| walk_at "sl") => `(tactic| first | assumption | exact SqL.of upd_same | exact SqL.of (by assumption) | ((with_reducible apply sql_upd); (walk_at "sl"); (first | assumption | exact Ne.symm (by assumption))))
local macro_rules | `(tactic| walk_at "st") => `(tactic| first | assumption | exact SqT.of upd_same | exact SqT.of (by assumption))
local macro_rules | `(tactic| walk_at "sc") => `(tactic| first | rfl | assumption | (show (0 : Int) < _; first | assumption | decide | omega) | exact Or.inl ⟨by omega, by omega⟩ | exact Or.inr ⟨by omega, by omega⟩ | exact ⟨by decide, by decide⟩ | exact ⟨by decide, by decide, by decide⟩)
local macro_rules | `(tactic| walk_at "g1") => `(tactic| first
  | refine ⟨(_ : V), rfl, ?_⟩
  | refine ⟨(_ : Bool), rfl, ?_⟩
  | refine ⟨(_ : Int), (_ : Int), rfl, rfl, ?_⟩
  | refine ⟨(_ : Int), rfl, ?_⟩
  | refine ⟨(_ : Str), rfl, ?_⟩
  | refine ⟨(_ : Addr), (_ : List V), rfl, Or.inl (by walk_at "sl"), ?_⟩
  | refine ⟨(_ : Addr), (_ : List V), rfl, Or.inr (by walk_at "st"), ?_⟩
  | refine ⟨(_ : Addr), (_ : List V), (_ : Int), (_ : V), rfl, rfl, (by walk_at "sl"), (by first | rfl | assumption), ?_⟩
  | refine ⟨(_ : Addr), (_ : List V), (_ : Int), (_ : V), rfl, rfl, (by walk_at "st"), (by first | rfl | assumption), ?_⟩
  | refine ⟨(_ : Addr), (_ : List V), (_ : Int), (_ : Nat), rfl, rfl, upd_same, rfl, ?_⟩
  | refine ⟨(_ : Addr), (_ : List V), (_ : Int), (_ : Nat), rfl, rfl, (by assumption), rfl, ?_⟩
  | refine ⟨(_ : Addr), (_ : Addr), (_ : Addr), (_ : List (Str × V)), (_ : V), rfl, (by assumption), (by assumption), (by assumption), (by first | assumption | rfl), ?_⟩
  | refine Or.inl ⟨(_ : Int), rfl, ?_⟩
  | refine And.intro (by walk_at "sc") ?_
  | refine iteT ?_
  | refine iteF ?_)
/-! ### the drawer of a code, or an error -/
/-- what was read are integers -/
def IntsIn (vs : List V) (o o1 : Nat) : Prop := ∀ j, o ≤ j → j < o1 → ∃ n : Int, vs[j]? = some (.int n)
def IntsR {α : Type} (vs : List V) (o : Nat) (x : Rd α) : Prop := ∀ a o1, x = .ok (a, o1) → IntsIn vs o o1
theorem IntsR.bnd {α β : Type} {vs : List V} {o : Nat} {x : Rd α} {f : α → Nat → Rd β} (h : IntsR vs o x) (g : ∀ a o1, IntsR vs o1 (f a o1)) : IntsR vs o (bnd x f) := fun b o2 e j h1 h2 => by
  obtain ⟨a, o1, e1, e2⟩ := bnd_ok e
  by_cases hj : j < o1
  · exact h a o1 e1 j h1 hj
  · exact g a o1 b o2 e2 j (by omega) h2
theorem IntsR.ok {α : Type} {vs : List V} {o : Nat} {a : α} : IntsR vs o (.ok (a, o)) := fun b o1 e j h1 h2 => by
  cases e
  omega
theorem IntsR.er {α : Type} {vs : List V} {o e : Nat} : IntsR vs o (.error e : Rd α) := fun b o1 h => nomatch h
theorem ints_N {vs : List V} {lo hi : Int} {o : Nat} : IntsR vs o (rdN vs lo hi o) := fun n o1 h j h1 h2 => by
  obtain ⟨e, q, _⟩ := rdN_ok h
  obtain rfl : j = o := by omega
  exact ⟨n, q⟩
theorem ints_let {vs : List V} : ∀ {m : Nat} {acc : List Nat} {o : Nat}, IntsR vs o (rdLet vs m acc o)
  | 0, _, _ => IntsR.ok
  | m + 1, _, _ => ints_N.bnd fun _ _ => ints_let
theorem ints_word {vs : List V} {o : Nat} : IntsR vs o (rdWord vs o) := ints_N.bnd fun _ _ => ints_let.bnd fun _ _ => IntsR.ok
theorem ints_also {vs : List V} : ∀ {m : Nat} {acc : List Str} {o : Nat}, IntsR vs o (rdAlso vs m acc o)
  | 0, _, _ => IntsR.ok
  | m + 1, _, _ => ints_word.bnd fun _ _ => ints_also
theorem ints_bk {vs : List V} {last : Int} {o : Nat} : IntsR vs o (rdBk vs last o) := ints_N.bnd fun _ _ => ints_N.bnd fun _ _ => by
  split
  · exact IntsR.ok
  · exact IntsR.er
theorem ints_books {vs : List V} : ∀ {m : Nat} {acc : List Int} {o : Nat}, IntsR vs o (rdBooks vs m acc o)
  | 0, _, _ => IntsR.ok
  | m + 1, _, _ => ints_bk.bnd fun _ _ => ints_books
theorem ints_parts {vs : List V} {o : Nat} : IntsR vs o (rdParts vs o) := ints_word.bnd fun _ _ => ints_N.bnd fun _ _ => by
  split
  · exact ints_word.bnd fun _ _ => IntsR.ok
  · exact ints_books.bnd fun _ _ => ints_N.bnd fun _ _ => ints_also.bnd fun _ _ => IntsR.ok
theorem ints_rows {vs : List V} : ∀ {m : Nat} {acc : List CD} {o : Nat}, IntsR vs o (rdRows vs m acc o)
  | 0, _, _ => IntsR.ok
  | m + 1, _, _ => ints_parts.bnd fun _ _ => ints_rows
theorem ints_head {vs : List V} : IntsR vs 0 (rdHead vs) := ints_N.bnd fun _ _ => ints_N.bnd fun _ _ => ints_rows
theorem take_ints {vs : List V} {o : Nat} (h : IntsIn vs 0 o) : vs.take o = ((vs.take o).map intOf).map V.int := by
  rw [List.map_map]
  refine (List.map_id _).symm.trans (List.map_congr_left fun v hv => ?_)
  obtain ⟨i, hi, e⟩ := List.getElem_of_mem hv
  rw [List.length_take] at hi
  obtain ⟨n, hn⟩ := h i (Nat.zero_le _) (by omega)
  rw [List.getElem_take] at e
  rw [List.getElem?_eq_getElem (by omega), e] at hn
  rw [Option.some.inj hn]
  rfl
theorem seqT_ins {R r dx : Addr} {fs : List (Str × V)} {H H' : Hp} {a : Addr} {xs : List V} (h : SqT K H a xs) (b : But r H H') (hr : H r = some (.ins R dx fs)) : SqT K H' a xs := by
  rcases h with (h | ⟨o, h⟩) | h
  · exact .inl (.inl (b _ _ h fun e => by rw [e, hr] at h; cases h))
  · exact .inl (.inr ⟨o, b _ _ h fun e => by rw [e, hr] at h; cases h⟩)
  · exact .inr h
theorem PartsAt.but {R r dx : Addr} {fs : List (Str × V)} {H H' : Hp} {v : V} {c : CD} (h : PartsAt K H v c) (b : But r H H') (hr : H r = some (.ins R dx fs)) : PartsAt K H' v c := by
  obtain ⟨t, b1, a1, e, h1, h2, h3⟩ := h
  exact ⟨t, b1, a1, e, seqT_ins h1 b hr, seqT_ins h2 b hr, seqT_ins h3 b hr⟩
theorem PartsAt.imm {H H' : Hp} {v : V} {c : CD} (h : PartsAt K H v c) (b : Imm H H') : PartsAt K H' v c := by
  obtain ⟨t, b1, a1, e, h1, h2, h3⟩ := h
  exact ⟨t, b1, a1, e, b.seqT h1, b.seqT h2, b.seqT h3⟩
/-- the parts of cards, one after another -/
def Parts (K : PySem.W.Frag) (H : Hp) (vs : List V) (cs : List CD) : Prop := vs.length = cs.length ∧ ∀ (i : Nat) v c, vs[i]? = some v → cs[i]? = some c → PartsAt K H v c
theorem Parts.snoc {H H' : Hp} {vs : List V} {cs : List CD} {v : V} {c : CD} (h : Parts K H vs cs) (m : ∀ v c, PartsAt K H v c → PartsAt K H' v c) (p : PartsAt K H' v c) : Parts K H' (vs ++ [v]) (cs ++ [c]) := by
  refine ⟨by rw [List.length_append, List.length_append, h.1]; rfl, fun i u d h1 h2 => ?_⟩
  by_cases hi : i < vs.length
  · rw [List.getElem?_append_left hi] at h1
    rw [List.getElem?_append_left (by rw [← h.1]; exact hi)] at h2
    exact m _ _ (h.2 i u d h1 h2)
  · have hl : i < (vs ++ [v]).length := (List.getElem?_eq_some_iff.mp h1).1
    rw [List.length_append] at hl
    have hl : i < vs.length + 1 := hl
    obtain rfl : i = vs.length := by omega
    rw [List.getElem?_append_right (Nat.le_refl _), Nat.sub_self] at h1
    rw [h.1, List.getElem?_append_right (Nat.le_refl _), Nat.sub_self] at h2
    obtain rfl := Option.some.inj h1
    obtain rfl := Option.some.inj h2
    exact p
theorem outC_at {cs : List CD} {i : Nat} {c : CD} (h : cs[i]? = some c) : outC (cs.drop i) = match wrongP c with
    | some t => some t
    | none => outC (cs.drop (i + 1)) := by
  have hn := (List.getElem?_eq_some_iff.mp h).1
  rw [List.drop_eq_getElem_cons hn]
  rw [List.getElem?_eq_getElem hn] at h
  rw [Option.some.inj h]
  rfl
def xdP (t : Str) : List (Str × V) := [("part", .str t)]
/-- what comes of a code -/
def DecOut (cE cC : Addr) (H : Hp) (x : Rd (List CD)) (Q : VK) (E : XK) : Prop :=
  (∀ e, x = .error e → ∀ H' dd, Same H H' → H' dd = some (.xd (xdO e)) → E (.ref cE) (some dd) H') ∧
  (∀ cs o, x = .ok (cs, o) → (∀ t, outC cs = some t → ∀ H' dd, Same H H' → H' dd = some (.xd (xdP t)) → E (.ref cC) (some dd) H') ∧ (outC cs = none → ∀ q H', Same H H' → Q (.ref q) H'))
def spDecX (K : PySem.W.Frag) (cE cC : Addr) : Sp := fun zs H Q E => ∃ (v : Addr) (vs : List V), zs = [.ref v] ∧ H v = some (.lst vs) ∧ Items vs ∧ DecOut cE cC H (rdAll vs) Q E
theorem okx_decode_drawer (T : Top K mg) : FnOk P w K mg base (L2.CX P w) 6 T.a_decode_drawer T.fd_decode_drawer ["values"] (spDecX K T.c_DecodeError T.c_InvalidCard) := by
  refine T.F_decode_drawer.okX sc_decode_drawer (fun vs H Q E h => ?_) (fun cdv A outer s H vs Q E hr h => ?_)
  · obtain ⟨v, vs, rfl, _⟩ := h
    rfl
  · obtain ⟨v, vs, rfl, hv, it, k1, k2⟩ := h
    have hu := hu_of hr
    have hlen := it.n
    refine ⟨_, (pss_cons (ps_nox (ps_set (i := 1) sc_decode_drawer.nd rfl (.inl rfl) (pe_make T.Mk_Reader (ok_Reader_init T) (hr.mono (by decide)) (by rfl) T.g_Reader (b_Reader_init T) .nil pass0 (pa_cons (pv 0) pa_nil))))
      (pss_cons (ps_expr (pe_meth (pv 1) T.cl_Reader T.M_Reader_read_number (okx_Reader_read_number T) (hr.mono (by decide)) (b_Reader_read_number T) .nil (passX (fun _ _ _ h => h) rfl rfl rfl rfl) (pa_cons (pe_glob rfl T.g_MARK T.r_MARK) (pa_cons (pe_glob rfl T.g_MARK T.r_MARK) pa_nil))))
      (pss_cons (ps_set (i := 2) sc_decode_drawer.nd rfl (.inl rfl) (pe_meth (pv 1) T.cl_Reader T.M_Reader_read_number (okx_Reader_read_number T) (hr.mono (by decide)) (b_Reader_read_number T) .nil (passX (fun _ _ _ h => h) rfl rfl rfl rfl) (pa_cons pe_int (pa_cons (pe_glob rfl T.g_MOST_CARDS T.r_MOST_CARDS) pa_nil))))
      (pss_cons (ps_nox (ps_set (i := 3) sc_decode_drawer.nd rfl (.inl rfl) (pe_lst pa_nil)))
      (pss_cons (ps_for (passes_of rfl) rfl (pi_range1 (by rfl) T.m_range (pa_cons (pv 2) pa_nil)) (pg_name (i := 4) sc_decode_drawer.nd rfl (.inl rfl))
        (pss_one (ps_expr (pe_bm PySem.F.plainAttrs_list PySem.F.slot_list_append PySem.F.type_list_append mt_append (pv 3) (pa_cons (pe_meth0 (pv 1) T.cl_Reader T.M_Reader_read_parts (okx_Reader_read_parts T) (hr.mono (by decide)) (b_Reader_read_parts T) .nil (passX (fun _ _ _ h => h) rfl rfl rfl rfl)) pa_nil)))))
      (pss_cons (ps_nox (ps_set (i := 5) sc_decode_drawer.nd rfl (.inl rfl) (pe_call (ok_checksum_of T) (hr.mono (by decide)) (by rfl) T.g_checksum_of T.F_checksum_of.kp (b_checksum_of T) .nil pass0 (pa_cons (pe_slice sl_list (pv 0) po_none (po_some (pe_fld (pv 1) rfl))) pa_nil))))
      (pss_cons (ps_expr (pe_meth (pv 1) T.cl_Reader T.M_Reader_read_number (okx_Reader_read_number T) (hr.mono (by decide)) (b_Reader_read_number T) .nil (passX (fun _ _ _ h => h) rfl rfl rfl rfl) (pa_cons (pv 5) (pa_cons (pv 5) pa_nil))))
      (pss_cons (ps_if (pt_cmpR op_lt (pe_fld (pv 1) rfl) (pe_callB call_len_seq (by rfl) T.m_len (by decide +kernel) (pa_cons (pv 0) pa_nil)) (nomark _)) (pss_one (ps_errO T.ox_DecodeError T.oi_DecodeError T.ot_DecodeError (ok_DecodeError_init T) (hr.mono (by decide)) (b_DecodeError_init T) .nil pass0 T.g_DecodeError (by rfl) (pa_cons (pe_fld (pv 1) rfl) pa_nil) rfl rfl rfl rfl rfl)) pss_nil)
      (pss_one (ps_ret (pe_make T.Mk_Drawer (ok_Drawer_init T) (hr.mono (by decide)) (by rfl) T.g_Drawer (b_Drawer_init T) .nil pass0 (pa_cons (pe_callTy call_tuple_of (by rfl) T.m_tuple (by decide +kernel) (pa_cons (pe_lcX (own := [("heading", 6), ("books", 7), ("see", 8), ("also", 9)]) (g := gTup K 4 (gCons (gName 6) (gCons (gName 7) (gCons (gName 8) (gCons (gName 9) gNil))))) (tt := tYes) rfl sc_decode_drawer.nd (pi_list (pv 3)) (blkOk_by (N := N_decode_drawer) (sc := defScope s_decode_drawer) (by decide +kernel)) (fun _ _ _ _ _ => (pg_tup rfl (pgs_cons (pg_name (i := 6) sc_decode_drawer.nd rfl (.inl rfl)) (pgs_cons (pg_name (i := 7) sc_decode_drawer.nd rfl (.inl rfl)) (pgs_cons (pg_name (i := 8) sc_decode_drawer.nd rfl (.inl rfl)) (pgs_cons (pg_name (i := 9) sc_decode_drawer.nd rfl (.inl rfl)) pgs_nil)))))) (fun _ _ _ _ _ => pts_nil) (fun _ _ _ _ _ => (pe_make T.Mk_Card (okx_Card_init T) (hr.mono (by decide)) (by rfl) T.g_Card (kb4_Card T) .nil passB (pa_cons (pv 6) (pa_cons (pv 7) (pa_cons (pv 8) (pa_cons (pv 9) pa_nil)))))) rfl rfl rfl rfl) pa_nil)) pa_nil)))))))))))), ?_⟩
    refine ⟨_, rfl, ?_⟩
    intro x dx hx hdx hnx
    have nx : Same H (upd (upd H dx (.own x)) x (.ins T.c_Reader dx [])) := fun b o e => by
      rw [upd_ne (ne_of_none e hx), upd_ne (ne_of_none e hdx)]
      exact e
    refine ⟨x, dx, v, vs, rfl, upd_same, SqL.of (nx _ _ hv), fun H1 l hl b1 R1 => ⟨rfl, ?_⟩⟩
    have s1 : Same H H1 := fun b o e => b1 b o (nx b o e) (ne_of_none e hx)
    have hxH : H x = none := hx
    have sm : ∀ {H' : Hp}, But x H H' → Same H H' := fun b c o e => b c o e (ne_of_none e hxH)
    clear b1 nx
    obtain ⟨dx1, hx1⟩ := R1.hp
    refine ⟨_, rfl, x, dx1, _, rfl, hx1, rfl, x, l, vs, 0, 97, 97, rfl, R1, it, Nat.zero_le _, fun n0 o1 e1 H2 b2 R2 => ?_, fun e he H' dd b hd => k1 e (bnd_er (bnd_er he)) H' dd (sm (s1.but.trans b)) hd⟩
    obtain ⟨dx2, hx2⟩ := R2.hp
    have ho1 := rdN_lt e1
    have E1 := bnd_at (f := fun _ o => bnd (rdN vs 0 16 o) fun m o => rdRows vs m.toNat [] o) e1
    refine ⟨_, rfl, x, dx2, _, rfl, hx2, rfl, x, l, vs, o1, 0, 16, rfl, R2, it, ho1, fun m o2 e2 H3 b3 R3 => ?_, fun e he H' dd b hd => k1 e (bnd_er (E1.trans (bnd_er he))) H' dd (sm ((s1.but.trans b2).trans b)) hd⟩
    obtain ⟨_, _, m1, m2⟩ := rdN_ok e2
    have ho2 := rdN_lt e2
    have E2 : rdHead vs = rdRows vs m.toNat [] o2 := E1.trans (bnd_at e2)
    clear E1
    have b03 : But x H H3 := (s1.but.trans b2).trans b3
    refine ⟨Nat.zero_le _, fun D hD => ?_⟩
    obtain ⟨nDx, nDl, hDH⟩ := R3.new b03 hD
    refine ⟨_, rfl, _, rfl, by omega, by omega, for_range (lo := 0) (n := m.toNat) (fun i σ H4 => ∃ (y4 : Option V) (us : List V) (acc : List CD) (oi : Nat), σ = [some (.ref v), some (.ref x), some (.int m), some (.ref D), y4, none, none, none, none, none] ∧ But x H H4 ∧ RA T.c_Reader H4 x l vs oi ∧ oi ≤ vs.length ∧ H4 D = some (.lst us) ∧ Parts K H4 us acc ∧ acc.length = i ∧ rdHead vs = rdRows vs (m.toNat - i) acc oi) ⟨_, [], [], o2, rfl, but_mut b03 hDH, R3.mut nDx nDl, ho2, upd_same, ⟨rfl, fun i v c h _ => nomatch h⟩, rfl, E2⟩ (fun i σ H4 hi hP => ?_) (fun σ H4 hP => ?_)⟩
    · obtain ⟨y4, us, acc, oi, rfl, b4, R4, hoi, e4, P4, hl, er⟩ := hP
      rw [show m.toNat - i = (m.toNat - (i + 1)) + 1 by omega] at er
      have er : rdHead vs = bnd (rdParts vs oi) fun c o => rdRows vs (m.toNat - (i + 1)) (acc ++ [c]) o := er
      obtain ⟨dx4, hx4⟩ := R4.hp
      have hvl := P4.1
      refine ⟨_, rfl, .inl ⟨rfl, _, SqL.of e4⟩, ?_⟩
      refine ⟨_, rfl, x, dx4, _, rfl, hx4, rfl, x, l, vs, oi, rfl, R4, it, hoi, fun c o3 ec H5 b5 R5 u p5 => ?_, fun e he H' dd b hd => k1 e (bnd_er (er.trans (bnd_er he))) H' dd (sm (b4.trans b)) hd⟩
      have e5 := b5 _ _ e4 nDx.symm
      have im : Imm H5 (upd H5 D (.lst (us ++ [u]))) := Imm.refl.mut e5 rfl
      refine ⟨D, _, _, rfl, rfl, e5, sizeLine_of (by omega), ?_⟩
      exact ⟨_, us ++ [u], acc ++ [c], o3, rfl, but_mut (b4.trans b5) hDH, R5.mut nDx nDl, (within_parts _ _ ec).2, upd_same, P4.snoc (fun v' c' h => (h.but b5 hx4).imm im) (p5.imm im), by rw [List.length_append, hl]; rfl, er.trans (bnd_at ec)⟩
    · obtain ⟨y4, us, cs, o3, rfl, b4, R4, ho3, e4, P4, hl, er⟩ := hP
      rw [Nat.sub_self] at er
      have er : rdHead vs = .ok (cs, o3) := er
      have hII := ints_head _ _ er
      have htk := take_ints hII
      have hRm : ∀ c ∈ cs, Room4 c := (rows_room (E2.symm.trans er)).2 fun _ h => nomatch h
      have hvl := P4.1
      have E3 : rdAll vs = bnd (rdN vs (chkV vs o3) (chkV vs o3) o3) fun _ o1 => if o1 < vs.length then .error o1 else .ok (cs, o1) := bnd_at er
      obtain ⟨dx4, hx4⟩ := R4.hp
      have v4 : H4 v = some (.lst vs) := b4 _ _ hv (ne_of_none hv hxH)
      refine ⟨_, rfl, _, rfl, x, T.c_Reader, dx4, _, _, rfl, hx4, T.cl_Reader, T.n_Reader_offset, rd_offset _ _, _, rfl, v, _, rfl, SqL.of v4, fun u hu' => ?_⟩
      rw [cut_take, htk]
      have s5 : Same H4 (upd H4 u (.lst (((vs.take o3).map intOf).map V.int))) := same_new hu'
      refine ⟨u, (vs.take o3).map intOf, rfl, SqL.of upd_same, fun H5 s5' => ?_⟩
      have s45 := s5.trans s5'
      have R5 := R4.same s45
      have b05 := b4.same s45
      have hck : chkOf 7 ((vs.take o3).map intOf) = chkV vs o3 := rfl
      rw [hck]
      obtain ⟨dx5, hx5⟩ := R5.hp
      refine ⟨_, rfl, x, dx5, _, rfl, hx5, rfl, _, rfl, _, rfl, x, l, vs, o3, chkV vs o3, chkV vs o3, rfl, R5, it, ho3, fun n4 o4 e5 H6 b6 R6 => ?_, fun e he H' dd b hd => k1 e (E3.trans (bnd_er he)) H' dd (sm (b05.trans b)) hd⟩
      have E4 : rdAll vs = if o4 < vs.length then .error o4 else .ok (cs, o4) := E3.trans (bnd_at e5)
      have ho4 := rdN_lt e5
      obtain ⟨dx6, hx6⟩ := R6.hp
      have v6 : H6 v = some (.lst vs) := b6 _ _ (s45 _ _ v4) (ne_of_none hv hxH)
      have e6 : H6 D = some (.lst us) := b6 _ _ (s45 _ _ e4) nDx.symm
      have P6 : Parts K H6 us cs := ⟨P4.1, fun i a c h1 h2 => ((P4.2 i a c h1 h2).imm s45.imm).but b6 hx5⟩
      have s06 : Same H H6 := sm (b05.trans b6)
      refine ⟨_, rfl, x, T.c_Reader, dx6, _, _, rfl, hx6, T.cl_Reader, T.n_Reader_offset, rd_offset _ _, _, rfl, v, _, rfl, .inl (SqL.of v6), _, _, rfl, rfl, ?_⟩
      refine ⟨_, rfl, ?_⟩
      by_cases h4 : o4 < vs.length
      · rw [if_pos h4] at E4
        rw [decide_eq_true (by omega)]
        refine iteT ?_
        refine ⟨_, rfl, x, T.c_Reader, dx6, _, _, rfl, hx6, T.cl_Reader, T.n_Reader_offset, rd_offset _ _, by show 1 ≤ 1000; decide, fun a' ha' => ⟨a', o4, rfl, by omega, upd_same, fun dx' hdx hne => ⟨rfl, dx', _, upd_same, by rw [upd_ne hne, upd_same], by rw [upd_ne hne] at hdx; exact hdx, ?_⟩⟩⟩
        rw [upd_ne hne] at hdx
        exact k1 o4 E4 _ dx' (s06.trans (xd_gen ha' hdx fun b n1 n2 => by rw [upd_ne n1, upd_ne n2, upd_ne n1])) upd_same
      · rw [if_neg h4] at E4
        rw [decide_eq_false (by omega)]
        obtain ⟨k3, k4⟩ := k2 cs o4 E4
        refine iteF ?_
        refine ⟨_, rfl, D, rfl, ⟨_, SqL.of e6⟩, fun D2 hD2 => lc_it (walk_list (K := K) (a := D) (xs := us)) (fun i H7 => Same H6 H7 ∧ (∃ ps : List Addr, ps.length = i ∧ H7 D2 = some (.lst (ps.map V.ref))) ∧ outC cs = outC (cs.drop i)) ⟨same_new hD2, ⟨[], rfl, upd_same⟩, rfl⟩ (fun i H7 _ hP => hP.1.seq (SqL.of e6)) (fun i y H7 H8 hi hP hy => ?_) (fun H7 hP => ?_)⟩
        · obtain ⟨s7, ⟨ps, hpl, e7⟩, eo⟩ := hP
          obtain ⟨rfl, hxi⟩ := hy
          have hi : i < cs.length := by omega
          have hc : cs[i]? = some cs[i] := List.getElem?_eq_getElem hi
          have hgc := hRm _ (List.mem_of_getElem? hc)
          generalize cs[i] = c at hc hgc
          rw [outC_at hc] at eo
          obtain ⟨t, tb, ta, rfl, ht, htb, hta⟩ := (P6.2 i y c hxi hc).imm s7.imm
          refine ⟨t, _, rfl, ht, rfl, _, _, rfl, _, _, rfl, _, _, rfl, _, _, rfl, rfl, ?_⟩
          refine ⟨rfl, tYes_of ?_⟩
          refine ⟨_, rfl, _, rfl, _, rfl, _, rfl, ?_⟩
          intro z dz hz hdz hnz
          have nz : Same H8 (upd (upd H8 dz (.own z)) z (.ins T.c_Card dz [])) := fun b o e => by
            rw [upd_ne (ne_of_none e hz), upd_ne (ne_of_none e hdz)]
            exact e
          refine ⟨z, dz, c, tb, ta, rfl, upd_same, hgc, nz.seqT htb, nz.seqT hta, fun H9 => ⟨fun hw b9 c9 => ⟨rfl, ?_⟩, fun t' dd hw s9 e9 => ?_⟩⟩
          · rw [hw] at eo
            have s9 : Same H8 H9 := fun b o e => b9 b o (nz b o e) (ne_of_none e hz)
            have e9 := s9 _ _ e7
            exact ⟨_, e9, sizeLine_of (by rw [List.length_map]; omega), same_mut (s7.trans s9) hD2, ⟨ps ++ [z], by rw [List.length_append, hpl]; rfl, by rw [upd_same, List.map_append]; rfl⟩, eo⟩
          · rw [hw] at eo
            exact k3 t' eo H9 dd (s06.trans (s7.trans (nz.trans s9))) e9
        · obtain ⟨s7, ⟨ps, hpl, e7⟩, eo⟩ := hP
          rw [List.drop_eq_nil_of_le (by omega)] at eo
          refine ⟨D2, _, rfl, .inl ⟨SqL.of e7, fun u' hu2 => ?_⟩⟩
          intro z dz hz hdz hne
          have s8 : Same H7 (upd H7 u' (.tup (ps.map V.ref))) := same_new hu2
          have s9 : Same (upd H7 u' (.tup (ps.map V.ref))) (upd (upd (upd H7 u' (.tup (ps.map V.ref))) dz (.own z)) z (.ins T.c_Drawer dz [])) := fun b o e => by
            rw [upd_ne (ne_of_none e hz), upd_ne (ne_of_none e hdz)]
            exact e
          refine ⟨z, dz, u', _, rfl, upd_same, s9.seqT (SqT.of upd_same), by rw [List.length_map]; omega, fun H9 b9 h9 => ⟨rfl, ?_⟩⟩
          have s10 : Same (upd H7 u' (.tup (ps.map V.ref))) H9 := fun b o e => b9 b o (s9 b o e) (ne_of_none e hz)
          exact k4 eo z H9 (s06.trans (s7.trans (s8.trans s10)))
end
section
local macro_rules | `(tactic| walk_at "sl") => `(tactic| first | assumption | exact SqL.of upd_same | exact SqL.of (by assumption) | ((with_reducible apply sql_upd); (walk_at "sl"); (first | assumption | exact Ne.symm (by assumption))))
local macro_rules | `(tactic| walk_at "st") => `(tactic| first | assumption | exact SqT.of upd_same | exact SqT.of (by assumption))
local macro_rules | `(tactic| walk_at "sc") => `(tactic| first | rfl | assumption | (show (0 : Int) < _; first | assumption | decide | omega) | exact Or.inl ⟨by omega, by omega⟩ | exact Or.inr ⟨by omega, by omega⟩ | exact ⟨by decide, by decide⟩ | exact ⟨by decide, by decide, by decide⟩)
local macro_rules | `(tactic| walk_at "g1") => `(tactic| first
  | refine ⟨(_ : V), rfl, ?_⟩
  | refine ⟨(_ : Bool), rfl, ?_⟩
  | refine ⟨(_ : Int), (_ : Int), rfl, rfl, ?_⟩
  | refine ⟨(_ : Int), rfl, ?_⟩
  | refine ⟨(_ : Str), rfl, ?_⟩
  | refine ⟨(_ : Addr), (_ : List V), rfl, Or.inl (by walk_at "sl"), ?_⟩
  | refine ⟨(_ : Addr), (_ : List V), rfl, Or.inr (by walk_at "st"), ?_⟩
  | refine ⟨(_ : Addr), (_ : List V), (_ : Int), (_ : V), rfl, rfl, (by walk_at "sl"), (by first | rfl | assumption), ?_⟩
  | refine ⟨(_ : Addr), (_ : List V), (_ : Int), (_ : V), rfl, rfl, (by walk_at "st"), (by first | rfl | assumption), ?_⟩
  | refine ⟨(_ : Addr), (_ : List V), (_ : Int), (_ : Nat), rfl, rfl, upd_same, rfl, ?_⟩
  | refine ⟨(_ : Addr), (_ : List V), (_ : Int), (_ : Nat), rfl, rfl, (by assumption), rfl, ?_⟩
  | refine ⟨(_ : Addr), (_ : Addr), (_ : Addr), (_ : List (Str × V)), (_ : V), rfl, (by assumption), (by assumption), (by assumption), (by first | assumption | rfl), ?_⟩
  | refine Or.inl ⟨(_ : Int), rfl, ?_⟩
  | refine And.intro (by walk_at "sc") ?_
  | refine iteT ?_
  | refine iteF ?_)
/-! ### _law_offset: what a list comes to -/
/-- the call that _law_offset tries -/
def teTry (T : Top K mg) : XK → TE := fun Ech => tCall (spDecX K T.c_DecodeError T.c_InvalidCard) [] Ech (tCons (tVar 0) tNil)
def spOffset (K : PySem.W.Frag) : Sp := fun zs H Q _ => ∃ (v : Addr) (vs : List V), zs = [.ref v] ∧ H v = some (.lst vs) ∧ Items vs ∧ (∀ e, rdAll vs = .error e → ∀ H', Same H H' → Q (.int (e : Nat)) H') ∧
  (∀ cs o, rdAll vs = .ok (cs, o) → (∀ t, outC cs = some t → ∀ H' a, Same H H' → SqT K H' a [.str "card", .str t] → Q (.ref a) H') ∧ (outC cs = none → ∀ H', Same H H' → Q .non H'))
theorem ok_llaw_offset (T : Top K mg) : FnOk P w K mg base CX0 7 T.a_llaw_offset T.fd_llaw_offset ["_law_values"] (spOffset K) := by
  refine T.F_llaw_offset.ok sc_llaw_offset (fun vs H Q E h => ?_) (fun cdv A outer s H vs Q E hr h => ?_)
  · obtain ⟨v, vs, rfl, _⟩ := h
    rfl
  · obtain ⟨v, vs, rfl, hv, it, k1, k2⟩ := h
    have hu := hu_of hr
    refine ⟨_, (pss_cons (ps_tryA (te := teTry T) (n := "e") (i := 1) rfl rfl rfl sc_llaw_offset.nd rfl rfl (.attr rfl T.g_DecodeError (by decide) T.xf_DecodeError T.nf_DecodeError_offset (.fld rfl T.g_InvalidCard (by decide) T.xf_InvalidCard T.nf_InvalidCard_part .nil)) (by intro W pn xe Ech tk hW; exact (pe_call (okx_decode_drawer T) (hr.mono (by decide)) (by rfl) T.g_decode_drawer T.F_decode_drawer.kp (b_decode_drawer T) .nil (passes_call tk fun cls d σ H z => hW cls d σ H z) (pa_cons (pv 0) pa_nil))))
      (pss_one (ps_ret pe_non))), ?_⟩
    refine ⟨_, rfl, v, vs, rfl, hv, it, fun e he H' dd s' hd => ?_, fun cs o ho => ⟨fun t ht H' dd s' hd => ?_, fun hn q H' s' => ?_⟩⟩
    · refine ⟨true, T.ex_DecodeError_DecodeError, fun _ => ⟨.int (e : Nat), ⟨rfl, dd, _, rfl, hd, rfl⟩, ?_⟩, fun z => nomatch z⟩
      exact k1 e he H' s'
    · refine ⟨false, T.ex_InvalidCard_DecodeError, (fun z => nomatch z), fun _ => ⟨true, T.ex_InvalidCard_InvalidCard, fun _ => ⟨.str t, ⟨rfl, dd, _, rfl, hd, rfl⟩, fun t' ht' => ?_⟩, fun z => nomatch z⟩⟩
      exact (k2 cs o ho).1 t ht _ t' (s'.trans (same_new ht')) (SqT.of upd_same)
    · exact (k2 cs o ho).2 hn H' s'
end
section
local macro_rules | `(tactic| walk_at "sl") => `(tactic| first | assumption | exact SqL.of upd_same | exact SqL.of (by assumption) | ((with_reducible apply sql_upd); (walk_at "sl"); (first | assumption | exact Ne.symm (by assumption))))
local macro_rules | `(tactic| walk_at "st") => `(tactic| first | assumption | exact SqT.of upd_same | exact SqT.of (by assumption))
local macro_rules | `(tactic| walk_at "sc") => `(tactic| first | rfl | assumption | (show (0 : Int) < _; first | assumption | decide | omega) | exact Or.inl ⟨by omega, by omega⟩ | exact Or.inr ⟨by omega, by omega⟩ | exact ⟨by decide, by decide⟩ | exact ⟨by decide, by decide, by decide⟩)
local macro_rules | `(tactic| walk_at "g1") => `(tactic| first
  | refine ⟨(_ : V), rfl, ?_⟩
  | refine ⟨(_ : Bool), rfl, ?_⟩
  | refine ⟨(_ : Int), (_ : Int), rfl, rfl, ?_⟩
  | refine ⟨(_ : Int), rfl, ?_⟩
  | refine ⟨(_ : Str), rfl, ?_⟩
  | refine ⟨(_ : Addr), (_ : List V), rfl, Or.inl (by walk_at "sl"), ?_⟩
  | refine ⟨(_ : Addr), (_ : List V), rfl, Or.inr (by walk_at "st"), ?_⟩
  | refine ⟨(_ : Addr), (_ : List V), (_ : Int), (_ : V), rfl, rfl, (by walk_at "sl"), (by first | rfl | assumption), ?_⟩
  | refine ⟨(_ : Addr), (_ : List V), (_ : Int), (_ : V), rfl, rfl, (by walk_at "st"), (by first | rfl | assumption), ?_⟩
  | refine ⟨(_ : Addr), (_ : List V), (_ : Int), (_ : Nat), rfl, rfl, upd_same, rfl, ?_⟩
  | refine ⟨(_ : Addr), (_ : List V), (_ : Int), (_ : Nat), rfl, rfl, (by assumption), rfl, ?_⟩
  | refine ⟨(_ : Addr), (_ : Addr), (_ : Addr), (_ : List (Str × V)), (_ : V), rfl, (by assumption), (by assumption), (by assumption), (by first | assumption | rfl), ?_⟩
  | refine Or.inl ⟨(_ : Int), rfl, ?_⟩
  | refine And.intro (by walk_at "sc") ?_
  | refine iteT ?_
  | refine iteF ?_)
/-! ### good codes are read back -/
theorem rdN_good {vs : List V} {o : Nat} {n lo hi : Int} {r : List V} (h : vs.drop o = .int n :: r) (h1 : lo ≤ n) (h2 : n ≤ hi) : rdN vs lo hi o = .ok (n, o + 1) ∧ vs.drop (o + 1) = r := by
  have hv : vs[o]? = some (.int n) := by
    have := congrArg (·[0]?) h
    simp only [List.getElem?_drop] at this
    exact this
  refine ⟨?_, ?_⟩
  · rw [rdN_at hv]
    have : isNumV (.int n) lo hi = true := by
      show isNum n lo hi = true
      unfold isNum
      rw [decide_eq_true h1, decide_eq_true h2]
      rfl
    rw [if_pos this]
    rfl
  · rw [← List.drop_drop, h]
    rfl
theorem sign_rng : ∀ c ∈ letters.cps.toList, 1 ≤ signW c ∧ signW c ≤ 26 := by decide +kernel
theorem sign_letter : ∀ c ∈ letters.cps.toList, letterAt (signW c) = c := by decide +kernel
theorem let_good {vs : List V} : ∀ {l : List Nat} {acc : List Nat} {o : Nat} {r : List V}, (∀ c ∈ l, c ∈ letters.cps.toList) → vs.drop o = (l.map signW).map V.int ++ r → rdLet vs l.length acc o = .ok (acc ++ l, o + l.length) ∧ vs.drop (o + l.length) = r
  | [], acc, o, r, _, h => ⟨by rw [List.append_nil]; rfl, h⟩
  | c :: l, acc, o, r, hc, h => by
    obtain ⟨g1, g2⟩ := sign_rng c (hc c (.head _))
    obtain ⟨q1, q2⟩ := rdN_good (lo := 1) (hi := 26) h g1 g2
    obtain ⟨q3, q4⟩ := let_good (acc := acc ++ [letterAt (signW c)]) (fun x hx => hc x (.tail _ hx)) q2
    rw [sign_letter c (hc c (.head _))] at q3
    refine ⟨?_, by rw [List.length_cons, show o + (l.length + 1) = o + 1 + l.length by omega]; exact q4⟩
    have e : rdLet vs (c :: l).length acc o = bnd (rdN vs 1 26 o) fun n o => rdLet vs l.length (acc ++ [letterAt n]) o := rfl
    rw [e, bnd_at q1, sign_letter c (hc c (.head _)), q3, List.append_assoc, List.length_cons, show o + 1 + l.length = o + (l.length + 1) by omega]
    rfl
theorem codesW_len (t : Str) : (codesW t).length = t.length + 1 := by
  unfold codesW
  rw [List.length_cons, List.length_map, Array.length_toList]
  rfl
theorem word_good {vs : List V} {o : Nat} {t : Str} {r : List V} (hw : isWord t = true) (h : vs.drop o = (codesW t).map V.int ++ r) : rdWord vs o = .ok (t, o + (codesW t).length) ∧ vs.drop (o + (codesW t).length) = r := by
  have l8 := word_len hw
  have l1 : 1 ≤ t.length := by
    have hw := hw
    unfold isWord at hw
    rw [Bool.and_eq_true, Bool.and_eq_true] at hw
    have := of_decide_eq_true hw.1.1
    omega
  obtain ⟨q1, q2⟩ := rdN_good (lo := 1) (hi := 8) (n := (t.length : Int)) h (by omega) (by omega)
  obtain ⟨q3, q4⟩ := let_good (acc := []) (word_at hw) q2
  have hl : t.cps.toList.length = t.length := by rw [Array.length_toList]; rfl
  rw [hl] at q3 q4
  rw [codesW_len, show o + (t.length + 1) = o + 1 + t.length by omega]
  refine ⟨?_, q4⟩
  have e := bnd_at (f := fun (m : Int) o => bnd (rdLet vs m.toNat [] o) fun l o => .ok (strOf l, o)) q1
  have e2 : rdWord vs o = bnd (rdLet vs t.length [] (o + 1)) fun l o => .ok (strOf l, o) := e
  rw [e2, bnd_at q3]
  rfl
theorem bk_good {vs : List V} {o : Nat} {b last : Int} {r : List V} (h1 : last < b) (h0 : 0 ≤ last) (h2 : b ≤ 999) (h : vs.drop o = [.int (b / 256), .int (b % 256)] ++ r) : rdBk vs last o = .ok (b, o + 2) ∧ vs.drop (o + 2) = r := by
  obtain ⟨q1, q2⟩ := rdN_good (lo := 0) (hi := 3) (n := b / 256) h (by omega) (by omega)
  obtain ⟨q3, q4⟩ := rdN_good (lo := 0) (hi := 255) (n := b % 256) q2 (by omega) (by omega)
  refine ⟨?_, q4⟩
  have e : rdBk vs last o = if isNum (256 * (b / 256) + b % 256) (last + 1) 999 = true then .ok (256 * (b / 256) + b % 256, o + 2) else .error o := (bnd_at q1).trans (bnd_at q3)
  rw [e, show 256 * (b / 256) + b % 256 = b by omega]
  have : isNum b (last + 1) 999 = true := by
    unfold isNum
    rw [decide_eq_true (by omega), decide_eq_true h2]
    rfl
  rw [if_pos this]
theorem books_good {vs : List V} : ∀ {bs acc : List Int} {o : Nat} {r : List V}, (lastOf acc :: bs).Pairwise (· < ·) → (0 ≤ lastOf acc) → (∀ b ∈ bs, b ≤ 999) → vs.drop o = (codesB bs).map V.int ++ r → rdBooks vs bs.length acc o = .ok (acc ++ bs, o + (codesB bs).length) ∧ vs.drop (o + (codesB bs).length) = r
  | [], acc, o, r, _, _, _, h => ⟨by rw [List.append_nil]; rfl, h⟩
  | b :: bs, acc, o, r, hp, h0, h9, h => by
    obtain ⟨hp1, hp2⟩ := List.pairwise_cons.mp hp
    have hb := hp1 b (.head _)
    have h : vs.drop o = [.int (b / 256), .int (b % 256)] ++ ((codesB bs).map V.int ++ r) := h
    obtain ⟨q1, q2⟩ := bk_good (last := lastOf acc) hb h0 (h9 b (.head _)) h
    obtain ⟨q3, q4⟩ := books_good (acc := acc ++ [b]) (by rw [lastOf_snoc]; exact hp2) (by rw [lastOf_snoc]; omega) (fun x hx => h9 x (.tail _ hx)) q2
    have hl : (codesB (b :: bs)).length = 2 + (codesB bs).length := by
      rw [codesB_len, codesB_len, List.length_cons]
      omega
    rw [hl, show o + (2 + (codesB bs).length) = o + 2 + (codesB bs).length by omega]
    refine ⟨?_, q4⟩
    have e : rdBooks vs (b :: bs).length acc o = bnd (rdBk vs (lastOf acc) o) fun b o => rdBooks vs bs.length (acc ++ [b]) o := rfl
    rw [e, bnd_at q1, q3, List.append_assoc]
    rfl
theorem also_good {vs : List V} : ∀ {ws acc : List Str} {o : Nat} {r : List V}, (∀ t ∈ ws, isWord t = true) → vs.drop o = (codesA ws).map V.int ++ r → rdAlso vs ws.length acc o = .ok (acc ++ ws, o + (codesA ws).length) ∧ vs.drop (o + (codesA ws).length) = r
  | [], acc, o, r, _, h => ⟨by rw [List.append_nil]; rfl, h⟩
  | t :: ws, acc, o, r, hw, h => by
    have hA : codesA (t :: ws) = codesW t ++ codesA ws := rfl
    rw [hA, List.map_append, List.append_assoc] at h
    obtain ⟨q1, q2⟩ := word_good (hw t (.head _)) h
    obtain ⟨q3, q4⟩ := also_good (acc := acc ++ [t]) (fun x hx => hw x (.tail _ hx)) q2
    rw [hA, List.length_append, ← Nat.add_assoc]
    refine ⟨?_, q4⟩
    have e : rdAlso vs (t :: ws).length acc o = bnd (rdWord vs o) fun t o => rdAlso vs ws.length (acc ++ [t]) o := rfl
    rw [e, bnd_at q1, q3, List.append_assoc]
    rfl
theorem asc_pair : ∀ {bs : List Int}, asc bs = true → bs.Pairwise (· < ·)
  | [], _ => .nil
  | [_], _ => List.pairwise_singleton ..
  | a :: b :: r, h => by
    have h' : (decide (a < b) && asc (b :: r)) = true := h
    rw [Bool.and_eq_true] at h'
    have ih := asc_pair h'.2
    have hab := of_decide_eq_true h'.1
    refine List.pairwise_cons.mpr ⟨fun x hx => ?_, ih⟩
    rcases List.mem_cons.mp hx with rfl | hx
    · exact hab
    · exact Int.lt_trans hab ((List.pairwise_cons.mp ih).1 x hx)
theorem CD.Good.rng {c : CD} (g : c.Good) : ∀ b ∈ c.books, 1 ≤ b ∧ b ≤ 999 := fun b hb => by
  have q := g.b
  unfold isBooks at q
  rw [Bool.and_eq_true, Bool.and_eq_true] at q
  have := List.all_eq_true.mp q.1.2 b hb
  unfold isNum at this
  rw [Bool.and_eq_true] at this
  exact ⟨of_decide_eq_true this.1, of_decide_eq_true this.2⟩
theorem CD.Good.asc {c : CD} (g : c.Good) : asc c.books = true := by
  have q := g.b
  unfold isBooks at q
  rw [Bool.and_eq_true] at q
  exact q.2
theorem parts_good {vs : List V} {o : Nat} {c : CD} {r : List V} (g : c.Good) (h : vs.drop o = (codesC c).map V.int ++ r) : rdParts vs o = .ok (c, o + (codesC c).length) ∧ vs.drop (o + (codesC c).length) = r := by
  unfold codesC at h ⊢
  have hbl := g.lb
  have hal := g.la
  by_cases hs : c.see = ""
  · rw [if_pos hs] at h ⊢
    simp only [List.map_append, List.append_assoc] at h
    obtain ⟨q1, q2⟩ := word_good g.h h
    obtain ⟨q3, q4⟩ := rdN_good (lo := 0) (hi := 7) q2 (by omega) (by omega)
    have e1 : rdParts vs o = bnd (rdBooks vs ((c.books.length : Int) + 1 - 1).toNat [] (o + (codesW c.heading).length + 1)) fun bs o => bnd (rdN vs 0 4 o) fun a o => bnd (rdAlso vs a.toNat [] o) fun ws o => .ok (⟨c.heading, bs, "", ws⟩, o) := by
      refine (bnd_at q1).trans ((bnd_at q3).trans ?_)
      rw [if_neg (by omega)]
    rw [show ((c.books.length : Int) + 1 - 1).toNat = c.books.length by omega] at e1
    obtain ⟨q5, q6⟩ := books_good (acc := []) (List.pairwise_cons.mpr ⟨fun b hb => by have := (g.rng b hb).1; show (0 : Int) < b; omega, asc_pair g.asc⟩) (Int.le_refl _) (fun b hb => (g.rng b hb).2) q4
    obtain ⟨q7, q8⟩ := rdN_good (lo := 0) (hi := 4) q6 (by omega) (by omega)
    obtain ⟨q9, q10⟩ := also_good (acc := []) g.wa q8
    have e2 := (e1.trans (bnd_at q5)).trans ((bnd_at q7).trans (bnd_at (f := fun ws o => .ok ((⟨c.heading, [] ++ c.books, "", ws⟩ : CD), o)) (by rw [show ((c.also.length : Int)).toNat = c.also.length by omega]; exact q9)))
    have el : o + (codesW c.heading).length + 1 + (codesB c.books).length + 1 + (codesA c.also).length = o + (codesW c.heading ++ ([(c.books.length : Int) + 1] ++ (codesB c.books ++ ([(c.also.length : Int)] ++ codesA c.also)))).length := by
      simp only [List.length_append, List.length_cons, List.length_nil]
      omega
    rw [el] at e2 q10
    refine ⟨?_, q10⟩
    rw [e2]
    obtain ⟨h1, h2, h3, h4⟩ := c
    have hs : h3 = "" := hs
    rw [hs]
    rfl
  · rw [if_neg hs] at h ⊢
    obtain ⟨hb0, ha0⟩ := g.e.resolve_left hs
    simp only [List.map_append, List.append_assoc] at h
    obtain ⟨q1, q2⟩ := word_good g.h h
    obtain ⟨q3, q4⟩ := rdN_good (lo := 0) (hi := 7) q2 (by decide) (by decide)
    obtain ⟨q5, q6⟩ := word_good (see_word g hs) q4
    have e1 : rdParts vs o = .ok (⟨c.heading, [], c.see, []⟩, o + (codesW c.heading).length + 1 + (codesW c.see).length) := by
      refine (bnd_at q1).trans ((bnd_at q3).trans ?_)
      rw [if_pos rfl]
      exact bnd_at q5
    have el : o + (codesW c.heading).length + 1 + (codesW c.see).length = o + (codesW c.heading ++ [0] ++ codesW c.see).length := by
      simp only [List.length_append, List.length_cons, List.length_nil]
      omega
    rw [el] at e1 q6
    refine ⟨?_, q6⟩
    rw [e1]
    obtain ⟨h1, h2, h3, h4⟩ := c
    have hb0 : h2 = [] := hb0
    have ha0 : h4 = [] := ha0
    rw [hb0, ha0]
theorem rows_good {vs : List V} : ∀ {cs acc : List CD} {o : Nat} {r : List V}, (∀ c ∈ cs, c.Good) → vs.drop o = (cs.flatMap codesC).map V.int ++ r → rdRows vs cs.length acc o = .ok (acc ++ cs, o + (cs.flatMap codesC).length) ∧ vs.drop (o + (cs.flatMap codesC).length) = r
  | [], acc, o, r, _, h => ⟨by rw [List.append_nil]; rfl, h⟩
  | c :: cs, acc, o, r, hg, h => by
    rw [List.flatMap_cons, List.map_append, List.append_assoc] at h
    obtain ⟨q1, q2⟩ := parts_good (hg c (.head _)) h
    obtain ⟨q3, q4⟩ := rows_good (acc := acc ++ [c]) (fun x hx => hg x (.tail _ hx)) q2
    rw [List.flatMap_cons, List.length_append, ← Nat.add_assoc]
    refine ⟨?_, q4⟩
    have e : rdRows vs (c :: cs).length acc o = bnd (rdParts vs o) fun c o => rdRows vs cs.length (acc ++ [c]) o := rfl
    rw [e, bnd_at q1, q3, List.append_assoc]
    rfl
theorem head_good {cs : List CD} (h16 : cs.length ≤ 16) (hg : ∀ c ∈ cs, c.Good) (r : List V) : rdHead ((itemsD cs).map V.int ++ r) = .ok (cs, (itemsD cs).length) := by
  have h0 : ((itemsD cs).map V.int ++ r).drop 0 = .int 97 :: (.int (cs.length : Int) :: ((cs.flatMap codesC).map V.int ++ r)) := by
    unfold itemsD
    rw [List.map_append, List.append_assoc]
    rfl
  obtain ⟨q1, q2⟩ := rdN_good (lo := 97) (hi := 97) h0 (by decide) (by decide)
  obtain ⟨q3, q4⟩ := rdN_good (lo := 0) (hi := 16) q2 (by omega) (by omega)
  obtain ⟨q5, q6⟩ := rows_good (acc := []) hg q4
  have e : rdHead ((itemsD cs).map V.int ++ r) = rdRows ((itemsD cs).map V.int ++ r) cs.length [] (0 + 1 + 1) := (bnd_at q1).trans ((bnd_at q3).trans (by rw [show ((cs.length : Int)).toNat = cs.length by omega]))
  rw [e, q5]
  have : 0 + 1 + 1 + (cs.flatMap codesC).length = (itemsD cs).length := by
    unfold itemsD
    rw [List.length_append]
    rfl
  rw [this]
  rfl
end
section
local macro_rules | `(tactic| walk_at "sl") => `(tactic| first | assumption | exact SqL.of upd_same | exact SqL.of (by assumption) | ((with_reducible apply sql_upd); (walk_at "sl"); (first | assumption | exact Ne.symm (by assumption))))
local macro_rules | `(tactic| walk_at "st") => `(tactic| first | assumption | exact SqT.of upd_same | exact SqT.of (by assumption))
local macro_rules | `(tactic| walk_at "sc") => `(tactic| first | rfl | assumption | (show (0 : Int) < _; first | assumption | decide | omega) | exact Or.inl ⟨by omega, by omega⟩ | exact Or.inr ⟨by omega, by omega⟩ | exact ⟨by decide, by decide⟩ | exact ⟨by decide, by decide, by decide⟩)
local macro_rules | `(tactic| walk_at "g1") => `(tactic| first
  | refine ⟨(_ : V), rfl, ?_⟩
  | refine ⟨(_ : Bool), rfl, ?_⟩
  | refine ⟨(_ : Int), (_ : Int), rfl, rfl, ?_⟩
  | refine ⟨(_ : Int), rfl, ?_⟩
  | refine ⟨(_ : Str), rfl, ?_⟩
  | refine ⟨(_ : Addr), (_ : List V), rfl, Or.inl (by walk_at "sl"), ?_⟩
  | refine ⟨(_ : Addr), (_ : List V), rfl, Or.inr (by walk_at "st"), ?_⟩
  | refine ⟨(_ : Addr), (_ : List V), (_ : Int), (_ : V), rfl, rfl, (by walk_at "sl"), (by first | rfl | assumption), ?_⟩
  | refine ⟨(_ : Addr), (_ : List V), (_ : Int), (_ : V), rfl, rfl, (by walk_at "st"), (by first | rfl | assumption), ?_⟩
  | refine ⟨(_ : Addr), (_ : List V), (_ : Int), (_ : Nat), rfl, rfl, upd_same, rfl, ?_⟩
  | refine ⟨(_ : Addr), (_ : List V), (_ : Int), (_ : Nat), rfl, rfl, (by assumption), rfl, ?_⟩
  | refine ⟨(_ : Addr), (_ : Addr), (_ : Addr), (_ : List (Str × V)), (_ : V), rfl, (by assumption), (by assumption), (by assumption), (by first | assumption | rfl), ?_⟩
  | refine Or.inl ⟨(_ : Int), rfl, ?_⟩
  | refine And.intro (by walk_at "sc") ?_
  | refine iteT ?_
  | refine iteF ?_)
/-! ### a code up to an item that cannot stand there -/
def Agree (k : Nat) (v0 v1 : List V) : Prop := ∀ j, j < k → v1[j]? = v0[j]?
def BadAt (k : Nat) (v1 : List V) : Prop := ∀ lo hi : Int, 0 ≤ lo → hi ≤ 255 → numAt v1 k lo hi = none
/-- x1 reads as x0 does up to the item k, and ends there -/
def Sim {α : Type} (k o : Nat) (x0 x1 : Rd α) : Prop := ∀ a o1, x0 = .ok (a, o1) → o ≤ o1 ∧ (o1 ≤ k → x1 = .ok (a, o1)) ∧ (o ≤ k → k < o1 → x1 = .error k)
theorem Sim.bnd {α β : Type} {k o : Nat} {x0 x1 : Rd α} {f0 f1 : α → Nat → Rd β} (h : Sim k o x0 x1) (g : ∀ a o1, Sim k o1 (f0 a o1) (f1 a o1)) : Sim k o (bnd x0 f0) (bnd x1 f1) := fun b o2 e => by
  obtain ⟨a, o1, e1, e2⟩ := bnd_ok e
  obtain ⟨a1, a2, a3⟩ := h a o1 e1
  obtain ⟨b1, b2, b3⟩ := g a o1 b o2 e2
  refine ⟨Nat.le_trans a1 b1, fun hk => (bnd_at (a2 (Nat.le_trans b1 hk))).trans (b2 hk), fun ho hk => ?_⟩
  by_cases h1 : o1 ≤ k
  · exact (bnd_at (a2 h1)).trans (b3 h1 hk)
  · exact bnd_er (a3 ho (by omega))
theorem Sim.ok {α : Type} {k o : Nat} {a : α} : Sim k o (.ok (a, o)) (.ok (a, o)) := fun b o1 e => by
  cases e
  exact ⟨Nat.le_refl _, fun _ => rfl, fun _ h => by omega⟩
theorem Sim.er {α : Type} {k o e : Nat} {x : Rd α} : Sim k o (.error e) x := fun b o1 h => nomatch h
section
variable {k : Nat} {v0 v1 : List V} (ag : Agree k v0 v1) (bd : BadAt k v1)
include ag bd
theorem sim_N {lo hi : Int} {o : Nat} (h1 : 0 ≤ lo) (h2 : hi ≤ 255) : Sim k o (rdN v0 lo hi o) (rdN v1 lo hi o) := fun n o1 e => by
  obtain ⟨rfl, q, _⟩ := rdN_ok e
  refine ⟨by omega, fun hk => ?_, fun ho hk => ?_⟩
  · have : numAt v1 o lo hi = numAt v0 o lo hi := by
      unfold numAt
      rw [ag o (by omega)]
    unfold rdN at e ⊢
    rw [this]
    exact e
  · obtain rfl : o = k := by omega
    unfold rdN
    rw [bd lo hi h1 h2]
theorem sim_let : ∀ {m : Nat} {acc : List Nat} {o : Nat}, Sim k o (rdLet v0 m acc o) (rdLet v1 m acc o)
  | 0, _, _ => Sim.ok
  | m + 1, _, _ => (sim_N ag bd (by decide) (by decide)).bnd fun _ _ => sim_let
theorem sim_word {o : Nat} : Sim k o (rdWord v0 o) (rdWord v1 o) := (sim_N ag bd (by decide) (by decide)).bnd fun _ _ => (sim_let ag bd).bnd fun _ _ => Sim.ok
theorem sim_also : ∀ {m : Nat} {acc : List Str} {o : Nat}, Sim k o (rdAlso v0 m acc o) (rdAlso v1 m acc o)
  | 0, _, _ => Sim.ok
  | m + 1, _, _ => (sim_word ag bd).bnd fun _ _ => sim_also
theorem sim_bk {last : Int} {o : Nat} : Sim k o (rdBk v0 last o) (rdBk v1 last o) := (sim_N ag bd (by decide) (by decide)).bnd fun _ _ => (sim_N ag bd (by decide) (by decide)).bnd fun _ _ => by
  split
  · exact Sim.ok
  · exact Sim.er
theorem sim_books : ∀ {m : Nat} {acc : List Int} {o : Nat}, Sim k o (rdBooks v0 m acc o) (rdBooks v1 m acc o)
  | 0, _, _ => Sim.ok
  | m + 1, _, _ => (sim_bk ag bd).bnd fun _ _ => sim_books
theorem sim_parts {o : Nat} : Sim k o (rdParts v0 o) (rdParts v1 o) := (sim_word ag bd).bnd fun _ _ => (sim_N ag bd (by decide) (by decide)).bnd fun _ _ => by
  split
  · exact (sim_word ag bd).bnd fun _ _ => Sim.ok
  · exact (sim_books ag bd).bnd fun _ _ => (sim_N ag bd (by decide) (by decide)).bnd fun _ _ => (sim_also ag bd).bnd fun _ _ => Sim.ok
theorem sim_rows : ∀ {m : Nat} {acc : List CD} {o : Nat}, Sim k o (rdRows v0 m acc o) (rdRows v1 m acc o)
  | 0, _, _ => Sim.ok
  | m + 1, _, _ => (sim_parts ag bd).bnd fun _ _ => sim_rows
theorem sim_head : Sim k 0 (rdHead v0) (rdHead v1) := (sim_N ag bd (by decide) (by decide)).bnd fun _ _ => (sim_N ag bd (by decide) (by decide)).bnd fun _ _ => sim_rows ag bd
end
/-- a drawer's code -/
def codeD (cs : List CD) : List Int := itemsD cs ++ [chkOf 7 (itemsD cs)]
theorem code_len (cs : List CD) : (codeD cs).length = (itemsD cs).length + 1 := by
  unfold codeD
  rw [List.length_append]
  rfl
theorem code_V (cs : List CD) : (codeD cs).map V.int = (itemsD cs).map V.int ++ [.int (chkOf 7 (itemsD cs))] := by
  unfold codeD
  rw [List.map_append]
  rfl
theorem chk_at {cs : List CD} {v1 : List V} (h : v1.take (itemsD cs).length = (itemsD cs).map V.int) : chkV v1 (itemsD cs).length = chkOf 7 (itemsD cs) := by
  unfold chkV
  rw [h, List.map_map]
  congr 1
  exact List.map_id _
/-- an item changed, or the rest lacking -/
theorem bad_item {cs : List CD} (h16 : cs.length ≤ 16) (hg : ∀ c ∈ cs, c.Good) {k : Nat} (hk : k < (codeD cs).length) {v1 : List V} (ht : v1.take k = ((codeD cs).map V.int).take k) (hb : BadAt k v1) : rdAll v1 = .error k := by
  have ag : Agree k ((codeD cs).map V.int) v1 := fun j hj => by
    have := congrArg (·[j]?) ht
    simp only [List.getElem?_take] at this
    rw [if_pos hj, if_pos hj] at this
    exact this
  rw [code_len] at hk
  have hh := head_good h16 hg [.int (chkOf 7 (itemsD cs))]
  rw [← code_V] at hh
  obtain ⟨_, s2, s3⟩ := sim_head ag hb cs _ hh
  by_cases he : k < (itemsD cs).length
  · exact bnd_er (s3 (Nat.zero_le _) he)
  · obtain rfl : k = (itemsD cs).length := by omega
    have ht2 : v1.take (itemsD cs).length = (itemsD cs).map V.int := by
      rw [ht, code_V]
      exact List.take_left' (List.length_map _)
    refine (bnd_at (s2 (Nat.le_refl _))).trans (bnd_er ?_)
    rw [chk_at ht2]
    obtain ⟨c1, c2⟩ := chk_rng (itemsD cs)
    unfold rdN
    rw [hb _ _ c1 (by omega)]
/-- one item more -/
theorem one_more {cs : List CD} (h16 : cs.length ≤ 16) (hg : ∀ c ∈ cs, c.Good) (x : V) : rdAll ((codeD cs).map V.int ++ [x]) = .error (codeD cs).length := by
  have e : (codeD cs).map V.int ++ [x] = (itemsD cs).map V.int ++ (.int (chkOf 7 (itemsD cs)) :: [x]) := by
    rw [code_V, List.append_assoc]
    rfl
  rw [e]
  refine (bnd_at (head_good h16 hg _)).trans ?_
  have ht : ((itemsD cs).map V.int ++ (.int (chkOf 7 (itemsD cs)) :: [x])).take (itemsD cs).length = (itemsD cs).map V.int := List.take_left' (List.length_map _)
  rw [chk_at ht]
  have hd : ((itemsD cs).map V.int ++ (.int (chkOf 7 (itemsD cs)) :: [x])).drop (itemsD cs).length = .int (chkOf 7 (itemsD cs)) :: [x] := List.drop_left' (List.length_map _)
  obtain ⟨q, _⟩ := rdN_good (lo := chkOf 7 (itemsD cs)) (hi := chkOf 7 (itemsD cs)) hd (Int.le_refl _) (Int.le_refl _)
  refine (bnd_at q).trans ?_
  rw [if_pos (by rw [List.length_append, List.length_map]; show _ < _ + 2; omega), code_len]
/-- another checksum -/
theorem other_chk {cs : List CD} (h16 : cs.length ≤ 16) (hg : ∀ c ∈ cs, c.Good) {n : Int} (hn : n ≠ chkOf 7 (itemsD cs)) : rdAll ((itemsD cs).map V.int ++ [V.int n]) = .error (itemsD cs).length := by
  refine (bnd_at (head_good h16 hg _)).trans (bnd_er ?_)
  have ht : ((itemsD cs).map V.int ++ [V.int n]).take (itemsD cs).length = (itemsD cs).map V.int := List.take_left' (List.length_map _)
  rw [chk_at ht]
  have hv : ((itemsD cs).map V.int ++ [V.int n])[(itemsD cs).length]? = some (.int n) := by
    rw [List.getElem?_append_right (by rw [List.length_map]; exact Nat.le_refl _), List.length_map, Nat.sub_self]
    rfl
  rw [rdN_at hv]
  have : isNumV (.int n) (chkOf 7 (itemsD cs)) (chkOf 7 (itemsD cs)) = false := by
    show isNum n _ _ = false
    unfold isNum
    cases h : decide (chkOf 7 (itemsD cs) ≤ n) with
    | false => rfl
    | true =>
      have := of_decide_eq_true h
      rw [decide_eq_false (by omega)]
      rfl
  rw [this]
  rfl
theorem items_ints {ns : List Int} (h : ns.length ≤ 400) : Items (ns.map V.int) := ⟨by rw [List.length_map]; exact h, fun v hv => by
  obtain ⟨n, _, rfl⟩ := List.mem_map.mp hv
  rfl⟩
/-! ### the law's own codes -/
def offO (x : Rd (List CD)) : Option Nat := match x with
  | .error e => some e
  | .ok _ => none
def outR (x : Rd (List CD)) : Option (Option Str) := match x with
  | .error _ => none
  | .ok (cs, _) => some (outC cs)
theorem offO_at {x : Rd (List CD)} {e : Nat} (h : offO x = some e) : x = .error e := by
  cases x with
  | error d =>
    rw [Option.some.inj h]
  | ok p => cases h
theorem outR_at {x : Rd (List CD)} {t : Option Str} (h : outR x = some t) : ∃ cs o, x = .ok (cs, o) ∧ outC cs = t := by
  cases x with
  | error d => cases h
  | ok p => exact ⟨p.1, p.2, rfl, Option.some.inj h⟩
def baseN : List Int := [97, 2, 1, 4, 3, 0, 9, 1, 2, 1, 1, 3, 2, 1, 2, 0, 1, 5]
def pairs1 : List (Int × Nat) := [(96, 0), (17, 1), (0, 2), (9, 2), (0, 3), (27, 3), (8, 4), (4, 5), (4, 7), (5, 9), (0, 10), (9, 10)]
def pairs2 : List (Int × Nat) := [(0, 11), (27, 11), (0, 12), (27, 13), (8, 15), (0, 16), (9, 16), (0, 17), (27, 17)]
def pairsN : List (Int × Nat) := pairs1 ++ pairs2
def chkd (ns : List Int) : List V := (ns ++ [chkOf 7 ns]).map V.int
def midN (z : Int × Nat) : List Int := baseN.take z.2 ++ [z.1] ++ baseN.drop (z.2 + 1) ++ [0]
theorem f_base : outR (rdAll (chkd baseN)) = some none := by decide +kernel
theorem f_pairs : ∀ z ∈ pairsN, offO (rdAll (chkd (midN z))) = some z.2 := by decide +kernel
theorem f_1 : offO (rdAll (chkd [97, 1, 1, 1, 2, 3, 232, 0])) = some 5 := by decide +kernel
theorem f_2 : offO (rdAll (chkd [97, 1, 1, 1, 2, 0, 0, 0])) = some 5 := by decide +kernel
theorem f_3 : offO (rdAll (chkd [97, 1, 1, 1, 3, 0, 9, 0, 9, 0])) = some 7 := by decide +kernel
def seeS : Str := "see"
def alsoS : Str := "also"
def cardS : Str := "card"
theorem f_4 : outR (rdAll (chkd [97, 1, 1, 1, 0, 1, 1])) = some (some seeS) := by decide +kernel
theorem f_5 : outR (rdAll (chkd [97, 1, 1, 1, 1, 1, 1, 1])) = some (some alsoS) := by decide +kernel
theorem mid_items (z : Int × Nat) : (midN z).length ≤ 30 := by
  unfold midN
  simp only [List.length_append, List.length_take, List.length_drop, List.length_cons, List.length_nil]
  have : baseN.length = 18 := rfl
  omega
def PairsI (K : PySem.W.Frag) (H : Hp) : List V → List (Int × Nat) → Prop
  | [], [] => True
  | v :: vs, z :: zs => (∃ t, v = .ref t ∧ SqT K H t [.int z.1, .int (z.2 : Nat)]) ∧ PairsI K H vs zs
  | _, _ => False
theorem PairsI.imm {H H' : Hp} (s : Imm H H') : ∀ {vs : List V} {zs : List (Int × Nat)}, PairsI K H vs zs → PairsI K H' vs zs
  | [], [], _ => trivial
  | _ :: _, _ :: _, ⟨⟨t, e, h⟩, r⟩ => ⟨⟨t, e, s.seqT h⟩, PairsI.imm s r⟩
theorem PairsI.app {H : Hp} : ∀ {vs : List V} {zs : List (Int × Nat)} {vs' : List V} {zs' : List (Int × Nat)}, PairsI K H vs zs → PairsI K H vs' zs' → PairsI K H (vs ++ vs') (zs ++ zs')
  | [], [], _, _, _, h => h
  | _ :: _, _ :: _, _, _, ⟨a, r⟩, h => ⟨a, PairsI.app r h⟩
theorem PairsI.snoc {H H' : Hp} {vs : List V} {zs : List (Int × Nat)} {t : Addr} (z : Int × Nat) (h : PairsI K H vs zs) (s : Same H H') (r : SqT K H' t [.int z.1, .int (z.2 : Nat)]) : PairsI K H' (vs ++ [.ref t]) (zs ++ [z]) := (h.imm s.imm).app ⟨⟨t, rfl, r⟩, trivial⟩
theorem PairsI.len {H : Hp} : ∀ {vs : List V} {zs : List (Int × Nat)}, PairsI K H vs zs → vs.length = zs.length
  | [], [], _ => rfl
  | _ :: _, _ :: _, ⟨_, r⟩ => by rw [List.length_cons, List.length_cons, PairsI.len r]
theorem PairsI.get {H : Hp} : ∀ {vs : List V} {zs : List (Int × Nat)} {i : Nat} {v : V}, PairsI K H vs zs → vs[i]? = some v → ∃ t z, v = .ref t ∧ zs[i]? = some z ∧ SqT K H t [.int z.1, .int (z.2 : Nat)]
  | [], [], _, _, _, h => nomatch h
  | _ :: _, z :: _, 0, _, ⟨⟨t, e, h⟩, _⟩, hv => ⟨t, z, by rw [← Option.some.inj hv, e], rfl, h⟩
  | _ :: _, _ :: _, i + 1, _, ⟨_, r⟩, hv => PairsI.get (i := i) r hv
end
section
local macro_rules | `(tactic| walk_at "sl") => `(tactic| first | assumption | exact SqL.of upd_same | exact SqL.of (by assumption) | ((with_reducible apply sql_upd); (walk_at "sl"); (first | assumption | exact Ne.symm (by assumption))))
local macro_rules | `(tactic| walk_at "st") => `(tactic| first | assumption | exact SqT.of upd_same | exact SqT.of (by assumption))
local macro_rules | `(tactic| walk_at "sc") => `(tactic| first | rfl | assumption | (show (0 : Int) < _; first | assumption | decide | omega) | exact Or.inl ⟨by omega, by omega⟩ | exact Or.inr ⟨by omega, by omega⟩ | exact ⟨by decide, by decide⟩ | exact ⟨by decide, by decide, by decide⟩)
local macro_rules | `(tactic| walk_at "g1") => `(tactic| first
  | refine ⟨(_ : V), rfl, ?_⟩
  | refine ⟨(_ : Bool), rfl, ?_⟩
  | refine ⟨(_ : Int), (_ : Int), rfl, rfl, ?_⟩
  | refine ⟨(_ : Int), rfl, ?_⟩
  | refine ⟨(_ : Str), rfl, ?_⟩
  | refine ⟨(_ : Addr), (_ : List V), rfl, Or.inl (by walk_at "sl"), ?_⟩
  | refine ⟨(_ : Addr), (_ : List V), rfl, Or.inr (by walk_at "st"), ?_⟩
  | refine ⟨(_ : Addr), (_ : List V), (_ : Int), (_ : V), rfl, rfl, (by walk_at "sl"), (by first | rfl | assumption), ?_⟩
  | refine ⟨(_ : Addr), (_ : List V), (_ : Int), (_ : V), rfl, rfl, (by walk_at "st"), (by first | rfl | assumption), ?_⟩
  | refine ⟨(_ : Addr), (_ : List V), (_ : Int), (_ : Nat), rfl, rfl, upd_same, rfl, ?_⟩
  | refine ⟨(_ : Addr), (_ : List V), (_ : Int), (_ : Nat), rfl, rfl, (by assumption), rfl, ?_⟩
  | refine ⟨(_ : Addr), (_ : Addr), (_ : Addr), (_ : List (Str × V)), (_ : V), rfl, (by assumption), (by assumption), (by assumption), (by first | assumption | rfl), ?_⟩
  | refine Or.inl ⟨(_ : Int), rfl, ?_⟩
  | refine And.intro (by walk_at "sc") ?_
  | refine iteT ?_
  | refine iteF ?_)
open LamX
def spLaw (K : PySem.W.Frag) (tP : Addr) : Sp := fun vs H Q _ => ∃ (a : Addr) (ns : List Int), vs = [.ref a] ∧ SqL K H a (ns.map V.int) ∧ ns.length ≤ 63 ∧ H tP = some (.tbl #[]) ∧ ∀ H', Q (.bl true) H'
theorem cut_lo (xs : List V) (m : Nat) : cutV xs (some ((m : Nat) : Int)) none = xs.drop m := by
  unfold cutV
  rw [HT.sIx_nat, HT.sIx_none]
  by_cases h : m ≤ xs.length
  · rw [Nat.min_eq_left h, List.take_of_length_le (by rw [List.length_drop]; omega)]
  · rw [Nat.min_eq_right (by omega), List.drop_eq_nil_of_le (Nat.le_refl _), List.drop_eq_nil_of_le (by omega), List.take_nil]
theorem ne_int (m n : Int) (h : m = n) : (!decide (V.int m = V.int n)) = false := by
  rw [h, decide_eq_true rfl]
  rfl
/-- the drawer's code lies at l; the row and the tables stand -/
structure Sc (K : PySem.W.Frag) (H : Hp) (rw a : Addr) (ns : List Int) (tP l : Addr) (cs : List CD) : Prop where
  r : RowAt K H rw a ns
  t : Tabs [(tP, lamP)] H
  e : H l = some (.lst ((codeD cs).map V.int))
theorem Sc.n {H : Hp} {rw a : Addr} {ns : List Int} {tP l : Addr} {cs : List CD} (h : Sc K H rw a ns tP l cs) : l ≠ rw := fun e => by
  obtain ⟨n1, n2, n3, h1, _⟩ := h.r
  have h2 := h.e
  rw [e, h1] at h2
  have h3 := HO.lst.inj (Option.some.inj h2)
  cases h3
theorem Sc.same {H H' : Hp} {rw a : Addr} {ns : List Int} {tP l : Addr} {cs : List CD} (h : Sc K H rw a ns tP l cs) (s : Same H H') : Sc K H' rw a ns tP l cs := ⟨h.r.same s, h.t.ext s, s _ _ h.e⟩
theorem Sc.but {H H' : Hp} {rw a : Addr} {ns : List Int} {tP l : Addr} {cs : List CD} (h : Sc K H rw a ns tP l cs) (b : But rw H H') (r : RowAt K H' rw a ns) : Sc K H' rw a ns tP l cs := ⟨r, tabs_but h.t b h.r, b _ _ h.e h.n⟩
def badV : List V := [.int 256, .int (0 - 1), .bl true, .bl false]
theorem bad_items : ∀ v ∈ badV, itemV v = true := by decide
theorem bad_num : ∀ v ∈ badV, ∀ lo hi : Int, 0 ≤ lo → hi ≤ 255 → isNumV v lo hi = false := fun v hv lo hi h1 h2 => by
  rcases List.mem_cons.mp hv with rfl | hv
  · show isNum 256 lo hi = false
    unfold isNum
    rw [decide_eq_false (p := (256 : Int) ≤ hi) (by omega), Bool.and_false]
  rcases List.mem_cons.mp hv with rfl | hv
  · show isNum (0 - 1) lo hi = false
    unfold isNum
    rw [decide_eq_false (p := lo ≤ 0 - 1) (by omega), Bool.false_and]
  rcases List.mem_cons.mp hv with rfl | hv
  · rfl
  · rw [List.mem_singleton.mp hv]
    rfl
theorem bad_at {k : Nat} {v1 : List V} {v : V} (h : v1[k]? = some v) (hb : ∀ lo hi : Int, 0 ≤ lo → hi ≤ 255 → isNumV v lo hi = false) : BadAt k v1 := fun lo hi h1 h2 => by
  have := hb lo hi h1 h2
  unfold numAt
  rw [h]
  cases v with
  | int n =>
    have : isNum n lo hi = false := this
    show (if isNum n lo hi = true then some n else none) = none
    rw [this]
    rfl
  | _ => rfl
theorem mod_ne {c n : Int} (h1 : 0 ≤ c) (h2 : c < 233) (h3 : 0 ≤ n) (h4 : n < 232) : (c + 1 + n) % 233 ≠ c := by omega
theorem pairs_lt : ∀ z ∈ pairsN, z.2 < 18 := by decide
theorem ok2 {t : Str} (h : t = seeS ∨ t = alsoS) : ∀ x ∈ [cardS, t], PyData.strOk x = true := by
  have q : PyData.strOk cardS = true ∧ PyData.strOk seeS = true ∧ PyData.strOk alsoS = true := by decide +kernel
  intro x hx
  rcases List.mem_cons.mp hx with rfl | hx
  · exact q.1
  · rw [List.mem_singleton.mp hx]
    rcases h with rfl | rfl
    · exact q.2.1
    · exact q.2.2
theorem ok_law (T : Top K mg) {c tP : Addr} (hcode : T.fd_llaw_drawer.code = .ref c) (TB : TabB base mg c tP) : FnOk P w K mg base CX0 8 T.a_law T.fd_law ["_law_script"] (spLaw K tP) := by
  refine T.F_law.ok sc_law (fun vs H Q E h => ?_) (fun cdv A outer s H vs Q E hr h => ?_)
  · obtain ⟨a, ns, rfl, _⟩ := h
    rfl
  · obtain ⟨a, ns, rfl, hS, hl, hP, k⟩ := h
    have hu := hu_of hr
    refine ⟨_, (pss_cons (ps_set (i := 1) sc_law.nd rfl (.inl rfl) (pe_lst (pa_cons (pv 0) (pa_cons pe_int (pa_cons pe_int (pa_cons pe_int pa_nil))))))
      (pss_cons (ps_for PassesOwn.never rfl (pi_range1 (by rfl) T.m_range (pa_cons pe_int pa_nil)) (pg_name (i := 2) sc_law.nd rfl (.inl rfl))
        (pss_cons (ps_set (i := 3) sc_law.nd rfl (.inl rfl) (pe_call (ok_encode_drawer T) (hr.mono (by decide)) (by rfl) T.g_encode_drawer T.F_encode_drawer.kp (b_encode_drawer T) .nil pass0 (pa_cons (pe_call (ok_llaw_drawer T hcode TB) (hr.mono (by decide)) (by rfl) T.g_llaw_drawer T.F_llaw_drawer.kp (b_llaw_drawer T) .nil pass0 (pa_cons (pv 1) (pa_cons pe_int pa_nil))) pa_nil)))
        (pss_cons (ps_par (i := 4) (j := 5) (by rfl) sc_law.nd rfl rfl (by decide) rfl rfl (pa_cons (pe_call (ok_llaw_taken T) (hr.mono (by decide)) (by rfl) T.g_llaw_taken T.F_llaw_taken.kp (b_llaw_taken T) .nil pass0 (pa_cons (pv 1) (pa_cons (pe_callB call_len_seq (by rfl) T.m_len (by decide +kernel) (pa_cons (pv 3) pa_nil)) pa_nil))) (pa_cons (pe_op op_sub (pe_callB call_len_seq (by rfl) T.m_len (by decide +kernel) (pa_cons (pv 3) pa_nil)) pe_int) pa_nil)) (by rfl))
        (pss_cons (ps_if (PW.pt (pw_or (pt_cmpR op_ne (pe_call (ok_llaw_offset T) (hr.mono (by decide)) (by rfl) T.g_llaw_offset T.F_llaw_offset.kp (b_llaw_offset T) .nil pass0 (pa_cons (pe_slice sl_list (pv 3) po_none (po_some (pv 4))) pa_nil)) (pv 4) (nomark _)) (pw_or1 (pt_cmpR op_ne (pe_call (ok_llaw_offset T) (hr.mono (by decide)) (by rfl) T.g_llaw_offset T.F_llaw_offset.kp (b_llaw_offset T) .nil pass0 (pa_cons (pe_op op_cat (pv 3) (pe_lst (pa_cons (pe_call (ok_llaw_taken T) (hr.mono (by decide)) (by rfl) T.g_llaw_taken T.F_llaw_taken.kp (b_llaw_taken T) .nil pass0 (pa_cons (pv 1) (pa_cons pe_int pa_nil))) pa_nil))) pa_nil)) (pe_callB call_len_seq (by rfl) T.m_len (by decide +kernel) (pa_cons (pv 3) pa_nil)) (nomark _))))) (pss_one (ps_ret pe_bl)) pss_nil)
        (pss_cons (ps_set (i := 6) sc_law.nd rfl (.inl rfl) (pe_ix ix_list (pe_lst (pa_cons pe_int (pa_cons (pe_op op_sub pe_int pe_int) (pa_cons pe_bl (pa_cons pe_bl pa_nil))))) (pe_call (ok_llaw_taken T) (hr.mono (by decide)) (by rfl) T.g_llaw_taken T.F_llaw_taken.kp (b_llaw_taken T) .nil pass0 (pa_cons (pv 1) (pa_cons pe_int pa_nil))) (fun _ _ => rfl)))
        (pss_cons (ps_if (pt_cmpR op_ne (pe_call (ok_llaw_offset T) (hr.mono (by decide)) (by rfl) T.g_llaw_offset T.F_llaw_offset.kp (b_llaw_offset T) .nil pass0 (pa_cons (pe_op op_cat (pe_op op_cat (pe_slice sl_list (pv 3) po_none (po_some (pv 4))) (pe_lst (pa_cons (pv 6) pa_nil))) (pe_slice sl_list (pv 3) (po_some (pe_op op_add (pv 4) pe_int)) po_none)) pa_nil)) (pv 4) (nomark _)) (pss_one (ps_ret pe_bl)) pss_nil)
        (pss_one (ps_if (pt_cmpR op_ne (pe_call (ok_llaw_offset T) (hr.mono (by decide)) (by rfl) T.g_llaw_offset T.F_llaw_offset.kp (b_llaw_offset T) .nil pass0 (pa_cons (pe_op op_cat (pe_slice sl_list (pv 3) po_none (po_some (pv 5))) (pe_lst (pa_cons (pe_op op_mod (pe_callTy call_int1 (by rfl) T.m_int (by decide +kernel) (pa_cons (pe_op op_add (pe_op op_add (pe_ix ix_list (pv 3) (pv 5) (fun _ _ => rfl)) pe_int) (pe_call (ok_llaw_taken T) (hr.mono (by decide)) (by rfl) T.g_llaw_taken T.F_llaw_taken.kp (b_llaw_taken T) .nil pass0 (pa_cons (pv 1) (pa_cons pe_int pa_nil)))) pa_nil)) pe_int) pa_nil))) pa_nil)) (pv 5) (nomark _)) (pss_one (ps_ret pe_bl)) pss_nil))))))))
      (pss_cons (ps_set (i := 7) sc_law.nd rfl (.inl rfl) (pe_lst (pa_cons pe_int (pa_cons pe_int (pa_cons pe_int (pa_cons pe_int (pa_cons pe_int (pa_cons pe_int (pa_cons pe_int (pa_cons pe_int (pa_cons pe_int (pa_cons pe_int (pa_cons pe_int (pa_cons pe_int (pa_cons pe_int (pa_cons pe_int (pa_cons pe_int (pa_cons pe_int (pa_cons pe_int (pa_cons pe_int pa_nil))))))))))))))))))))
      (pss_cons (ps_if (pt_cmpR op_notN (pe_call (ok_llaw_offset T) (hr.mono (by decide)) (by rfl) T.g_llaw_offset T.F_llaw_offset.kp (b_llaw_offset T) .nil pass0 (pa_cons (pe_call (ok_llaw_checked T) (hr.mono (by decide)) (by rfl) T.g_llaw_checked T.F_llaw_checked.kp (b_llaw_checked T) .nil pass0 (pa_cons (pv 7) pa_nil)) pa_nil)) pe_non (nomark _)) (pss_one (ps_ret pe_bl)) pss_nil)
      (pss_cons (ps_set (i := 8) sc_law.nd rfl (.inl rfl) (pe_lst (pa_cons (pe_tup (pa_cons pe_int (pa_cons pe_int pa_nil))) (pa_cons (pe_tup (pa_cons pe_int (pa_cons pe_int pa_nil))) (pa_cons (pe_tup (pa_cons pe_int (pa_cons pe_int pa_nil))) (pa_cons (pe_tup (pa_cons pe_int (pa_cons pe_int pa_nil))) (pa_cons (pe_tup (pa_cons pe_int (pa_cons pe_int pa_nil))) (pa_cons (pe_tup (pa_cons pe_int (pa_cons pe_int pa_nil))) (pa_cons (pe_tup (pa_cons pe_int (pa_cons pe_int pa_nil))) (pa_cons (pe_tup (pa_cons pe_int (pa_cons pe_int pa_nil))) (pa_cons (pe_tup (pa_cons pe_int (pa_cons pe_int pa_nil))) (pa_cons (pe_tup (pa_cons pe_int (pa_cons pe_int pa_nil))) (pa_cons (pe_tup (pa_cons pe_int (pa_cons pe_int pa_nil))) (pa_cons (pe_tup (pa_cons pe_int (pa_cons pe_int pa_nil))) pa_nil))))))))))))))
      (pss_cons (ps_for PassesOwn.never rfl (pi_list (pe_op op_cat (pv 8) (pe_lst (pa_cons (pe_tup (pa_cons pe_int (pa_cons pe_int pa_nil))) (pa_cons (pe_tup (pa_cons pe_int (pa_cons pe_int pa_nil))) (pa_cons (pe_tup (pa_cons pe_int (pa_cons pe_int pa_nil))) (pa_cons (pe_tup (pa_cons pe_int (pa_cons pe_int pa_nil))) (pa_cons (pe_tup (pa_cons pe_int (pa_cons pe_int pa_nil))) (pa_cons (pe_tup (pa_cons pe_int (pa_cons pe_int pa_nil))) (pa_cons (pe_tup (pa_cons pe_int (pa_cons pe_int pa_nil))) (pa_cons (pe_tup (pa_cons pe_int (pa_cons pe_int pa_nil))) (pa_cons (pe_tup (pa_cons pe_int (pa_cons pe_int pa_nil))) pa_nil)))))))))))) (pg_tup rfl (pgs_cons (pg_name (i := 9) sc_law.nd rfl (.inl rfl)) (pgs_cons (pg_name (i := 10) sc_law.nd rfl (.inl rfl)) pgs_nil)))
        (pss_one (ps_if (pt_cmpR op_ne (pe_call (ok_llaw_offset T) (hr.mono (by decide)) (by rfl) T.g_llaw_offset T.F_llaw_offset.kp (b_llaw_offset T) .nil pass0 (pa_cons (pe_call (ok_llaw_checked T) (hr.mono (by decide)) (by rfl) T.g_llaw_checked T.F_llaw_checked.kp (b_llaw_checked T) .nil pass0 (pa_cons (pe_op op_cat (pe_op op_cat (pe_op op_cat (pe_slice sl_list (pv 7) po_none (po_some (pv 10))) (pe_lst (pa_cons (pv 9) pa_nil))) (pe_slice sl_list (pv 7) (po_some (pe_op op_add (pv 10) pe_int)) po_none)) (pe_lst (pa_cons pe_int pa_nil))) pa_nil)) pa_nil)) (pv 10) (nomark _)) (pss_one (ps_ret pe_bl)) pss_nil)))
      (pss_cons (ps_if (pt_cmpR op_ne (pe_call (ok_llaw_offset T) (hr.mono (by decide)) (by rfl) T.g_llaw_offset T.F_llaw_offset.kp (b_llaw_offset T) .nil pass0 (pa_cons (pe_call (ok_llaw_checked T) (hr.mono (by decide)) (by rfl) T.g_llaw_checked T.F_llaw_checked.kp (b_llaw_checked T) .nil pass0 (pa_cons (pe_lst (pa_cons pe_int (pa_cons pe_int (pa_cons pe_int (pa_cons pe_int (pa_cons pe_int (pa_cons pe_int (pa_cons pe_int (pa_cons pe_int pa_nil))))))))) pa_nil)) pa_nil)) pe_int (nomark _)) (pss_one (ps_ret pe_bl)) pss_nil)
      (pss_cons (ps_if (pt_cmpR op_ne (pe_call (ok_llaw_offset T) (hr.mono (by decide)) (by rfl) T.g_llaw_offset T.F_llaw_offset.kp (b_llaw_offset T) .nil pass0 (pa_cons (pe_call (ok_llaw_checked T) (hr.mono (by decide)) (by rfl) T.g_llaw_checked T.F_llaw_checked.kp (b_llaw_checked T) .nil pass0 (pa_cons (pe_lst (pa_cons pe_int (pa_cons pe_int (pa_cons pe_int (pa_cons pe_int (pa_cons pe_int (pa_cons pe_int (pa_cons pe_int (pa_cons pe_int pa_nil))))))))) pa_nil)) pa_nil)) pe_int (nomark _)) (pss_one (ps_ret pe_bl)) pss_nil)
      (pss_cons (ps_if (pt_cmpR op_ne (pe_call (ok_llaw_offset T) (hr.mono (by decide)) (by rfl) T.g_llaw_offset T.F_llaw_offset.kp (b_llaw_offset T) .nil pass0 (pa_cons (pe_call (ok_llaw_checked T) (hr.mono (by decide)) (by rfl) T.g_llaw_checked T.F_llaw_checked.kp (b_llaw_checked T) .nil pass0 (pa_cons (pe_lst (pa_cons pe_int (pa_cons pe_int (pa_cons pe_int (pa_cons pe_int (pa_cons pe_int (pa_cons pe_int (pa_cons pe_int (pa_cons pe_int (pa_cons pe_int (pa_cons pe_int pa_nil))))))))))) pa_nil)) pa_nil)) pe_int (nomark _)) (pss_one (ps_ret pe_bl)) pss_nil)
      (pss_cons (ps_if (pt_cmpR (op_neD hr.units) (pe_call (ok_llaw_offset T) (hr.mono (by decide)) (by rfl) T.g_llaw_offset T.F_llaw_offset.kp (b_llaw_offset T) .nil pass0 (pa_cons (pe_call (ok_llaw_checked T) (hr.mono (by decide)) (by rfl) T.g_llaw_checked T.F_llaw_checked.kp (b_llaw_checked T) .nil pass0 (pa_cons (pe_lst (pa_cons pe_int (pa_cons pe_int (pa_cons pe_int (pa_cons pe_int (pa_cons pe_int (pa_cons pe_int (pa_cons pe_int pa_nil)))))))) pa_nil)) pa_nil)) (pe_tup (pa_cons pe_str (pa_cons pe_str pa_nil))) (nomark _)) (pss_one (ps_ret pe_bl)) pss_nil)
      (pss_one (ps_ret (pe_cmpR (op_eqD hr.units) (pe_call (ok_llaw_offset T) (hr.mono (by decide)) (by rfl) T.g_llaw_offset T.F_llaw_offset.kp (b_llaw_offset T) .nil pass0 (pa_cons (pe_call (ok_llaw_checked T) (hr.mono (by decide)) (by rfl) T.g_llaw_checked T.F_llaw_checked.kp (b_llaw_checked T) .nil pass0 (pa_cons (pe_lst (pa_cons pe_int (pa_cons pe_int (pa_cons pe_int (pa_cons pe_int (pa_cons pe_int (pa_cons pe_int (pa_cons pe_int (pa_cons pe_int pa_nil))))))))) pa_nil)) pa_nil)) (pe_tup (pa_cons pe_str (pa_cons pe_str pa_nil))) (nomark _)))))))))))))), ?_⟩
    refine ⟨_, rfl, by show 4 ≤ sizeLine; decide, fun rw hrw => ?_⟩
    have R1 : RowAt K (upd H rw (.lst [.ref a, .int 0, .int 0, .int 0])) rw a ns := ⟨0, 0, 0, upd_same, Scr.new hS hrw, by decide, by decide⟩
    have T1 : Tabs [(tP, lamP)] (upd H rw (.lst [.ref a, .int 0, .int 0, .int 0])) := fun p hp => by
      obtain rfl := List.mem_singleton.mp hp
      exact TabS.nil (kp hP hrw)
    generalize upd H rw (.lst [.ref a, .int 0, .int 0, .int 0]) = H1 at *
    clear hrw hS hP
    have hsz := sizeLine_of (show (100000 : Nat) ≤ 1000000 by omega)
    refine ⟨_, rfl, by decide, by decide, for_range (lo := 0) (n := 3) (fun i σ H2 => ∃ y2 y3 y4 y5 y6, σ = [some (.ref a), some (.ref rw), y2, y3, y4, y5, y6, none, none, none, none] ∧ RowAt K H2 rw a ns ∧ Tabs [(tP, lamP)] H2)
      ⟨_, _, _, _, _, rfl, R1, T1⟩ (fun ti σ H2 _ hP => ?_) (fun σ H2 hP => ?_)⟩
    · clear R1 T1 H1
      obtain ⟨y2, y3, y4, y5, y6, rfl, R2, T2⟩ := hP
      refine ⟨_, rfl, rw, a, ns, 5, rfl, by decide, R2, T2, fun d H3 cs hcl bN3 T3 R3 D3 hG hdr => ?_⟩
      clear R2 T2 bN3
      have hg : ∀ c ∈ cs, c.Good := fun c hc => (hG c hc).l.good
      clear hG
      have h16 : cs.length ≤ 16 := by omega
      refine ⟨d, cs, rfl, D3, h16, hg, fun H4 l s4 e4 => ?_⟩
      have S4 : Sc K H4 rw a ns tP l cs := ⟨R3.same s4, T3.ext s4, e4⟩
      clear R3 T3 D3 s4 e4 hdr
      have hcl2 := code_len cs
      have hil : (itemsD cs).length ≤ 352 := by
        have := codesCs_len hg
        unfold itemsD
        rw [List.length_append]
        show 2 + _ ≤ _
        omega
      have hml : ((codeD cs).map V.int).length = (codeD cs).length := List.length_map _
      refine ⟨_, rfl, _, rfl, l, _, rfl, .inl (SqL.of S4.e), ?_⟩
      rw [hml]
      refine ⟨rw, a, ns, ((codeD cs).length : Nat), rfl, by omega, by omega, S4.r, fun n H5 hn b5 R5 => ?_⟩
      have S5 := S4.but b5 R5
      clear S4 b5 R5
      have hn : n < (codeD cs).length := by omega
      refine ⟨_, rfl, l, _, rfl, .inl (SqL.of S5.e), ?_⟩
      rw [hml]
      have hsub : V.int (((codeD cs).length : Int) - 1) = .int ((itemsD cs).length : Nat) := congrArg V.int (by omega)
      refine tC_to (rI0_to (f := fun i j => .int (i - j)) (i := ((codeD cs).length : Nat)) (j := 1) (v := .int ((itemsD cs).length : Nat)) hsub ?_)
      refine ⟨_, _, rfl, ?_⟩
      refine ⟨_, rfl, _, rfl, _, rfl, l, _, rfl, SqL.of S5.e, fun u hu' => ?_⟩
      rw [cut_take]
      have S6 := S5.same (same_new (o := .lst (((codeD cs).map V.int).take n)) hu')
      have htl : (((codeD cs).map V.int).take n).length = n := by rw [List.length_take, hml]; omega
      have hA : rdAll (((codeD cs).map V.int).take n) = .error n := bad_item h16 hg hn (by rw [List.take_take, Nat.min_self]) (fun lo hi _ _ => by
        unfold numAt
        rw [List.getElem?_eq_none (by omega)])
      have iA : Items (((codeD cs).map V.int).take n) := ⟨by omega, fun v hv => (items_ints (ns := codeD cs) (by omega)).v v (List.mem_of_mem_take hv)⟩
      refine ⟨_, _, rfl, upd_same, iA, fun e0 he0 H6 s6 => ?_, fun cs0 o0 ho0 => (nomatch hA.symm.trans ho0)⟩
      cases hA.symm.trans he0
      clear he0
      have S7 := S6.same s6
      clear S5 S6 s6 hu' htl hA iA
      refine ⟨_, rfl, rNe_to (b := false) rfl (ne_int _ _ rfl) ?_⟩
      refine ⟨_, rfl, iteF ?_⟩
      refine ⟨_, rfl, _, rfl, rw, a, ns, 256, rfl, by decide, by decide, S7.r, fun n2 H7 hn2 b7 R7 => ?_⟩
      have S8 := S7.but b7 R7
      clear S7 b7 R7
      refine ⟨by show 1 ≤ sizeLine; decide, fun q hq => ?_⟩
      have S9 := S8.same (same_new (o := .lst [.int (n2 : Nat)]) hq)
      refine ⟨l, q, _, _, rfl, rfl, S9.e, upd_same, by rw [hml]; show _ + 1 ≤ _; omega, fun u hu' => ?_⟩
      have S10 := S9.same (same_new (o := .lst ((codeD cs).map V.int ++ [.int (n2 : Nat)])) hu')
      have hE := one_more h16 hg (.int (n2 : Nat))
      refine ⟨_, _, rfl, upd_same, ⟨by rw [List.length_append, hml]; show _ + 1 ≤ _; omega, fun v hv => ?_⟩, fun e0 he0 H8 s8 => ?_, fun cs0 o0 ho0 => (nomatch hE.symm.trans ho0)⟩
      · rcases List.mem_append.mp hv with hv | hv
        · exact (items_ints (ns := codeD cs) (by omega)).v v hv
        · rw [List.mem_singleton.mp hv]
          rfl
      cases hE.symm.trans he0
      clear he0 hE
      have S11 := S10.same s8
      clear S8 S9 S10 s8 hu' hq
      refine ⟨_, rfl, l, _, rfl, .inl (SqL.of S11.e), ?_⟩
      rw [hml]
      refine rNe_to (b := false) rfl (ne_int _ _ rfl) ?_
      refine ⟨_, rfl, iteF ?_⟩
      refine ⟨_, _, rfl, rfl, ?_⟩
      refine ⟨by show 4 ≤ sizeLine; decide, fun lb hlb => ?_⟩
      have S12 := S11.same (same_new (o := .lst [.int 256, .int (0 - 1), .bl true, .bl false]) hlb)
      have eb : (upd H8 lb (.lst [.int 256, .int (0 - 1), .bl true, .bl false])) lb = some (.lst badV) := upd_same
      have nb := (S11.r.new hlb).1
      generalize upd H8 lb (.lst [.int 256, .int (0 - 1), .bl true, .bl false]) = H9 at *
      refine ⟨_, rfl, rw, a, ns, 4, rfl, by decide, by decide, S12.r, fun n3 H10 hn3 b10 R10 => ?_⟩
      have S13 := S12.but b10 R10
      have e13 := b10 _ _ eb nb
      have hn3 : n3 < badV.length := by show n3 < 4; omega
      have hv3 : badV[n3]? = some badV[n3] := List.getElem?_eq_getElem hn3
      refine ⟨lb, _, (n3 : Nat), badV[n3], rfl, rfl, SqL.of e13, atI_nat hv3, ?_⟩
      have hi3 := bad_items _ (List.mem_of_getElem? hv3)
      have hb3 := bad_num _ (List.mem_of_getElem? hv3)
      generalize badV[n3] = bv at hi3 hb3 ⊢
      clear S11 S12 b10 R10 e13 hv3 eb nb hlb H9 H8
      refine ⟨_, rfl, _, rfl, _, rfl, l, _, rfl, SqL.of S13.e, fun u1 hu1 => ?_⟩
      rw [cut_take]
      have S14 := S13.same (same_new (o := .lst (((codeD cs).map V.int).take n)) hu1)
      have e1 : (upd H10 u1 (.lst (((codeD cs).map V.int).take n))) u1 = some (.lst (((codeD cs).map V.int).take n)) := upd_same
      generalize upd H10 u1 (.lst (((codeD cs).map V.int).take n)) = H11 at *
      refine ⟨_, rfl, by show 1 ≤ sizeLine; decide, fun u2 hu2 => ?_⟩
      have S15 := S14.same (same_new (o := .lst [bv]) hu2)
      have htl : (((codeD cs).map V.int).take n).length = n := by rw [List.length_take, hml]; omega
      refine ⟨u1, u2, _, _, rfl, rfl, (same_new hu2) _ _ e1, upd_same, by rw [htl]; show _ + 1 ≤ _; omega, fun u3 hu3 => ?_⟩
      have S16 := S15.same (same_new (o := .lst (((codeD cs).map V.int).take n ++ [bv])) hu3)
      have e3 : (upd (upd H11 u2 (.lst [bv])) u3 (.lst (((codeD cs).map V.int).take n ++ [bv]))) u3 = some (.lst (((codeD cs).map V.int).take n ++ [bv])) := upd_same
      generalize upd (upd H11 u2 (.lst [bv])) u3 (.lst (((codeD cs).map V.int).take n ++ [bv])) = H12 at *
      clear S13 S14 S15 hu1 hu2 hu3 e1 H11
      refine ⟨_, rfl, _, rfl, _, _, rfl, rfl, _, rfl, l, _, rfl, SqL.of S16.e, fun u4 hu4 => ?_⟩
      have ec : cutV ((codeD cs).map V.int) (some (((n : Nat) : Int) + 1)) none = ((codeD cs).map V.int).drop (n + 1) := by
        rw [show ((n : Nat) : Int) + 1 = ((n + 1 : Nat) : Int) by omega, cut_lo]
      rw [ec]
      have S17 := S16.same (same_new (o := .lst (((codeD cs).map V.int).drop (n + 1))) hu4)
      refine ⟨u3, u4, _, _, rfl, rfl, (same_new hu4) _ _ e3, upd_same, by rw [List.length_append, htl, List.length_drop, hml]; show _ + 1 + _ ≤ _; omega, fun u5 hu5 => ?_⟩
      have S18 := S17.same (same_new (o := .lst (((codeD cs).map V.int).take n ++ [bv] ++ ((codeD cs).map V.int).drop (n + 1))) hu5)
      have gat : (((codeD cs).map V.int).take n ++ [bv] ++ ((codeD cs).map V.int).drop (n + 1))[n]? = some bv := by
        rw [List.append_assoc, List.getElem?_append_right (by omega), htl, Nat.sub_self]
        rfl
      have hE := bad_item h16 hg hn (v1 := ((codeD cs).map V.int).take n ++ [bv] ++ ((codeD cs).map V.int).drop (n + 1)) (by rw [List.append_assoc]; exact List.take_left' htl) (bad_at gat hb3)
      refine ⟨_, _, rfl, upd_same, ⟨by rw [List.length_append, List.length_append, htl, List.length_drop, hml]; show _ + 1 + _ ≤ _; omega, fun v hv => ?_⟩, fun e0 he0 H13 s13 => ?_, fun cs0 o0 ho0 => (nomatch hE.symm.trans ho0)⟩
      · rcases List.mem_append.mp hv with hv | hv
        · rcases List.mem_append.mp hv with hv | hv
          · exact (items_ints (ns := codeD cs) (by omega)).v v (List.mem_of_mem_take hv)
          · rw [List.mem_singleton.mp hv]
            exact hi3
        · exact (items_ints (ns := codeD cs) (by omega)).v v (List.mem_of_mem_drop hv)
      cases hE.symm.trans he0
      clear he0 hE
      have S19 := S18.same s13
      clear S16 S17 S18 s13 hu4 hu5 gat e3 ec htl
      refine ⟨_, rfl, rNe_to (b := false) rfl (ne_int _ _ rfl) ?_⟩
      refine ⟨_, rfl, iteF ?_⟩
      refine ⟨_, rfl, _, rfl, _, rfl, l, _, rfl, SqL.of S19.e, fun u1 hu1 => ?_⟩
      have htk : ((codeD cs).map V.int).take (itemsD cs).length = (itemsD cs).map V.int := by
        rw [code_V]
        exact List.take_left' (List.length_map _)
      rw [cut_take, htk]
      have S20 := S19.same (same_new (o := .lst ((itemsD cs).map V.int)) hu1)
      have e1 : (upd H13 u1 (.lst ((itemsD cs).map V.int))) u1 = some (.lst ((itemsD cs).map V.int)) := upd_same
      have nu := (S19.r.new hu1).1
      generalize upd H13 u1 (.lst ((itemsD cs).map V.int)) = H14 at *
      have hlast : ((codeD cs).map V.int)[(itemsD cs).length]? = some (.int (chkOf 7 (itemsD cs))) := by
        rw [code_V, List.getElem?_append_right (by rw [List.length_map]; exact Nat.le_refl _), List.length_map, Nat.sub_self]
        rfl
      refine ⟨_, rfl, _, rfl, l, _, ((itemsD cs).length : Nat), _, rfl, rfl, SqL.of S20.e, atI_nat hlast, ?_⟩
      refine ⟨_, _, rfl, rfl, ?_⟩
      refine ⟨_, rfl, rw, a, ns, 232, rfl, by decide, by decide, S20.r, fun n5 H15 hn5 b15 R15 => ?_⟩
      have S21 := S20.but b15 R15
      have e15 := b15 _ _ e1 nu
      obtain ⟨c1, c2⟩ := chk_rng (itemsD cs)
      have hne := mod_ne c1 c2 (n := (n5 : Nat)) (by omega) (by omega)
      generalize hck : chkOf 7 (itemsD cs) = ck at *
      refine ⟨_, _, rfl, rfl, .inl ⟨_, rfl, _, _, rfl, rfl, by show (0 : Int) < 233; decide, ?_⟩⟩
      refine ⟨by show 1 ≤ sizeLine; decide, fun u2 hu2 => ?_⟩
      have S22 := S21.same (same_new (o := .lst [.int ((ck + 1 + (n5 : Nat)) % 233)]) hu2)
      refine ⟨u1, u2, _, _, rfl, rfl, (same_new hu2) _ _ e15, upd_same, by rw [List.length_map]; show _ + 1 ≤ _; omega, fun u3 hu3 => ?_⟩
      have S23 := S22.same (same_new (o := .lst ((itemsD cs).map V.int ++ [.int ((ck + 1 + (n5 : Nat)) % 233)])) hu3)
      have hE := other_chk h16 hg (by rw [hck]; exact hne)
      refine ⟨_, _, rfl, upd_same, ⟨by rw [List.length_append, List.length_map]; show _ + 1 ≤ _; omega, fun v hv => ?_⟩, fun e0 he0 H16 s16 => ?_, fun cs0 o0 ho0 => (nomatch hE.symm.trans ho0)⟩
      · rcases List.mem_append.mp hv with hv | hv
        · exact (items_ints (ns := itemsD cs) (by omega)).v v hv
        · rw [List.mem_singleton.mp hv]
          rfl
      cases hE.symm.trans he0
      clear he0 hE
      have S24 := S23.same s16
      refine ⟨_, rfl, rNe_to (b := false) rfl (ne_int _ _ rfl) ?_⟩
      refine ⟨_, rfl, iteF ?_⟩
      exact ⟨_, _, _, _, _, rfl, S24.r, S24.t⟩
    · obtain ⟨y2, y3, y4, y5, y6, rfl, R2, T2⟩ := hP
      clear R2 T2 R1 T1
      refine ⟨by show 18 ≤ sizeLine; decide, fun lb hlb => ?_⟩
      have eb : (upd H2 lb (.lst [.int 97, .int 2, .int 1, .int 4, .int 3, .int 0, .int 9, .int 1, .int 2, .int 1, .int 1, .int 3, .int 2, .int 1, .int 2, .int 0, .int 1, .int 5])) lb = some (.lst (baseN.map V.int)) := upd_same
      generalize upd H2 lb (.lst [.int 97, .int 2, .int 1, .int 4, .int 3, .int 0, .int 9, .int 1, .int 2, .int 1, .int 1, .int 3, .int 2, .int 1, .int 2, .int 0, .int 1, .int 5]) = Ha at *
      clear hlb
      refine ⟨_, rfl, lb, baseN, rfl, eb, by decide, fun Hc p sc ec => ?_⟩
      obtain ⟨cs1, o1, ok1, eo1⟩ := outR_at f_base
      refine ⟨_, _, rfl, ec, items_ints (by decide), fun e0 he0 => (nomatch ok1.symm.trans he0), fun cs0 o0 ho0 => ?_⟩
      cases ok1.symm.trans ho0
      refine ⟨fun t0 ht0 => (nomatch eo1.symm.trans ht0), fun _ Hb sb => ?_⟩
      clear ho0 ok1 eo1
      replace eb := sb _ _ (sc _ _ eb)
      clear sb sc ec Hc
      refine ⟨rfl, _, rfl, iteF ?_⟩
      have P10 : PairsI K Hb [] [] := trivial
      have S10 : Same Hb Hb := Same.refl _
      refine ⟨by show 2 ≤ sizeLine; decide, fun t11 ht11 => ?_⟩
      have P11 := P10.snoc (t := t11) (96, 0) (same_new (o := .tup [.int 96, .int 0]) ht11) (SqT.of upd_same)
      have S11 := S10.trans (same_new (o := .tup [.int 96, .int 0]) ht11)
      generalize upd Hb t11 (.tup [.int 96, .int 0]) = Hx1_1 at *
      clear P10 S10 ht11
      refine ⟨by show 2 ≤ sizeLine; decide, fun t12 ht12 => ?_⟩
      have P12 := P11.snoc (t := t12) (17, 1) (same_new (o := .tup [.int 17, .int 1]) ht12) (SqT.of upd_same)
      have S12 := S11.trans (same_new (o := .tup [.int 17, .int 1]) ht12)
      generalize upd Hx1_1 t12 (.tup [.int 17, .int 1]) = Hx1_2 at *
      clear P11 S11 ht12
      refine ⟨by show 2 ≤ sizeLine; decide, fun t13 ht13 => ?_⟩
      have P13 := P12.snoc (t := t13) (0, 2) (same_new (o := .tup [.int 0, .int 2]) ht13) (SqT.of upd_same)
      have S13 := S12.trans (same_new (o := .tup [.int 0, .int 2]) ht13)
      generalize upd Hx1_2 t13 (.tup [.int 0, .int 2]) = Hx1_3 at *
      clear P12 S12 ht13
      refine ⟨by show 2 ≤ sizeLine; decide, fun t14 ht14 => ?_⟩
      have P14 := P13.snoc (t := t14) (9, 2) (same_new (o := .tup [.int 9, .int 2]) ht14) (SqT.of upd_same)
      have S14 := S13.trans (same_new (o := .tup [.int 9, .int 2]) ht14)
      generalize upd Hx1_3 t14 (.tup [.int 9, .int 2]) = Hx1_4 at *
      clear P13 S13 ht14
      refine ⟨by show 2 ≤ sizeLine; decide, fun t15 ht15 => ?_⟩
      have P15 := P14.snoc (t := t15) (0, 3) (same_new (o := .tup [.int 0, .int 3]) ht15) (SqT.of upd_same)
      have S15 := S14.trans (same_new (o := .tup [.int 0, .int 3]) ht15)
      generalize upd Hx1_4 t15 (.tup [.int 0, .int 3]) = Hx1_5 at *
      clear P14 S14 ht15
      refine ⟨by show 2 ≤ sizeLine; decide, fun t16 ht16 => ?_⟩
      have P16 := P15.snoc (t := t16) (27, 3) (same_new (o := .tup [.int 27, .int 3]) ht16) (SqT.of upd_same)
      have S16 := S15.trans (same_new (o := .tup [.int 27, .int 3]) ht16)
      generalize upd Hx1_5 t16 (.tup [.int 27, .int 3]) = Hx1_6 at *
      clear P15 S15 ht16
      refine ⟨by show 2 ≤ sizeLine; decide, fun t17 ht17 => ?_⟩
      have P17 := P16.snoc (t := t17) (8, 4) (same_new (o := .tup [.int 8, .int 4]) ht17) (SqT.of upd_same)
      have S17 := S16.trans (same_new (o := .tup [.int 8, .int 4]) ht17)
      generalize upd Hx1_6 t17 (.tup [.int 8, .int 4]) = Hx1_7 at *
      clear P16 S16 ht17
      refine ⟨by show 2 ≤ sizeLine; decide, fun t18 ht18 => ?_⟩
      have P18 := P17.snoc (t := t18) (4, 5) (same_new (o := .tup [.int 4, .int 5]) ht18) (SqT.of upd_same)
      have S18 := S17.trans (same_new (o := .tup [.int 4, .int 5]) ht18)
      generalize upd Hx1_7 t18 (.tup [.int 4, .int 5]) = Hx1_8 at *
      clear P17 S17 ht18
      refine ⟨by show 2 ≤ sizeLine; decide, fun t19 ht19 => ?_⟩
      have P19 := P18.snoc (t := t19) (4, 7) (same_new (o := .tup [.int 4, .int 7]) ht19) (SqT.of upd_same)
      have S19 := S18.trans (same_new (o := .tup [.int 4, .int 7]) ht19)
      generalize upd Hx1_8 t19 (.tup [.int 4, .int 7]) = Hx1_9 at *
      clear P18 S18 ht19
      refine ⟨by show 2 ≤ sizeLine; decide, fun t110 ht110 => ?_⟩
      have P110 := P19.snoc (t := t110) (5, 9) (same_new (o := .tup [.int 5, .int 9]) ht110) (SqT.of upd_same)
      have S110 := S19.trans (same_new (o := .tup [.int 5, .int 9]) ht110)
      generalize upd Hx1_9 t110 (.tup [.int 5, .int 9]) = Hx1_10 at *
      clear P19 S19 ht110
      refine ⟨by show 2 ≤ sizeLine; decide, fun t111 ht111 => ?_⟩
      have P111 := P110.snoc (t := t111) (0, 10) (same_new (o := .tup [.int 0, .int 10]) ht111) (SqT.of upd_same)
      have S111 := S110.trans (same_new (o := .tup [.int 0, .int 10]) ht111)
      generalize upd Hx1_10 t111 (.tup [.int 0, .int 10]) = Hx1_11 at *
      clear P110 S110 ht111
      refine ⟨by show 2 ≤ sizeLine; decide, fun t112 ht112 => ?_⟩
      have P112 := P111.snoc (t := t112) (9, 10) (same_new (o := .tup [.int 9, .int 10]) ht112) (SqT.of upd_same)
      have S112 := S111.trans (same_new (o := .tup [.int 9, .int 10]) ht112)
      generalize upd Hx1_11 t112 (.tup [.int 9, .int 10]) = Hx1_12 at *
      clear P111 S111 ht112
      refine ⟨by show 12 ≤ sizeLine; decide, fun l1 hl1 => ?_⟩
      have e1 : (upd Hx1_12 l1 (.lst [.ref t11, .ref t12, .ref t13, .ref t14, .ref t15, .ref t16, .ref t17, .ref t18, .ref t19, .ref t110, .ref t111, .ref t112])) l1 = some (.lst [.ref t11, .ref t12, .ref t13, .ref t14, .ref t15, .ref t16, .ref t17, .ref t18, .ref t19, .ref t110, .ref t111, .ref t112]) := upd_same
      have S1 := S112.trans (same_new (o := .lst [.ref t11, .ref t12, .ref t13, .ref t14, .ref t15, .ref t16, .ref t17, .ref t18, .ref t19, .ref t110, .ref t111, .ref t112]) hl1)
      have P1 : PairsI K (upd Hx1_12 l1 (.lst [.ref t11, .ref t12, .ref t13, .ref t14, .ref t15, .ref t16, .ref t17, .ref t18, .ref t19, .ref t110, .ref t111, .ref t112])) [.ref t11, .ref t12, .ref t13, .ref t14, .ref t15, .ref t16, .ref t17, .ref t18, .ref t19, .ref t110, .ref t111, .ref t112] pairs1 := P112.imm (same_new hl1).imm
      generalize upd Hx1_12 l1 (.lst [.ref t11, .ref t12, .ref t13, .ref t14, .ref t15, .ref t16, .ref t17, .ref t18, .ref t19, .ref t110, .ref t111, .ref t112]) = Hl1 at *
      generalize ([.ref t11, .ref t12, .ref t13, .ref t14, .ref t15, .ref t16, .ref t17, .ref t18, .ref t19, .ref t110, .ref t111, .ref t112] : List V) = V1 at *
      clear P112 S112 hl1
      replace eb := S1 _ _ eb
      clear S1
      refine ⟨_, rfl, ?_⟩
      have P20 : PairsI K Hl1 [] [] := trivial
      have S20 : Same Hl1 Hl1 := Same.refl _
      refine ⟨by show 2 ≤ sizeLine; decide, fun t21 ht21 => ?_⟩
      have P21 := P20.snoc (t := t21) (0, 11) (same_new (o := .tup [.int 0, .int 11]) ht21) (SqT.of upd_same)
      have S21 := S20.trans (same_new (o := .tup [.int 0, .int 11]) ht21)
      generalize upd Hl1 t21 (.tup [.int 0, .int 11]) = Hx2_1 at *
      clear P20 S20 ht21
      refine ⟨by show 2 ≤ sizeLine; decide, fun t22 ht22 => ?_⟩
      have P22 := P21.snoc (t := t22) (27, 11) (same_new (o := .tup [.int 27, .int 11]) ht22) (SqT.of upd_same)
      have S22 := S21.trans (same_new (o := .tup [.int 27, .int 11]) ht22)
      generalize upd Hx2_1 t22 (.tup [.int 27, .int 11]) = Hx2_2 at *
      clear P21 S21 ht22
      refine ⟨by show 2 ≤ sizeLine; decide, fun t23 ht23 => ?_⟩
      have P23 := P22.snoc (t := t23) (0, 12) (same_new (o := .tup [.int 0, .int 12]) ht23) (SqT.of upd_same)
      have S23 := S22.trans (same_new (o := .tup [.int 0, .int 12]) ht23)
      generalize upd Hx2_2 t23 (.tup [.int 0, .int 12]) = Hx2_3 at *
      clear P22 S22 ht23
      refine ⟨by show 2 ≤ sizeLine; decide, fun t24 ht24 => ?_⟩
      have P24 := P23.snoc (t := t24) (27, 13) (same_new (o := .tup [.int 27, .int 13]) ht24) (SqT.of upd_same)
      have S24 := S23.trans (same_new (o := .tup [.int 27, .int 13]) ht24)
      generalize upd Hx2_3 t24 (.tup [.int 27, .int 13]) = Hx2_4 at *
      clear P23 S23 ht24
      refine ⟨by show 2 ≤ sizeLine; decide, fun t25 ht25 => ?_⟩
      have P25 := P24.snoc (t := t25) (8, 15) (same_new (o := .tup [.int 8, .int 15]) ht25) (SqT.of upd_same)
      have S25 := S24.trans (same_new (o := .tup [.int 8, .int 15]) ht25)
      generalize upd Hx2_4 t25 (.tup [.int 8, .int 15]) = Hx2_5 at *
      clear P24 S24 ht25
      refine ⟨by show 2 ≤ sizeLine; decide, fun t26 ht26 => ?_⟩
      have P26 := P25.snoc (t := t26) (0, 16) (same_new (o := .tup [.int 0, .int 16]) ht26) (SqT.of upd_same)
      have S26 := S25.trans (same_new (o := .tup [.int 0, .int 16]) ht26)
      generalize upd Hx2_5 t26 (.tup [.int 0, .int 16]) = Hx2_6 at *
      clear P25 S25 ht26
      refine ⟨by show 2 ≤ sizeLine; decide, fun t27 ht27 => ?_⟩
      have P27 := P26.snoc (t := t27) (9, 16) (same_new (o := .tup [.int 9, .int 16]) ht27) (SqT.of upd_same)
      have S27 := S26.trans (same_new (o := .tup [.int 9, .int 16]) ht27)
      generalize upd Hx2_6 t27 (.tup [.int 9, .int 16]) = Hx2_7 at *
      clear P26 S26 ht27
      refine ⟨by show 2 ≤ sizeLine; decide, fun t28 ht28 => ?_⟩
      have P28 := P27.snoc (t := t28) (0, 17) (same_new (o := .tup [.int 0, .int 17]) ht28) (SqT.of upd_same)
      have S28 := S27.trans (same_new (o := .tup [.int 0, .int 17]) ht28)
      generalize upd Hx2_7 t28 (.tup [.int 0, .int 17]) = Hx2_8 at *
      clear P27 S27 ht28
      refine ⟨by show 2 ≤ sizeLine; decide, fun t29 ht29 => ?_⟩
      have P29 := P28.snoc (t := t29) (27, 17) (same_new (o := .tup [.int 27, .int 17]) ht29) (SqT.of upd_same)
      have S29 := S28.trans (same_new (o := .tup [.int 27, .int 17]) ht29)
      generalize upd Hx2_8 t29 (.tup [.int 27, .int 17]) = Hx2_9 at *
      clear P28 S28 ht29
      refine ⟨by show 9 ≤ sizeLine; decide, fun l2 hl2 => ?_⟩
      have e2 : (upd Hx2_9 l2 (.lst [.ref t21, .ref t22, .ref t23, .ref t24, .ref t25, .ref t26, .ref t27, .ref t28, .ref t29])) l2 = some (.lst [.ref t21, .ref t22, .ref t23, .ref t24, .ref t25, .ref t26, .ref t27, .ref t28, .ref t29]) := upd_same
      have S2 := S29.trans (same_new (o := .lst [.ref t21, .ref t22, .ref t23, .ref t24, .ref t25, .ref t26, .ref t27, .ref t28, .ref t29]) hl2)
      have P2 : PairsI K (upd Hx2_9 l2 (.lst [.ref t21, .ref t22, .ref t23, .ref t24, .ref t25, .ref t26, .ref t27, .ref t28, .ref t29])) [.ref t21, .ref t22, .ref t23, .ref t24, .ref t25, .ref t26, .ref t27, .ref t28, .ref t29] pairs2 := P29.imm (same_new hl2).imm
      generalize upd Hx2_9 l2 (.lst [.ref t21, .ref t22, .ref t23, .ref t24, .ref t25, .ref t26, .ref t27, .ref t28, .ref t29]) = Hl2 at *
      generalize ([.ref t21, .ref t22, .ref t23, .ref t24, .ref t25, .ref t26, .ref t27, .ref t28, .ref t29] : List V) = V2 at *
      clear P29 S29 hl2
      replace eb := S2 _ _ eb
      replace e1 := S2 _ _ e1
      have hv1 := P1.len
      have hv2 := P2.len
      have h12 : pairs1.length = 12 := rfl
      have h22 : pairs2.length = 9 := rfl
      refine ⟨l1, l2, _, _, rfl, rfl, e1, e2, by omega, fun lq hlq => ?_⟩
      have sq : Same Hl2 (upd Hl2 lq (.lst (V1 ++ V2))) := same_new hlq
      have PN : PairsI K (upd Hl2 lq (.lst (V1 ++ V2))) (V1 ++ V2) pairsN := ((P1.imm S2.imm).app P2).imm sq.imm
      have eq : (upd Hl2 lq (.lst (V1 ++ V2))) lq = some (.lst (V1 ++ V2)) := upd_same
      replace eb := sq _ _ eb
      generalize upd Hl2 lq (.lst (V1 ++ V2)) = Hq at *
      generalize V1 ++ V2 = VN at *
      clear P1 P2 e1 e2 S2 sq hlq hv1 hv2
      refine ⟨lq, rfl, ⟨_, SqL.of eq⟩, for_list (K := K) (a := lq) (xs := VN) (fun i σ H => ∃ y9 y10, σ = [some (.ref a), some (.ref rw), y2, y3, y4, y5, y6, some (.ref lb), some (.ref l1), y9, y10] ∧ Same Hq H) ⟨_, _, rfl, Same.refl _⟩ (fun i σ H _ ⟨_, _, _, s⟩ => SqL.of (s _ _ eq)) (fun i x σ H hi hP => ?_) (fun σ H hP => ?_)⟩
      · obtain ⟨y9, y10, rfl, sH⟩ := hP
        obtain ⟨tp, z, rfl, hz, htp⟩ := PN.get hi
        have hzm := List.mem_of_getElem? hz
        have hz18 := pairs_lt z hzm
        have hfz := f_pairs z hzm
        replace htp := sH.imm.seqT htp
        have ebH := sH _ _ eb
        refine ⟨tp, _, rfl, htp, rfl, _, _, rfl, _, _, rfl, rfl, ?_⟩
        have hbl : (baseN.map V.int).length = 18 := rfl
        refine ⟨_, rfl, _, rfl, _, rfl, lb, _, rfl, SqL.of ebH, fun u1 hu1 => ?_⟩
        rw [cut_take]
        have s1 : Same H (upd H u1 (.lst ((baseN.map V.int).take z.2))) := same_new hu1
        have e1 : (upd H u1 (.lst ((baseN.map V.int).take z.2))) u1 = some (.lst ((baseN.map V.int).take z.2)) := upd_same
        generalize upd H u1 (.lst ((baseN.map V.int).take z.2)) = Hd at *
        refine ⟨_, rfl, by show 1 ≤ sizeLine; decide, fun u2 hu2 => ?_⟩
        have s2 := s1.trans (same_new (o := .lst [.int z.1]) hu2)
        have hsz2 : ((baseN.map V.int).take z.2).length ≤ 18 := by rw [List.length_take, hbl]; omega
        have hsz3 : ((baseN.map V.int).drop (z.2 + 1)).length ≤ 18 := by rw [List.length_drop, hbl]; omega
        refine ⟨u1, u2, _, _, rfl, rfl, (same_new hu2) _ _ e1, upd_same, by show _ + 1 ≤ _; omega, fun u3 hu3 => ?_⟩
        have s3 := s2.trans (same_new (o := .lst ((baseN.map V.int).take z.2 ++ [.int z.1])) hu3)
        have e3 : (upd (upd Hd u2 (.lst [.int z.1])) u3 (.lst ((baseN.map V.int).take z.2 ++ [.int z.1]))) u3 = some (.lst ((baseN.map V.int).take z.2 ++ [.int z.1])) := upd_same
        generalize upd (upd Hd u2 (.lst [.int z.1])) u3 (.lst ((baseN.map V.int).take z.2 ++ [.int z.1])) = He at *
        refine ⟨_, rfl, _, rfl, _, _, rfl, rfl, _, rfl, lb, _, rfl, SqL.of (s3 _ _ ebH), fun u4 hu4 => ?_⟩
        have ec : cutV (baseN.map V.int) (some (((z.2 : Nat) : Int) + 1)) none = (baseN.map V.int).drop (z.2 + 1) := by
          rw [show ((z.2 : Nat) : Int) + 1 = ((z.2 + 1 : Nat) : Int) by omega, cut_lo]
        rw [ec]
        have s4 := s3.trans (same_new (o := .lst ((baseN.map V.int).drop (z.2 + 1))) hu4)
        refine ⟨u3, u4, _, _, rfl, rfl, (same_new hu4) _ _ e3, upd_same, by rw [List.length_append]; show _ + 1 + _ ≤ _; omega, fun u5 hu5 => ?_⟩
        have s5 := s4.trans (same_new (o := .lst ((baseN.map V.int).take z.2 ++ [.int z.1] ++ (baseN.map V.int).drop (z.2 + 1))) hu5)
        have e5 : (upd (upd He u4 (.lst ((baseN.map V.int).drop (z.2 + 1)))) u5 (.lst ((baseN.map V.int).take z.2 ++ [.int z.1] ++ (baseN.map V.int).drop (z.2 + 1)))) u5 = some (.lst ((baseN.map V.int).take z.2 ++ [.int z.1] ++ (baseN.map V.int).drop (z.2 + 1))) := upd_same
        generalize upd (upd He u4 (.lst ((baseN.map V.int).drop (z.2 + 1)))) u5 (.lst ((baseN.map V.int).take z.2 ++ [.int z.1] ++ (baseN.map V.int).drop (z.2 + 1))) = Hf at *
        refine ⟨by show 1 ≤ sizeLine; decide, fun u6 hu6 => ?_⟩
        have s6 := s5.trans (same_new (o := .lst [.int 0]) hu6)
        refine ⟨u5, u6, _, _, rfl, rfl, (same_new hu6) _ _ e5, upd_same, by rw [List.length_append, List.length_append]; show _ + 1 + _ + 1 ≤ _; omega, fun u7 hu7 => ?_⟩
        have em : (baseN.map V.int).take z.2 ++ [.int z.1] ++ (baseN.map V.int).drop (z.2 + 1) ++ [.int 0] = (midN z).map V.int := by
          unfold midN
          simp only [List.map_append, List.map_take, List.map_drop, List.map_cons, List.map_nil]
        rw [em]
        have s7 := s6.trans (same_new (o := .lst ((midN z).map V.int)) hu7)
        refine ⟨u7, midN z, rfl, upd_same, by have := mid_items z; omega, fun Hg p sg eg => ?_⟩
        have hE := offO_at hfz
        refine ⟨_, _, rfl, eg, items_ints (by rw [List.length_append]; have := mid_items z; show _ + 1 ≤ _; omega), fun e0 he0 Hh sh => ?_, fun cs0 o0 ho0 => (nomatch hE.symm.trans ho0)⟩
        cases hE.symm.trans he0
        refine ⟨_, rfl, rNe_to (b := false) rfl (ne_int _ _ rfl) ?_⟩
        refine ⟨_, rfl, iteF ?_⟩
        exact ⟨_, _, rfl, ((sH.trans s7).trans sg).trans sh⟩
      · obtain ⟨y9, y10, rfl, sH⟩ := hP
        refine ⟨by show 8 ≤ sizeLine; decide, fun x1 hx1 => ?_⟩
        refine ⟨x1, [97, 1, 1, 1, 2, 3, 232, 0], rfl, upd_same, by decide, fun G1 p1 sg1 eg1 => ?_⟩
        have hE1 := offO_at f_1
        refine ⟨_, _, rfl, eg1, items_ints (by decide), fun e0 he0 G2 sg2 => ?_, fun cs0 o0 ho0 => (nomatch hE1.symm.trans ho0)⟩
        cases hE1.symm.trans he0
        refine tC_to (rNe_to (b := false) rfl (ne_int _ _ rfl) ?_)
        refine ⟨_, rfl, iteF ?_⟩
        refine ⟨by show 8 ≤ sizeLine; decide, fun x2 hx2 => ?_⟩
        refine ⟨x2, [97, 1, 1, 1, 2, 0, 0, 0], rfl, upd_same, by decide, fun G3 p2 sg3 eg3 => ?_⟩
        have hE2 := offO_at f_2
        refine ⟨_, _, rfl, eg3, items_ints (by decide), fun e0 he0 G4 sg4 => ?_, fun cs0 o0 ho0 => (nomatch hE2.symm.trans ho0)⟩
        cases hE2.symm.trans he0
        refine tC_to (rNe_to (b := false) rfl (ne_int _ _ rfl) ?_)
        refine ⟨_, rfl, iteF ?_⟩
        refine ⟨by show 10 ≤ sizeLine; decide, fun x3 hx3 => ?_⟩
        refine ⟨x3, [97, 1, 1, 1, 3, 0, 9, 0, 9, 0], rfl, upd_same, by decide, fun G5 p3 sg5 eg5 => ?_⟩
        have hE3 := offO_at f_3
        refine ⟨_, _, rfl, eg5, items_ints (by decide), fun e0 he0 G6 sg6 => ?_, fun cs0 o0 ho0 => (nomatch hE3.symm.trans ho0)⟩
        cases hE3.symm.trans he0
        refine tC_to (rNe_to (b := false) rfl (ne_int _ _ rfl) ?_)
        refine ⟨_, rfl, iteF ?_⟩
        refine ⟨by show 7 ≤ sizeLine; decide, fun x4 hx4 => ?_⟩
        refine ⟨x4, [97, 1, 1, 1, 0, 1, 1], rfl, upd_same, by decide, fun G7 p4 sg7 eg7 => ?_⟩
        obtain ⟨cs4, o4, ok4, eo4⟩ := outR_at f_4
        refine ⟨_, _, rfl, eg7, items_ints (by decide), fun e0 he0 => (nomatch ok4.symm.trans he0), fun cs0 o0 ho0 => ?_⟩
        cases ok4.symm.trans ho0
        refine ⟨fun t0 ht0 G8 a4 sg8 h4 => ?_, fun hn0 => (nomatch eo4.symm.trans hn0)⟩
        cases eo4.symm.trans ht0
        refine ⟨by show 2 ≤ sizeLine; decide, fun t4 ht4 => ?_⟩
        refine rNeD_self (dp_tStrs (ws := [cardS, seeS]) ((same_new ht4).seqT h4)) (dp_tStrs (ws := [cardS, seeS]) (SqT.of upd_same)) (sh_tStrs _ (ok2 (.inl rfl))) ?_
        refine ⟨_, rfl, iteF ?_⟩
        refine ⟨by show 8 ≤ sizeLine; decide, fun x5 hx5 => ?_⟩
        refine ⟨x5, [97, 1, 1, 1, 1, 1, 1, 1], rfl, upd_same, by decide, fun G9 p5 sg9 eg9 => ?_⟩
        obtain ⟨cs5, o5, ok5, eo5⟩ := outR_at f_5
        refine ⟨_, _, rfl, eg9, items_ints (by decide), fun e0 he0 => (nomatch ok5.symm.trans he0), fun cs0 o0 ho0 => ?_⟩
        cases ok5.symm.trans ho0
        refine ⟨fun t0 ht0 G10 a5 sg10 h5 => ?_, fun hn0 => (nomatch eo5.symm.trans hn0)⟩
        cases eo5.symm.trans ht0
        refine ⟨by show 2 ≤ sizeLine; decide, fun t5 ht5 => ?_⟩
        refine rEqD_self (dp_tStrs (ws := [cardS, alsoS]) ((same_new ht5).seqT h5)) (dp_tStrs (ws := [cardS, alsoS]) (SqT.of upd_same)) (sh_tStrs _ (ok2 (.inr rfl))) ?_
        exact k _
end
end
end My
namespace My
open PySem L2
open LamX in
theorem all_mk {l : PySem.W.OpenLaw} {w : World} {K : PySem.W.Frag} {h : Heap} {mg : Str → Option Value} {fa : Addr}
    {t_LETTERS : Tok} {t_LONGEST_WORD : Tok} {t_MOST_BOOKS : Tok} {t_LAST_BOOK : Tok} {t_MOST_ALSO : Tok} {t_MOST_CARDS : Tok} {t_MARK : Tok} {t_FIRST_CHECKSUM : Tok} {f_InvalidCard_init : Addr} {oc_InvalidCard_init : Value} {od_InvalidCard_init : Option Addr} {an_InvalidCard_init : Option Addr} {sl_InvalidCard_init : Array (Option Value)} {kV_InvalidCard_init : Value} {dc_InvalidCard_init : Value} {pm_InvalidCard_init : Value} {cd_InvalidCard_init : Value} {ct_InvalidCard_init : Value} {f_DecodeError_init : Addr} {oc_DecodeError_init : Value} {od_DecodeError_init : Option Addr} {an_DecodeError_init : Option Addr} {sl_DecodeError_init : Array (Option Value)} {kV_DecodeError_init : Value} {dc_DecodeError_init : Value} {pm_DecodeError_init : Value} {cd_DecodeError_init : Value} {ct_DecodeError_init : Value} {f_is_word : Addr} {oc_is_word : Value} {od_is_word : Option Addr} {an_is_word : Option Addr} {sl_is_word : Array (Option Value)} {kV_is_word : Value} {dc_is_word : Value} {pm_is_word : Value} {cd_is_word : Value} {ct_is_word : Value} {f_is_number : Addr} {oc_is_number : Value} {od_is_number : Option Addr} {an_is_number : Option Addr} {sl_is_number : Array (Option Value)} {kV_is_number : Value} {dc_is_number : Value} {pm_is_number : Value} {cd_is_number : Value} {ct_is_number : Value} {f_are_books : Addr} {oc_are_books : Value} {od_are_books : Option Addr} {an_are_books : Option Addr} {sl_are_books : Array (Option Value)} {kV_are_books : Value} {dc_are_books : Value} {pm_are_books : Value} {cd_are_books : Value} {ct_are_books : Value} {f_is_target : Addr} {oc_is_target : Value} {od_is_target : Option Addr} {an_is_target : Option Addr} {sl_is_target : Array (Option Value)} {kV_is_target : Value} {dc_is_target : Value} {pm_is_target : Value} {cd_is_target : Value} {ct_is_target : Value} {f_are_further : Addr} {oc_are_further : Value} {od_are_further : Option Addr} {an_are_further : Option Addr} {sl_are_further : Array (Option Value)} {kV_are_further : Value} {dc_are_further : Value} {pm_are_further : Value} {cd_are_further : Value} {ct_are_further : Value} {f_wrong_part : Addr} {oc_wrong_part : Value} {od_wrong_part : Option Addr} {an_wrong_part : Option Addr} {sl_wrong_part : Array (Option Value)} {kV_wrong_part : Value} {dc_wrong_part : Value} {pm_wrong_part : Value} {cd_wrong_part : Value} {ct_wrong_part : Value} {f_Card_init : Addr} {de_Card_init_0 : Addr} {de_Card_init_2 : Addr} {do_e_Card_init_2 : Option Addr} {dm_e_Card_init_2 : Nat} {dl_e_Card_init_2 : Array (Option Value)} {oc_Card_init : Value} {od_Card_init : Option Addr} {an_Card_init : Option Addr} {sl_Card_init : Array (Option Value)} {kV_Card_init : Value} {dc_Card_init : Value} {pm_Card_init : Value} {cd_Card_init : Value} {ct_Card_init : Value} {dT_Card_init : Addr} {dc0_Card_init : Value} {dd_Card_init : Option Addr} {dn_Card_init : Nat} {ds_Card_init : Array (Option Value)} {du_Card_init_1 : Tok} {f_Card_heading : Addr} {oc_Card_heading : Value} {od_Card_heading : Option Addr} {an_Card_heading : Option Addr} {sl_Card_heading : Array (Option Value)} {kV_Card_heading : Value} {dc_Card_heading : Value} {pm_Card_heading : Value} {cd_Card_heading : Value} {ct_Card_heading : Value} {f_Card_books : Addr} {oc_Card_books : Value} {od_Card_books : Option Addr} {an_Card_books : Option Addr} {sl_Card_books : Array (Option Value)} {kV_Card_books : Value} {dc_Card_books : Value} {pm_Card_books : Value} {cd_Card_books : Value} {ct_Card_books : Value} {f_Card_see : Addr} {oc_Card_see : Value} {od_Card_see : Option Addr} {an_Card_see : Option Addr} {sl_Card_see : Array (Option Value)} {kV_Card_see : Value} {dc_Card_see : Value} {pm_Card_see : Value} {cd_Card_see : Value} {ct_Card_see : Value} {f_Card_also : Addr} {oc_Card_also : Value} {od_Card_also : Option Addr} {an_Card_also : Option Addr} {sl_Card_also : Array (Option Value)} {kV_Card_also : Value} {dc_Card_also : Value} {pm_Card_also : Value} {cd_Card_also : Value} {ct_Card_also : Value} {f_Card_leads : Addr} {oc_Card_leads : Value} {od_Card_leads : Option Addr} {an_Card_leads : Option Addr} {sl_Card_leads : Array (Option Value)} {kV_Card_leads : Value} {dc_Card_leads : Value} {pm_Card_leads : Value} {cd_Card_leads : Value} {ct_Card_leads : Value} {f_Drawer_init : Addr} {oc_Drawer_init : Value} {od_Drawer_init : Option Addr} {an_Drawer_init : Option Addr} {sl_Drawer_init : Array (Option Value)} {kV_Drawer_init : Value} {dc_Drawer_init : Value} {pm_Drawer_init : Value} {cd_Drawer_init : Value} {ct_Drawer_init : Value} {f_Drawer_cards : Addr} {oc_Drawer_cards : Value} {od_Drawer_cards : Option Addr} {an_Drawer_cards : Option Addr} {sl_Drawer_cards : Array (Option Value)} {kV_Drawer_cards : Value} {dc_Drawer_cards : Value} {pm_Drawer_cards : Value} {cd_Drawer_cards : Value} {ct_Drawer_cards : Value} {f_Drawer_len : Addr} {oc_Drawer_len : Value} {od_Drawer_len : Option Addr} {an_Drawer_len : Option Addr} {sl_Drawer_len : Array (Option Value)} {kV_Drawer_len : Value} {dc_Drawer_len : Value} {pm_Drawer_len : Value} {cd_Drawer_len : Value} {ct_Drawer_len : Value} {f_codes_of_word : Addr} {oc_codes_of_word : Value} {od_codes_of_word : Option Addr} {an_codes_of_word : Option Addr} {sl_codes_of_word : Array (Option Value)} {kV_codes_of_word : Value} {dc_codes_of_word : Value} {pm_codes_of_word : Value} {cd_codes_of_word : Value} {ct_codes_of_word : Value} {f_codes_of_card : Addr} {oc_codes_of_card : Value} {od_codes_of_card : Option Addr} {an_codes_of_card : Option Addr} {sl_codes_of_card : Array (Option Value)} {kV_codes_of_card : Value} {dc_codes_of_card : Value} {pm_codes_of_card : Value} {cd_codes_of_card : Value} {ct_codes_of_card : Value} {f_checksum_of : Addr} {oc_checksum_of : Value} {od_checksum_of : Option Addr} {an_checksum_of : Option Addr} {sl_checksum_of : Array (Option Value)} {kV_checksum_of : Value} {dc_checksum_of : Value} {pm_checksum_of : Value} {cd_checksum_of : Value} {ct_checksum_of : Value} {f_encode_drawer : Addr} {oc_encode_drawer : Value} {od_encode_drawer : Option Addr} {an_encode_drawer : Option Addr} {sl_encode_drawer : Array (Option Value)} {kV_encode_drawer : Value} {dc_encode_drawer : Value} {pm_encode_drawer : Value} {cd_encode_drawer : Value} {ct_encode_drawer : Value} {f_Reader_init : Addr} {oc_Reader_init : Value} {od_Reader_init : Option Addr} {an_Reader_init : Option Addr} {sl_Reader_init : Array (Option Value)} {kV_Reader_init : Value} {dc_Reader_init : Value} {pm_Reader_init : Value} {cd_Reader_init : Value} {ct_Reader_init : Value} {f_Reader_read_number : Addr} {oc_Reader_read_number : Value} {od_Reader_read_number : Option Addr} {an_Reader_read_number : Option Addr} {sl_Reader_read_number : Array (Option Value)} {kV_Reader_read_number : Value} {dc_Reader_read_number : Value} {pm_Reader_read_number : Value} {cd_Reader_read_number : Value} {ct_Reader_read_number : Value} {f_Reader_read_word : Addr} {oc_Reader_read_word : Value} {od_Reader_read_word : Option Addr} {an_Reader_read_word : Option Addr} {sl_Reader_read_word : Array (Option Value)} {kV_Reader_read_word : Value} {dc_Reader_read_word : Value} {pm_Reader_read_word : Value} {cd_Reader_read_word : Value} {ct_Reader_read_word : Value} {f_Reader_read_book : Addr} {oc_Reader_read_book : Value} {od_Reader_read_book : Option Addr} {an_Reader_read_book : Option Addr} {sl_Reader_read_book : Array (Option Value)} {kV_Reader_read_book : Value} {dc_Reader_read_book : Value} {pm_Reader_read_book : Value} {cd_Reader_read_book : Value} {ct_Reader_read_book : Value} {f_Reader_read_parts : Addr} {oc_Reader_read_parts : Value} {od_Reader_read_parts : Option Addr} {an_Reader_read_parts : Option Addr} {sl_Reader_read_parts : Array (Option Value)} {kV_Reader_read_parts : Value} {dc_Reader_read_parts : Value} {pm_Reader_read_parts : Value} {cd_Reader_read_parts : Value} {ct_Reader_read_parts : Value} {f_decode_drawer : Addr} {oc_decode_drawer : Value} {od_decode_drawer : Option Addr} {an_decode_drawer : Option Addr} {sl_decode_drawer : Array (Option Value)} {kV_decode_drawer : Value} {dc_decode_drawer : Value} {pm_decode_drawer : Value} {cd_decode_drawer : Value} {ct_decode_drawer : Value} {f_llaw_taken : Addr} {oc_llaw_taken : Value} {od_llaw_taken : Option Addr} {an_llaw_taken : Option Addr} {sl_llaw_taken : Array (Option Value)} {kV_llaw_taken : Value} {dc_llaw_taken : Value} {pm_llaw_taken : Value} {cd_llaw_taken : Value} {ct_llaw_taken : Value} {f_llaw_card : Addr} {oc_llaw_card : Value} {od_llaw_card : Option Addr} {an_llaw_card : Option Addr} {sl_llaw_card : Array (Option Value)} {kV_llaw_card : Value} {dc_llaw_card : Value} {pm_llaw_card : Value} {cd_llaw_card : Value} {ct_llaw_card : Value} {f_llaw_drawer : Addr} {oc_llaw_drawer : Value} {od_llaw_drawer : Option Addr} {an_llaw_drawer : Option Addr} {sl_llaw_drawer : Array (Option Value)} {kV_llaw_drawer : Value} {dc_llaw_drawer : Value} {pm_llaw_drawer : Value} {cd_llaw_drawer : Value} {ct_llaw_drawer : Value} {f_llaw_checked : Addr} {oc_llaw_checked : Value} {od_llaw_checked : Option Addr} {an_llaw_checked : Option Addr} {sl_llaw_checked : Array (Option Value)} {kV_llaw_checked : Value} {dc_llaw_checked : Value} {pm_llaw_checked : Value} {cd_llaw_checked : Value} {ct_llaw_checked : Value} {f_llaw_offset : Addr} {oc_llaw_offset : Value} {od_llaw_offset : Option Addr} {an_llaw_offset : Option Addr} {sl_llaw_offset : Array (Option Value)} {kV_llaw_offset : Value} {dc_llaw_offset : Value} {pm_llaw_offset : Value} {cd_llaw_offset : Value} {ct_llaw_offset : Value} {f_law : Addr} {oc_law : Value} {od_law : Option Addr} {an_law : Option Addr} {sl_law : Array (Option Value)} {kV_law : Value} {dc_law : Value} {pm_law : Value} {cd_law : Value} {ct_law : Value} {C_SeeError : Addr} {C_InvalidCard : Addr} {on_InvalidCard : Str} {oq_InvalidCard : Str} {oN_InvalidCard : Addr} {obs_InvalidCard : List Value} {obm_InvalidCard : List Value} {osn_InvalidCard : List Str} {osu_InvalidCard : List Value} {oab_InvalidCard : Bool} {oco_InvalidCard : Option Bool} {odd_InvalidCard : Option Addr} {ok0_InvalidCard : Option Value} {ok1_InvalidCard : Option Value} {ok2_InvalidCard : Option Value} {ok3_InvalidCard : Option Value} {ok5_InvalidCard : Option Value} {C_DecodeError : Addr} {on_DecodeError : Str} {oq_DecodeError : Str} {oN_DecodeError : Addr} {obs_DecodeError : List Value} {obm_DecodeError : List Value} {osn_DecodeError : List Str} {osu_DecodeError : List Value} {oab_DecodeError : Bool} {oco_DecodeError : Option Bool} {odd_DecodeError : Option Addr} {ok0_DecodeError : Option Value} {ok1_DecodeError : Option Value} {ok2_DecodeError : Option Value} {ok3_DecodeError : Option Value} {ok5_DecodeError : Option Value} {C_Card : Addr} {pr_Card_heading : Addr} {ps_Card_heading : List Value} {pr_Card_books : Addr} {ps_Card_books : List Value} {pr_Card_see : Addr} {ps_Card_see : List Value} {pr_Card_also : Addr} {ps_Card_also : List Value} {pr_Card_leads : Addr} {ps_Card_leads : List Value} {C_Drawer : Addr} {pr_Drawer_cards : Addr} {ps_Drawer_cards : List Value} {C_Reader : Addr} {tc_llaw_drawer : Addr} {tP_llaw_drawer : Addr} {te_llaw_drawer : Value} {tdd_llaw_drawer : Option Addr} {tvs_llaw_drawer : Array Value} {tsl_llaw_drawer : Array (Option Value)}
    (X : K.In h) (G : h.Ns mainGlobals mg) (hfa : mg "law" = some (.ref fa))
    (tab_llaw_drawer : h.get? tP_llaw_drawer = some { cls := .none, data := .fields #[] })
    (z_all : PySem.W.nsIn K mainGlobals "all" = some none)
    (z_bool : PySem.W.nsIn K mainGlobals "bool" = some none)
    (z_int : PySem.W.nsIn K mainGlobals "int" = some none)
    (z_isinstance : PySem.W.nsIn K mainGlobals "isinstance" = some none)
    (z_len : PySem.W.nsIn K mainGlobals "len" = some none)
    (z_list : PySem.W.nsIn K mainGlobals "list" = some none)
    (z_range : PySem.W.nsIn K mainGlobals "range" = some none)
    (z_set : PySem.W.nsIn K mainGlobals "set" = some none)
    (z_sorted : PySem.W.nsIn K mainGlobals "sorted" = some none)
    (z_str : PySem.W.nsIn K mainGlobals "str" = some none)
    (z_tuple : PySem.W.nsIn K mainGlobals "tuple" = some none)
    (z_zip : PySem.W.nsIn K mainGlobals "zip" = some none)
    (zc_LETTERS : PySem.W.nsIn K mainGlobals "LETTERS" = some (some (.str "abcdefghijklmnopqrstuvwxyz" t_LETTERS)))
    (zc_LONGEST_WORD : PySem.W.nsIn K mainGlobals "LONGEST_WORD" = some (some (.int (8) t_LONGEST_WORD)))
    (zc_MOST_BOOKS : PySem.W.nsIn K mainGlobals "MOST_BOOKS" = some (some (.int (6) t_MOST_BOOKS)))
    (zc_LAST_BOOK : PySem.W.nsIn K mainGlobals "LAST_BOOK" = some (some (.int (999) t_LAST_BOOK)))
    (zc_MOST_ALSO : PySem.W.nsIn K mainGlobals "MOST_ALSO" = some (some (.int (4) t_MOST_ALSO)))
    (zc_MOST_CARDS : PySem.W.nsIn K mainGlobals "MOST_CARDS" = some (some (.int (16) t_MOST_CARDS)))
    (zc_MARK : PySem.W.nsIn K mainGlobals "MARK" = some (some (.int (97) t_MARK)))
    (zc_FIRST_CHECKSUM : PySem.W.nsIn K mainGlobals "FIRST_CHECKSUM" = some (some (.int (7) t_FIRST_CHECKSUM)))
    (l_InvalidCard_init : K.lookup f_InvalidCard_init = some ⟨oc_InvalidCard_init, od_InvalidCard_init, .func (PySem.W.fnOf "__init__" "InvalidCard.__init__" (defArgs s_InvalidCard_init) (defBody s_InvalidCard_init) (defScope s_InvalidCard_init) .none kV_InvalidCard_init dc_InvalidCard_init pm_InvalidCard_init an_InvalidCard_init cd_InvalidCard_init ct_InvalidCard_init), sl_InvalidCard_init⟩)
    (c_InvalidCard_init : PySem.W.codeIn K cd_InvalidCard_init "InvalidCard.__init__" = true)
    (k_InvalidCard_init : PySem.W.keepIn K (.ref f_InvalidCard_init) = true)
    (l_DecodeError_init : K.lookup f_DecodeError_init = some ⟨oc_DecodeError_init, od_DecodeError_init, .func (PySem.W.fnOf "__init__" "DecodeError.__init__" (defArgs s_DecodeError_init) (defBody s_DecodeError_init) (defScope s_DecodeError_init) .none kV_DecodeError_init dc_DecodeError_init pm_DecodeError_init an_DecodeError_init cd_DecodeError_init ct_DecodeError_init), sl_DecodeError_init⟩)
    (c_DecodeError_init : PySem.W.codeIn K cd_DecodeError_init "DecodeError.__init__" = true)
    (k_DecodeError_init : PySem.W.keepIn K (.ref f_DecodeError_init) = true)
    (l_is_word : K.lookup f_is_word = some ⟨oc_is_word, od_is_word, .func (PySem.W.fnOf "is_word" "is_word" (defArgs s_is_word) (defBody s_is_word) (defScope s_is_word) .none kV_is_word dc_is_word pm_is_word an_is_word cd_is_word ct_is_word), sl_is_word⟩)
    (c_is_word : PySem.W.codeIn K cd_is_word "is_word" = true)
    (k_is_word : PySem.W.keepIn K (.ref f_is_word) = true)
    (n_is_word : PySem.W.nsIn K mainGlobals "is_word" = some (some (.ref f_is_word)))
    (l_is_number : K.lookup f_is_number = some ⟨oc_is_number, od_is_number, .func (PySem.W.fnOf "is_number" "is_number" (defArgs s_is_number) (defBody s_is_number) (defScope s_is_number) .none kV_is_number dc_is_number pm_is_number an_is_number cd_is_number ct_is_number), sl_is_number⟩)
    (c_is_number : PySem.W.codeIn K cd_is_number "is_number" = true)
    (k_is_number : PySem.W.keepIn K (.ref f_is_number) = true)
    (n_is_number : PySem.W.nsIn K mainGlobals "is_number" = some (some (.ref f_is_number)))
    (l_are_books : K.lookup f_are_books = some ⟨oc_are_books, od_are_books, .func (PySem.W.fnOf "are_books" "are_books" (defArgs s_are_books) (defBody s_are_books) (defScope s_are_books) .none kV_are_books dc_are_books pm_are_books an_are_books cd_are_books ct_are_books), sl_are_books⟩)
    (c_are_books : PySem.W.codeIn K cd_are_books "are_books" = true)
    (k_are_books : PySem.W.keepIn K (.ref f_are_books) = true)
    (n_are_books : PySem.W.nsIn K mainGlobals "are_books" = some (some (.ref f_are_books)))
    (l_is_target : K.lookup f_is_target = some ⟨oc_is_target, od_is_target, .func (PySem.W.fnOf "is_target" "is_target" (defArgs s_is_target) (defBody s_is_target) (defScope s_is_target) .none kV_is_target dc_is_target pm_is_target an_is_target cd_is_target ct_is_target), sl_is_target⟩)
    (c_is_target : PySem.W.codeIn K cd_is_target "is_target" = true)
    (k_is_target : PySem.W.keepIn K (.ref f_is_target) = true)
    (n_is_target : PySem.W.nsIn K mainGlobals "is_target" = some (some (.ref f_is_target)))
    (l_are_further : K.lookup f_are_further = some ⟨oc_are_further, od_are_further, .func (PySem.W.fnOf "are_further" "are_further" (defArgs s_are_further) (defBody s_are_further) (defScope s_are_further) .none kV_are_further dc_are_further pm_are_further an_are_further cd_are_further ct_are_further), sl_are_further⟩)
    (c_are_further : PySem.W.codeIn K cd_are_further "are_further" = true)
    (k_are_further : PySem.W.keepIn K (.ref f_are_further) = true)
    (n_are_further : PySem.W.nsIn K mainGlobals "are_further" = some (some (.ref f_are_further)))
    (l_wrong_part : K.lookup f_wrong_part = some ⟨oc_wrong_part, od_wrong_part, .func (PySem.W.fnOf "wrong_part" "wrong_part" (defArgs s_wrong_part) (defBody s_wrong_part) (defScope s_wrong_part) .none kV_wrong_part dc_wrong_part pm_wrong_part an_wrong_part cd_wrong_part ct_wrong_part), sl_wrong_part⟩)
    (c_wrong_part : PySem.W.codeIn K cd_wrong_part "wrong_part" = true)
    (k_wrong_part : PySem.W.keepIn K (.ref f_wrong_part) = true)
    (n_wrong_part : PySem.W.nsIn K mainGlobals "wrong_part" = some (some (.ref f_wrong_part)))
    (hk_Card_init_2 : K.lookup de_Card_init_2 = some ⟨.type "tuple", do_e_Card_init_2, .seq #[] dm_e_Card_init_2, dl_e_Card_init_2⟩)
    (l_Card_init : K.lookup f_Card_init = some ⟨oc_Card_init, od_Card_init, .func (PySem.W.fnOf "__init__" "Card.__init__" (defArgs s_Card_init) (defBody s_Card_init) (defScope s_Card_init) (.ref dT_Card_init) kV_Card_init dc_Card_init pm_Card_init an_Card_init cd_Card_init ct_Card_init), sl_Card_init⟩)
    (c_Card_init : PySem.W.codeIn K cd_Card_init "Card.__init__" = true)
    (k_Card_init : PySem.W.keepIn K (.ref f_Card_init) = true)
    (dk_Card_init : K.lookup dT_Card_init = some ⟨dc0_Card_init, dd_Card_init, .seq #[.ref de_Card_init_0, .str "" du_Card_init_1, .ref de_Card_init_2] dn_Card_init, ds_Card_init⟩)
    (l_Card_heading : K.lookup f_Card_heading = some ⟨oc_Card_heading, od_Card_heading, .func (PySem.W.fnOf "heading" "Card.heading" (defArgs s_Card_heading) (defBody s_Card_heading) (defScope s_Card_heading) .none kV_Card_heading dc_Card_heading pm_Card_heading an_Card_heading cd_Card_heading ct_Card_heading), sl_Card_heading⟩)
    (c_Card_heading : PySem.W.codeIn K cd_Card_heading "Card.heading" = true)
    (k_Card_heading : PySem.W.keepIn K (.ref f_Card_heading) = true)
    (l_Card_books : K.lookup f_Card_books = some ⟨oc_Card_books, od_Card_books, .func (PySem.W.fnOf "books" "Card.books" (defArgs s_Card_books) (defBody s_Card_books) (defScope s_Card_books) .none kV_Card_books dc_Card_books pm_Card_books an_Card_books cd_Card_books ct_Card_books), sl_Card_books⟩)
    (c_Card_books : PySem.W.codeIn K cd_Card_books "Card.books" = true)
    (k_Card_books : PySem.W.keepIn K (.ref f_Card_books) = true)
    (l_Card_see : K.lookup f_Card_see = some ⟨oc_Card_see, od_Card_see, .func (PySem.W.fnOf "see" "Card.see" (defArgs s_Card_see) (defBody s_Card_see) (defScope s_Card_see) .none kV_Card_see dc_Card_see pm_Card_see an_Card_see cd_Card_see ct_Card_see), sl_Card_see⟩)
    (c_Card_see : PySem.W.codeIn K cd_Card_see "Card.see" = true)
    (k_Card_see : PySem.W.keepIn K (.ref f_Card_see) = true)
    (l_Card_also : K.lookup f_Card_also = some ⟨oc_Card_also, od_Card_also, .func (PySem.W.fnOf "also" "Card.also" (defArgs s_Card_also) (defBody s_Card_also) (defScope s_Card_also) .none kV_Card_also dc_Card_also pm_Card_also an_Card_also cd_Card_also ct_Card_also), sl_Card_also⟩)
    (c_Card_also : PySem.W.codeIn K cd_Card_also "Card.also" = true)
    (k_Card_also : PySem.W.keepIn K (.ref f_Card_also) = true)
    (l_Card_leads : K.lookup f_Card_leads = some ⟨oc_Card_leads, od_Card_leads, .func (PySem.W.fnOf "leads" "Card.leads" (defArgs s_Card_leads) (defBody s_Card_leads) (defScope s_Card_leads) .none kV_Card_leads dc_Card_leads pm_Card_leads an_Card_leads cd_Card_leads ct_Card_leads), sl_Card_leads⟩)
    (c_Card_leads : PySem.W.codeIn K cd_Card_leads "Card.leads" = true)
    (k_Card_leads : PySem.W.keepIn K (.ref f_Card_leads) = true)
    (l_Drawer_init : K.lookup f_Drawer_init = some ⟨oc_Drawer_init, od_Drawer_init, .func (PySem.W.fnOf "__init__" "Drawer.__init__" (defArgs s_Drawer_init) (defBody s_Drawer_init) (defScope s_Drawer_init) .none kV_Drawer_init dc_Drawer_init pm_Drawer_init an_Drawer_init cd_Drawer_init ct_Drawer_init), sl_Drawer_init⟩)
    (c_Drawer_init : PySem.W.codeIn K cd_Drawer_init "Drawer.__init__" = true)
    (k_Drawer_init : PySem.W.keepIn K (.ref f_Drawer_init) = true)
    (l_Drawer_cards : K.lookup f_Drawer_cards = some ⟨oc_Drawer_cards, od_Drawer_cards, .func (PySem.W.fnOf "cards" "Drawer.cards" (defArgs s_Drawer_cards) (defBody s_Drawer_cards) (defScope s_Drawer_cards) .none kV_Drawer_cards dc_Drawer_cards pm_Drawer_cards an_Drawer_cards cd_Drawer_cards ct_Drawer_cards), sl_Drawer_cards⟩)
    (c_Drawer_cards : PySem.W.codeIn K cd_Drawer_cards "Drawer.cards" = true)
    (k_Drawer_cards : PySem.W.keepIn K (.ref f_Drawer_cards) = true)
    (l_Drawer_len : K.lookup f_Drawer_len = some ⟨oc_Drawer_len, od_Drawer_len, .func (PySem.W.fnOf "__len__" "Drawer.__len__" (defArgs s_Drawer_len) (defBody s_Drawer_len) (defScope s_Drawer_len) .none kV_Drawer_len dc_Drawer_len pm_Drawer_len an_Drawer_len cd_Drawer_len ct_Drawer_len), sl_Drawer_len⟩)
    (c_Drawer_len : PySem.W.codeIn K cd_Drawer_len "Drawer.__len__" = true)
    (k_Drawer_len : PySem.W.keepIn K (.ref f_Drawer_len) = true)
    (l_codes_of_word : K.lookup f_codes_of_word = some ⟨oc_codes_of_word, od_codes_of_word, .func (PySem.W.fnOf "codes_of_word" "codes_of_word" (defArgs s_codes_of_word) (defBody s_codes_of_word) (defScope s_codes_of_word) .none kV_codes_of_word dc_codes_of_word pm_codes_of_word an_codes_of_word cd_codes_of_word ct_codes_of_word), sl_codes_of_word⟩)
    (c_codes_of_word : PySem.W.codeIn K cd_codes_of_word "codes_of_word" = true)
    (k_codes_of_word : PySem.W.keepIn K (.ref f_codes_of_word) = true)
    (n_codes_of_word : PySem.W.nsIn K mainGlobals "codes_of_word" = some (some (.ref f_codes_of_word)))
    (l_codes_of_card : K.lookup f_codes_of_card = some ⟨oc_codes_of_card, od_codes_of_card, .func (PySem.W.fnOf "codes_of_card" "codes_of_card" (defArgs s_codes_of_card) (defBody s_codes_of_card) (defScope s_codes_of_card) .none kV_codes_of_card dc_codes_of_card pm_codes_of_card an_codes_of_card cd_codes_of_card ct_codes_of_card), sl_codes_of_card⟩)
    (c_codes_of_card : PySem.W.codeIn K cd_codes_of_card "codes_of_card" = true)
    (k_codes_of_card : PySem.W.keepIn K (.ref f_codes_of_card) = true)
    (n_codes_of_card : PySem.W.nsIn K mainGlobals "codes_of_card" = some (some (.ref f_codes_of_card)))
    (l_checksum_of : K.lookup f_checksum_of = some ⟨oc_checksum_of, od_checksum_of, .func (PySem.W.fnOf "checksum_of" "checksum_of" (defArgs s_checksum_of) (defBody s_checksum_of) (defScope s_checksum_of) .none kV_checksum_of dc_checksum_of pm_checksum_of an_checksum_of cd_checksum_of ct_checksum_of), sl_checksum_of⟩)
    (c_checksum_of : PySem.W.codeIn K cd_checksum_of "checksum_of" = true)
    (k_checksum_of : PySem.W.keepIn K (.ref f_checksum_of) = true)
    (n_checksum_of : PySem.W.nsIn K mainGlobals "checksum_of" = some (some (.ref f_checksum_of)))
    (l_encode_drawer : K.lookup f_encode_drawer = some ⟨oc_encode_drawer, od_encode_drawer, .func (PySem.W.fnOf "encode_drawer" "encode_drawer" (defArgs s_encode_drawer) (defBody s_encode_drawer) (defScope s_encode_drawer) .none kV_encode_drawer dc_encode_drawer pm_encode_drawer an_encode_drawer cd_encode_drawer ct_encode_drawer), sl_encode_drawer⟩)
    (c_encode_drawer : PySem.W.codeIn K cd_encode_drawer "encode_drawer" = true)
    (k_encode_drawer : PySem.W.keepIn K (.ref f_encode_drawer) = true)
    (n_encode_drawer : PySem.W.nsIn K mainGlobals "encode_drawer" = some (some (.ref f_encode_drawer)))
    (l_Reader_init : K.lookup f_Reader_init = some ⟨oc_Reader_init, od_Reader_init, .func (PySem.W.fnOf "__init__" "Reader.__init__" (defArgs s_Reader_init) (defBody s_Reader_init) (defScope s_Reader_init) .none kV_Reader_init dc_Reader_init pm_Reader_init an_Reader_init cd_Reader_init ct_Reader_init), sl_Reader_init⟩)
    (c_Reader_init : PySem.W.codeIn K cd_Reader_init "Reader.__init__" = true)
    (k_Reader_init : PySem.W.keepIn K (.ref f_Reader_init) = true)
    (l_Reader_read_number : K.lookup f_Reader_read_number = some ⟨oc_Reader_read_number, od_Reader_read_number, .func (PySem.W.fnOf "read_number" "Reader.read_number" (defArgs s_Reader_read_number) (defBody s_Reader_read_number) (defScope s_Reader_read_number) .none kV_Reader_read_number dc_Reader_read_number pm_Reader_read_number an_Reader_read_number cd_Reader_read_number ct_Reader_read_number), sl_Reader_read_number⟩)
    (c_Reader_read_number : PySem.W.codeIn K cd_Reader_read_number "Reader.read_number" = true)
    (k_Reader_read_number : PySem.W.keepIn K (.ref f_Reader_read_number) = true)
    (l_Reader_read_word : K.lookup f_Reader_read_word = some ⟨oc_Reader_read_word, od_Reader_read_word, .func (PySem.W.fnOf "read_word" "Reader.read_word" (defArgs s_Reader_read_word) (defBody s_Reader_read_word) (defScope s_Reader_read_word) .none kV_Reader_read_word dc_Reader_read_word pm_Reader_read_word an_Reader_read_word cd_Reader_read_word ct_Reader_read_word), sl_Reader_read_word⟩)
    (c_Reader_read_word : PySem.W.codeIn K cd_Reader_read_word "Reader.read_word" = true)
    (k_Reader_read_word : PySem.W.keepIn K (.ref f_Reader_read_word) = true)
    (l_Reader_read_book : K.lookup f_Reader_read_book = some ⟨oc_Reader_read_book, od_Reader_read_book, .func (PySem.W.fnOf "read_book" "Reader.read_book" (defArgs s_Reader_read_book) (defBody s_Reader_read_book) (defScope s_Reader_read_book) .none kV_Reader_read_book dc_Reader_read_book pm_Reader_read_book an_Reader_read_book cd_Reader_read_book ct_Reader_read_book), sl_Reader_read_book⟩)
    (c_Reader_read_book : PySem.W.codeIn K cd_Reader_read_book "Reader.read_book" = true)
    (k_Reader_read_book : PySem.W.keepIn K (.ref f_Reader_read_book) = true)
    (l_Reader_read_parts : K.lookup f_Reader_read_parts = some ⟨oc_Reader_read_parts, od_Reader_read_parts, .func (PySem.W.fnOf "read_parts" "Reader.read_parts" (defArgs s_Reader_read_parts) (defBody s_Reader_read_parts) (defScope s_Reader_read_parts) .none kV_Reader_read_parts dc_Reader_read_parts pm_Reader_read_parts an_Reader_read_parts cd_Reader_read_parts ct_Reader_read_parts), sl_Reader_read_parts⟩)
    (c_Reader_read_parts : PySem.W.codeIn K cd_Reader_read_parts "Reader.read_parts" = true)
    (k_Reader_read_parts : PySem.W.keepIn K (.ref f_Reader_read_parts) = true)
    (l_decode_drawer : K.lookup f_decode_drawer = some ⟨oc_decode_drawer, od_decode_drawer, .func (PySem.W.fnOf "decode_drawer" "decode_drawer" (defArgs s_decode_drawer) (defBody s_decode_drawer) (defScope s_decode_drawer) .none kV_decode_drawer dc_decode_drawer pm_decode_drawer an_decode_drawer cd_decode_drawer ct_decode_drawer), sl_decode_drawer⟩)
    (c_decode_drawer : PySem.W.codeIn K cd_decode_drawer "decode_drawer" = true)
    (k_decode_drawer : PySem.W.keepIn K (.ref f_decode_drawer) = true)
    (n_decode_drawer : PySem.W.nsIn K mainGlobals "decode_drawer" = some (some (.ref f_decode_drawer)))
    (l_llaw_taken : K.lookup f_llaw_taken = some ⟨oc_llaw_taken, od_llaw_taken, .func (PySem.W.fnOf "_law_taken" "_law_taken" (defArgs s_llaw_taken) (defBody s_llaw_taken) (defScope s_llaw_taken) .none kV_llaw_taken dc_llaw_taken pm_llaw_taken an_llaw_taken cd_llaw_taken ct_llaw_taken), sl_llaw_taken⟩)
    (c_llaw_taken : PySem.W.codeIn K cd_llaw_taken "_law_taken" = true)
    (k_llaw_taken : PySem.W.keepIn K (.ref f_llaw_taken) = true)
    (n_llaw_taken : PySem.W.nsIn K mainGlobals "_law_taken" = some (some (.ref f_llaw_taken)))
    (l_llaw_card : K.lookup f_llaw_card = some ⟨oc_llaw_card, od_llaw_card, .func (PySem.W.fnOf "_law_card" "_law_card" (defArgs s_llaw_card) (defBody s_llaw_card) (defScope s_llaw_card) .none kV_llaw_card dc_llaw_card pm_llaw_card an_llaw_card cd_llaw_card ct_llaw_card), sl_llaw_card⟩)
    (c_llaw_card : PySem.W.codeIn K cd_llaw_card "_law_card" = true)
    (k_llaw_card : PySem.W.keepIn K (.ref f_llaw_card) = true)
    (n_llaw_card : PySem.W.nsIn K mainGlobals "_law_card" = some (some (.ref f_llaw_card)))
    (l_llaw_drawer : K.lookup f_llaw_drawer = some ⟨oc_llaw_drawer, od_llaw_drawer, .func (PySem.W.fnOf "_law_drawer" "_law_drawer" (defArgs s_llaw_drawer) (defBody s_llaw_drawer) (defScope s_llaw_drawer) .none kV_llaw_drawer dc_llaw_drawer pm_llaw_drawer an_llaw_drawer cd_llaw_drawer ct_llaw_drawer), sl_llaw_drawer⟩)
    (c_llaw_drawer : PySem.W.codeIn K cd_llaw_drawer "_law_drawer" = true)
    (k_llaw_drawer : PySem.W.keepIn K (.ref f_llaw_drawer) = true)
    (n_llaw_drawer : PySem.W.nsIn K mainGlobals "_law_drawer" = some (some (.ref f_llaw_drawer)))
    (l_llaw_checked : K.lookup f_llaw_checked = some ⟨oc_llaw_checked, od_llaw_checked, .func (PySem.W.fnOf "_law_checked" "_law_checked" (defArgs s_llaw_checked) (defBody s_llaw_checked) (defScope s_llaw_checked) .none kV_llaw_checked dc_llaw_checked pm_llaw_checked an_llaw_checked cd_llaw_checked ct_llaw_checked), sl_llaw_checked⟩)
    (c_llaw_checked : PySem.W.codeIn K cd_llaw_checked "_law_checked" = true)
    (k_llaw_checked : PySem.W.keepIn K (.ref f_llaw_checked) = true)
    (n_llaw_checked : PySem.W.nsIn K mainGlobals "_law_checked" = some (some (.ref f_llaw_checked)))
    (l_llaw_offset : K.lookup f_llaw_offset = some ⟨oc_llaw_offset, od_llaw_offset, .func (PySem.W.fnOf "_law_offset" "_law_offset" (defArgs s_llaw_offset) (defBody s_llaw_offset) (defScope s_llaw_offset) .none kV_llaw_offset dc_llaw_offset pm_llaw_offset an_llaw_offset cd_llaw_offset ct_llaw_offset), sl_llaw_offset⟩)
    (c_llaw_offset : PySem.W.codeIn K cd_llaw_offset "_law_offset" = true)
    (k_llaw_offset : PySem.W.keepIn K (.ref f_llaw_offset) = true)
    (n_llaw_offset : PySem.W.nsIn K mainGlobals "_law_offset" = some (some (.ref f_llaw_offset)))
    (l_law : K.lookup f_law = some ⟨oc_law, od_law, .func (PySem.W.fnOf "law" "law" (defArgs s_law) (defBody s_law) (defScope s_law) .none kV_law dc_law pm_law an_law cd_law ct_law), sl_law⟩)
    (c_law : PySem.W.codeIn K cd_law "law" = true)
    (k_law : PySem.W.keepIn K (.ref f_law) = true)
    (n_law : PySem.W.nsIn K mainGlobals "law" = some (some (.ref f_law)))
    (n_SeeError : PySem.W.nsIn K mainGlobals "SeeError" = some (some (.ref C_SeeError)))
    (zbbg_SeeError : PySem.W.specialIn K (.ref C_SeeError) "__getattribute__" = some (some (.builtin "type.__getattribute__")))
    (zbbr_SeeError : PySem.W.readsIn K C_SeeError (.type "type") = true)
    (zbbv_SeeError : PySem.W.findCls K (.ref C_SeeError) (.type "type") "__init__" = some (.val (.builtin "ValueError.__init__")))
    (n_InvalidCard : PySem.W.nsIn K mainGlobals "InvalidCard" = some (some (.ref C_InvalidCard)))
    (zox1_InvalidCard : K.lookup C_InvalidCard = some (PySem.excClassObj on_InvalidCard oq_InvalidCard C_InvalidCard oN_InvalidCard obs_InvalidCard obm_InvalidCard true osn_InvalidCard osu_InvalidCard oab_InvalidCard oco_InvalidCard odd_InvalidCard ok0_InvalidCard ok1_InvalidCard ok2_InvalidCard ok3_InvalidCard ok5_InvalidCard "ValueError.__new__"))
    (zq_ox2_InvalidCard : PySem.HandSPX.refsVE obm_InvalidCard = true)
    (zox3_InvalidCard : PySem.W.findIn K (.ref C_InvalidCard) "__setattr__" = some (some (.builtin "object.__setattr__")))
    (zox4_InvalidCard : PySem.W.subIn K (.ref C_InvalidCard) (.type "BaseException") = some true)
    (zox5_InvalidCard : PySem.W.typeIn K (.ref C_InvalidCard) = some (.type "type"))
    (zox6_InvalidCard : PySem.W.keepIn K (.ref C_InvalidCard) = true)
    (zoi_InvalidCard : PySem.W.findIn K (.ref C_InvalidCard) "__init__" = some (some (.ref f_InvalidCard_init)))
    (zot_InvalidCard : PySem.W.typeIn K (.ref f_InvalidCard_init) = some (.type "function"))
    (znf_InvalidCard_part : PySem.W.findIn K (.ref C_InvalidCard) "part" = some none)
    (zxg_InvalidCard : PySem.W.findIn K (.ref C_InvalidCard) "__getattribute__" = some (some (.builtin "BaseException.__getattribute__")))
    (zxa_InvalidCard : PySem.W.findIn K (.ref C_InvalidCard) "__getattr__" = some none)
    (zxb_InvalidCard : PySem.W.subIn K (.ref C_InvalidCard) (.type "BaseException") = some true)
    (zxd_InvalidCard : PySem.W.hasDictIn K C_InvalidCard = true)
    (n_DecodeError : PySem.W.nsIn K mainGlobals "DecodeError" = some (some (.ref C_DecodeError)))
    (zox1_DecodeError : K.lookup C_DecodeError = some (PySem.excClassObj on_DecodeError oq_DecodeError C_DecodeError oN_DecodeError obs_DecodeError obm_DecodeError true osn_DecodeError osu_DecodeError oab_DecodeError oco_DecodeError odd_DecodeError ok0_DecodeError ok1_DecodeError ok2_DecodeError ok3_DecodeError ok5_DecodeError "ValueError.__new__"))
    (zq_ox2_DecodeError : PySem.HandSPX.refsVE obm_DecodeError = true)
    (zox3_DecodeError : PySem.W.findIn K (.ref C_DecodeError) "__setattr__" = some (some (.builtin "object.__setattr__")))
    (zox4_DecodeError : PySem.W.subIn K (.ref C_DecodeError) (.type "BaseException") = some true)
    (zox5_DecodeError : PySem.W.typeIn K (.ref C_DecodeError) = some (.type "type"))
    (zox6_DecodeError : PySem.W.keepIn K (.ref C_DecodeError) = true)
    (zoi_DecodeError : PySem.W.findIn K (.ref C_DecodeError) "__init__" = some (some (.ref f_DecodeError_init)))
    (zot_DecodeError : PySem.W.typeIn K (.ref f_DecodeError_init) = some (.type "function"))
    (znf_DecodeError_offset : PySem.W.findIn K (.ref C_DecodeError) "offset" = some none)
    (zxg_DecodeError : PySem.W.findIn K (.ref C_DecodeError) "__getattribute__" = some (some (.builtin "BaseException.__getattribute__")))
    (zxa_DecodeError : PySem.W.findIn K (.ref C_DecodeError) "__getattr__" = some none)
    (zxb_DecodeError : PySem.W.subIn K (.ref C_DecodeError) (.type "BaseException") = some true)
    (zxd_DecodeError : PySem.W.hasDictIn K C_DecodeError = true)
    (n_Card : PySem.W.nsIn K mainGlobals "Card" = some (some (.ref C_Card)))
    (cg_Card : PySem.W.plainGet K C_Card Str.empty = true)
    (ch_Card : PySem.W.hasDictIn K C_Card = true)
    (cp_Card : PySem.W.plainOver K C_Card = true)
    (cs_Card : PySem.W.findIn K (.ref C_Card) "__setattr__" = some (some (.builtin "object.__setattr__")))
    (na_Card__heading : PySem.W.findIn K (.ref C_Card) "_heading" = some none)
    (na_Card__books : PySem.W.findIn K (.ref C_Card) "_books" = some none)
    (na_Card__see : PySem.W.findIn K (.ref C_Card) "_see" = some none)
    (na_Card__also : PySem.W.findIn K (.ref C_Card) "_also" = some none)
    (mk1_Card : PySem.W.makesIn K C_Card = true)
    (mk2_Card : PySem.W.findIn K (.ref C_Card) "__init__" = some (some (.ref f_Card_init)))
    (mk3_Card : PySem.W.isFn K (.ref f_Card_init) = true)
    (mk4_Card : PySem.W.keepIn K (.ref C_Card) = true)
    (p1_Card_heading : PySem.W.findIn K (.ref C_Card) "heading" = some (some (.ref pr_Card_heading)))
    (p2_Card_heading : PySem.W.specialIn K (.ref pr_Card_heading) "__get__" = some (some (.builtin "property.__get__")))
    (p3_Card_heading : PySem.W.takesIn K (.ref pr_Card_heading) = some true)
    (p4_Card_heading : PySem.W.recIn K pr_Card_heading "property" = some (.ref f_Card_heading :: ps_Card_heading))
    (p1_Card_books : PySem.W.findIn K (.ref C_Card) "books" = some (some (.ref pr_Card_books)))
    (p2_Card_books : PySem.W.specialIn K (.ref pr_Card_books) "__get__" = some (some (.builtin "property.__get__")))
    (p3_Card_books : PySem.W.takesIn K (.ref pr_Card_books) = some true)
    (p4_Card_books : PySem.W.recIn K pr_Card_books "property" = some (.ref f_Card_books :: ps_Card_books))
    (p1_Card_see : PySem.W.findIn K (.ref C_Card) "see" = some (some (.ref pr_Card_see)))
    (p2_Card_see : PySem.W.specialIn K (.ref pr_Card_see) "__get__" = some (some (.builtin "property.__get__")))
    (p3_Card_see : PySem.W.takesIn K (.ref pr_Card_see) = some true)
    (p4_Card_see : PySem.W.recIn K pr_Card_see "property" = some (.ref f_Card_see :: ps_Card_see))
    (p1_Card_also : PySem.W.findIn K (.ref C_Card) "also" = some (some (.ref pr_Card_also)))
    (p2_Card_also : PySem.W.specialIn K (.ref pr_Card_also) "__get__" = some (some (.builtin "property.__get__")))
    (p3_Card_also : PySem.W.takesIn K (.ref pr_Card_also) = some true)
    (p4_Card_also : PySem.W.recIn K pr_Card_also "property" = some (.ref f_Card_also :: ps_Card_also))
    (p1_Card_leads : PySem.W.findIn K (.ref C_Card) "leads" = some (some (.ref pr_Card_leads)))
    (p2_Card_leads : PySem.W.specialIn K (.ref pr_Card_leads) "__get__" = some (some (.builtin "property.__get__")))
    (p3_Card_leads : PySem.W.takesIn K (.ref pr_Card_leads) = some true)
    (p4_Card_leads : PySem.W.recIn K pr_Card_leads "property" = some (.ref f_Card_leads :: ps_Card_leads))
    (n_Drawer : PySem.W.nsIn K mainGlobals "Drawer" = some (some (.ref C_Drawer)))
    (cg_Drawer : PySem.W.plainGet K C_Drawer Str.empty = true)
    (ch_Drawer : PySem.W.hasDictIn K C_Drawer = true)
    (cp_Drawer : PySem.W.plainOver K C_Drawer = true)
    (cs_Drawer : PySem.W.findIn K (.ref C_Drawer) "__setattr__" = some (some (.builtin "object.__setattr__")))
    (na_Drawer__cards : PySem.W.findIn K (.ref C_Drawer) "_cards" = some none)
    (mk1_Drawer : PySem.W.makesIn K C_Drawer = true)
    (mk2_Drawer : PySem.W.findIn K (.ref C_Drawer) "__init__" = some (some (.ref f_Drawer_init)))
    (mk3_Drawer : PySem.W.isFn K (.ref f_Drawer_init) = true)
    (mk4_Drawer : PySem.W.keepIn K (.ref C_Drawer) = true)
    (p1_Drawer_cards : PySem.W.findIn K (.ref C_Drawer) "cards" = some (some (.ref pr_Drawer_cards)))
    (p2_Drawer_cards : PySem.W.specialIn K (.ref pr_Drawer_cards) "__get__" = some (some (.builtin "property.__get__")))
    (p3_Drawer_cards : PySem.W.takesIn K (.ref pr_Drawer_cards) = some true)
    (p4_Drawer_cards : PySem.W.recIn K pr_Drawer_cards "property" = some (.ref f_Drawer_cards :: ps_Drawer_cards))
    (me1_Drawer_len : PySem.W.findIn K (.ref C_Drawer) "__len__" = some (some (.ref f_Drawer_len)))
    (me2_Drawer_len : PySem.W.isFn K (.ref f_Drawer_len) = true)
    (me3_Drawer_len : PySem.W.keepIn K (.ref f_Drawer_len) = true)
    (n_Reader : PySem.W.nsIn K mainGlobals "Reader" = some (some (.ref C_Reader)))
    (cg_Reader : PySem.W.plainGet K C_Reader Str.empty = true)
    (ch_Reader : PySem.W.hasDictIn K C_Reader = true)
    (cp_Reader : PySem.W.plainOver K C_Reader = true)
    (cs_Reader : PySem.W.findIn K (.ref C_Reader) "__setattr__" = some (some (.builtin "object.__setattr__")))
    (na_Reader_codes : PySem.W.findIn K (.ref C_Reader) "codes" = some none)
    (na_Reader_offset : PySem.W.findIn K (.ref C_Reader) "offset" = some none)
    (mk1_Reader : PySem.W.makesIn K C_Reader = true)
    (mk2_Reader : PySem.W.findIn K (.ref C_Reader) "__init__" = some (some (.ref f_Reader_init)))
    (mk3_Reader : PySem.W.isFn K (.ref f_Reader_init) = true)
    (mk4_Reader : PySem.W.keepIn K (.ref C_Reader) = true)
    (me1_Reader_read_number : PySem.W.findIn K (.ref C_Reader) "read_number" = some (some (.ref f_Reader_read_number)))
    (me2_Reader_read_number : PySem.W.isFn K (.ref f_Reader_read_number) = true)
    (me3_Reader_read_number : PySem.W.keepIn K (.ref f_Reader_read_number) = true)
    (me1_Reader_read_word : PySem.W.findIn K (.ref C_Reader) "read_word" = some (some (.ref f_Reader_read_word)))
    (me2_Reader_read_word : PySem.W.isFn K (.ref f_Reader_read_word) = true)
    (me3_Reader_read_word : PySem.W.keepIn K (.ref f_Reader_read_word) = true)
    (me1_Reader_read_book : PySem.W.findIn K (.ref C_Reader) "read_book" = some (some (.ref f_Reader_read_book)))
    (me2_Reader_read_book : PySem.W.isFn K (.ref f_Reader_read_book) = true)
    (me3_Reader_read_book : PySem.W.keepIn K (.ref f_Reader_read_book) = true)
    (me1_Reader_read_parts : PySem.W.findIn K (.ref C_Reader) "read_parts" = some (some (.ref f_Reader_read_parts)))
    (me2_Reader_read_parts : PySem.W.isFn K (.ref f_Reader_read_parts) = true)
    (me3_Reader_read_parts : PySem.W.keepIn K (.ref f_Reader_read_parts) = true)
    (zs_InvalidCard_DecodeError : PySem.W.subIn K (.ref C_DecodeError) (.type "BaseException") = some true)
    (zi_InvalidCard_DecodeError : PySem.W.isClsIn K C_DecodeError = true)
    (zt_InvalidCard_DecodeError : PySem.W.typeIn K (.ref C_DecodeError) = some (.type "type"))
    (zq_InvalidCard_DecodeError : PySem.W.subIn K (.ref C_InvalidCard) (.ref C_DecodeError) = some false)
    (zs_InvalidCard_InvalidCard : PySem.W.subIn K (.ref C_InvalidCard) (.type "BaseException") = some true)
    (zi_InvalidCard_InvalidCard : PySem.W.isClsIn K C_InvalidCard = true)
    (zt_InvalidCard_InvalidCard : PySem.W.typeIn K (.ref C_InvalidCard) = some (.type "type"))
    (zq_InvalidCard_InvalidCard : PySem.W.subIn K (.ref C_InvalidCard) (.ref C_InvalidCard) = some true)
    (zs_DecodeError_DecodeError : PySem.W.subIn K (.ref C_DecodeError) (.type "BaseException") = some true)
    (zi_DecodeError_DecodeError : PySem.W.isClsIn K C_DecodeError = true)
    (zt_DecodeError_DecodeError : PySem.W.typeIn K (.ref C_DecodeError) = some (.type "type"))
    (zq_DecodeError_DecodeError : PySem.W.subIn K (.ref C_DecodeError) (.ref C_DecodeError) = some true)
    (tcq_llaw_drawer : cd_llaw_drawer = .ref tc_llaw_drawer)
    (tck_llaw_drawer : K.lookup tc_llaw_drawer = some ⟨te_llaw_drawer, tdd_llaw_drawer, .fields tvs_llaw_drawer, tsl_llaw_drawer⟩)
    (tcv_llaw_drawer : tvs_llaw_drawer[11]? = some (.ref tP_llaw_drawer))
    (tcn_llaw_drawer : K.lookup tP_llaw_drawer = none)
    (tch_llaw_drawer : PySem.W.codeHdIn K tc_llaw_drawer tP_llaw_drawer = true)
    : LawAtS l w K CX0 8 63 "_law_script" mg fa h := by
  have e : fa = f_law := by
    have z := hfa.symm.trans (PySem.W.mg_of X G n_law)
    cases z
    rfl
  have T : ∃ T : Top K mg, T.a_law = f_law ∧ T.fd_law = PySem.W.fnOf "law" "law" (defArgs s_law) (defBody s_law) (defScope s_law) .none kV_law dc_law pm_law an_law cd_law ct_law ∧ T.fd_llaw_drawer = PySem.W.fnOf "_law_drawer" "_law_drawer" (defArgs s_llaw_drawer) (defBody s_llaw_drawer) (defScope s_llaw_drawer) .none kV_llaw_drawer dc_llaw_drawer pm_llaw_drawer an_llaw_drawer cd_llaw_drawer ct_llaw_drawer := ⟨{
    m_all := PySem.W.mg_none_of X G z_all
    m_bool := PySem.W.mg_none_of X G z_bool
    m_int := PySem.W.mg_none_of X G z_int
    m_isinstance := PySem.W.mg_none_of X G z_isinstance
    m_len := PySem.W.mg_none_of X G z_len
    m_list := PySem.W.mg_none_of X G z_list
    m_range := PySem.W.mg_none_of X G z_range
    m_set := PySem.W.mg_none_of X G z_set
    m_sorted := PySem.W.mg_none_of X G z_sorted
    m_str := PySem.W.mg_none_of X G z_str
    m_tuple := PySem.W.mg_none_of X G z_tuple
    m_zip := PySem.W.mg_none_of X G z_zip
    v_LETTERS := .str "abcdefghijklmnopqrstuvwxyz" t_LETTERS
    g_LETTERS := PySem.W.mg_of X G zc_LETTERS
    r_LETTERS := ⟨_, rfl⟩
    v_LONGEST_WORD := .int (8) t_LONGEST_WORD
    g_LONGEST_WORD := PySem.W.mg_of X G zc_LONGEST_WORD
    r_LONGEST_WORD := ⟨_, rfl⟩
    v_MOST_BOOKS := .int (6) t_MOST_BOOKS
    g_MOST_BOOKS := PySem.W.mg_of X G zc_MOST_BOOKS
    r_MOST_BOOKS := ⟨_, rfl⟩
    v_LAST_BOOK := .int (999) t_LAST_BOOK
    g_LAST_BOOK := PySem.W.mg_of X G zc_LAST_BOOK
    r_LAST_BOOK := ⟨_, rfl⟩
    v_MOST_ALSO := .int (4) t_MOST_ALSO
    g_MOST_ALSO := PySem.W.mg_of X G zc_MOST_ALSO
    r_MOST_ALSO := ⟨_, rfl⟩
    v_MOST_CARDS := .int (16) t_MOST_CARDS
    g_MOST_CARDS := PySem.W.mg_of X G zc_MOST_CARDS
    r_MOST_CARDS := ⟨_, rfl⟩
    v_MARK := .int (97) t_MARK
    g_MARK := PySem.W.mg_of X G zc_MARK
    r_MARK := ⟨_, rfl⟩
    v_FIRST_CHECKSUM := .int (7) t_FIRST_CHECKSUM
    g_FIRST_CHECKSUM := PySem.W.mg_of X G zc_FIRST_CHECKSUM
    r_FIRST_CHECKSUM := ⟨_, rfl⟩
    a_InvalidCard_init := f_InvalidCard_init
    fd_InvalidCard_init := PySem.W.fnOf "__init__" "InvalidCard.__init__" (defArgs s_InvalidCard_init) (defBody s_InvalidCard_init) (defScope s_InvalidCard_init) .none kV_InvalidCard_init dc_InvalidCard_init pm_InvalidCard_init an_InvalidCard_init cd_InvalidCard_init ct_InvalidCard_init
    F_InvalidCard_init := fun_mk (st := s_InvalidCard_init) l_InvalidCard_init c_InvalidCard_init k_InvalidCard_init
    a_DecodeError_init := f_DecodeError_init
    fd_DecodeError_init := PySem.W.fnOf "__init__" "DecodeError.__init__" (defArgs s_DecodeError_init) (defBody s_DecodeError_init) (defScope s_DecodeError_init) .none kV_DecodeError_init dc_DecodeError_init pm_DecodeError_init an_DecodeError_init cd_DecodeError_init ct_DecodeError_init
    F_DecodeError_init := fun_mk (st := s_DecodeError_init) l_DecodeError_init c_DecodeError_init k_DecodeError_init
    a_is_word := f_is_word
    fd_is_word := PySem.W.fnOf "is_word" "is_word" (defArgs s_is_word) (defBody s_is_word) (defScope s_is_word) .none kV_is_word dc_is_word pm_is_word an_is_word cd_is_word ct_is_word
    F_is_word := fun_mk (st := s_is_word) l_is_word c_is_word k_is_word
    g_is_word := PySem.W.mg_of X G n_is_word
    a_is_number := f_is_number
    fd_is_number := PySem.W.fnOf "is_number" "is_number" (defArgs s_is_number) (defBody s_is_number) (defScope s_is_number) .none kV_is_number dc_is_number pm_is_number an_is_number cd_is_number ct_is_number
    F_is_number := fun_mk (st := s_is_number) l_is_number c_is_number k_is_number
    g_is_number := PySem.W.mg_of X G n_is_number
    a_are_books := f_are_books
    fd_are_books := PySem.W.fnOf "are_books" "are_books" (defArgs s_are_books) (defBody s_are_books) (defScope s_are_books) .none kV_are_books dc_are_books pm_are_books an_are_books cd_are_books ct_are_books
    F_are_books := fun_mk (st := s_are_books) l_are_books c_are_books k_are_books
    g_are_books := PySem.W.mg_of X G n_are_books
    a_is_target := f_is_target
    fd_is_target := PySem.W.fnOf "is_target" "is_target" (defArgs s_is_target) (defBody s_is_target) (defScope s_is_target) .none kV_is_target dc_is_target pm_is_target an_is_target cd_is_target ct_is_target
    F_is_target := fun_mk (st := s_is_target) l_is_target c_is_target k_is_target
    g_is_target := PySem.W.mg_of X G n_is_target
    a_are_further := f_are_further
    fd_are_further := PySem.W.fnOf "are_further" "are_further" (defArgs s_are_further) (defBody s_are_further) (defScope s_are_further) .none kV_are_further dc_are_further pm_are_further an_are_further cd_are_further ct_are_further
    F_are_further := fun_mk (st := s_are_further) l_are_further c_are_further k_are_further
    g_are_further := PySem.W.mg_of X G n_are_further
    a_wrong_part := f_wrong_part
    fd_wrong_part := PySem.W.fnOf "wrong_part" "wrong_part" (defArgs s_wrong_part) (defBody s_wrong_part) (defScope s_wrong_part) .none kV_wrong_part dc_wrong_part pm_wrong_part an_wrong_part cd_wrong_part ct_wrong_part
    F_wrong_part := fun_mk (st := s_wrong_part) l_wrong_part c_wrong_part k_wrong_part
    g_wrong_part := PySem.W.mg_of X G n_wrong_part
    a_Card_init := f_Card_init
    e_Card_init_0 := de_Card_init_0
    e_Card_init_2 := de_Card_init_2
    ek_Card_init_2 := fun H => .inr ⟨_, #[], _, hk_Card_init_2, rfl, rfl, Nat.zero_le _, .nil⟩
    fd_Card_init := PySem.W.fnOf "__init__" "Card.__init__" (defArgs s_Card_init) (defBody s_Card_init) (defScope s_Card_init) (.ref dT_Card_init) kV_Card_init dc_Card_init pm_Card_init an_Card_init cd_Card_init ct_Card_init
    F_Card_init := ⟨⟨_, _, _, _, _, _, _, _, _, _, rfl, l_Card_init, c_Card_init, .inr ⟨by simp, _, _, [.ref de_Card_init_0, .str "" du_Card_init_1, .ref de_Card_init_2], _, rfl, dk_Card_init, rfl, .cons rfl (.cons ⟨_, rfl⟩ (.cons rfl (.nil)))⟩, .inl rfl⟩, k_Card_init⟩
    a_Card_heading := f_Card_heading
    fd_Card_heading := PySem.W.fnOf "heading" "Card.heading" (defArgs s_Card_heading) (defBody s_Card_heading) (defScope s_Card_heading) .none kV_Card_heading dc_Card_heading pm_Card_heading an_Card_heading cd_Card_heading ct_Card_heading
    F_Card_heading := fun_mk (st := s_Card_heading) l_Card_heading c_Card_heading k_Card_heading
    a_Card_books := f_Card_books
    fd_Card_books := PySem.W.fnOf "books" "Card.books" (defArgs s_Card_books) (defBody s_Card_books) (defScope s_Card_books) .none kV_Card_books dc_Card_books pm_Card_books an_Card_books cd_Card_books ct_Card_books
    F_Card_books := fun_mk (st := s_Card_books) l_Card_books c_Card_books k_Card_books
    a_Card_see := f_Card_see
    fd_Card_see := PySem.W.fnOf "see" "Card.see" (defArgs s_Card_see) (defBody s_Card_see) (defScope s_Card_see) .none kV_Card_see dc_Card_see pm_Card_see an_Card_see cd_Card_see ct_Card_see
    F_Card_see := fun_mk (st := s_Card_see) l_Card_see c_Card_see k_Card_see
    a_Card_also := f_Card_also
    fd_Card_also := PySem.W.fnOf "also" "Card.also" (defArgs s_Card_also) (defBody s_Card_also) (defScope s_Card_also) .none kV_Card_also dc_Card_also pm_Card_also an_Card_also cd_Card_also ct_Card_also
    F_Card_also := fun_mk (st := s_Card_also) l_Card_also c_Card_also k_Card_also
    a_Card_leads := f_Card_leads
    fd_Card_leads := PySem.W.fnOf "leads" "Card.leads" (defArgs s_Card_leads) (defBody s_Card_leads) (defScope s_Card_leads) .none kV_Card_leads dc_Card_leads pm_Card_leads an_Card_leads cd_Card_leads ct_Card_leads
    F_Card_leads := fun_mk (st := s_Card_leads) l_Card_leads c_Card_leads k_Card_leads
    a_Drawer_init := f_Drawer_init
    fd_Drawer_init := PySem.W.fnOf "__init__" "Drawer.__init__" (defArgs s_Drawer_init) (defBody s_Drawer_init) (defScope s_Drawer_init) .none kV_Drawer_init dc_Drawer_init pm_Drawer_init an_Drawer_init cd_Drawer_init ct_Drawer_init
    F_Drawer_init := fun_mk (st := s_Drawer_init) l_Drawer_init c_Drawer_init k_Drawer_init
    a_Drawer_cards := f_Drawer_cards
    fd_Drawer_cards := PySem.W.fnOf "cards" "Drawer.cards" (defArgs s_Drawer_cards) (defBody s_Drawer_cards) (defScope s_Drawer_cards) .none kV_Drawer_cards dc_Drawer_cards pm_Drawer_cards an_Drawer_cards cd_Drawer_cards ct_Drawer_cards
    F_Drawer_cards := fun_mk (st := s_Drawer_cards) l_Drawer_cards c_Drawer_cards k_Drawer_cards
    a_Drawer_len := f_Drawer_len
    fd_Drawer_len := PySem.W.fnOf "__len__" "Drawer.__len__" (defArgs s_Drawer_len) (defBody s_Drawer_len) (defScope s_Drawer_len) .none kV_Drawer_len dc_Drawer_len pm_Drawer_len an_Drawer_len cd_Drawer_len ct_Drawer_len
    F_Drawer_len := fun_mk (st := s_Drawer_len) l_Drawer_len c_Drawer_len k_Drawer_len
    a_codes_of_word := f_codes_of_word
    fd_codes_of_word := PySem.W.fnOf "codes_of_word" "codes_of_word" (defArgs s_codes_of_word) (defBody s_codes_of_word) (defScope s_codes_of_word) .none kV_codes_of_word dc_codes_of_word pm_codes_of_word an_codes_of_word cd_codes_of_word ct_codes_of_word
    F_codes_of_word := fun_mk (st := s_codes_of_word) l_codes_of_word c_codes_of_word k_codes_of_word
    g_codes_of_word := PySem.W.mg_of X G n_codes_of_word
    a_codes_of_card := f_codes_of_card
    fd_codes_of_card := PySem.W.fnOf "codes_of_card" "codes_of_card" (defArgs s_codes_of_card) (defBody s_codes_of_card) (defScope s_codes_of_card) .none kV_codes_of_card dc_codes_of_card pm_codes_of_card an_codes_of_card cd_codes_of_card ct_codes_of_card
    F_codes_of_card := fun_mk (st := s_codes_of_card) l_codes_of_card c_codes_of_card k_codes_of_card
    g_codes_of_card := PySem.W.mg_of X G n_codes_of_card
    a_checksum_of := f_checksum_of
    fd_checksum_of := PySem.W.fnOf "checksum_of" "checksum_of" (defArgs s_checksum_of) (defBody s_checksum_of) (defScope s_checksum_of) .none kV_checksum_of dc_checksum_of pm_checksum_of an_checksum_of cd_checksum_of ct_checksum_of
    F_checksum_of := fun_mk (st := s_checksum_of) l_checksum_of c_checksum_of k_checksum_of
    g_checksum_of := PySem.W.mg_of X G n_checksum_of
    a_encode_drawer := f_encode_drawer
    fd_encode_drawer := PySem.W.fnOf "encode_drawer" "encode_drawer" (defArgs s_encode_drawer) (defBody s_encode_drawer) (defScope s_encode_drawer) .none kV_encode_drawer dc_encode_drawer pm_encode_drawer an_encode_drawer cd_encode_drawer ct_encode_drawer
    F_encode_drawer := fun_mk (st := s_encode_drawer) l_encode_drawer c_encode_drawer k_encode_drawer
    g_encode_drawer := PySem.W.mg_of X G n_encode_drawer
    a_Reader_init := f_Reader_init
    fd_Reader_init := PySem.W.fnOf "__init__" "Reader.__init__" (defArgs s_Reader_init) (defBody s_Reader_init) (defScope s_Reader_init) .none kV_Reader_init dc_Reader_init pm_Reader_init an_Reader_init cd_Reader_init ct_Reader_init
    F_Reader_init := fun_mk (st := s_Reader_init) l_Reader_init c_Reader_init k_Reader_init
    a_Reader_read_number := f_Reader_read_number
    fd_Reader_read_number := PySem.W.fnOf "read_number" "Reader.read_number" (defArgs s_Reader_read_number) (defBody s_Reader_read_number) (defScope s_Reader_read_number) .none kV_Reader_read_number dc_Reader_read_number pm_Reader_read_number an_Reader_read_number cd_Reader_read_number ct_Reader_read_number
    F_Reader_read_number := fun_mk (st := s_Reader_read_number) l_Reader_read_number c_Reader_read_number k_Reader_read_number
    a_Reader_read_word := f_Reader_read_word
    fd_Reader_read_word := PySem.W.fnOf "read_word" "Reader.read_word" (defArgs s_Reader_read_word) (defBody s_Reader_read_word) (defScope s_Reader_read_word) .none kV_Reader_read_word dc_Reader_read_word pm_Reader_read_word an_Reader_read_word cd_Reader_read_word ct_Reader_read_word
    F_Reader_read_word := fun_mk (st := s_Reader_read_word) l_Reader_read_word c_Reader_read_word k_Reader_read_word
    a_Reader_read_book := f_Reader_read_book
    fd_Reader_read_book := PySem.W.fnOf "read_book" "Reader.read_book" (defArgs s_Reader_read_book) (defBody s_Reader_read_book) (defScope s_Reader_read_book) .none kV_Reader_read_book dc_Reader_read_book pm_Reader_read_book an_Reader_read_book cd_Reader_read_book ct_Reader_read_book
    F_Reader_read_book := fun_mk (st := s_Reader_read_book) l_Reader_read_book c_Reader_read_book k_Reader_read_book
    a_Reader_read_parts := f_Reader_read_parts
    fd_Reader_read_parts := PySem.W.fnOf "read_parts" "Reader.read_parts" (defArgs s_Reader_read_parts) (defBody s_Reader_read_parts) (defScope s_Reader_read_parts) .none kV_Reader_read_parts dc_Reader_read_parts pm_Reader_read_parts an_Reader_read_parts cd_Reader_read_parts ct_Reader_read_parts
    F_Reader_read_parts := fun_mk (st := s_Reader_read_parts) l_Reader_read_parts c_Reader_read_parts k_Reader_read_parts
    a_decode_drawer := f_decode_drawer
    fd_decode_drawer := PySem.W.fnOf "decode_drawer" "decode_drawer" (defArgs s_decode_drawer) (defBody s_decode_drawer) (defScope s_decode_drawer) .none kV_decode_drawer dc_decode_drawer pm_decode_drawer an_decode_drawer cd_decode_drawer ct_decode_drawer
    F_decode_drawer := fun_mk (st := s_decode_drawer) l_decode_drawer c_decode_drawer k_decode_drawer
    g_decode_drawer := PySem.W.mg_of X G n_decode_drawer
    a_llaw_taken := f_llaw_taken
    fd_llaw_taken := PySem.W.fnOf "_law_taken" "_law_taken" (defArgs s_llaw_taken) (defBody s_llaw_taken) (defScope s_llaw_taken) .none kV_llaw_taken dc_llaw_taken pm_llaw_taken an_llaw_taken cd_llaw_taken ct_llaw_taken
    F_llaw_taken := fun_mk (st := s_llaw_taken) l_llaw_taken c_llaw_taken k_llaw_taken
    g_llaw_taken := PySem.W.mg_of X G n_llaw_taken
    a_llaw_card := f_llaw_card
    fd_llaw_card := PySem.W.fnOf "_law_card" "_law_card" (defArgs s_llaw_card) (defBody s_llaw_card) (defScope s_llaw_card) .none kV_llaw_card dc_llaw_card pm_llaw_card an_llaw_card cd_llaw_card ct_llaw_card
    F_llaw_card := fun_mk (st := s_llaw_card) l_llaw_card c_llaw_card k_llaw_card
    g_llaw_card := PySem.W.mg_of X G n_llaw_card
    a_llaw_drawer := f_llaw_drawer
    fd_llaw_drawer := PySem.W.fnOf "_law_drawer" "_law_drawer" (defArgs s_llaw_drawer) (defBody s_llaw_drawer) (defScope s_llaw_drawer) .none kV_llaw_drawer dc_llaw_drawer pm_llaw_drawer an_llaw_drawer cd_llaw_drawer ct_llaw_drawer
    F_llaw_drawer := fun_mk (st := s_llaw_drawer) l_llaw_drawer c_llaw_drawer k_llaw_drawer
    g_llaw_drawer := PySem.W.mg_of X G n_llaw_drawer
    a_llaw_checked := f_llaw_checked
    fd_llaw_checked := PySem.W.fnOf "_law_checked" "_law_checked" (defArgs s_llaw_checked) (defBody s_llaw_checked) (defScope s_llaw_checked) .none kV_llaw_checked dc_llaw_checked pm_llaw_checked an_llaw_checked cd_llaw_checked ct_llaw_checked
    F_llaw_checked := fun_mk (st := s_llaw_checked) l_llaw_checked c_llaw_checked k_llaw_checked
    g_llaw_checked := PySem.W.mg_of X G n_llaw_checked
    a_llaw_offset := f_llaw_offset
    fd_llaw_offset := PySem.W.fnOf "_law_offset" "_law_offset" (defArgs s_llaw_offset) (defBody s_llaw_offset) (defScope s_llaw_offset) .none kV_llaw_offset dc_llaw_offset pm_llaw_offset an_llaw_offset cd_llaw_offset ct_llaw_offset
    F_llaw_offset := fun_mk (st := s_llaw_offset) l_llaw_offset c_llaw_offset k_llaw_offset
    g_llaw_offset := PySem.W.mg_of X G n_llaw_offset
    a_law := f_law
    fd_law := PySem.W.fnOf "law" "law" (defArgs s_law) (defBody s_law) (defScope s_law) .none kV_law dc_law pm_law an_law cd_law ct_law
    F_law := fun_mk (st := s_law) l_law c_law k_law
    g_law := PySem.W.mg_of X G n_law
    c_SeeError := C_SeeError
    g_SeeError := PySem.W.mg_of X G n_SeeError
    bg_SeeError := zbbg_SeeError
    br_SeeError := zbbr_SeeError
    bv_SeeError := zbbv_SeeError
    c_InvalidCard := C_InvalidCard
    g_InvalidCard := PySem.W.mg_of X G n_InvalidCard
    ox_InvalidCard := ⟨⟨_, _, _, _, _, _, _, _, _, _, _, _, _, _, _, zox1_InvalidCard, zq_ox2_InvalidCard⟩, zox3_InvalidCard, zox4_InvalidCard, zox5_InvalidCard, zox6_InvalidCard⟩
    oi_InvalidCard := zoi_InvalidCard
    ot_InvalidCard := zot_InvalidCard
    nf_InvalidCard_part := znf_InvalidCard_part
    xf_InvalidCard := ⟨zxg_InvalidCard, zxa_InvalidCard, zxb_InvalidCard, zxd_InvalidCard⟩
    c_DecodeError := C_DecodeError
    g_DecodeError := PySem.W.mg_of X G n_DecodeError
    ox_DecodeError := ⟨⟨_, _, _, _, _, _, _, _, _, _, _, _, _, _, _, zox1_DecodeError, zq_ox2_DecodeError⟩, zox3_DecodeError, zox4_DecodeError, zox5_DecodeError, zox6_DecodeError⟩
    oi_DecodeError := zoi_DecodeError
    ot_DecodeError := zot_DecodeError
    nf_DecodeError_offset := znf_DecodeError_offset
    xf_DecodeError := ⟨zxg_DecodeError, zxa_DecodeError, zxb_DecodeError, zxd_DecodeError⟩
    c_Card := C_Card
    g_Card := PySem.W.mg_of X G n_Card
    cl_Card := ⟨cg_Card, ch_Card, cp_Card, cs_Card⟩
    n_Card__heading := na_Card__heading
    n_Card__books := na_Card__books
    n_Card__see := na_Card__see
    n_Card__also := na_Card__also
    Mk_Card := ⟨mk1_Card, mk2_Card, mk3_Card, mk4_Card⟩
    p_Card_heading := pr_Card_heading
    P_Card_heading := ⟨p1_Card_heading, p2_Card_heading, p3_Card_heading, _, p4_Card_heading⟩
    p_Card_books := pr_Card_books
    P_Card_books := ⟨p1_Card_books, p2_Card_books, p3_Card_books, _, p4_Card_books⟩
    p_Card_see := pr_Card_see
    P_Card_see := ⟨p1_Card_see, p2_Card_see, p3_Card_see, _, p4_Card_see⟩
    p_Card_also := pr_Card_also
    P_Card_also := ⟨p1_Card_also, p2_Card_also, p3_Card_also, _, p4_Card_also⟩
    p_Card_leads := pr_Card_leads
    P_Card_leads := ⟨p1_Card_leads, p2_Card_leads, p3_Card_leads, _, p4_Card_leads⟩
    c_Drawer := C_Drawer
    g_Drawer := PySem.W.mg_of X G n_Drawer
    cl_Drawer := ⟨cg_Drawer, ch_Drawer, cp_Drawer, cs_Drawer⟩
    n_Drawer__cards := na_Drawer__cards
    Mk_Drawer := ⟨mk1_Drawer, mk2_Drawer, mk3_Drawer, mk4_Drawer⟩
    p_Drawer_cards := pr_Drawer_cards
    P_Drawer_cards := ⟨p1_Drawer_cards, p2_Drawer_cards, p3_Drawer_cards, _, p4_Drawer_cards⟩
    M_Drawer_len := ⟨me1_Drawer_len, me2_Drawer_len, me3_Drawer_len⟩
    c_Reader := C_Reader
    g_Reader := PySem.W.mg_of X G n_Reader
    cl_Reader := ⟨cg_Reader, ch_Reader, cp_Reader, cs_Reader⟩
    n_Reader_codes := na_Reader_codes
    n_Reader_offset := na_Reader_offset
    Mk_Reader := ⟨mk1_Reader, mk2_Reader, mk3_Reader, mk4_Reader⟩
    M_Reader_read_number := ⟨me1_Reader_read_number, me2_Reader_read_number, me3_Reader_read_number⟩
    M_Reader_read_word := ⟨me1_Reader_read_word, me2_Reader_read_word, me3_Reader_read_word⟩
    M_Reader_read_book := ⟨me1_Reader_read_book, me2_Reader_read_book, me3_Reader_read_book⟩
    M_Reader_read_parts := ⟨me1_Reader_read_parts, me2_Reader_read_parts, me3_Reader_read_parts⟩
    ex_InvalidCard_DecodeError := exm_by zs_InvalidCard_DecodeError zi_InvalidCard_DecodeError zt_InvalidCard_DecodeError zq_InvalidCard_DecodeError
    ex_InvalidCard_InvalidCard := exm_by zs_InvalidCard_InvalidCard zi_InvalidCard_InvalidCard zt_InvalidCard_InvalidCard zq_InvalidCard_InvalidCard
    ex_DecodeError_DecodeError := exm_by zs_DecodeError_DecodeError zi_DecodeError_DecodeError zt_DecodeError_DecodeError zq_DecodeError_DecodeError
    }, rfl, rfl, rfl⟩
  obtain ⟨T, e1, e2, q_llaw_drawer⟩ := T
  refine ⟨T.fd_law, [(tc_llaw_drawer, tP_llaw_drawer)], spLaw K tP_llaw_drawer, (List.forall_mem_cons.mpr ⟨tab_llaw_drawer, (List.forall_mem_nil _)⟩), (List.forall_mem_cons.mpr ⟨tcn_llaw_drawer, (List.forall_mem_nil _)⟩), (List.forall_mem_cons.mpr ⟨(PySem.W.codeHd_of_K X tch_llaw_drawer), (List.forall_mem_nil _)⟩), fun s v => ?_, fun H a ns hl _ hH hS => ⟨a, ns, rfl, hS, hl, hH _ (.head _), fun _ => rfl⟩, fun base _ _ tb => ?_⟩
  · rw [e2]
    exact .of_eq rfl
  · rw [e, ← e1]
    exact ok_law T (by rw [q_llaw_drawer]; exact tcq_llaw_drawer) (tb _ (.head _))
end My
open PySem PySem.W PyProof.Rows
set_option maxRecDepth 100000 in
set_option maxHeartbeats 0 in
theorem PySem.Challenge.cw_seerings_k51_codes_rejected_holds : PySem.Challenge.rw_seerings_k51_codes_rejected.Holds := by
  w_on; o_law; k_head; (case hw => w_witness2)
  k_fill
  refine LamX.walk_ofTs (l := PySem.Challenge.rw_seerings_k51_codes_rejected) (n := 63) (k := 8) (x := "_law_script") (CX := fun _ => L2.CX0) rfl (by decide) rfl ⟨rfl, by decide, by decide⟩ (fun w h Y => PySem.W.km_in_of Y) ?F (fun _ _ _ _ _ h => h)
  case F =>
    intro w mg fa h Y KX G hmg
    have tb := PySem.W.km_tabs_of Y
    refine' My.all_mk KX G hmg ?tab_llaw_drawer ?z_all ?z_bool ?z_int ?z_isinstance ?z_len ?z_list ?z_range ?z_set ?z_sorted ?z_str ?z_tuple ?z_zip ?zc_LETTERS ?zc_LONGEST_WORD ?zc_MOST_BOOKS ?zc_LAST_BOOK ?zc_MOST_ALSO ?zc_MOST_CARDS ?zc_MARK ?zc_FIRST_CHECKSUM ?l_InvalidCard_init ?c_InvalidCard_init ?k_InvalidCard_init ?l_DecodeError_init ?c_DecodeError_init ?k_DecodeError_init ?l_is_word ?c_is_word ?k_is_word ?n_is_word ?l_is_number ?c_is_number ?k_is_number ?n_is_number ?l_are_books ?c_are_books ?k_are_books ?n_are_books ?l_is_target ?c_is_target ?k_is_target ?n_is_target ?l_are_further ?c_are_further ?k_are_further ?n_are_further ?l_wrong_part ?c_wrong_part ?k_wrong_part ?n_wrong_part ?hk_Card_init_2 ?l_Card_init ?c_Card_init ?k_Card_init ?dk_Card_init ?l_Card_heading ?c_Card_heading ?k_Card_heading ?l_Card_books ?c_Card_books ?k_Card_books ?l_Card_see ?c_Card_see ?k_Card_see ?l_Card_also ?c_Card_also ?k_Card_also ?l_Card_leads ?c_Card_leads ?k_Card_leads ?l_Drawer_init ?c_Drawer_init ?k_Drawer_init ?l_Drawer_cards ?c_Drawer_cards ?k_Drawer_cards ?l_Drawer_len ?c_Drawer_len ?k_Drawer_len ?l_codes_of_word ?c_codes_of_word ?k_codes_of_word ?n_codes_of_word ?l_codes_of_card ?c_codes_of_card ?k_codes_of_card ?n_codes_of_card ?l_checksum_of ?c_checksum_of ?k_checksum_of ?n_checksum_of ?l_encode_drawer ?c_encode_drawer ?k_encode_drawer ?n_encode_drawer ?l_Reader_init ?c_Reader_init ?k_Reader_init ?l_Reader_read_number ?c_Reader_read_number ?k_Reader_read_number ?l_Reader_read_word ?c_Reader_read_word ?k_Reader_read_word ?l_Reader_read_book ?c_Reader_read_book ?k_Reader_read_book ?l_Reader_read_parts ?c_Reader_read_parts ?k_Reader_read_parts ?l_decode_drawer ?c_decode_drawer ?k_decode_drawer ?n_decode_drawer ?l_llaw_taken ?c_llaw_taken ?k_llaw_taken ?n_llaw_taken ?l_llaw_card ?c_llaw_card ?k_llaw_card ?n_llaw_card ?l_llaw_drawer ?c_llaw_drawer ?k_llaw_drawer ?n_llaw_drawer ?l_llaw_checked ?c_llaw_checked ?k_llaw_checked ?n_llaw_checked ?l_llaw_offset ?c_llaw_offset ?k_llaw_offset ?n_llaw_offset ?l_law ?c_law ?k_law ?n_law ?n_SeeError ?zbbg_SeeError ?zbbr_SeeError ?zbbv_SeeError ?n_InvalidCard ?zox1_InvalidCard ?zq_ox2_InvalidCard ?zox3_InvalidCard ?zox4_InvalidCard ?zox5_InvalidCard ?zox6_InvalidCard ?zoi_InvalidCard ?zot_InvalidCard ?znf_InvalidCard_part ?zxg_InvalidCard ?zxa_InvalidCard ?zxb_InvalidCard ?zxd_InvalidCard ?n_DecodeError ?zox1_DecodeError ?zq_ox2_DecodeError ?zox3_DecodeError ?zox4_DecodeError ?zox5_DecodeError ?zox6_DecodeError ?zoi_DecodeError ?zot_DecodeError ?znf_DecodeError_offset ?zxg_DecodeError ?zxa_DecodeError ?zxb_DecodeError ?zxd_DecodeError ?n_Card ?cg_Card ?ch_Card ?cp_Card ?cs_Card ?na_Card__heading ?na_Card__books ?na_Card__see ?na_Card__also ?mk1_Card ?mk2_Card ?mk3_Card ?mk4_Card ?p1_Card_heading ?p2_Card_heading ?p3_Card_heading ?p4_Card_heading ?p1_Card_books ?p2_Card_books ?p3_Card_books ?p4_Card_books ?p1_Card_see ?p2_Card_see ?p3_Card_see ?p4_Card_see ?p1_Card_also ?p2_Card_also ?p3_Card_also ?p4_Card_also ?p1_Card_leads ?p2_Card_leads ?p3_Card_leads ?p4_Card_leads ?n_Drawer ?cg_Drawer ?ch_Drawer ?cp_Drawer ?cs_Drawer ?na_Drawer__cards ?mk1_Drawer ?mk2_Drawer ?mk3_Drawer ?mk4_Drawer ?p1_Drawer_cards ?p2_Drawer_cards ?p3_Drawer_cards ?p4_Drawer_cards ?me1_Drawer_len ?me2_Drawer_len ?me3_Drawer_len ?n_Reader ?cg_Reader ?ch_Reader ?cp_Reader ?cs_Reader ?na_Reader_codes ?na_Reader_offset ?mk1_Reader ?mk2_Reader ?mk3_Reader ?mk4_Reader ?me1_Reader_read_number ?me2_Reader_read_number ?me3_Reader_read_number ?me1_Reader_read_word ?me2_Reader_read_word ?me3_Reader_read_word ?me1_Reader_read_book ?me2_Reader_read_book ?me3_Reader_read_book ?me1_Reader_read_parts ?me2_Reader_read_parts ?me3_Reader_read_parts ?zs_InvalidCard_DecodeError ?zi_InvalidCard_DecodeError ?zt_InvalidCard_DecodeError ?zq_InvalidCard_DecodeError ?zs_InvalidCard_InvalidCard ?zi_InvalidCard_InvalidCard ?zt_InvalidCard_InvalidCard ?zq_InvalidCard_InvalidCard ?zs_DecodeError_DecodeError ?zi_DecodeError_DecodeError ?zt_DecodeError_DecodeError ?zq_DecodeError_DecodeError ?tcq_llaw_drawer ?tck_llaw_drawer ?tcv_llaw_drawer ?tcn_llaw_drawer ?tch_llaw_drawer
    (case z_all => k_is)
    (case z_bool => k_is)
    (case z_int => k_is)
    (case z_isinstance => k_is)
    (case z_len => k_is)
    (case z_list => k_is)
    (case z_range => k_is)
    (case z_set => k_is)
    (case z_sorted => k_is)
    (case z_str => k_is)
    (case z_tuple => k_is)
    (case z_zip => k_is)
    (case zc_LETTERS => k_is)
    (case zc_LONGEST_WORD => k_is)
    (case zc_MOST_BOOKS => k_is)
    (case zc_LAST_BOOK => k_is)
    (case zc_MOST_ALSO => k_is)
    (case zc_MOST_CARDS => k_is)
    (case zc_MARK => k_is)
    (case zc_FIRST_CHECKSUM => k_is)
    (case n_is_word => k_is)
    (case n_is_number => k_is)
    (case n_are_books => k_is)
    (case n_is_target => k_is)
    (case n_are_further => k_is)
    (case n_wrong_part => k_is)
    (case n_codes_of_word => k_is)
    (case n_codes_of_card => k_is)
    (case n_checksum_of => k_is)
    (case n_encode_drawer => k_is)
    (case n_decode_drawer => k_is)
    (case n_llaw_taken => k_is)
    (case n_llaw_card => k_is)
    (case n_llaw_drawer => k_is)
    (case n_llaw_checked => k_is)
    (case n_llaw_offset => k_is)
    (case n_law => k_is)
    (case n_SeeError => k_is)
    (case n_InvalidCard => k_is)
    (case n_DecodeError => k_is)
    (case n_Card => k_is)
    (case n_Drawer => k_is)
    (case n_Reader => k_is)
    (case mk2_Card => k_is)
    (case mk2_Drawer => k_is)
    (case mk2_Reader => k_is)
    (case zoi_InvalidCard => k_is)
    (case zoi_DecodeError => k_is)
    (case me1_Drawer_len => k_is)
    (case me1_Reader_read_number => k_is)
    (case me1_Reader_read_word => k_is)
    (case me1_Reader_read_book => k_is)
    (case me1_Reader_read_parts => k_is)
    (case p1_Card_heading => k_is)
    (case p1_Card_books => k_is)
    (case p1_Card_see => k_is)
    (case p1_Card_also => k_is)
    (case p1_Card_leads => k_is)
    (case p1_Drawer_cards => k_is)
    (case p4_Card_heading => k_is)
    (case p4_Card_books => k_is)
    (case p4_Card_see => k_is)
    (case p4_Card_also => k_is)
    (case p4_Card_leads => k_is)
    (case p4_Drawer_cards => k_is)
    (case l_InvalidCard_init => k_is)
    (case l_DecodeError_init => k_is)
    (case l_is_word => k_is)
    (case l_is_number => k_is)
    (case l_are_books => k_is)
    (case l_is_target => k_is)
    (case l_are_further => k_is)
    (case l_wrong_part => k_is)
    (case l_Card_init => k_is)
    (case l_Card_heading => k_is)
    (case l_Card_books => k_is)
    (case l_Card_see => k_is)
    (case l_Card_also => k_is)
    (case l_Card_leads => k_is)
    (case l_Drawer_init => k_is)
    (case l_Drawer_cards => k_is)
    (case l_Drawer_len => k_is)
    (case l_codes_of_word => k_is)
    (case l_codes_of_card => k_is)
    (case l_checksum_of => k_is)
    (case l_encode_drawer => k_is)
    (case l_Reader_init => k_is)
    (case l_Reader_read_number => k_is)
    (case l_Reader_read_word => k_is)
    (case l_Reader_read_book => k_is)
    (case l_Reader_read_parts => k_is)
    (case l_decode_drawer => k_is)
    (case l_llaw_taken => k_is)
    (case l_llaw_card => k_is)
    (case l_llaw_drawer => k_is)
    (case l_llaw_checked => k_is)
    (case l_llaw_offset => k_is)
    (case l_law => k_is)
    (case dk_Card_init => k_is)
    (case tcq_llaw_drawer => exact rfl)
    (case tck_llaw_drawer => k_is)
    (case tcv_llaw_drawer => exact rfl)
    (case c_InvalidCard_init => k_is)
    (case k_InvalidCard_init => k_is)
    (case c_DecodeError_init => k_is)
    (case k_DecodeError_init => k_is)
    (case c_is_word => k_is)
    (case k_is_word => k_is)
    (case c_is_number => k_is)
    (case k_is_number => k_is)
    (case c_are_books => k_is)
    (case k_are_books => k_is)
    (case c_is_target => k_is)
    (case k_is_target => k_is)
    (case c_are_further => k_is)
    (case k_are_further => k_is)
    (case c_wrong_part => k_is)
    (case k_wrong_part => k_is)
    (case hk_Card_init_2 => k_is)
    (case c_Card_init => k_is)
    (case k_Card_init => k_is)
    (case c_Card_heading => k_is)
    (case k_Card_heading => k_is)
    (case c_Card_books => k_is)
    (case k_Card_books => k_is)
    (case c_Card_see => k_is)
    (case k_Card_see => k_is)
    (case c_Card_also => k_is)
    (case k_Card_also => k_is)
    (case c_Card_leads => k_is)
    (case k_Card_leads => k_is)
    (case c_Drawer_init => k_is)
    (case k_Drawer_init => k_is)
    (case c_Drawer_cards => k_is)
    (case k_Drawer_cards => k_is)
    (case c_Drawer_len => k_is)
    (case k_Drawer_len => k_is)
    (case c_codes_of_word => k_is)
    (case k_codes_of_word => k_is)
    (case c_codes_of_card => k_is)
    (case k_codes_of_card => k_is)
    (case c_checksum_of => k_is)
    (case k_checksum_of => k_is)
    (case c_encode_drawer => k_is)
    (case k_encode_drawer => k_is)
    (case c_Reader_init => k_is)
    (case k_Reader_init => k_is)
    (case c_Reader_read_number => k_is)
    (case k_Reader_read_number => k_is)
    (case c_Reader_read_word => k_is)
    (case k_Reader_read_word => k_is)
    (case c_Reader_read_book => k_is)
    (case k_Reader_read_book => k_is)
    (case c_Reader_read_parts => k_is)
    (case k_Reader_read_parts => k_is)
    (case c_decode_drawer => k_is)
    (case k_decode_drawer => k_is)
    (case c_llaw_taken => k_is)
    (case k_llaw_taken => k_is)
    (case c_llaw_card => k_is)
    (case k_llaw_card => k_is)
    (case c_llaw_drawer => k_is)
    (case k_llaw_drawer => k_is)
    (case c_llaw_checked => k_is)
    (case k_llaw_checked => k_is)
    (case c_llaw_offset => k_is)
    (case k_llaw_offset => k_is)
    (case c_law => k_is)
    (case k_law => k_is)
    (case zbbg_SeeError => k_is)
    (case zbbr_SeeError => k_is)
    (case zbbv_SeeError => k_is)
    (case zox1_InvalidCard => k_is)
    (case zq_ox2_InvalidCard => (first | rfl | k_is))
    (case zox3_InvalidCard => k_is)
    (case zox4_InvalidCard => k_is)
    (case zox5_InvalidCard => k_is)
    (case zox6_InvalidCard => k_is)
    (case zot_InvalidCard => k_is)
    (case znf_InvalidCard_part => k_is)
    (case zxg_InvalidCard => k_is)
    (case zxa_InvalidCard => k_is)
    (case zxb_InvalidCard => k_is)
    (case zxd_InvalidCard => k_is)
    (case zox1_DecodeError => k_is)
    (case zq_ox2_DecodeError => (first | rfl | k_is))
    (case zox3_DecodeError => k_is)
    (case zox4_DecodeError => k_is)
    (case zox5_DecodeError => k_is)
    (case zox6_DecodeError => k_is)
    (case zot_DecodeError => k_is)
    (case znf_DecodeError_offset => k_is)
    (case zxg_DecodeError => k_is)
    (case zxa_DecodeError => k_is)
    (case zxb_DecodeError => k_is)
    (case zxd_DecodeError => k_is)
    (case cg_Card => k_is)
    (case ch_Card => k_is)
    (case cp_Card => k_is)
    (case cs_Card => k_is)
    (case na_Card__heading => k_is)
    (case na_Card__books => k_is)
    (case na_Card__see => k_is)
    (case na_Card__also => k_is)
    (case mk1_Card => k_is)
    (case mk3_Card => k_is)
    (case mk4_Card => k_is)
    (case p2_Card_heading => k_is)
    (case p3_Card_heading => k_is)
    (case p2_Card_books => k_is)
    (case p3_Card_books => k_is)
    (case p2_Card_see => k_is)
    (case p3_Card_see => k_is)
    (case p2_Card_also => k_is)
    (case p3_Card_also => k_is)
    (case p2_Card_leads => k_is)
    (case p3_Card_leads => k_is)
    (case cg_Drawer => k_is)
    (case ch_Drawer => k_is)
    (case cp_Drawer => k_is)
    (case cs_Drawer => k_is)
    (case na_Drawer__cards => k_is)
    (case mk1_Drawer => k_is)
    (case mk3_Drawer => k_is)
    (case mk4_Drawer => k_is)
    (case p2_Drawer_cards => k_is)
    (case p3_Drawer_cards => k_is)
    (case me2_Drawer_len => k_is)
    (case me3_Drawer_len => k_is)
    (case cg_Reader => k_is)
    (case ch_Reader => k_is)
    (case cp_Reader => k_is)
    (case cs_Reader => k_is)
    (case na_Reader_codes => k_is)
    (case na_Reader_offset => k_is)
    (case mk1_Reader => k_is)
    (case mk3_Reader => k_is)
    (case mk4_Reader => k_is)
    (case me2_Reader_read_number => k_is)
    (case me3_Reader_read_number => k_is)
    (case me2_Reader_read_word => k_is)
    (case me3_Reader_read_word => k_is)
    (case me2_Reader_read_book => k_is)
    (case me3_Reader_read_book => k_is)
    (case me2_Reader_read_parts => k_is)
    (case me3_Reader_read_parts => k_is)
    (case zs_InvalidCard_DecodeError => k_is)
    (case zi_InvalidCard_DecodeError => k_is)
    (case zt_InvalidCard_DecodeError => k_is)
    (case zq_InvalidCard_DecodeError => (first | rfl | k_is))
    (case zs_InvalidCard_InvalidCard => k_is)
    (case zi_InvalidCard_InvalidCard => k_is)
    (case zt_InvalidCard_InvalidCard => k_is)
    (case zq_InvalidCard_InvalidCard => (first | rfl | k_is))
    (case zs_DecodeError_DecodeError => k_is)
    (case zi_DecodeError_DecodeError => k_is)
    (case zt_DecodeError_DecodeError => k_is)
    (case zq_DecodeError_DecodeError => (first | rfl | k_is))
    (case tcn_llaw_drawer => (first | kernel_rfl | rfl | decide +kernel))
    (case tch_llaw_drawer => (first | kernel_rfl | rfl | decide +kernel))
    (case tab_llaw_drawer => exact tb _ (by simp))
