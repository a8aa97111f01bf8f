import PyProof.Rows.All
import Wide.All
import OpenK.AllK
import Wide.FinOn
import HandS.ForMost
import HandS.Walk
import HandS.Evl
import HandS.Flow
import HandS.IsInst
import HandS.SortInts
import KE.DataEq
import HandS.ForExc
import HandS.Defaults
import HandS.Head0
import HandS.Head1
import HandS.Head2
import HandS.HeadEnd
import HandS.HeadHook1
import HandS.HeadHook2
import HandS.HeadHook3
import HandS.HeadHook4
import HandS.More
import HandS.Style
import KE.SortData
import HandS.Strs
import HandS.Comp
import HandS.SetBool
import HandS.Dict
import HandS.TupLen
import HandS.WordsDict
import HandS.Iter
import HandS.Star
import HandS.Text
import HandS.Codes
import PyProof.StrOps2
import HandS.StrMore
import PyProof.Rows.StrCountLaw
import PyProof.Rows.StrCut
import PyProof.StrLawsFrom
import PyProof.Draws
import PyProof.EnumMake
import HandS.GenList
import KE.KDictCopyH
import HandS.Wide
import HandS.DictComp
import HandS.Flt
import KE.LtData
import KE.KDictZip
import HandS.MakeKwOnly
import HandS.OwnIter
import HandS.IterNext
import HandS.Property
import HandS.Conv
import PyProof.StrLawsLast
import KE.KUnpack
import PyProof.CollectIter
import HandS.TupAny
import KE.KRevSl
import HandS.ReplaceLit
import KE.DataMinMax
import HandS.SortKw
import HandS.Set
import PySem.Challenge.RW_quirekiln_k25_measures_grow_with_childre
set_option Elab.async false
set_option linter.all false
set_option maxRecDepth 100000
set_option maxHeartbeats 4000000
/-! Heads whose defs have keyword-only defaults that are objects. -/
namespace DL
open PySem PySem.Spec PyProof.Rows L2
/-- the keyword-only default x of the def at f, if it is an object -/
def kwAt (f : Str × Option Str) (x : Str) (K : PySem.W.Frag) : Addr := match K.lookup (He.fAd K f) with
  | some ⟨_, _, .func fd, _⟩ => (match fd.kwdefaults with
    | .ref D => (match PySem.W.nsIn K D x with
      | some (some (.ref a)) => a
      | _ => 0)
    | _ => 0)
  | _ => 0
/-- an empty tuple stands there -/
def emB (K : PySem.W.Frag) (a : Addr) : Bool := match K.lookup a with
  | some ⟨.type c, _, .seq its _, _⟩ => decide (c = "tuple") && decide (its.toList = [])
  | _ => false
end DL
namespace DL
open PySem PySem.Spec PyProof.Rows L2 He
/-- the addresses of a head: four steps from the module's names, and what the keyword-only defaults of its defs hold -/
def asE (g : Addr → Option Obj) : List Addr :=
  let as := asD g 4
  as ++ as.flatMap fun a => match g a with
    | some ⟨_, _, .func fd, _⟩ => (match fd.kwdefaults with
      | .ref D => (match g D with
        | some o => refsD o
        | none => [])
      | _ => [])
    | _ => []
def obsE (fa : List Fa) (fn : List DefD) (ts : List Tab) (ex : PySem.W.Frag → Bool) (g : Addr → Option Obj) : AlX := (obsT fa fn ts (frT g (asE g)), ex (frT g (asE g)))
def hookE (fa : List Fa) (fn : List DefD) (ts : List Tab) (ex : PySem.W.Frag → Bool) : PySem.W.Hook where
  α := AlX
  obs := fun s => obsE fa fn ts ex s.heap.get?
  val := fun w => valX fn ts w
  says := fun w h => ∃ K : PySem.W.Frag, K.In h ∧ SaysX fa fn ts [] ex w h K
  of := fun _ _ e => ⟨_, frT_in, congrArg (fun z : AlX => z.1) e, congrArg (fun z : AlX => z.2) e, fun _ hp => absurd hp List.not_mem_nil, fun _ hp => absurd hp List.not_mem_nil, fun _ hp => absurd hp List.not_mem_nil⟩
  keeps := fun _ _ _ ⟨K, hK, c⟩ k => ⟨K, PySem.W.Frag.In.keeps hK k, ⟨c.t, c.more, c.hd, c.out, fun p hp => k _ _ (c.empty p hp)⟩⟩
theorem obsE_eq {fa : List Fa} {fn : List DefD} {ts : List Tab} {ex : PySem.W.Frag → Bool} {g : Addr → Option Obj} {s : Shared} (h : ∀ a, g a = s.heap.get? a) : obsE fa fn ts ex g = (hookE fa fn ts ex).obs s := by
  have e : g = s.heap.get? := funext h
  rw [e] <;> rfl
end DL
-- END DLA
section
set_option Elab.async false
set_option linter.all false
set_option maxRecDepth 100000
set_option maxHeartbeats 4000000
open PySem PySem.Spec PyProof.Rows L2
namespace QH
def topS (i : Nat) : Stmt := PySem.Challenge.pw_quirekiln_k25_measures_grow_with_childre.main.body.getD i (.Pass ⟨0, 0, 0, 0⟩)
abbrev dD (x : Str) (s : Stmt) : He.DefD := ⟨(x, none), x, x, defArgs s, defBody s, defScope s, [], []⟩
abbrev s_advance : Stmt := topS 4
abbrev s_offsets : Stmt := topS 5
abbrev s_paragraphs : Stmt := topS 7
abbrev s_words : Stmt := topS 8
abbrev s_frame : Stmt := topS 10
abbrev s_side_margins : Stmt := topS 11
abbrev s_bounded : Stmt := topS 12
abbrev s_is_number : Stmt := topS 33
abbrev s_Page__row : Stmt := inClass (topS 67) 29
abbrev s_Page_children : Stmt := inClass (topS 67) 3
abbrev s_Page_kind : Stmt := inClass (topS 67) 1
abbrev s__is_in_flow : Stmt := topS 17
abbrev s_flow_children : Stmt := topS 13
abbrev s__text_pair : Stmt := topS 18
abbrev s_Page_text : Stmt := inClass (topS 67) 5
abbrev s__in_a_row : Stmt := topS 20
abbrev s_Measures__outer_pairs : Stmt := inClass (topS 16) 5
abbrev s__greatest : Stmt := topS 19
abbrev s_Measures_columns : Stmt := inClass (topS 16) 2
abbrev s_Measures__inside : Stmt := inClass (topS 16) 4
abbrev s_Measures__measured : Stmt := inClass (topS 16) 3
abbrev s_Measures_pair : Stmt := inClass (topS 16) 1
abbrev s_Measures___init__ : Stmt := inClass (topS 16) 0
abbrev s_narrow : Stmt := topS 14
abbrev s_wide : Stmt := topS 15
abbrev s_is_within : Stmt := topS 34
abbrev s_is_word : Stmt := topS 35
abbrev s__is_allowed : Stmt := topS 37
abbrev s_is_string : Stmt := topS 36
abbrev s_check_number : Stmt := topS 41
abbrev s_check_index : Stmt := topS 42
abbrev s_check_word : Stmt := topS 43
abbrev s_check_string : Stmt := topS 44
abbrev s_read_marks : Stmt := topS 45
abbrev s_History___init__ : Stmt := inClass (topS 47) 0
abbrev s_History__put : Stmt := inClass (topS 47) 4
abbrev s_History_write : Stmt := inClass (topS 47) 1
abbrev s_new_row : Stmt := topS 56
abbrev s_replaced : Stmt := topS 57
abbrev s_with_child : Stmt := topS 58
abbrev s_branch : Stmt := topS 59
abbrev s_depth_of : Stmt := topS 60
abbrev s_Page___init__ : Stmt := inClass (topS 67) 0
abbrev s_Page_depth : Stmt := inClass (topS 67) 9
abbrev s_Page_nodes : Stmt := inClass (topS 67) 10
abbrev s_Page__box : Stmt := inClass (topS 67) 30
abbrev s__check_depth : Stmt := topS 68
abbrev s_Page__follow : Stmt := inClass (topS 67) 33
abbrev s_Page__write : Stmt := inClass (topS 67) 32
abbrev s_Page__insert : Stmt := inClass (topS 67) 31
abbrev s_Page_insert_box : Stmt := inClass (topS 67) 12
abbrev s_Page_insert_text : Stmt := inClass (topS 67) 13
abbrev s__law_cell : Stmt := topS 70
abbrev s__law_mixed : Stmt := topS 71
abbrev s__law_source : Stmt := topS 72
abbrev s__law_is_integer : Stmt := topS 73
abbrev s__law_plain_style : Stmt := topS 74
abbrev s__law_text_style : Stmt := topS 75
abbrev s__law_box_style : Stmt := topS 76
abbrev s__law_string : Stmt := topS 77
abbrev s__law_tree : Stmt := topS 78
abbrev s__law_measures : Stmt := topS 79
abbrev s__law_are_measures : Stmt := topS 80
abbrev s_law : Stmt := topS 81
def fn : List He.DefD := [dD "advance" s_advance, dD "offsets" s_offsets, dD "paragraphs" s_paragraphs, dD "words" s_words, dD "frame" s_frame, dD "side_margins" s_side_margins, dD "bounded" s_bounded, dD "flow_children" s_flow_children, dD "narrow" s_narrow, dD "wide" s_wide, ⟨("Measures", some "__init__"), "__init__", "Measures.__init__", defArgs s_Measures___init__, defBody s_Measures___init__, defScope s_Measures___init__, [], []⟩, ⟨("Measures", some "pair"), "pair", "Measures.pair", defArgs s_Measures_pair, defBody s_Measures_pair, defScope s_Measures_pair, [], []⟩, ⟨("Measures", some "columns"), "columns", "Measures.columns", defArgs s_Measures_columns, defBody s_Measures_columns, defScope s_Measures_columns, [], []⟩, ⟨("Measures", some "_measured"), "_measured", "Measures._measured", defArgs s_Measures__measured, defBody s_Measures__measured, defScope s_Measures__measured, [], []⟩, ⟨("Measures", some "_inside"), "_inside", "Measures._inside", defArgs s_Measures__inside, defBody s_Measures__inside, defScope s_Measures__inside, [], []⟩, ⟨("Measures", some "_outer_pairs"), "_outer_pairs", "Measures._outer_pairs", defArgs s_Measures__outer_pairs, defBody s_Measures__outer_pairs, defScope s_Measures__outer_pairs, [], []⟩, dD "_is_in_flow" s__is_in_flow, dD "_text_pair" s__text_pair, dD "_greatest" s__greatest, dD "_in_a_row" s__in_a_row, dD "is_number" s_is_number, dD "is_within" s_is_within, dD "is_word" s_is_word, dD "is_string" s_is_string, dD "_is_allowed" s__is_allowed, dD "check_number" s_check_number, dD "check_index" s_check_index, dD "check_word" s_check_word, dD "check_string" s_check_string, dD "read_marks" s_read_marks, ⟨("History", some "__init__"), "__init__", "History.__init__", defArgs s_History___init__, defBody s_History___init__, defScope s_History___init__, [], []⟩, ⟨("History", some "write"), "write", "History.write", defArgs s_History_write, defBody s_History_write, defScope s_History_write, [], []⟩, ⟨("History", some "_put"), "_put", "History._put", defArgs s_History__put, defBody s_History__put, defScope s_History__put, [], []⟩, dD "new_row" s_new_row, dD "replaced" s_replaced, dD "with_child" s_with_child, dD "branch" s_branch, dD "depth_of" s_depth_of, ⟨("Page", some "__init__"), "__init__", "Page.__init__", defArgs s_Page___init__, defBody s_Page___init__, defScope s_Page___init__, [], []⟩, ⟨("Page", some "kind"), "kind", "Page.kind", defArgs s_Page_kind, defBody s_Page_kind, defScope s_Page_kind, [], []⟩, ⟨("Page", some "children"), "children", "Page.children", defArgs s_Page_children, defBody s_Page_children, defScope s_Page_children, [], []⟩, ⟨("Page", some "text"), "text", "Page.text", defArgs s_Page_text, defBody s_Page_text, defScope s_Page_text, [], []⟩, ⟨("Page", some "depth"), "depth", "Page.depth", defArgs s_Page_depth, defBody s_Page_depth, defScope s_Page_depth, [], []⟩, ⟨("Page", some "nodes"), "nodes", "Page.nodes", defArgs s_Page_nodes, defBody s_Page_nodes, defScope s_Page_nodes, [], []⟩, ⟨("Page", some "insert_box"), "insert_box", "Page.insert_box", defArgs s_Page_insert_box, defBody s_Page_insert_box, defScope s_Page_insert_box, [], [("marks", .adr (DL.kwAt ("Page", some "insert_box") "marks"))]⟩, ⟨("Page", some "insert_text"), "insert_text", "Page.insert_text", defArgs s_Page_insert_text, defBody s_Page_insert_text, defScope s_Page_insert_text, [], []⟩, ⟨("Page", some "_row"), "_row", "Page._row", defArgs s_Page__row, defBody s_Page__row, defScope s_Page__row, [], []⟩, ⟨("Page", some "_box"), "_box", "Page._box", defArgs s_Page__box, defBody s_Page__box, defScope s_Page__box, [], []⟩, ⟨("Page", some "_insert"), "_insert", "Page._insert", defArgs s_Page__insert, defBody s_Page__insert, defScope s_Page__insert, [], []⟩, ⟨("Page", some "_write"), "_write", "Page._write", defArgs s_Page__write, defBody s_Page__write, defScope s_Page__write, [], []⟩, ⟨("Page", some "_follow"), "_follow", "Page._follow", defArgs s_Page__follow, defBody s_Page__follow, defScope s_Page__follow, [], []⟩, dD "_check_depth" s__check_depth, dD "_law_cell" s__law_cell, dD "_law_mixed" s__law_mixed, dD "_law_source" s__law_source, dD "_law_is_integer" s__law_is_integer, dD "_law_plain_style" s__law_plain_style, dD "_law_text_style" s__law_text_style, dD "_law_box_style" s__law_box_style, dD "_law_string" s__law_string, dD "_law_tree" s__law_tree, dD "_law_measures" s__law_measures, dD "_law_are_measures" s__law_are_measures, dD "law" s_law]
def ts : List He.Tab := []
def fa : List He.Fa := [.glo "advance", .glo "offsets", .glo "paragraphs", .glo "words", .glo "frame", .glo "side_margins", .glo "bounded", .glo "flow_children", .glo "narrow", .glo "wide", .mkr "Measures", .meth "Measures" "pair", .meth "Measures" "columns", .meth "Measures" "_measured", .meth "Measures" "_inside", .meth "Measures" "_outer_pairs", .glo "_is_in_flow", .glo "_text_pair", .glo "_greatest", .glo "_in_a_row", .glo "is_number", .glo "is_within", .glo "is_word", .glo "is_string", .glo "_is_allowed", .glo "check_number", .glo "check_index", .glo "check_word", .glo "check_string", .glo "read_marks", .mkr "History", .meth "History" "write", .meth "History" "_put", .glo "new_row", .glo "replaced", .glo "with_child", .glo "branch", .glo "depth_of", .mkr "Page", .meth "Page" "kind", .meth "Page" "children", .meth "Page" "text", .meth "Page" "depth", .meth "Page" "nodes", .meth "Page" "insert_box", .meth "Page" "insert_text", .meth "Page" "_row", .meth "Page" "_box", .meth "Page" "_insert", .meth "Page" "_write", .meth "Page" "_follow", .glo "_check_depth", .glo "_law_cell", .glo "_law_mixed", .glo "_law_source", .glo "_law_is_integer", .glo "_law_plain_style", .glo "_law_text_style", .glo "_law_box_style", .glo "_law_string", .glo "_law_tree", .glo "_law_measures", .glo "_law_are_measures", .glo "law", .free "all", .free "bool", .free "int", .free "isinstance", .free "len", .free "list", .free "max", .free "min", .free "ord", .free "range", .free "set", .free "sorted", .free "str", .free "sum", .free "tuple", .str "NARROW" " .,':;!|ijl", .str "WIDE" "mwMW@", .int "LONGEST_WORD" 12, .int "PERCENT" 37, .int "MOST_CHARACTERS" 500, .int "MOST_MARKS" 8, .int "ROOT" 1, .int "NOBODY" 0, .int "PARENT" 0, .int "KIND" 1, .int "CONTENT" 2, .int "CHILDREN" 6, .int "MOST_WINDOW" 1000, .int "MOST_DEPTH" 30, .int "MOST_NODES" 300, .str "WINDOW" "window", .str "RULES" "rules", .glo "History", .cls "History", .noat "History" "cells", .noat "History" "_done", .noat "History" "_undone", .glo "Measures", .cls "Measures", .noat "Measures" "_page", .noat "Measures" "_styles", .noat "Measures" "known", .glo "Page", .cls "Page", .noat "Page" "width", .noat "Page" "height", .noat "Page" "_last_id", .noat "Page" "_moment", .noat "Page" "_marked", .noat "Page" "_history"]
def ex (K : PySem.W.Frag) : Bool := DL.emB K (DL.kwAt ("Page", some "insert_box") "marks" K)
abbrev R : PySem.W.OpenRow := PySem.W.OpenLaw.row PySem.Challenge.rw_quirekiln_k25_measures_grow_with_childre
abbrev hk : PySem.W.Hook := DL.hookE fa fn ts ex
def ob (s : PySem.W.SharedT) : He.AlX := DL.obsE fa fn ts ex (HandSHeadRun.getT s)
theorem ob_eq (s : PySem.W.SharedT) : ob s = hk.obs s.abs := DL.obsE_eq (HandSHeadRun.getT_eq s)
def wb (b : Bool) (w : World) : World := { w with params := { w.params with followText := fun r => if r = "special-get-raises" then b else w.params.followText r } }
theorem wb_eq (w : World) : wb (w.params.followText "special-get-raises") w = w := by
  unfold wb
  have e : (fun r => if r = "special-get-raises" then w.params.followText "special-get-raises" else w.params.followText r) = w.params.followText := by
    funext r
    split
    · rename_i h
      rw [h]
    · rfl
  rw [e]
set_option maxHeartbeats 0 in
theorem run_true (w : World) : HandSHeadRun.RunEq R (PySem.W.view R.prog [81]) hk ob 11320 ("_wall" :: "NARROW" :: "WIDE" :: "advance" :: "offsets" :: "paragraphs" :: "words" :: "frame" :: "side_margins" :: "bounded" :: "flow_children" :: "narrow" :: "wide" :: "Measures" :: "_is_in_flow" :: "_text_pair" :: "_greatest" :: "_in_a_row" :: "PageError" :: "NoNode" :: "WrongKind" :: "BadWord" :: "BadValue" :: "BadPlace" :: "TooDeep" :: "TooMany" :: "LONGEST_WORD" :: "PERCENT" :: "is_number" :: "is_within" :: "is_word" :: "is_string" :: "_is_allowed" :: "MOST_CHARACTERS" :: "MOST_MARKS" :: "check_number" :: "check_index" :: "check_word" :: "check_string" :: "read_marks" :: "History" :: "ROOT" :: "NOBODY" :: "PARENT" :: "KIND" :: "CONTENT" :: "MARKS" :: "CHILDREN" :: "new_row" :: "replaced" :: "with_child" :: "branch" :: "depth_of" :: "MOST_WINDOW" :: "MOST_DEPTH" :: "MOST_NODES" :: "WINDOW" :: "RULES" :: "Page" :: "_check_depth" :: "_law_cell" :: "_law_mixed" :: "_law_source" :: "_law_is_integer" :: "_law_plain_style" :: "_law_text_style" :: "_law_box_style" :: "_law_string" :: "_law_tree" :: "_law_measures" :: "_law_are_measures" :: []) (wb true w) := by
  intro os
  kernel_rfl
set_option maxHeartbeats 0 in
theorem run_false (w : World) : HandSHeadRun.RunEq R (PySem.W.view R.prog [81]) hk ob 11320 ("_wall" :: "NARROW" :: "WIDE" :: "advance" :: "offsets" :: "paragraphs" :: "words" :: "frame" :: "side_margins" :: "bounded" :: "flow_children" :: "narrow" :: "wide" :: "Measures" :: "_is_in_flow" :: "_text_pair" :: "_greatest" :: "_in_a_row" :: "PageError" :: "NoNode" :: "WrongKind" :: "BadWord" :: "BadValue" :: "BadPlace" :: "TooDeep" :: "TooMany" :: "LONGEST_WORD" :: "PERCENT" :: "is_number" :: "is_within" :: "is_word" :: "is_string" :: "_is_allowed" :: "MOST_CHARACTERS" :: "MOST_MARKS" :: "check_number" :: "check_index" :: "check_word" :: "check_string" :: "read_marks" :: "History" :: "ROOT" :: "NOBODY" :: "PARENT" :: "KIND" :: "CONTENT" :: "MARKS" :: "CHILDREN" :: "new_row" :: "replaced" :: "with_child" :: "branch" :: "depth_of" :: "MOST_WINDOW" :: "MOST_DEPTH" :: "MOST_NODES" :: "WINDOW" :: "RULES" :: "Page" :: "_check_depth" :: "_law_cell" :: "_law_mixed" :: "_law_source" :: "_law_is_integer" :: "_law_plain_style" :: "_law_text_style" :: "_law_box_style" :: "_law_string" :: "_law_tree" :: "_law_measures" :: "_law_are_measures" :: []) (wb false w) := by
  intro os
  kernel_rfl
theorem run (w : World) : HandSHeadRun.RunEq R (PySem.W.view R.prog [81]) hk ob 11320 ("_wall" :: "NARROW" :: "WIDE" :: "advance" :: "offsets" :: "paragraphs" :: "words" :: "frame" :: "side_margins" :: "bounded" :: "flow_children" :: "narrow" :: "wide" :: "Measures" :: "_is_in_flow" :: "_text_pair" :: "_greatest" :: "_in_a_row" :: "PageError" :: "NoNode" :: "WrongKind" :: "BadWord" :: "BadValue" :: "BadPlace" :: "TooDeep" :: "TooMany" :: "LONGEST_WORD" :: "PERCENT" :: "is_number" :: "is_within" :: "is_word" :: "is_string" :: "_is_allowed" :: "MOST_CHARACTERS" :: "MOST_MARKS" :: "check_number" :: "check_index" :: "check_word" :: "check_string" :: "read_marks" :: "History" :: "ROOT" :: "NOBODY" :: "PARENT" :: "KIND" :: "CONTENT" :: "MARKS" :: "CHILDREN" :: "new_row" :: "replaced" :: "with_child" :: "branch" :: "depth_of" :: "MOST_WINDOW" :: "MOST_DEPTH" :: "MOST_NODES" :: "WINDOW" :: "RULES" :: "Page" :: "_check_depth" :: "_law_cell" :: "_law_mixed" :: "_law_source" :: "_law_is_integer" :: "_law_plain_style" :: "_law_text_style" :: "_law_box_style" :: "_law_string" :: "_law_tree" :: "_law_measures" :: "_law_are_measures" :: []) w := by
  have e := wb_eq w
  cases h : w.params.followText "special-get-raises" with
  | true => rw [h] at e; rw [← e]; exact run_true w
  | false => rw [h] at e; rw [← e]; exact run_false w
end QH
end

set_option Elab.async false
set_option linter.all false
set_option maxRecDepth 100000
set_option maxHeartbeats 2000000
/-! The data layer: what a piece of a def does, told by data (PyData) and by a small symbolic store, over the readings of HandS. -/
namespace DL
open PySem L2

/-! ### data at an address -/
def SqK (K : PySem.W.Frag) (a : Addr) (xs : List V) : Prop :=
  ∃ (o : Obj) (its : Array Value) (n : Nat), K.lookup a = some o ∧ o.cls = .type "list" ∧ o.dict = none ∧ o.data = .seq its n ∧ its.size ≤ sizeLine ∧ Vals xs its.toList
/-- a key as data -/
def kdat : Key → PyData
  | .inl i => .int i
  | .inr x => .str x
def tdat (ks : List Key) : PyData := .tuple (ks.map kdat)
mutual
/-- v stands for the data d at the heap H; no list and no dict of it lies at an address of N -/
inductive Dn (K : PySem.W.Frag) (N : Addr → Prop) (H : Hp) : V → PyData → Prop
  | non : Dn K N H .non .none
  | bl (b : Bool) : Dn K N H (.bl b) (.bool b)
  | int (i : Int) : Dn K N H (.int i) (.int i)
  | str (x : Str) : Dn K N H (.str x) (.str x)
  | lst {a : Addr} {xs : List V} {ds : List PyData} : Rd H a (.lst xs) → ¬ N a → DnAll K N H xs ds → Dn K N H (.ref a) (.list ds)
  | lstK {a : Addr} {xs : List V} {ds : List PyData} : SqK K a xs → DnAll K N H xs ds → Dn K N H (.ref a) (.list ds)
  | tup {a : Addr} {xs : List V} {ds : List PyData} : SqT K H a xs → DnAll K N H xs ds → Dn K N H (.ref a) (.tuple ds)
  | dkk {a : Addr} {ws : List (Key × V)} {kvs : List (PyData × PyData)} : Rd H a (.dK ws) → ¬ N a → DnPs K N H (ws.map fun p => (kdat p.1, p.2)) kvs → Dn K N H (.ref a) (.dict kvs)
  | dkt {a : Addr} {ws : List (List Key × V)} {kvs : List (PyData × PyData)} : H a = some (.dT ws) → ¬ N a → DnPs K N H ((.none, .non) :: ws.map fun p => (tdat p.1, p.2)) kvs → Dn K N H (.ref a) (.dict kvs)
  | dkz {a : Addr} {od : Obj} {ws : List (Key × V)} {kvs : List (PyData × PyData)} : H a = some (.frz od (.dK ws)) → ¬ N a → DnPs K N H ((.bool false, .non) :: ws.map fun p => (kdat p.1, p.2)) kvs → Dn K N H (.ref a) (.dict kvs)
  | ins {a C dx : Addr} {fs : List (Str × V)} {kvs : List (PyData × PyData)} : H a = some (.ins C dx fs) → ¬ N a → DnPs K N H ((.bool true, .int (C : Int)) :: fs.map fun p => (.str p.1, p.2)) kvs → Dn K N H (.ref a) (.dict kvs)
inductive DnAll (K : PySem.W.Frag) (N : Addr → Prop) (H : Hp) : List V → List PyData → Prop
  | nil : DnAll K N H [] []
  | cons {v : V} {vs : List V} {d : PyData} {ds : List PyData} : Dn K N H v d → DnAll K N H vs ds → DnAll K N H (v :: vs) (d :: ds)
inductive DnPs (K : PySem.W.Frag) (N : Addr → Prop) (H : Hp) : List (PyData × V) → List (PyData × PyData) → Prop
  | nil : DnPs K N H [] []
  | cons {k : PyData} {v : V} {vs : List (PyData × V)} {d : PyData} {ds : List (PyData × PyData)} : Dn K N H v d → DnPs K N H vs ds → DnPs K N H ((k, v) :: vs) ((k, d) :: ds)
end

section
variable {K : PySem.W.Frag} {N N' : Addr → Prop} {H H' : Hp}
mutual
theorem Dn.go (hl : ∀ a u, Rd H a u → ¬ N a → Rd H' a u ∧ ¬ N' a) (hw : ∀ a u, H a = some u → ¬ N a → H' a = some u) (ht : ∀ a xs, SqT K H a xs → SqT K H' a xs) : ∀ (d : PyData) (v : V), Dn K N H v d → Dn K N' H' v d
  | .none, _, h => by cases h; exact .non
  | .bool b, _, h => by cases h; exact .bl b
  | .int i, _, h => by cases h; exact .int i
  | .str x, _, h => by cases h; exact .str x
  | .list ds, _, h => by
    cases h with
    | lst r n a => exact .lst (hl _ _ r n).1 (hl _ _ r n).2 (DnAll.go hl hw ht ds _ a)
    | lstK r a => exact .lstK r (DnAll.go hl hw ht ds _ a)
  | .tuple ds, _, h => by
    cases h with
    | tup r a => exact .tup (ht _ _ r) (DnAll.go hl hw ht ds _ a)
  | .dict kvs, _, h => by
    cases h with
    | dkk r n a => exact .dkk (hl _ _ r n).1 (hl _ _ r n).2 (DnPs.go hl hw ht kvs _ a)
    | dkt r n a => exact .dkt (hw _ _ r n) (hl _ _ (Or.inl r) n).2 (DnPs.go hl hw ht kvs _ a)
    | dkz r n a => exact .dkz (hw _ _ r n) (hl _ _ (Or.inr ⟨_, r⟩) n).2 (DnPs.go hl hw ht kvs _ a)
    | ins r n a => exact .ins (hw _ _ r n) (hl _ _ (Or.inl r) n).2 (DnPs.go hl hw ht kvs _ a)
theorem DnAll.go (hl : ∀ a u, Rd H a u → ¬ N a → Rd H' a u ∧ ¬ N' a) (hw : ∀ a u, H a = some u → ¬ N a → H' a = some u) (ht : ∀ a xs, SqT K H a xs → SqT K H' a xs) : ∀ (ds : List PyData) (vs : List V), DnAll K N H vs ds → DnAll K N' H' vs ds
  | [], _, h => by cases h; exact .nil
  | d :: ds, _, h => by
    cases h with
    | cons a b => exact .cons (Dn.go hl hw ht d _ a) (DnAll.go hl hw ht ds _ b)
theorem DnPs.go (hl : ∀ a u, Rd H a u → ¬ N a → Rd H' a u ∧ ¬ N' a) (hw : ∀ a u, H a = some u → ¬ N a → H' a = some u) (ht : ∀ a xs, SqT K H a xs → SqT K H' a xs) : ∀ (ds : List (PyData × PyData)) (vs : List (PyData × V)), DnPs K N H vs ds → DnPs K N' H' vs ds
  | [], _, h => by cases h; exact .nil
  | (k, d) :: ds, _, h => by
    cases h with
    | cons a b => exact .cons (Dn.go hl hw ht d _ a) (DnPs.go hl hw ht ds _ b)
end
end
mutual
/-- no list in it -/
def noList : PyData → Bool
  | .list _ => false
  | .tuple ds => noLists ds
  | .dict _ => false
  | _ => true
def noLists : List PyData → Bool
  | [] => true
  | d :: ds => noList d && noLists ds
end
section
variable {K : PySem.W.Frag} {N N' : Addr → Prop} {H H' : Hp}
mutual
theorem Dn.goF (ht : ∀ a xs, SqT K H a xs → SqT K H' a xs) : ∀ (d : PyData) (v : V), noList d = true → Dn K N H v d → Dn K N' H' v d
  | .none, _, _, h => by cases h; exact .non
  | .bool b, _, _, h => by cases h; exact .bl b
  | .int i, _, _, h => by cases h; exact .int i
  | .str x, _, _, h => by cases h; exact .str x
  | .list ds, _, q, _ => by simp [noList] at q
  | .tuple ds, _, q, h => by
    cases h with
    | tup r a => exact .tup (ht _ _ r) (DnAll.goF ht ds _ (by simpa [noList] using q) a)
  | .dict _, _, q, _ => by simp [noList] at q
theorem DnAll.goF (ht : ∀ a xs, SqT K H a xs → SqT K H' a xs) : ∀ (ds : List PyData) (vs : List V), noLists ds = true → DnAll K N H vs ds → DnAll K N' H' vs ds
  | [], _, _, h => by cases h; exact .nil
  | d :: ds, _, q, h => by
    cases h with
    | cons a b =>
      have q' : noList d = true ∧ noLists ds = true := by simpa [noLists] using q
      exact .cons (Dn.goF ht d _ q'.1 a) (DnAll.goF ht ds _ q'.2 b)
end
mutual
theorem Dn.dp : ∀ (d : PyData) (v : V), d.plain = true → Dn K N H v d → Dp K H v d
  | .none, _, _, h => by cases h; exact .non
  | .bool b, _, _, h => by cases h; exact .bl b
  | .int i, _, _, h => by cases h; exact .int i
  | .str x, _, _, h => by cases h; exact .str x
  | .list ds, _, q, h => by
    cases h with
    | lst r n a => exact .lst (Or.inl r) (DnAll.dp ds _ (by simpa [PyData.plain] using q) a)
    | lstK r a => exact .lst (Or.inr r) (DnAll.dp ds _ (by simpa [PyData.plain] using q) a)
  | .tuple ds, _, q, h => by
    cases h with
    | tup r a => exact .tup r (DnAll.dp ds _ (by simpa [PyData.plain] using q) a)
  | .dict _, _, q, _ => by simp [PyData.plain] at q
theorem DnAll.dp : ∀ (ds : List PyData) (vs : List V), PyData.plainAll ds = true → DnAll K N H vs ds → DpAll K H vs ds
  | [], _, _, h => by cases h; exact .nil
  | d :: ds, _, q, h => by
    cases h with
    | cons a b =>
      have q' : d.plain = true ∧ PyData.plainAll ds = true := by simpa [PyData.plainAll] using q
      exact .cons (Dn.dp d _ q'.1 a) (DnAll.dp ds _ q'.2 b)
end
theorem DnAll.length : ∀ {vs : List V} {ds : List PyData}, DnAll K N H vs ds → vs.length = ds.length
  | _, _, .nil => rfl
  | _, _, .cons _ t => congrArg (· + 1) (DnAll.length t)
theorem DnAll.get : ∀ {vs : List V} {ds : List PyData} {i : Nat} {d : PyData}, DnAll K N H vs ds → ds[i]? = some d → ∃ v, vs[i]? = some v ∧ Dn K N H v d
  | _, _, _, _, .nil, e => by simp at e
  | _, _, 0, _, .cons r _, e => by simp at e; subst e; exact ⟨_, rfl, r⟩
  | _, _, i + 1, _, .cons _ t, e => by
    obtain ⟨v, h1, h2⟩ := DnAll.get (i := i) t (by simpa using e)
    exact ⟨v, by simpa using h1, h2⟩
theorem DnAll.getV : ∀ {vs : List V} {ds : List PyData} {i : Nat} {v : V}, DnAll K N H vs ds → vs[i]? = some v → ∃ d, ds[i]? = some d ∧ Dn K N H v d
  | _, _, _, _, .nil, e => by simp at e
  | _, _, 0, _, .cons r _, e => by simp at e; subst e; exact ⟨_, rfl, r⟩
  | _, _, i + 1, _, .cons _ t, e => by
    obtain ⟨v, h1, h2⟩ := DnAll.getV (i := i) t (by simpa using e)
    exact ⟨v, by simpa using h1, h2⟩
theorem DnAll.append : ∀ {vs ws : List V} {ds es : List PyData}, DnAll K N H vs ds → DnAll K N H ws es → DnAll K N H (vs ++ ws) (ds ++ es)
  | _, _, _, _, .nil, s => s
  | _, _, _, _, .cons r t, s => .cons r (DnAll.append t s)
theorem DnAll.take : ∀ {vs : List V} {ds : List PyData} (n : Nat), DnAll K N H vs ds → DnAll K N H (vs.take n) (ds.take n)
  | _, _, 0, _ => .nil
  | _, _, _ + 1, .nil => .nil
  | _, _, n + 1, .cons r t => .cons r (DnAll.take n t)
theorem DnAll.drop : ∀ {vs : List V} {ds : List PyData} (n : Nat), DnAll K N H vs ds → DnAll K N H (vs.drop n) (ds.drop n)
  | _, _, 0, r => r
  | _, _, _ + 1, .nil => .nil
  | _, _, n + 1, .cons _ t => DnAll.drop n t
theorem DnAll.reverse : ∀ {vs : List V} {ds : List PyData}, DnAll K N H vs ds → DnAll K N H vs.reverse ds.reverse
  | _, _, .nil => .nil
  | _, _, .cons r t => by rw [List.reverse_cons, List.reverse_cons]; exact DnAll.append (DnAll.reverse t) (.cons r .nil)
end

/-! ### heaps -/
open Evl (Ex Ex.refl Ex.trans Ex.new)
end DL
theorem Evl.Ex.rd {H H' : L2.Hp} {a : PySem.Addr} {u : L2.HO} (e : Evl.Ex H H') (h : L2.Rd H a u) : L2.Rd H' a u := Evl.ex_rd e h
theorem Evl.Ex.sqt {K : PySem.W.Frag} {H H' : L2.Hp} {a : PySem.Addr} {xs : List L2.V} (e : Evl.Ex H H') (h : L2.SqT K H a xs) : L2.SqT K H' a xs := Evl.ex_t e h
theorem Evl.Ex.sql {K : PySem.W.Frag} {H H' : L2.Hp} {a : PySem.Addr} {xs : List L2.V} (e : Evl.Ex H H') (h : L2.SqL K H a xs) : L2.SqL K H' a xs := Evl.ex_l e h
theorem Evl.Ex.free {H H' : L2.Hp} {p : PySem.Addr} (e : Evl.Ex H H') (h : H' p = none) : H p = none := Evl.fresh_back e h
theorem Evl.Ex.some {H H' : L2.Hp} {p : PySem.Addr} (e : Evl.Ex H H') (h : H p ≠ none) : H' p ≠ none := fun z => h (e.free z)
namespace DL
open PySem L2
open Evl (Ex Ex.refl Ex.trans Ex.new)
theorem Dn.ext {K : PySem.W.Frag} {N : Addr → Prop} {H H' : Hp} {v : V} {d : PyData} (e : Ex H H') (h : Dn K N H v d) : Dn K N H' v d :=
  Dn.go (fun _ _ r n => ⟨e.rd r, n⟩) (fun a u r _ => e a u r) (fun _ _ r => e.sqt r) d v h
theorem DnAll.ext {K : PySem.W.Frag} {N : Addr → Prop} {H H' : Hp} {v : List V} {d : List PyData} (e : Ex H H') (h : DnAll K N H v d) : DnAll K N H' v d :=
  DnAll.go (fun _ _ r n => ⟨e.rd r, n⟩) (fun a u r _ => e a u r) (fun _ _ r => e.sqt r) d v h
theorem Dn.sub {K : PySem.W.Frag} {N N' : Addr → Prop} {H : Hp} {v : V} {d : PyData} (e : ∀ a, N' a → N a) (h : Dn K N H v d) : Dn K N' H v d :=
  Dn.go (fun _ _ r n => ⟨r, fun z => n (e _ z)⟩) (fun _ _ r _ => r) (fun _ _ r => r) d v h
theorem DnAll.sub {K : PySem.W.Frag} {N N' : Addr → Prop} {H : Hp} {v : List V} {d : List PyData} (e : ∀ a, N' a → N a) (h : DnAll K N H v d) : DnAll K N' H v d :=
  DnAll.go (fun _ _ r n => ⟨r, fun z => n (e _ z)⟩) (fun _ _ r _ => r) (fun _ _ r => r) d v h
theorem Rd.some {H : Hp} {a : Addr} {u : HO} (h : Rd H a u) : H a ≠ none := by
  rcases h with h | ⟨o, h⟩
  · rw [h]; exact fun z => nomatch z
  · rw [h]; exact fun z => nomatch z
/-- an address that is free is not met -/
theorem Dn.add {K : PySem.W.Frag} {N : Addr → Prop} {H : Hp} {v : V} {d : PyData} {p : Addr} (hp : H p = none) (h : Dn K N H v d) : Dn K (fun a => N a ∨ a = p) H v d :=
  Dn.go (fun a _ r n => ⟨r, fun z => z.elim n fun q => by subst q; exact Rd.some r hp⟩) (fun _ _ r _ => r) (fun _ _ r => r) d v h
theorem DnAll.add {K : PySem.W.Frag} {N : Addr → Prop} {H : Hp} {v : List V} {d : List PyData} {p : Addr} (hp : H p = none) (h : DnAll K N H v d) : DnAll K (fun a => N a ∨ a = p) H v d :=
  DnAll.go (fun a _ r n => ⟨r, fun z => z.elim n fun q => by subst q; exact Rd.some r hp⟩) (fun _ _ r _ => r) (fun _ _ r => r) d v h
/-- what is no tuple and is not frozen -/
def Wr : HO → Bool
  | .tup _ => false
  | .frz _ _ => false
  | _ => true
theorem mut_t {K : PySem.W.Frag} {H : Hp} {p : Addr} {o o' : HO} (hp : H p = some o) (hw : Wr o = true) : ∀ a xs, SqT K H a xs → SqT K (upd H p o') a xs := by
  intro a xs h
  rcases h with (h | ⟨u, h⟩) | h
  · refine Or.inl (Or.inl ?_)
    rw [upd_ne]
    · exact h
    · intro z; subst z; rw [hp] at h; cases h; cases hw
  · refine Or.inl (Or.inr ⟨u, ?_⟩)
    rw [upd_ne]
    · exact h
    · intro z; subst z; rw [hp] at h; cases h; cases hw
  · exact Or.inr h
theorem Dn.mut {K : PySem.W.Frag} {N : Addr → Prop} {H : Hp} {v : V} {d : PyData} {p : Addr} {o o' : HO} (hp : H p = some o) (hw : Wr o = true) (hn : N p) (h : Dn K N H v d) : Dn K N (upd H p o') v d := by
  refine Dn.go (fun a xs r n => ⟨?_, n⟩) (fun a u r n => by rw [upd_ne (show a ≠ p from fun z => n (z ▸ hn))]; exact r) (mut_t hp hw) d v h
  have ne : a ≠ p := fun z => n (z ▸ hn)
  rcases r with r | ⟨u, r⟩
  · exact Or.inl (by rw [upd_ne ne]; exact r)
  · exact Or.inr ⟨u, by rw [upd_ne ne]; exact r⟩
theorem DnAll.mut {K : PySem.W.Frag} {N : Addr → Prop} {H : Hp} {v : List V} {d : List PyData} {p : Addr} {o o' : HO} (hp : H p = some o) (hw : Wr o = true) (hn : N p) (h : DnAll K N H v d) : DnAll K N (upd H p o') v d := by
  refine DnAll.go (fun a xs r n => ⟨?_, n⟩) (fun a u r n => by rw [upd_ne (show a ≠ p from fun z => n (z ▸ hn))]; exact r) (mut_t hp hw) d v h
  have ne : a ≠ p := fun z => n (z ▸ hn)
  rcases r with r | ⟨u, r⟩
  · exact Or.inl (by rw [upd_ne ne]; exact r)
  · exact Or.inr ⟨u, by rw [upd_ne ne]; exact r⟩

/-! ### the symbolic store -/
/-- an instance that is only read: its fields stand for the data m -/
def ObOk (K : PySem.W.Frag) (N : Addr → Prop) (H : Hp) (v : V) (C : Addr) (m : List (Str × PyData)) : Prop := ∃ (a dx : Addr) (fs : List (Str × V)), v = .ref a ∧ H a = some (.ins C dx fs) ∧ ¬ N a ∧ Paired (fun (p : Str × V) (q : Str × PyData) => p.1 = q.1 ∧ Dn K N H p.2 q.2) fs m
/-- a dict of data that no one writes any more -/
def ZOk (K : PySem.W.Frag) (N : Addr → Prop) (H : Hp) (v : V) (m : List (Key × PyData)) : Prop := ∃ (a : Addr) (dx : Obj) (fs : List (Key × V)), v = .ref a ∧ H a = some (.frz dx (.dK fs)) ∧ ¬ N a ∧ Paired (fun (p : Key × V) (q : Key × PyData) => p.1 = q.1 ∧ Dn K N H p.2 q.2) fs m
/-- a value: data, or the k-th object of the store -/
inductive SV where
  | i (d : PyData)
  | r (k : Nat)
  | t (u : HO)
  | ob (C : Addr) (m : List (Str × PyData))
  | z (m : List (Key × PyData))
/-- an object of the store; x: forgotten -/
inductive SO where
  | x
  | lst (xs : List SV)
  | dK (kvs : List (Key × SV))
  | dT (kvs : List (List Key × SV))
  | ho (f : Addr → HO)
  | nums
  | stt (k : Nat)
  | ob (C : Addr) (fs : List (Str × SV))
def SO.live : SO → Bool
  | .x => false
  | _ => true
abbrev Sy := List (Option SV)
def SvOk (K : PySem.W.Frag) (N : Addr → Prop) (ad : Nat → Addr) (n : Nat) (H : Hp) (v : V) : SV → Prop
  | .i d => Dn K N H v d
  | .t u => ∃ b, v = .ref b ∧ H b = some u ∧ Wr u = false
  | .ob C m => ObOk K N H v C m
  | .z m => ZOk K N H v m
  | .r k => v = .ref (ad k) ∧ k < n
def SoOk (K : PySem.W.Frag) (N : Addr → Prop) (ad : Nat → Addr) (n : Nat) (H : Hp) (l : Addr) : SO → Prop
  | .x => True
  | .lst xs => ∃ vs, H l = some (.lst vs) ∧ Paired (SvOk K N ad n H) vs xs
  | .dK kvs => ∃ ws, H l = some (.dK ws) ∧ Paired (fun (p : Key × V) (q : Key × SV) => p.1 = q.1 ∧ SvOk K N ad n H p.2 q.2) ws kvs
  | .dT kvs => ∃ ws, H l = some (.dT ws) ∧ Paired (fun (p : List Key × V) (q : List Key × SV) => p.1 = q.1 ∧ SvOk K N ad n H p.2 q.2) ws kvs
  | .ho f => H l = some (f l) ∧ Wr (f l) = true
  | .nums => ∃ ns : List Int, H l = some (.lst (ns.map V.int))
  | .stt k => ∃ (v : V) (a m : Int), H l = some (.lst [v, .int a, .int m]) ∧ SvOk K N ad n H v (.r k)
  | .ob C fs => ∃ (dx : Addr) (vs : List (Str × V)), H l = some (.ins C dx vs) ∧ Paired (fun (p : Str × V) (q : Str × SV) => p.1 = q.1 ∧ SvOk K N ad n H p.2 q.2) vs fs

structure Cn where
  K : PySem.W.Frag
  H0 : Hp
  N0 : Addr → Prop
  M : Addr → Prop := fun _ => False
  fr : List (V × SV) := []
  lo : Nat := 0
def Lv (os : List SO) (k : Nat) : Prop := ∃ o, os[k]? = some o ∧ o.live = true
def Nof (c : Cn) (ad : Nat → Addr) (os : List SO) : Addr → Prop := fun a => c.N0 a ∨ ∃ k, Lv os k ∧ a = ad k
structure Ok (c : Cn) (ad : Nat → Addr) (env : Sy) (os : List SO) (σ : St) (H : Hp) : Prop where
  len : σ.length = env.length
  ex : ∀ a o, c.H0 a = some o → ¬ c.M a → H a = some o
  n0 : ∀ a, c.N0 a → H a ≠ none
  val : ∀ (i : Nat) s, env[i]? = some (some s) → ∃ v, σ[i]? = some (some v) ∧ SvOk c.K (Nof c ad os) ad os.length H v s
  obj : ∀ (k : Nat) o, os[k]? = some o → o.live = true → (c.H0 (ad k) = none ∨ c.M (ad k)) ∧ SoOk c.K (Nof c ad os) ad os.length H (ad k) o
  inj : ∀ k j, Lv os k → Lv os j → ad k = ad j → k = j
  nn : ∀ k, Lv os k → ¬ c.N0 (ad k)
  frm : ∀ p ∈ c.fr, SvOk c.K (Nof c ad os) ad c.lo H p.1 p.2
  low : c.lo ≤ os.length

section
variable {c : Cn} {ad : Nat → Addr} {env : Sy} {os : List SO} {σ : St} {H H' : Hp}
theorem Paired.imp {α β : Type} {F G : α → β → Prop} : ∀ {l₁ : List α} {l₂ : List β}, Paired F l₁ l₂ → (∀ a b, F a b → G a b) → Paired G l₁ l₂
  | _, _, .nil, _ => .nil
  | _, _, .cons r t, f => .cons (f _ _ r) (Paired.imp t f)
theorem ObOk.ext {K : PySem.W.Frag} {N : Addr → Prop} {v : V} {C : Addr} {m : List (Str × PyData)} (e : Ex H H') (h : ObOk K N H v C m) : ObOk K N H' v C m := by
  obtain ⟨a, dx, fs, h1, h2, h3, h4⟩ := h
  exact ⟨a, dx, fs, h1, e _ _ h2, h3, Paired.imp h4 fun _ _ z => ⟨z.1, Dn.ext e z.2⟩⟩
theorem ObOk.sub {K : PySem.W.Frag} {N N' : Addr → Prop} {v : V} {C : Addr} {m : List (Str × PyData)} (e : ∀ a, N' a → N a) (h : ObOk K N H v C m) : ObOk K N' H v C m := by
  obtain ⟨a, dx, fs, h1, h2, h3, h4⟩ := h
  exact ⟨a, dx, fs, h1, h2, fun z => h3 (e _ z), Paired.imp h4 fun _ _ z => ⟨z.1, Dn.sub e z.2⟩⟩
theorem ObOk.mut {K : PySem.W.Frag} {N : Addr → Prop} {v : V} {C : Addr} {m : List (Str × PyData)} {p : Addr} {o o' : HO} (hp : H p = some o) (hw : Wr o = true) (hn : N p) (h : ObOk K N H v C m) : ObOk K N (upd H p o') v C m := by
  obtain ⟨a, dx, fs, h1, h2, h3, h4⟩ := h
  exact ⟨a, dx, fs, h1, by rw [upd_ne (show a ≠ p from fun z => h3 (z ▸ hn))]; exact h2, h3, Paired.imp h4 fun _ _ z => ⟨z.1, Dn.mut hp hw hn z.2⟩⟩
theorem ObOk.add {K : PySem.W.Frag} {N : Addr → Prop} {v : V} {C : Addr} {m : List (Str × PyData)} {p : Addr} (hp : H p = none) (h : ObOk K N H v C m) : ObOk K (fun a => N a ∨ a = p) H v C m := by
  obtain ⟨a, dx, fs, h1, h2, h3, h4⟩ := h
  refine ⟨a, dx, fs, h1, h2, fun z => z.elim h3 fun z => ?_, Paired.imp h4 fun _ _ z => ⟨z.1, Dn.add hp z.2⟩⟩
  rw [z, hp] at h2
  cases h2
theorem ZOk.ext {K : PySem.W.Frag} {N : Addr → Prop} {v : V} {m : List (Key × PyData)} (e : Ex H H') (h : ZOk K N H v m) : ZOk K N H' v m := by
  obtain ⟨a, dx, fs, h1, h2, h3, h4⟩ := h
  exact ⟨a, dx, fs, h1, e _ _ h2, h3, Paired.imp h4 fun _ _ z => ⟨z.1, Dn.ext e z.2⟩⟩
theorem ZOk.sub {K : PySem.W.Frag} {N N' : Addr → Prop} {v : V} {m : List (Key × PyData)} (e : ∀ a, N' a → N a) (h : ZOk K N H v m) : ZOk K N' H v m := by
  obtain ⟨a, dx, fs, h1, h2, h3, h4⟩ := h
  exact ⟨a, dx, fs, h1, h2, fun z => h3 (e _ z), Paired.imp h4 fun _ _ z => ⟨z.1, Dn.sub e z.2⟩⟩
theorem ZOk.mut {K : PySem.W.Frag} {N : Addr → Prop} {v : V} {m : List (Key × PyData)} {p : Addr} {o o' : HO} (hp : H p = some o) (hw : Wr o = true) (hn : N p) (h : ZOk K N H v m) : ZOk K N (upd H p o') v m := by
  obtain ⟨a, dx, fs, h1, h2, h3, h4⟩ := h
  exact ⟨a, dx, fs, h1, by rw [upd_ne (show a ≠ p from fun z => h3 (z ▸ hn))]; exact h2, h3, Paired.imp h4 fun _ _ z => ⟨z.1, Dn.mut hp hw hn z.2⟩⟩
theorem ZOk.add {K : PySem.W.Frag} {N : Addr → Prop} {v : V} {m : List (Key × PyData)} {p : Addr} (hp : H p = none) (h : ZOk K N H v m) : ZOk K (fun a => N a ∨ a = p) H v m := by
  obtain ⟨a, dx, fs, h1, h2, h3, h4⟩ := h
  refine ⟨a, dx, fs, h1, h2, fun z => z.elim h3 fun z => ?_, Paired.imp h4 fun _ _ z => ⟨z.1, Dn.add hp z.2⟩⟩
  rw [z, hp] at h2
  cases h2
theorem SvOk.ext {K : PySem.W.Frag} {N : Addr → Prop} {n : Nat} {v : V} {s : SV} (e : Ex H H') (h : SvOk K N ad n H v s) : SvOk K N ad n H' v s := by
  cases s with
  | i d => exact Dn.ext e h
  | t ks => obtain ⟨b, e1, e2⟩ := h; exact ⟨b, e1, e _ _ e2.1, e2.2⟩
  | ob C m => exact ObOk.ext e h
  | z m => exact ZOk.ext e h
  | r k => exact h
theorem SvOk.sub {K : PySem.W.Frag} {N N' : Addr → Prop} {n : Nat} {v : V} {s : SV} (e : ∀ a, N' a → N a) (h : SvOk K N ad n H v s) : SvOk K N' ad n H v s := by
  cases s with
  | i d => exact Dn.sub e h
  | t ks => exact h
  | ob C m => exact ObOk.sub e h
  | z m => exact ZOk.sub e h
  | r k => exact h
theorem SvOk.mut {K : PySem.W.Frag} {N : Addr → Prop} {n : Nat} {v : V} {s : SV} {p : Addr} {o o' : HO} (hp : H p = some o) (hw : Wr o = true) (hn : N p) (h : SvOk K N ad n H v s) : SvOk K N ad n (upd H p o') v s := by
  cases s with
  | i d => exact Dn.mut hp hw hn h
  | ob C m => exact ObOk.mut hp hw hn h
  | z m => exact ZOk.mut hp hw hn h
  | t ks =>
    obtain ⟨b, e1, e2, e3⟩ := h
    exact ⟨b, e1, by rw [upd_ne (show b ≠ p from fun z => by subst z; rw [hp] at e2; cases e2; rw [hw] at e3; cases e3)]; exact e2, e3⟩
  | r k => exact h
theorem SoOk.map {K : PySem.W.Frag} {N N' : Addr → Prop} {ad ad' : Nat → Addr} {n n' : Nat} {l : Addr} {o : SO} (f : ∀ v s, SvOk K N ad n H v s → SvOk K N' ad' n' H' v s) (hl : ∀ u, H l = some u → H' l = some u) (h : SoOk K N ad n H l o) : SoOk K N' ad' n' H' l o := by
  cases o with
  | x => exact True.intro
  | lst xs => obtain ⟨vs, e, p⟩ := h; exact ⟨vs, hl _ e, Paired.imp p f⟩
  | dK kvs => obtain ⟨vs, e, p⟩ := h; exact ⟨vs, hl _ e, Paired.imp p fun a b q => ⟨q.1, f _ _ q.2⟩⟩
  | dT kvs => obtain ⟨vs, e, p⟩ := h; exact ⟨vs, hl _ e, Paired.imp p fun a b q => ⟨q.1, f _ _ q.2⟩⟩
  | ho g => exact ⟨hl _ h.1, h.2⟩
  | nums => obtain ⟨ns, e⟩ := h; exact ⟨ns, hl _ e⟩
  | stt k => obtain ⟨v, a, m, e, r⟩ := h; exact ⟨v, a, m, hl _ e, f _ _ r⟩
  | ob C fs => obtain ⟨dx, vs, e, p⟩ := h; exact ⟨dx, vs, hl _ e, Paired.imp p fun a b q => ⟨q.1, f _ _ q.2⟩⟩
theorem SoOk.some {K : PySem.W.Frag} {N : Addr → Prop} {n : Nat} {l : Addr} {o : SO} (h : SoOk K N ad n H l o) (hl : o.live = true) : ∃ u, H l = some u ∧ Wr u = true := by
  cases o with
  | x => cases hl
  | lst xs => obtain ⟨vs, e, p⟩ := h; exact ⟨_, e, rfl⟩
  | dK kvs => obtain ⟨vs, e, p⟩ := h; exact ⟨_, e, rfl⟩
  | dT kvs => obtain ⟨vs, e, p⟩ := h; exact ⟨_, e, rfl⟩
  | ho g => exact ⟨_, h.1, h.2⟩
  | nums => obtain ⟨ns, e⟩ := h; exact ⟨_, e, rfl⟩
  | stt k => obtain ⟨v, a, m, e, r⟩ := h; exact ⟨_, e, rfl⟩
  | ob C fs => obtain ⟨dx, vs, e, p⟩ := h; exact ⟨_, e, rfl⟩
theorem Ok.nof (ok : Ok c ad env os σ H) {a : Addr} (h : Nof c ad os a) : H a ≠ none := by
  rcases h with h | ⟨k, ⟨o, e, l⟩, rfl⟩
  · exact ok.n0 a h
  · obtain ⟨u, q, _⟩ := (ok.obj k o e l).2.some l
    rw [q]; exact fun z => nomatch z
theorem Ok.ext (ok : Ok c ad env os σ H) (e : Ex H H') : Ok c ad env os σ H' where
  len := ok.len
  ex := fun a o h m => e a o (ok.ex a o h m)
  n0 := fun a h => e.some (ok.n0 a h)
  val := fun i s h => let ⟨v, h1, h2⟩ := ok.val i s h; ⟨v, h1, h2.ext e⟩
  obj := fun k o h l => let ⟨h1, h2⟩ := ok.obj k o h l; ⟨h1, h2.map (fun _ _ q => q.ext e) fun u q => e _ _ q⟩
  inj := ok.inj
  nn := ok.nn
  frm := fun p hp => (ok.frm p hp).ext e
  low := ok.low
theorem Ok.set {i : Nat} {v : V} {s : SV} (ok : Ok c ad env os σ H) (h : SvOk c.K (Nof c ad os) ad os.length H v s) : Ok c ad (env.set i (some s)) os (σ.set i (some v)) H where
  len := by simp [ok.len]
  ex := ok.ex
  n0 := ok.n0
  val := fun j t e => by
    by_cases q : i = j
    · subst q
      by_cases hi : i < env.length
      · rw [List.getElem?_set_self hi] at e
        have e' : s = t := Option.some.inj (Option.some.inj e)
        subst e'
        exact ⟨v, List.getElem?_set_self (by rw [ok.len]; exact hi), h⟩
      · rw [List.getElem?_eq_none (by simp; omega)] at e
        cases e
    · rw [List.getElem?_set_ne q] at e
      obtain ⟨w, h1, h2⟩ := ok.val j t e
      exact ⟨w, by rw [List.getElem?_set_ne q]; exact h1, h2⟩
  obj := ok.obj
  inj := ok.inj
  nn := ok.nn
  frm := ok.frm
  low := ok.low
/-- a slot is forgotten -/
theorem Ok.setU {i : Nat} {v : Option V} (ok : Ok c ad env os σ H) : Ok c ad (env.set i none) os (σ.set i v) H where
  len := by simp [ok.len]
  ex := ok.ex
  n0 := ok.n0
  val := fun j t e => by
    by_cases q : i = j
    · subst q
      by_cases hi : i < env.length
      · rw [List.getElem?_set_self hi] at e
        cases Option.some.inj e
      · rw [List.getElem?_eq_none (by simp; omega)] at e
        cases e
    · rw [List.getElem?_set_ne q] at e
      obtain ⟨w, h1, h2⟩ := ok.val j t e
      exact ⟨w, by rw [List.getElem?_set_ne q]; exact h1, h2⟩
  obj := ok.obj
  inj := ok.inj
  nn := ok.nn
  frm := ok.frm
  low := ok.low

/-! ### more in the store -/
def adN (ad : Nat → Addr) (n : Nat) (p : Addr) : Nat → Addr := fun j => if j = n then p else ad j
theorem adN_same {n : Nat} {p : Addr} : adN ad n p n = p := by unfold adN; rw [if_pos rfl]
theorem adN_ne {n j : Nat} {p : Addr} (h : j ≠ n) : adN ad n p j = ad j := by unfold adN; rw [if_neg h]
theorem SvOk.adN {K : PySem.W.Frag} {N : Addr → Prop} {n : Nat} {v : V} {s : SV} {p : Addr} (h : SvOk K N ad n H v s) : SvOk K N (adN ad n p) (n + 1) H v s := by
  cases s with
  | i d => exact h
  | t ks => exact h
  | ob C m => exact h
  | z m => exact h
  | r k => exact ⟨by rw [adN_ne (by have := h.2; omega)]; exact h.1, by have := h.2; omega⟩
theorem Lv_app {o : SO} {k : Nat} (h : Lv (os ++ [o]) k) : (Lv os k ∧ k < os.length) ∨ (k = os.length ∧ o.live = true) := by
  obtain ⟨u, e, l⟩ := h
  by_cases hk : k < os.length
  · rw [List.getElem?_append_left hk] at e
    exact Or.inl ⟨⟨u, e, l⟩, hk⟩
  · have hk2 : k = os.length := by
      have := (List.getElem?_eq_some_iff.mp e).1
      simp at this
      omega
    subst hk2
    rw [List.getElem?_append_right (Nat.le_refl _)] at e
    simp at e
    subst e
    exact Or.inr ⟨rfl, l⟩
theorem Nof_app {o : SO} {p : Addr} {a : Addr} (h : Nof c (adN ad os.length p) (os ++ [o]) a) : Nof c ad os a ∨ a = p := by
  rcases h with h | ⟨k, l, e⟩
  · exact Or.inl (Or.inl h)
  · rcases Lv_app l with ⟨l', hk⟩ | ⟨rfl, _⟩
    · rw [adN_ne (by omega)] at e
      exact Or.inl (Or.inr ⟨k, l', e⟩)
    · rw [adN_same] at e
      exact Or.inr e
/-- a new object -/
theorem Ok.new {o : SO} {p : Addr} (ok : Ok c ad env os σ H) (hp : H p = none) (e : Ex H H') (h0 : c.H0 p = none ∨ c.M p)
    (ho : SoOk c.K (fun a => Nof c ad os a ∨ a = p) ad os.length H' p o) : Ok c (adN ad os.length p) env (os ++ [o]) σ H' := by
  have hN : ∀ a, Nof c (adN ad os.length p) (os ++ [o]) a → Nof c ad os a ∨ a = p := fun a h => Nof_app h
  have hv : ∀ v s, SvOk c.K (Nof c ad os) ad os.length H v s → SvOk c.K (Nof c (adN ad os.length p) (os ++ [o])) (adN ad os.length p) (os ++ [o]).length H' v s := fun v s h => by
    have h1 : SvOk c.K (Nof c (adN ad os.length p) (os ++ [o])) ad os.length H' v s := by
      cases s with
      | i d => exact ((Dn.add hp h).sub hN).ext e
      | t ks => obtain ⟨b, e1, e2⟩ := h; exact ⟨b, e1, e _ _ e2.1, e2.2⟩
      | ob C m => exact ((ObOk.add hp h).sub hN).ext e
      | z m => exact ((ZOk.add hp h).sub hN).ext e
      | r k => exact h
    have h2 := h1.adN (p := p)
    simpa using h2
  have hv2 : ∀ v s, SvOk c.K (fun a => Nof c ad os a ∨ a = p) ad os.length H' v s → SvOk c.K (Nof c (adN ad os.length p) (os ++ [o])) (adN ad os.length p) (os ++ [o]).length H' v s := fun v s h => by
    have h2 := (h.sub hN).adN (p := p)
    simpa using h2
  refine ⟨ok.len, fun a u h m => e a u (ok.ex a u h m), fun a h => e.some (ok.n0 a h), fun i s h => ?_, fun k u h l => ?_, fun k j hk hj q => ?_, fun k hk => ?_, fun q hq => ?_, Nat.le_trans ok.low (by simp)⟩
  · obtain ⟨v, h1, h2⟩ := ok.val i s h
    exact ⟨v, h1, hv v s h2⟩
  · rcases Lv_app ⟨u, h, l⟩ with ⟨⟨u', e', l'⟩, hk⟩ | ⟨rfl, lo⟩
    · rw [List.getElem?_append_left hk] at h
      rw [adN_ne (by omega)]
      obtain ⟨h1, h2⟩ := ok.obj k u h l
      exact ⟨h1, h2.map hv fun w q => e _ _ q⟩
    · rw [List.getElem?_append_right (Nat.le_refl _)] at h
      simp at h
      subst h
      rw [adN_same]
      exact ⟨h0, ho.map hv2 fun w q => q⟩
  · rcases Lv_app hk with ⟨lk, hk'⟩ | ⟨rfl, _⟩
    · rcases Lv_app hj with ⟨lj, hj'⟩ | ⟨rfl, _⟩
      · rw [adN_ne (by omega), adN_ne (by omega)] at q
        exact ok.inj k j lk lj q
      · rw [adN_ne (by omega), adN_same] at q
        exact absurd hp (ok.nof (Or.inr ⟨k, lk, q.symm⟩))
    · rcases Lv_app hj with ⟨lj, hj'⟩ | ⟨rfl, _⟩
      · rw [adN_same, adN_ne (by omega)] at q
        exact absurd hp (ok.nof (Or.inr ⟨j, lj, q⟩))
      · rfl
  · rcases Lv_app hk with ⟨lk, hk'⟩ | ⟨rfl, _⟩
    · rw [adN_ne (by omega)]
      exact ok.nn k lk
    · rw [adN_same]
      intro z
      exact ok.n0 p z hp
  · have hf := ok.frm q hq
    obtain ⟨q1, q2⟩ := q
    cases q2 with
    | i d => exact ((Dn.add hp hf).sub hN).ext e
    | t ks => obtain ⟨b, e1, e2⟩ := hf; exact ⟨b, e1, e _ _ e2.1, e2.2⟩
    | ob C m => exact ((ObOk.add hp hf).sub hN).ext e
    | z m => exact ((ZOk.add hp hf).sub hN).ext e
    | r k => exact ⟨by rw [adN_ne (by have h1 := hf.2; have h2 := ok.low; omega)]; exact hf.1, hf.2⟩
theorem Lv_set {o o' : SO} {k j : Nat} (h0 : os[k]? = some o) (l0 : o.live = true) (l : o'.live = true) : Lv (os.set k o') j ↔ Lv os j := by
  constructor
  · rintro ⟨u, e, hu⟩
    by_cases q : k = j
    · subst q; exact ⟨o, h0, l0⟩
    · rw [List.getElem?_set_ne q] at e; exact ⟨u, e, hu⟩
  · rintro ⟨u, e, hu⟩
    by_cases q : k = j
    · subst q; exact ⟨o', List.getElem?_set_self (List.getElem?_eq_some_iff.mp h0).1, l⟩
    · exact ⟨u, by rw [List.getElem?_set_ne q]; exact e, hu⟩
theorem Nof_set {o o' : SO} {k : Nat} (h0 : os[k]? = some o) (l0 : o.live = true) (l : o'.live = true) : Nof c ad (os.set k o') = Nof c ad os := by
  funext a
  refine propext ⟨fun h => ?_, fun h => ?_⟩
  · rcases h with h | ⟨j, lj, e⟩
    · exact Or.inl h
    · exact Or.inr ⟨j, (Lv_set h0 l0 l).mp lj, e⟩
  · rcases h with h | ⟨j, lj, e⟩
    · exact Or.inl h
    · exact Or.inr ⟨j, (Lv_set h0 l0 l).mpr lj, e⟩
/-- an object of the store is changed -/
theorem Ok.mut {o o' : SO} {k : Nat} {u' : HO} (ok : Ok c ad env os σ H) (h0 : os[k]? = some o) (l0 : o.live = true) (l : o'.live = true)
    (ho : SoOk c.K (Nof c ad os) ad os.length (upd H (ad k) u') (ad k) o') : Ok c ad env (os.set k o') σ (upd H (ad k) u') := by
  obtain ⟨hk0, hk1⟩ := ok.obj k o h0 l0
  obtain ⟨u, eu, wu⟩ := hk1.some l0
  have hN : Nof c ad os (ad k) := Or.inr ⟨k, ⟨o, h0, l0⟩, rfl⟩
  have hv : ∀ v s, SvOk c.K (Nof c ad os) ad os.length H v s → SvOk c.K (Nof c ad (os.set k o')) ad (os.set k o').length (upd H (ad k) u') v s := fun v s h => by
    rw [Nof_set h0 l0 l, List.length_set]
    exact h.mut eu wu hN
  refine ⟨ok.len, fun a w h m => ?_, fun a h => ?_, fun i s h => ?_, fun j w h lw => ?_, fun i j hi hj q => ok.inj i j ((Lv_set h0 l0 l).mp hi) ((Lv_set h0 l0 l).mp hj) q, fun j hj => ok.nn j ((Lv_set h0 l0 l).mp hj), fun q hq => ?_, by rw [List.length_set]; exact ok.low⟩
  · by_cases q : a = ad k
    · subst q
      rcases hk0 with z | z
      · rw [z] at h; cases h
      · exact absurd z m
    · rw [upd_ne q]; exact ok.ex a w h m
  · by_cases q : a = ad k
    · rw [q, upd_same]; exact fun z => nomatch z
    · rw [upd_ne q]; exact ok.n0 a h
  · obtain ⟨v, h1, h2⟩ := ok.val i s h
    exact ⟨v, h1, hv v s h2⟩
  · by_cases q : k = j
    · subst q
      rw [List.getElem?_set_self (List.getElem?_eq_some_iff.mp h0).1] at h
      cases h
      rw [Nof_set h0 l0 l, List.length_set]
      exact ⟨hk0, ho⟩
    · rw [List.getElem?_set_ne q] at h
      obtain ⟨h1, h2⟩ := ok.obj j w h lw
      refine ⟨h1, h2.map hv fun x hx => ?_⟩
      rw [upd_ne]
      · exact hx
      · intro z
        exact q (ok.inj k j ⟨o, h0, l0⟩ ⟨w, h, lw⟩ z.symm)
  · rw [Nof_set h0 l0 l]
    exact (ok.frm q hq).mut eu wu hN

/-! ### less known -/
def WkE : Sy → Sy → Prop
  | [], [] => True
  | s :: e, t :: e' => (t = none ∨ s = t) ∧ WkE e e'
  | _, _ => False
def WkO : List SO → List SO → Prop
  | _, [] => True
  | o :: r, o' :: r' => (o' = .x ∨ o = o') ∧ WkO r r'
  | [], _ :: _ => False
theorem WkE.len : ∀ {e e' : Sy}, WkE e e' → e.length = e'.length
  | [], [], _ => rfl
  | _ :: _, _ :: _, h => congrArg (· + 1) (WkE.len h.2)
theorem WkE.get : ∀ {e e' : Sy} {i : Nat} {s : SV}, WkE e e' → e'[i]? = some (some s) → e[i]? = some (some s)
  | [], [], _, _, _, q => by simp at q
  | a :: e, b :: e', 0, s, h, q => by
    simp at q ⊢
    rcases h.1 with z | z
    · rw [z] at q; cases q
    · rw [z]; exact q
  | a :: e, b :: e', i + 1, s, h, q => by
    simp at q ⊢
    exact WkE.get h.2 q
theorem WkO.refl : ∀ e : List SO, WkO e e
  | [] => True.intro
  | _ :: e => ⟨Or.inr rfl, WkO.refl e⟩
theorem WkO.get : ∀ {e e' : List SO} {i : Nat} {s : SO}, WkO e e' → e'[i]? = some s → s.live = true → e[i]? = some s
  | _, [], _, _, _, q, _ => by simp at q
  | a :: e, b :: e', 0, s, h, q, l => by
    simp at q ⊢
    rcases h.1 with z | z
    · rw [z] at q; subst q; cases l
    · rw [z]; exact q
  | a :: e, b :: e', i + 1, s, h, q, l => by
    simp at q ⊢
    exact WkO.get h.2 q l
theorem WkO.lv {e e' : List SO} {k : Nat} (h : WkO e e') (l : Lv e' k) : Lv e k := by
  obtain ⟨o, q, lo⟩ := l
  exact ⟨o, h.get q lo, lo⟩
/-- no place n or above it is named -/
def SvLt (n : Nat) : SV → Prop
  | .i _ => True
  | .t _ => True
  | .ob _ _ => True
  | .z _ => True
  | .r k => k < n
def SoLt (n : Nat) : SO → Prop
  | .x => True
  | .lst xs => ∀ s ∈ xs, SvLt n s
  | .dK kvs => ∀ p ∈ kvs, SvLt n p.2
  | .dT kvs => ∀ p ∈ kvs, SvLt n p.2
  | .ho _ => True
  | .nums => True
  | .stt k => k < n
  | .ob _ fs => ∀ p ∈ fs, SvLt n p.2
def EnLt (n : Nat) : Sy → Prop
  | [] => True
  | none :: e => EnLt n e
  | some s :: e => SvLt n s ∧ EnLt n e
def OsLt (n : Nat) : List SO → Prop
  | [] => True
  | o :: r => SoLt n o ∧ OsLt n r
theorem EnLt.get : ∀ {n : Nat} {e : Sy} {i : Nat} {s : SV}, EnLt n e → e[i]? = some (some s) → SvLt n s
  | _, [], _, _, _, q => by simp at q
  | n, none :: e, 0, s, h, q => by simp at q
  | n, some t :: e, 0, s, h, q => by simp at q; subst q; exact h.1
  | n, none :: e, i + 1, s, h, q => by simp at q; exact EnLt.get (e := e) h q
  | n, some t :: e, i + 1, s, h, q => by simp at q; exact EnLt.get h.2 q
theorem OsLt.get : ∀ {n : Nat} {e : List SO} {i : Nat} {s : SO}, OsLt n e → e[i]? = some s → SoLt n s
  | _, [], _, _, _, q => by simp at q
  | n, t :: e, 0, s, h, q => by simp at q; subst q; exact h.1
  | n, t :: e, i + 1, s, h, q => by simp at q; exact OsLt.get h.2 q
theorem Paired.impR {α β : Type} {F G : α → β → Prop} : ∀ {l₁ : List α} {l₂ : List β}, Paired F l₁ l₂ → (∀ a b, b ∈ l₂ → F a b → G a b) → Paired G l₁ l₂
  | _, _, .nil, _ => .nil
  | _, _, .cons r t, f => .cons (f _ _ (List.mem_cons_self ..) r) (Paired.impR t fun a b m => f a b (List.mem_cons_of_mem _ m))
theorem Ok.weak {env' : Sy} {os' : List SO} (ok : Ok c ad env os σ H) (he : WkE env env') (ho : WkO os os') (l1 : EnLt os'.length env') (l2 : OsLt os'.length os') (l3 : c.lo ≤ os'.length) : Ok c ad env' os' σ H := by
  have hN : ∀ a, Nof c ad os' a → Nof c ad os a := fun a h => by
    rcases h with h | ⟨k, l, e⟩
    · exact Or.inl h
    · exact Or.inr ⟨k, ho.lv l, e⟩
  have hv : ∀ v s, SvLt os'.length s → SvOk c.K (Nof c ad os) ad os.length H v s → SvOk c.K (Nof c ad os') ad os'.length H v s := fun v s l h => by
    cases s with
    | i d => exact Dn.sub hN h
    | t ks => exact h
    | ob C m => exact ObOk.sub hN h
    | z m => exact ZOk.sub hN h
    | r k => exact ⟨h.1, l⟩
  refine ⟨ok.len.trans he.len, ok.ex, ok.n0, fun i s h => ?_, fun k o h l => ?_, fun k j lk lj => ok.inj k j (ho.lv lk) (ho.lv lj), fun k lk => ok.nn k (ho.lv lk), fun p hp => (ok.frm p hp).sub hN, l3⟩
  · obtain ⟨v, h1, h2⟩ := ok.val i s (he.get h)
    exact ⟨v, h1, hv v s (l1.get h) h2⟩
  · obtain ⟨h1, h2⟩ := ok.obj k o (ho.get h l) l
    refine ⟨h1, ?_⟩
    have lt := l2.get h
    cases o with
    | x => exact True.intro
    | lst xs => obtain ⟨vs, e, p⟩ := h2; exact ⟨vs, e, Paired.impR p fun a b m q => hv _ _ (lt b m) q⟩
    | dK kvs => obtain ⟨vs, e, p⟩ := h2; exact ⟨vs, e, Paired.impR p fun a b m q => ⟨q.1, hv _ _ (lt b m) q.2⟩⟩
    | dT kvs => obtain ⟨vs, e, p⟩ := h2; exact ⟨vs, e, Paired.impR p fun a b m q => ⟨q.1, hv _ _ (lt b m) q.2⟩⟩
    | ho g => exact h2
    | nums => exact h2
    | stt k => obtain ⟨v, a, m, e, r⟩ := h2; exact ⟨v, a, m, e, hv _ _ lt r⟩
    | ob C fs => obtain ⟨dx, vs, e, p⟩ := h2; exact ⟨dx, vs, e, Paired.impR p fun a b m q => ⟨q.1, hv _ _ (lt b m) q.2⟩⟩
theorem paired_dn {K : PySem.W.Frag} {N : Addr → Prop} {n : Nat} : ∀ {vs : List V} {ds : List PyData}, Paired (SvOk K N ad n H) vs (ds.map SV.i) → DnAll K N H vs ds
  | _, [], h => by cases h; exact .nil
  | _, d :: ds, h => by
    cases h with
    | cons a b => exact .cons a (paired_dn b)
theorem dn_paired {K : PySem.W.Frag} {N : Addr → Prop} {n : Nat} : ∀ {vs : List V} {ds : List PyData}, DnAll K N H vs ds → Paired (SvOk K N ad n H) vs (ds.map SV.i)
  | _, _, .nil => .nil
  | _, _, .cons a b => .cons a (dn_paired b)
/-- a list of data is data from now on -/
theorem Ok.own {i k : Nat} {ds : List PyData} (ok : Ok c ad env os σ H) (hi : env[i]? = some (some (.r k))) (hk : os[k]? = some (.lst (ds.map SV.i))) :
    Ok c ad (env.set i (some (.i (.list ds)))) (os.set k .x) σ H := by
  have lk : Lv os k := ⟨_, hk, rfl⟩
  have hl : ∀ j, Lv (os.set k .x) j → Lv os j ∧ j ≠ k := fun j h => by
    obtain ⟨u, e, hu⟩ := h
    by_cases q : k = j
    · subst q
      rw [List.getElem?_set_self (List.getElem?_eq_some_iff.mp hk).1] at e
      cases e; cases hu
    · rw [List.getElem?_set_ne q] at e; exact ⟨⟨u, e, hu⟩, fun z => q z.symm⟩
  have hN : ∀ a, Nof c ad (os.set k .x) a → Nof c ad os a ∧ a ≠ ad k := fun a h => by
    rcases h with h | ⟨j, l, e⟩
    · exact ⟨Or.inl h, fun z => ok.nn k lk (z ▸ h)⟩
    · obtain ⟨l', ne⟩ := hl j l
      exact ⟨Or.inr ⟨j, l', e⟩, fun z => ne (ok.inj j k l' lk (e.symm.trans z))⟩
  have hv : ∀ v s, SvOk c.K (Nof c ad os) ad os.length H v s → SvOk c.K (Nof c ad (os.set k .x)) ad (os.set k .x).length H v s := fun v s h => by
    rw [List.length_set]
    exact h.sub fun a q => (hN a q).1
  obtain ⟨v0, hv0, e0, _⟩ := ok.val i _ hi
  obtain ⟨_, vs, hvs, pv⟩ := ok.obj k _ hk rfl
  have hd : Dn c.K (Nof c ad (os.set k .x)) H v0 (.list ds) := by
    rw [e0]
    exact .lst (Or.inl hvs) (fun z => (hN _ z).2 rfl) ((paired_dn pv).sub fun a q => (hN a q).1)
  refine ⟨by rw [List.length_set]; exact ok.len, ok.ex, ok.n0, fun j s h => ?_, fun j o h l => ?_, fun a b la lb => ok.inj a b (hl a la).1 (hl b lb).1, fun a la => ok.nn a (hl a la).1, fun p hp => (ok.frm p hp).sub fun a q => (hN a q).1, by rw [List.length_set]; exact ok.low⟩
  · by_cases q : i = j
    · subst q
      rw [List.getElem?_set_self (List.getElem?_eq_some_iff.mp hi).1] at h
      cases h
      exact ⟨v0, hv0, hd⟩
    · rw [List.getElem?_set_ne q] at h
      obtain ⟨v, h1, h2⟩ := ok.val j s h
      exact ⟨v, h1, hv v s h2⟩
  · by_cases q : k = j
    · subst q
      rw [List.getElem?_set_self (List.getElem?_eq_some_iff.mp hk).1] at h
      cases h; cases l
    · rw [List.getElem?_set_ne q] at h
      obtain ⟨h1, h2⟩ := ok.obj j o h l
      exact ⟨h1, h2.map hv fun u e => e⟩
/-- the same with other facts carried along -/
abbrev Cn.w (c : Cn) (fr : List (V × SV)) (lo : Nat) : Cn := ⟨c.K, c.H0, c.N0, c.M, fr, lo⟩
theorem SvOk.lift {K : PySem.W.Frag} {N : Addr → Prop} {n n' : Nat} {v : V} {s : SV} (e : n ≤ n') (h : SvOk K N ad n H v s) : SvOk K N ad n' H v s := by
  cases s with
  | i d => exact h
  | t ks => exact h
  | ob C m => exact h
  | z m => exact h
  | r k => exact ⟨h.1, Nat.lt_of_lt_of_le h.2 e⟩
/-- facts are carried along from here -/
theorem Ok.pin {v : V} {s : SV} (ok : Ok c ad env os σ H) (h : SvOk c.K (Nof c ad os) ad os.length H v s) : Ok (c.w ((v, s) :: c.fr) os.length) ad env os σ H :=
  ⟨ok.len, ok.ex, ok.n0, ok.val, ok.obj, ok.inj, ok.nn, fun p hp => by
    rcases List.mem_cons.mp hp with z | z
    · subst z; exact h
    · exact (ok.frm p z).lift ok.low, Nat.le_refl _⟩
theorem Ok.pin0 (ok : Ok c ad env os σ H) : Ok (c.w c.fr os.length) ad env os σ H :=
  ⟨ok.len, ok.ex, ok.n0, ok.val, ok.obj, ok.inj, ok.nn, fun p hp => (ok.frm p hp).lift ok.low, Nat.le_refl _⟩
end
end DL

set_option Elab.async false
set_option linter.all false
set_option maxRecDepth 100000
set_option maxHeartbeats 2000000
/-! The data layer: judgements and rules. -/
namespace DL
open PySem L2
open Evl (Ex Ex.refl Ex.trans Ex.new)

/-! ### judgements -/
/-- what is avoided: all of the store, or (w) what the caller wants avoided alone -/
def Nw (w : Bool) (c : Cn) (ad : Nat → Addr) (os : List SO) : Addr → Prop := fun a => c.N0 a ∨ (w = false ∧ ∃ k, Lv os k ∧ a = ad k)
theorem Nw_false {c : Cn} {ad : Nat → Addr} {os : List SO} : Nw false c ad os = Nof c ad os := by
  funext a
  exact propext ⟨fun h => h.elim Or.inl fun z => Or.inr z.2, fun h => h.elim Or.inl fun z => Or.inr ⟨rfl, z⟩⟩
theorem Nw_le {w : Bool} {c : Cn} {ad : Nat → Addr} {os : List SO} : ∀ a, Nw w c ad os a → Nof c ad os a := fun a h => h.elim Or.inl fun z => Or.inr z.2
theorem Nw_n0 {w : Bool} {c : Cn} {ad : Nat → Addr} {os : List SO} : ∀ a, c.N0 a → Nw w c ad os a := fun a h => Or.inl h
theorem Nw_true {c : Cn} {ad : Nat → Addr} {os : List SO} : ∀ a, Nw true c ad os a → c.N0 a := fun a h => h.elim id fun z => nomatch z.1

/-- te gives the data d; the heap is only added to -/
def EvX (w : Bool) (c : Cn) (env : Sy) (os : List SO) (te : TE) (d : PyData) : Prop := ∀ ad σ H, Ok c ad env os σ H → ∀ Q : VK, (∀ v H2, Ex H H2 → Dn c.K (Nw w c ad os) H2 v d → Q v H2) → te σ H Q
/-- te gives the k-th object -/
def EvR (c : Cn) (env : Sy) (os : List SO) (te : TE) (k : Nat) : Prop := k < os.length ∧ ∀ ad σ H, Ok c ad env os σ H → ∀ Q : VK, (∀ H2, Ex H H2 → Q (.ref (ad k)) H2) → te σ H Q
/-- te gives an object that stays as it is -/
def EvK (c : Cn) (env : Sy) (os : List SO) (te : TE) (u : HO) : Prop := Wr u = false ∧ ∀ ad σ H, Ok c ad env os σ H → ∀ Q : VK, (∀ b H2, Ex H H2 → H2 b = some u → Q (.ref b) H2) → te σ H Q
/-- gives an instance -/
def EvB (c : Cn) (env : Sy) (os : List SO) (te : TE) (C : Addr) (m : List (Str × PyData)) : Prop := ∀ ad σ H, Ok c ad env os σ H → ∀ Q : VK, (∀ v H2, Ex H H2 → ObOk c.K (Nof c ad os) H2 v C m → Q v H2) → te σ H Q
/-- gives a dict of data that no one writes any more -/
def EvZ (c : Cn) (env : Sy) (os : List SO) (te : TE) (m : List (Key × PyData)) : Prop := ∀ ad σ H, Ok c ad env os σ H → ∀ Q : VK, (∀ v H2, Ex H H2 → ZOk c.K (Nof c ad os) H2 v m → Q v H2) → te σ H Q
def EvS (c : Cn) (env : Sy) (os : List SO) (te : TE) : SV → Prop
  | .i d => EvX false c env os te d
  | .t u => EvK c env os te u
  | .ob C m => EvB c env os te C m
  | .z m => EvZ c env os te m
  | .r k => EvR c env os te k
/-- te gives a new object -/
def EvF (c : Cn) (env : Sy) (os : List SO) (te : TE) (o : SO) : Prop := ∀ ad σ H, Ok c ad env os σ H → ∀ Q : VK, (∀ p H2, H p = none → Ex H H2 → SoOk c.K (fun a => Nof c ad os a ∨ a = p) ad os.length H2 p o → Q (.ref p) H2) → te σ H Q
/-- te gives a list that may be read -/
def EvI (c : Cn) (env : Sy) (os : List SO) (te : TE) (ss : List SV) : Prop := ∀ ad σ H, Ok c ad env os σ H → ∀ Q : VK, (∀ p vs H2, Ex H H2 → SqL c.K H2 p vs → Paired (SvOk c.K (Nof c ad os) ad os.length H2) vs ss → Q (.ref p) H2) → te σ H Q
def EvT (c : Cn) (env : Sy) (os : List SO) (tt : TT) (b : Bool) : Prop := ∀ ad σ H, Ok c ad env os σ H → ∀ Q : Bool → Hp → Prop, (∀ H2, Ex H H2 → Q b H2) → tt σ H Q
def EvA (w : Bool) (c : Cn) (env : Sy) (os : List SO) (ta : TA) (ds : List PyData) : Prop := ∀ ad σ H, Ok c ad env os σ H → ∀ Q : List V → Hp → Prop, (∀ vs H2, Ex H H2 → DnAll c.K (Nw w c ad os) H2 vs ds → Q vs H2) → ta σ H Q
def EvAS (c : Cn) (env : Sy) (os : List SO) (ta : TA) (ss : List SV) : Prop := ∀ ad σ H, Ok c ad env os σ H → ∀ Q : List V → Hp → Prop, (∀ vs H2, Ex H H2 → Paired (SvOk c.K (Nof c ad os) ad os.length H2) vs ss → Q vs H2) → ta σ H Q
def EvO (c : Cn) (env : Sy) (os : List SO) (to : TO) (o : Option Int) : Prop := ∀ ad σ H, Ok c ad env os σ H → ∀ Q : Option Int → Hp → Prop, (∀ H2, Ex H H2 → Q o H2) → to σ H Q

section
variable {w : Bool} {c : Cn} {env : Sy} {os : List SO} {te ta tb tl : TE} {d : PyData} {tt tu : TT}

/-! ### conversions -/
theorem EvX.weak (h : EvX false c env os te d) : EvX w c env os te d := fun ad σ H ok Q q => h ad σ H ok Q fun v H2 e r => q v H2 e (r.sub (by rw [Nw_false]; exact Nw_le))
theorem EvX.strong (hd : noList d = true) (h : EvX true c env os te d) : EvX w c env os te d := fun ad σ H ok Q q => h ad σ H ok Q fun v H2 e r => q v H2 e (Dn.goF (fun _ _ r => r) d v hd r)
theorem EvX.n0 (h : EvX w c env os te d) : EvX true c env os te d := fun ad σ H ok Q q => h ad σ H ok Q fun v H2 e r => q v H2 e (r.sub fun a z => Nw_n0 a (Nw_true a z))
theorem EvX.is {d' : PyData} (h : EvX w c env os te d) (e : d = d') : EvX w c env os te d' := e ▸ h
theorem EvT.is {b b' : Bool} (h : EvT c env os tt b) (e : b = b') : EvT c env os tt b' := e ▸ h
theorem EvF.ev {ds : List PyData} (h : EvF c env os te (.lst (ds.map SV.i))) : EvX w c env os te (.list ds) := EvX.weak fun ad σ H ok Q q => h ad σ H ok Q fun p H2 hp e r => by
  obtain ⟨vs, h1, h2⟩ := r
  refine q _ H2 e ?_
  rw [Nw_false]
  exact .lst (Or.inl h1) (fun z => ok.nof z hp) ((paired_dn h2).sub fun a z => Or.inl z)
theorem EvX.it {ds : List PyData} (h : EvX false c env os te (.list ds)) : EvI c env os te (ds.map SV.i) := fun ad σ H ok Q q => h ad σ H ok Q fun v H2 e r => by
  rw [Nw_false] at r
  cases r with
  | lst r n a => exact q _ _ H2 e (Or.inl r) (dn_paired a)
  | lstK r a => exact q _ _ H2 e (Or.inr r) (dn_paired a)
theorem EvR.it {k : Nat} {ss : List SV} (h : EvR c env os te k) (hk : os[k]? = some (.lst ss)) : EvI c env os te ss := fun ad σ H ok Q q => h.2 ad σ H ok Q fun H2 e => by
  obtain ⟨_, vs, h1, h2⟩ := (ok.ext e).obj k _ hk rfl
  exact q _ vs H2 e (Or.inl (Or.inl h1)) h2
theorem EvF.it {ss : List SV} (h : EvF c env os te (.lst ss)) : EvI c env os te ss := fun ad σ H ok Q q => h ad σ H ok Q fun p H2 hp e r => by
  obtain ⟨vs, h1, h2⟩ := r
  exact q _ vs H2 e (Or.inl (Or.inl h1)) (Paired.imp h2 fun _ _ z => z.sub fun a y => Or.inl y)
/-! ### names, constants -/
theorem ex_var {i : Nat} (h : env[i]? = some (some (.i d))) : EvX w c env os (tVar i) d := EvX.weak fun ad σ H ok Q q => by
  obtain ⟨v, h1, h2⟩ := ok.val i _ h
  exact ⟨v, h1, q v H (Ex.refl H) (by rw [Nw_false]; exact h2)⟩
theorem er_var {i k : Nat} (h : env[i]? = some (some (.r k))) (hk : k < os.length) : EvR c env os (tVar i) k := ⟨hk, fun ad σ H ok Q q => by
  obtain ⟨v, h1, h2⟩ := ok.val i _ h
  obtain ⟨rfl, _⟩ := h2
  exact ⟨_, h1, q H (Ex.refl H)⟩⟩
theorem ex_int {i : Int} : EvX w c env os (tC (.int i)) (.int i) := fun ad σ H ok Q q => q _ H (Ex.refl H) (.int i)
theorem ex_bl {i : Bool} : EvX w c env os (tC (.bl i)) (.bool i) := fun ad σ H ok Q q => q _ H (Ex.refl H) (.bl i)
theorem ex_str {i : Str} : EvX w c env os (tC (.str i)) (.str i) := fun ad σ H ok Q q => q _ H (Ex.refl H) (.str i)
theorem ex_non : EvX w c env os (tC .non) .none := fun ad σ H ok Q q => q _ H (Ex.refl H) .non
/-! ### operators on ints -/
theorem dn_int {K : PySem.W.Frag} {N : Addr → Prop} {H : Hp} {v : V} {i : Int} (h : Dn K N H v (.int i)) : v = .int i := by cases h; rfl
theorem dn_bool {K : PySem.W.Frag} {N : Addr → Prop} {H : Hp} {v : V} {i : Bool} (h : Dn K N H v (.bool i)) : v = .bl i := by cases h; rfl
theorem dn_str {K : PySem.W.Frag} {N : Addr → Prop} {H : Hp} {v : V} {i : Str} (h : Dn K N H v (.str i)) : v = .str i := by cases h; rfl
theorem ex_i2 {f : Int → Int → Int} {i j : Int} (ha : EvX true c env os ta (.int i)) (hb : EvX true c env os tb (.int j)) : EvX w c env os (tOp (rI0 fun i j => .int (f i j)) ta tb) (.int (f i j)) := fun ad σ H ok Q q =>
  ha ad σ H ok _ fun v H1 e1 r1 => hb ad σ H1 (ok.ext e1) _ fun u H2 e2 r2 => ⟨i, j, dn_int r1, dn_int r2, q _ H2 (e1.trans e2) (.int _)⟩
theorem ex_i2c {C : Int → Int → Prop} {f : Int → Int → Int} {i j : Int} (ha : EvX true c env os ta (.int i)) (hb : EvX true c env os tb (.int j)) (hc : C i j) : EvX w c env os (tOp (rI C fun i j => .int (f i j)) ta tb) (.int (f i j)) := fun ad σ H ok Q q =>
  ha ad σ H ok _ fun v H1 e1 r1 => hb ad σ H1 (ok.ext e1) _ fun u H2 e2 r2 => ⟨i, j, dn_int r1, dn_int r2, hc, q _ H2 (e1.trans e2) (.int _)⟩
theorem ex_b2 {f : Int → Int → Bool} {i j : Int} (ha : EvX true c env os ta (.int i)) (hb : EvX true c env os tb (.int j)) : EvX w c env os (tOp (rI0 fun i j => .bl (f i j)) ta tb) (.bool (f i j)) := fun ad σ H ok Q q =>
  ha ad σ H ok _ fun v H1 e1 r1 => hb ad σ H1 (ok.ext e1) _ fun u H2 e2 r2 => ⟨i, j, dn_int r1, dn_int r2, q _ H2 (e1.trans e2) (.bl _)⟩
theorem ex_u {f : Int → Int} {i : Int} (ha : EvX true c env os ta (.int i)) : EvX w c env os (tUn (rU fun i => .int (f i)) ta) (.int (f i)) := fun ad σ H ok Q q =>
  ha ad σ H ok _ fun v H1 e1 r1 => ⟨i, dn_int r1, q _ H1 e1 (.int _)⟩
theorem ex_eqI {i j : Int} (ha : EvX true c env os ta (.int i)) (hb : EvX true c env os tb (.int j)) : EvX w c env os (tOp rEq ta tb) (.bool (decide (i = j))) := fun ad σ H ok Q q =>
  ha ad σ H ok _ fun v H1 e1 r1 => hb ad σ H1 (ok.ext e1) _ fun u H2 e2 r2 => by
    cases dn_int r1; cases dn_int r2
    refine ⟨rfl, q _ H2 (e1.trans e2) ?_⟩
    rw [dec_int, Bool.beq_eq_decide_eq]
    exact .bl _
theorem ex_neI {i j : Int} (ha : EvX true c env os ta (.int i)) (hb : EvX true c env os tb (.int j)) : EvX w c env os (tOp rNe ta tb) (.bool (!decide (i = j))) := fun ad σ H ok Q q =>
  ha ad σ H ok _ fun v H1 e1 r1 => hb ad σ H1 (ok.ext e1) _ fun u H2 e2 r2 => by
    cases dn_int r1; cases dn_int r2
    refine ⟨rfl, q _ H2 (e1.trans e2) ?_⟩
    rw [dec_int, Bool.beq_eq_decide_eq]
    exact .bl _
theorem ex_eqS {i j : Str} (ha : EvX true c env os ta (.str i)) (hb : EvX true c env os tb (.str j)) : EvX w c env os (tOp rEq ta tb) (.bool (i == j)) := fun ad σ H ok Q q =>
  ha ad σ H ok _ fun v H1 e1 r1 => hb ad σ H1 (ok.ext e1) _ fun u H2 e2 r2 => by
    cases dn_str r1; cases dn_str r2
    refine ⟨rfl, q _ H2 (e1.trans e2) ?_⟩
    rw [dec_str]
    exact .bl _
theorem ex_neS {i j : Str} (ha : EvX true c env os ta (.str i)) (hb : EvX true c env os tb (.str j)) : EvX w c env os (tOp rNe ta tb) (.bool (!(i == j))) := fun ad σ H ok Q q =>
  ha ad σ H ok _ fun v H1 e1 r1 => hb ad σ H1 (ok.ext e1) _ fun u H2 e2 r2 => by
    cases dn_str r1; cases dn_str r2
    refine ⟨rfl, q _ H2 (e1.trans e2) ?_⟩
    rw [dec_str]
    exact .bl _
theorem plain_of {d : PyData} (h : SeqAt.shaped d = true) : d.plain = true := PyData.plain_of_canLay0 d (by
  unfold SeqAt.shaped at h
  rw [Bool.and_eq_true] at h
  exact h.1)
theorem ex_neD {d e : PyData} (ha : EvX true c env os ta d) (hb : EvX true c env os tb e) (s1 : SeqAt.shaped d = true) (s2 : SeqAt.shaped e = true) : EvX w c env os (tOp (rNeD c.K) ta tb) (.bool (!PyData.eqv d e)) := fun ad σ H ok Q q =>
  ha ad σ H ok _ fun v H1 e1 r1 => hb ad σ H1 (ok.ext e1) _ fun u H2 e2 r2 => ⟨d, e, Dn.dp _ _ (plain_of s1) (r1.ext e2), Dn.dp _ _ (plain_of s2) r2, s1, s2, q _ H2 (e1.trans e2) (.bl _)⟩
theorem ex_isN {r : R2} (hr : r = (fun x y H Q => y = .non ∧ Q (.bl (decide (x = .non))) H)) (ha : EvX true c env os ta d) : EvX w c env os (tOp r ta (tC .non)) (.bool (match d with | .none => true | _ => false)) := fun ad σ H ok Q q => by
  subst hr
  refine ha ad σ H ok _ fun v H1 e1 r1 => ⟨rfl, q _ H1 e1 ?_⟩
  cases r1 <;> exact .bl _
theorem ex_notN {r : R2} (hr : r = (fun x y H Q => y = .non ∧ Q (.bl (!decide (x = .non))) H)) (ha : EvX true c env os ta d) : EvX w c env os (tOp r ta (tC .non)) (.bool (match d with | .none => false | _ => true)) := fun ad σ H ok Q q => by
  subst hr
  refine ha ad σ H ok _ fun v H1 e1 r1 => ⟨rfl, q _ H1 e1 ?_⟩
  cases r1 <;> exact .bl _
/-- a op b op c -/
theorem ex_chain {r r' : R2} {ta tb tc : TE} {f g : Int → Int → Bool} {i j k : Int} (hr : r = rI0 fun i j => .bl (f i j)) (hr' : r' = rI0 fun i j => .bl (g i j)) (ha : EvX true c env os ta (.int i)) (hb : EvX true c env os tb (.int j)) (hc : EvX true c env os tc (.int k)) :
    EvX w c env os (tChain r r' ta tb tc) (.bool (f i j && g j k)) := fun ad σ H ok Q q => by
  subst hr hr'
  refine ha ad σ H ok _ fun v H1 e1 r1 => hb ad σ H1 (ok.ext e1) _ fun u H2 e2 r2 => ⟨i, j, dn_int r1, dn_int r2, f i j, rfl, ?_⟩
  cases hf : f i j with
  | true =>
    rw [if_pos rfl]
    exact hc ad σ H2 ((ok.ext e1).ext e2) _ fun z H3 e3 r3 => ⟨j, k, dn_int r2, dn_int r3, q _ H3 ((e1.trans e2).trans e3) (by rw [hf]; exact .bl _)⟩
  | false =>
    rw [if_neg (by decide)]
    exact q _ H2 (e1.trans e2) (by rw [hf]; exact .bl _)

/-! ### tests -/
theorem et_test {b : Bool} (h : EvX true c env os te (.bool b)) : EvT c env os (tTest te) b := fun ad σ H ok Q q => h ad σ H ok _ fun v H2 e r => ⟨b, dn_bool r, q H2 e⟩
theorem et_B {b : Bool} (h : EvX true c env os te (.bool b)) : EvT c env os (tB te) b := fun ad σ H ok Q q => h ad σ H ok _ fun v H2 e r => ⟨b, dn_bool r, q H2 e⟩
theorem et_and {a b : Bool} (h1 : EvT c env os tt a) (h2 : a = true → EvT c env os tu b) : EvT c env os (tAnd tt tu) (a && b) := fun ad σ H ok Q q => h1 ad σ H ok _ fun H2 e2 => by
  cases a with
  | true =>
    show tu σ H2 Q
    exact h2 rfl ad σ H2 (ok.ext e2) Q fun H3 e3 => q H3 (e2.trans e3)
  | false =>
    show Q false H2
    exact q H2 e2
theorem et_or {a b : Bool} (h1 : EvT c env os tt a) (h2 : a = false → EvT c env os tu b) : EvT c env os (tOr tt tu) (a || b) := fun ad σ H ok Q q => h1 ad σ H ok _ fun H2 e2 => by
  cases a with
  | true =>
    show Q true H2
    exact q H2 e2
  | false =>
    show tu σ H2 Q
    exact h2 rfl ad σ H2 (ok.ext e2) Q fun H3 e3 => q H3 (e2.trans e3)
theorem et_not {a : Bool} (h1 : EvT c env os tt a) : EvT c env os (tNot tt) (!a) := fun ad σ H ok Q q => h1 ad σ H ok _ fun H2 e2 => q H2 e2
theorem ex_and {a b : Bool} (h1 : EvX true c env os ta (.bool a)) (h2 : a = true → EvX true c env os tb (.bool b)) : EvX w c env os (tAndV ta tb) (.bool (a && b)) := fun ad σ H ok Q q => h1 ad σ H ok _ fun v H2 e2 r2 => ⟨a, dn_bool r2, by
  cases a with
  | true =>
    rw [if_pos rfl]
    exact h2 rfl ad σ H2 (ok.ext e2) Q fun u H3 e3 r3 => q u H3 (e2.trans e3) (by cases r3; exact .bl _)
  | false =>
    rw [if_neg (by decide)]
    exact q _ H2 e2 (.bl _)⟩
theorem ex_or {a b : Bool} (h1 : EvX true c env os ta (.bool a)) (h2 : a = false → EvX true c env os tb (.bool b)) : EvX w c env os (tOrV ta tb) (.bool (a || b)) := fun ad σ H ok Q q => h1 ad σ H ok _ fun v H2 e2 r2 => ⟨a, dn_bool r2, by
  cases a with
  | true =>
    rw [if_pos rfl]
    exact q _ H2 e2 (.bl _)
  | false =>
    rw [if_neg (by decide)]
    exact h2 rfl ad σ H2 (ok.ext e2) Q fun u H3 e3 r3 => q u H3 (e2.trans e3) (by cases r3; exact .bl _)⟩
theorem ex_not {a : Bool} (h1 : EvX true c env os ta (.bool a)) : EvX w c env os (tNotV ta) (.bool (!a)) := fun ad σ H ok Q q => h1 ad σ H ok _ fun v H2 e2 r2 => ⟨a, dn_bool r2, q _ H2 e2 (.bl _)⟩
theorem ex_if {b : Bool} (h : EvT c env os tt b) (h1 : b = true → EvX w c env os ta d) (h2 : b = false → EvX w c env os tb d) : EvX w c env os (tIf tt ta tb) d := fun ad σ H ok Q q => h ad σ H ok _ fun H2 e2 => by
  cases b with
  | true =>
    show ta σ H2 Q
    exact h1 rfl ad σ H2 (ok.ext e2) Q fun v H3 e3 => q v H3 (e2.trans e3)
  | false =>
    show tb σ H2 Q
    exact h2 rfl ad σ H2 (ok.ext e2) Q fun v H3 e3 => q v H3 (e2.trans e3)
/-- the truth of a list -/
theorem et_truL {r : V → Hp → (Bool → Hp → Prop) → Prop} {ss : List SV} (hr : r = fun x H Q => ∃ k, TruV c.K x H k ∧ Q k H) (h : EvI c env os te ss) : EvT c env os (fun σ H Q => te σ H fun x H' => r x H' Q) (!ss.isEmpty) := fun ad σ H ok Q q => by
  subst hr
  refine h ad σ H ok _ fun p vs H2 e s r => ⟨!ss.isEmpty, Or.inl ⟨vs, s, ?_⟩, q H2 e⟩
  cases r <;> rfl

/-! ### argument lists -/
theorem ea_nil : EvA w c env os tNil [] := fun ad σ H ok Q q => q [] H (Ex.refl H) .nil
theorem ea_cons {tr : TA} {ds : List PyData} (h : EvX w c env os te d) (hr : EvA w c env os tr ds) : EvA w c env os (tCons te tr) (d :: ds) := fun ad σ H ok Q q =>
  h ad σ H ok _ fun v H2 e2 r2 => hr ad σ H2 (ok.ext e2) _ fun vs H3 e3 r3 => q _ H3 (e2.trans e3) (.cons (r2.ext e3) r3)
theorem eas_nil : EvAS c env os tNil [] := fun ad σ H ok Q q => q [] H (Ex.refl H) .nil
theorem eas_cons {tr : TA} {s : SV} {ss : List SV} (h : EvS c env os te s) (hr : EvAS c env os tr ss) : EvAS c env os (tCons te tr) (s :: ss) := fun ad σ H ok Q q => by
  cases s with
  | i d => exact (show EvX false c env os te d from h) ad σ H ok _ fun v H2 e2 r2 => hr ad σ H2 (ok.ext e2) _ fun vs H3 e3 r3 => q _ H3 (e2.trans e3) (.cons (show Dn _ _ _ _ _ by rw [Nw_false] at r2; exact r2.ext e3) r3)
  | t ks => exact (show EvK c env os te ks from h).2 ad σ H ok _ fun b H2 e2 r2 => hr ad σ H2 (ok.ext e2) _ fun vs H3 e3 r3 => q _ H3 (e2.trans e3) (.cons ⟨b, rfl, e3 _ _ r2, (show EvK c env os te ks from h).1⟩ r3)
  | ob C m => exact (show EvB c env os te C m from h) ad σ H ok _ fun v H2 e2 r2 => hr ad σ H2 (ok.ext e2) _ fun vs H3 e3 r3 => q _ H3 (e2.trans e3) (.cons (ObOk.ext e3 r2) r3)
  | z m => exact (show EvZ c env os te m from h) ad σ H ok _ fun v H2 e2 r2 => hr ad σ H2 (ok.ext e2) _ fun vs H3 e3 r3 => q _ H3 (e2.trans e3) (.cons (ZOk.ext e3 r2) r3)
  | r k =>
    obtain ⟨hk, h⟩ := (show EvR c env os te k from h)
    exact h ad σ H ok _ fun H2 e2 => hr ad σ H2 (ok.ext e2) _ fun vs H3 e3 r3 => q _ H3 (e2.trans e3) (.cons ⟨rfl, hk⟩ r3)
theorem EvA.ss {ta : TA} {ds : List PyData} (h : EvA false c env os ta ds) : EvAS c env os ta (ds.map SV.i) := fun ad σ H ok Q q => h ad σ H ok Q fun vs H2 e r => q vs H2 e (by rw [Nw_false] at r; exact dn_paired r)

/-! ### displays -/
theorem ex_tup {ta : TA} {ds : List PyData} (h : EvA w c env os ta ds) (hl : ds.length ≤ 100000) : EvX w c env os (tTup ta) (.tuple ds) := fun ad σ H ok Q q =>
  h ad σ H ok _ fun vs H2 e r => ⟨Nat.le_trans (by rw [r.length]; exact hl) (by decide), fun p hp => q _ _ (e.trans (Ex.new hp)) (.tup (SqT.of upd_same) (r.ext (Ex.new hp)))⟩
theorem ef_lst {ta : TA} {ss : List SV} (h : EvAS c env os ta ss) (hl : ss.length ≤ 100000) : EvF c env os (tLst ta) (.lst ss) := fun ad σ H ok Q q =>
  h ad σ H ok _ fun vs H2 e r => ⟨Nat.le_trans (by rw [Paired.length r]; exact hl) (by decide), fun p hp => q p _ (e.free hp) (e.trans (Ex.new hp)) ⟨vs, upd_same, Paired.imp r fun v s z => by
    cases s with
    | i d => exact (Dn.add hp z).ext (Ex.new hp)
    | t ks => obtain ⟨b, e1, e2⟩ := z; exact ⟨b, e1, Ex.new hp _ _ e2.1, e2.2⟩
    | ob C m => exact (ObOk.add hp z).ext (Ex.new hp)
    | z m => exact (ZOk.add hp z).ext (Ex.new hp)
    | r k => exact z⟩⟩

/-! ### subscripts -/
theorem ex_ixT {tb : TE} {ds : List PyData} {i : Int} (h : EvX w c env os ta (.tuple ds)) (hi : EvX true c env os tb (.int i)) (hd : atI ds i = some d) : EvX w c env os (tOp (rIxT c.K) ta tb) d := fun ad σ H ok Q q =>
  h ad σ H ok _ fun v H1 e1 r1 => hi ad σ H1 (ok.ext e1) _ fun u H2 e2 r2 => by
    have r1' := r1.ext e2
    cases dn_int r2
    cases r1' with
    | tup r a =>
      obtain ⟨j, z1, z2⟩ : ∃ j, ixN ds.length i = some j ∧ ds[j]? = some d := by
        unfold atI at hd
        cases hx : ixN ds.length i with
        | none => rw [hx] at hd; cases hd
        | some j => rw [hx] at hd; exact ⟨j, rfl, hd⟩
      obtain ⟨v, y1, y2⟩ := a.get z2
      refine ⟨_, _, i, v, rfl, rfl, r, ?_, q v H2 (e1.trans e2) y2⟩
      unfold atI
      rw [a.length, z1]
      exact y1
theorem paired_get {α β : Type} {F : α → β → Prop} : ∀ {l₁ : List α} {l₂ : List β} {i : Nat} {b : β}, Paired F l₁ l₂ → l₂[i]? = some b → ∃ a, l₁[i]? = some a ∧ F a b
  | _, _, _, _, .nil, e => by simp at e
  | _, _, 0, _, .cons r _, e => by simp at e; subst e; exact ⟨_, rfl, r⟩
  | _, _, i + 1, _, .cons _ t, e => by
    obtain ⟨v, h1, h2⟩ := paired_get (i := i) t (by simpa using e)
    exact ⟨v, by simpa using h1, h2⟩
theorem paired_getL {α β : Type} {F : α → β → Prop} : ∀ {l₁ : List α} {l₂ : List β} {i : Nat} {a : α}, Paired F l₁ l₂ → l₁[i]? = some a → ∃ b, l₂[i]? = some b ∧ F a b
  | _, _, _, _, .nil, e => by simp at e
  | _, _, 0, _, .cons r _, e => by simp at e; subst e; exact ⟨_, rfl, r⟩
  | _, _, i + 1, _, .cons _ t, e => by
    obtain ⟨v, h1, h2⟩ := paired_getL (i := i) t (by simpa using e)
    exact ⟨v, by simpa using h1, h2⟩
theorem paired_at {α β : Type} {F : α → β → Prop} {l₁ : List α} {l₂ : List β} {i : Int} {b : β} (p : Paired F l₁ l₂) (h : atI l₂ i = some b) : ∃ a, atI l₁ i = some a ∧ F a b := by
  unfold atI at h
  cases hx : ixN l₂.length i with
  | none => rw [hx] at h; cases h
  | some j =>
    rw [hx] at h
    obtain ⟨a, h1, h2⟩ := paired_get p (show l₂[j]? = some b from h)
    refine ⟨a, ?_, h2⟩
    unfold atI
    rw [Paired.length p, hx]
    exact h1
/-- xs[i] of a list -/
theorem ex_ixL {tb : TE} {ss : List SV} {i : Int} (h : EvI c env os ta ss) (hi : EvX true c env os tb (.int i)) (hd : atI ss i = some (.i d)) : EvX w c env os (tOp (rIxL c.K) ta tb) d := EvX.weak fun ad σ H ok Q q =>
  h ad σ H ok _ fun p vs H1 e1 s1 r1 => hi ad σ H1 (ok.ext e1) _ fun u H2 e2 r2 => by
    cases dn_int r2
    obtain ⟨v, h1, h2⟩ := paired_at r1 hd
    exact ⟨p, vs, i, v, rfl, rfl, e2.sql s1, h1, q v H2 (e1.trans e2) (by rw [Nw_false]; exact Dn.ext e2 h2)⟩
/-- .. of data, told weakly -/
theorem ex_ixLD {tb : TE} {ds : List PyData} {i : Int} (h : EvX w c env os ta (.list ds)) (hi : EvX true c env os tb (.int i)) (hd : atI ds i = some d) : EvX w c env os (tOp (rIxL c.K) ta tb) d := fun ad σ H ok Q q =>
  h ad σ H ok _ fun v H1 e1 r1 => hi ad σ H1 (ok.ext e1) _ fun u H2 e2 r2 => by
    have r1' := r1.ext e2
    cases dn_int r2
    obtain ⟨j, z1, z2⟩ : ∃ j, ixN ds.length i = some j ∧ ds[j]? = some d := by
      unfold atI at hd
      cases hx : ixN ds.length i with
      | none => rw [hx] at hd; cases hd
      | some j => rw [hx] at hd; exact ⟨j, rfl, hd⟩
    cases r1' with
    | lst r n a =>
      obtain ⟨v, y1, y2⟩ := a.get z2
      refine ⟨_, _, i, v, rfl, rfl, Or.inl r, ?_, q v H2 (e1.trans e2) y2⟩
      unfold atI
      rw [a.length, z1]
      exact y1
    | lstK r a =>
      obtain ⟨v, y1, y2⟩ := a.get z2
      refine ⟨_, _, i, v, rfl, rfl, Or.inr r, ?_, q v H2 (e1.trans e2) y2⟩
      unfold atI
      rw [a.length, z1]
      exact y1
theorem eo_none : EvO c env os tNoPart none := fun ad σ H ok Q q => q H (Ex.refl H)
theorem eo_some {i : Int} (h : EvX true c env os te (.int i)) : EvO c env os (tPart te) (some i) := fun ad σ H ok Q q => h ad σ H ok _ fun v H2 e r => ⟨i, dn_int r, q H2 e⟩
def cutG {α : Type} (xs : List α) (lo hi : Option Int) : List α := (xs.drop (HT.sIx xs.length 0 lo)).take (HT.sIx xs.length xs.length hi - HT.sIx xs.length 0 lo)
theorem Paired.drop {α β : Type} {F : α → β → Prop} : ∀ {l₁ : List α} {l₂ : List β} (n : Nat), Paired F l₁ l₂ → Paired F (l₁.drop n) (l₂.drop n)
  | _, _, 0, r => r
  | _, _, _ + 1, .nil => .nil
  | _, _, n + 1, .cons _ t => Paired.drop n t
theorem Paired.take {α β : Type} {F : α → β → Prop} : ∀ {l₁ : List α} {l₂ : List β} (n : Nat), Paired F l₁ l₂ → Paired F (l₁.take n) (l₂.take n)
  | _, _, 0, r => .nil
  | _, _, _ + 1, .nil => .nil
  | _, _, n + 1, .cons r t => .cons r (Paired.take n t)
theorem ef_slice {tl th : TO} {ss : List SV} {lo hi : Option Int} (h : EvI c env os te ss) (h1 : EvO c env os tl lo) (h2 : EvO c env os th hi) : EvF c env os (tSl (rSlL c.K) te tl th) (.lst (cutG ss lo hi)) := fun ad σ H ok Q q =>
  h ad σ H ok _ fun p vs H1 e1 s1 r1 => h1 ad σ H1 (ok.ext e1) _ fun H2 e2 => h2 ad σ H2 ((ok.ext e1).ext e2) _ fun H3 e3 =>
    ⟨p, vs, rfl, (e2.trans e3).sql s1, fun l hl => q l _ (((e1.trans e2).trans e3).free hl) (((e1.trans e2).trans e3).trans (Ex.new hl)) ⟨cutV vs lo hi, upd_same, by
      have r2 : Paired (SvOk c.K (Nof c ad os) ad os.length H3) (cutV vs lo hi) (cutG ss lo hi) := by
        unfold cutV cutG
        rw [Paired.length r1]
        exact Paired.take _ (Paired.drop _ (Paired.imp r1 fun _ _ z => z.ext (e2.trans e3)))
      exact Paired.imp r2 fun v s z => by
        cases s with
        | i d => exact (Dn.add hl z).ext (Ex.new hl)
        | t ks => obtain ⟨b, e1, e2⟩ := z; exact ⟨b, e1, Ex.new hl _ _ e2.1, e2.2⟩
        | ob C m => exact (ObOk.add hl z).ext (Ex.new hl)
        | z m => exact (ZOk.add hl z).ext (Ex.new hl)
        | r k => exact z⟩⟩

/-! ### built-ins -/
theorem ex_len {r : List V → Hp → VK → Prop} {ss : List SV} (hr : r = fun xs H Q => ∃ p ys, xs = [.ref p] ∧ (SqL c.K H p ys ∨ SqT c.K H p ys) ∧ Q (.int ys.length) H) (h : EvI c env os te ss) : EvX w c env os (tCB r (tCons te tNil)) (.int (ss.length : Int)) := fun ad σ H ok Q q => by
  subst hr
  refine h ad σ H ok _ fun p vs H2 e s r => ⟨p, vs, rfl, Or.inl s, ?_⟩
  rw [Paired.length r]
  exact q _ H2 e (.int _)
theorem ex_lenT {r : List V → Hp → VK → Prop} {ds : List PyData} (hr : r = fun xs H Q => ∃ p ys, xs = [.ref p] ∧ (SqL c.K H p ys ∨ SqT c.K H p ys) ∧ Q (.int ys.length) H) (h : EvX true c env os te (.tuple ds)) : EvX w c env os (tCB r (tCons te tNil)) (.int (ds.length : Int)) := fun ad σ H ok Q q => by
  subst hr
  refine h ad σ H ok _ fun v H2 e s => ?_
  cases s with
  | tup s a =>
    refine ⟨_, _, rfl, Or.inr s, ?_⟩
    rw [a.length]
    exact q _ H2 e (.int _)
theorem ex_int1 {r : List V → Hp → VK → Prop} {i : Int} (hr : r = fun xs H Q => (∃ i, xs = [.int i] ∧ Q (.int i) H) ∨ ∃ k, xs = [.bl k] ∧ Q (.int (if k then 1 else 0)) H) (h : EvX true c env os te (.int i)) : EvX w c env os (tCB r (tCons te tNil)) (.int i) := fun ad σ H ok Q q => by
  subst hr
  exact h ad σ H ok _ fun v H2 e a => Or.inl ⟨i, by rw [dn_int a], q _ H2 e (.int i)⟩
theorem ex_max2 {r : List V → Hp → VK → Prop} {i j : Int} (hr : r = fun xs H Q => ∃ i j, xs = [.int i, .int j] ∧ Q (.int (if j > i then j else i)) H) (ha : EvX true c env os ta (.int i)) (hb : EvX true c env os tb (.int j)) : EvX w c env os (tCB r (tCons ta (tCons tb tNil))) (.int (max i j)) := fun ad σ H ok Q q => by
  subst hr
  refine ha ad σ H ok _ fun v H1 e1 a => hb ad σ H1 (ok.ext e1) _ fun u H2 e2 b => ⟨i, j, by rw [dn_int a, dn_int b], q _ H2 (e1.trans e2) ?_⟩
  have : (if j > i then j else i) = max i j := by split <;> omega
  rw [this]
  exact .int _
theorem ex_min2 {r : List V → Hp → VK → Prop} {i j : Int} (hr : r = fun xs H Q => ∃ i j, xs = [.int i, .int j] ∧ Q (.int (if j < i then j else i)) H) (ha : EvX true c env os ta (.int i)) (hb : EvX true c env os tb (.int j)) : EvX w c env os (tCB r (tCons ta (tCons tb tNil))) (.int (min i j)) := fun ad σ H ok Q q => by
  subst hr
  refine ha ad σ H ok _ fun v H1 e1 a => hb ad σ H1 (ok.ext e1) _ fun u H2 e2 b => ⟨i, j, by rw [dn_int a, dn_int b], q _ H2 (e1.trans e2) ?_⟩
  have : (if j < i then j else i) = min i j := by split <;> omega
  rw [this]
  exact .int _
end

/-! ### promises -/
/-- data in, data out; nothing that stands is changed -/
def spD (K : PySem.W.Frag) (R : List PyData → PyData → Prop) : Sp := fun vs H Q _ => ∃ (N : Addr → Prop) (ds : List PyData) (d : PyData), (∀ a, N a → H a ≠ none) ∧ DnAll K N H vs ds ∧ R ds d ∧ ∀ v H', Ex H H' → Dn K N H' v d → Q v H'
/-- data in, a new list of data out -/
def spF (K : PySem.W.Frag) (R : List PyData → List PyData → Prop) : Sp := fun vs H Q _ => ∃ (N : Addr → Prop) (ds : List PyData) (rs : List PyData), (∀ a, N a → H a ≠ none) ∧ DnAll K N H vs ds ∧ R ds rs ∧
  ∀ p H' ws, H p = none → Ex H H' → H' p = some (.lst ws) → DnAll K (fun a => N a ∨ a = p) H' ws rs → Q (.ref p) H'
section
variable {w : Bool} {c : Cn} {env : Sy} {os : List SO} {te : TE} {ta : TA} {d : PyData}
theorem ex_call {R : List PyData → PyData → Prop} {E : XK} {ds : List PyData} (h : EvA w c env os ta ds) (hR : R ds d) : EvX w c env os (tCall (spD c.K R) [] E ta) d := fun ad σ H ok Q q =>
  h ad σ H ok _ fun vs H2 e a => by
    rw [List.append_nil]
    exact ⟨Nw w c ad os, ds, d, fun b z => (ok.ext e).nof (Nw_le b z), a, hR, fun v H' e' r => q v H' (e.trans e') r⟩
theorem ef_call {R : List PyData → List PyData → Prop} {E : XK} {ds rs : List PyData} (h : EvA false c env os ta ds) (hR : R ds rs) : EvF c env os (tCall (spF c.K R) [] E ta) (.lst (rs.map SV.i)) := fun ad σ H ok Q q =>
  h ad σ H ok _ fun vs H2 e a => by
    rw [List.append_nil]
    rw [Nw_false] at a
    exact ⟨Nof c ad os, ds, rs, fun b z => (ok.ext e).nof z, a, hR, fun p H' ws hp e' h1 h2 => q p H' (e.free hp) (e.trans e') ⟨ws, h1, dn_paired h2⟩⟩
/-- .. where an argument is a list of the store: told where the answer has no list in its items -/
theorem ef_callW {R : List PyData → List PyData → Prop} {E : XK} {ds rs : List PyData} (h : EvA true c env os ta ds) (hR : R ds rs) (hn : noLists rs = true) : EvF c env os (tCall (spF c.K R) [] E ta) (.lst (rs.map SV.i)) := fun ad σ H ok Q q =>
  h ad σ H ok _ fun vs H2 e a => by
    rw [List.append_nil]
    exact ⟨Nw true c ad os, ds, rs, fun b z => (ok.ext e).nof (Nw_le b z), a, hR, fun p H' ws hp e' h1 h2 => q p H' (e.free hp) (e.trans e') ⟨ws, h1, dn_paired (DnAll.goF (fun _ _ r => r) rs ws hn h2)⟩⟩
end

/-! ### statements -/
def Go (c : Cn) (env : Sy) (os : List SO) (t : TS) (D : Ends) : Prop := ∀ ad σ H, Ok c ad env os σ H → t D σ H
def Ret (c : Cn) (d : PyData) (D : Ends) : Prop := ∀ v H2, (∀ a o, c.H0 a = some o → ¬ c.M a → H2 a = some o) → Dn c.K c.N0 H2 v d → D.rt v H2
def RetF (c : Cn) (ds : List PyData) (D : Ends) : Prop := ∀ p H2 ws, c.H0 p = none → (∀ a o, c.H0 a = some o → ¬ c.M a → H2 a = some o) → H2 p = some (.lst ws) → DnAll c.K (fun a => c.N0 a ∨ a = p) H2 ws ds → D.rt (.ref p) H2
/-- such a state -/
def OkE (c : Cn) (env : Sy) (os : List SO) : St → Hp → Prop := fun σ H => ∃ ad, Ok c ad env os σ H
/-- a target takes a value -/
def Tg (c : Cn) (env : Sy) (os : List SO) (g : TG) (s : SV) (env' : Sy) (js : List Nat) : Prop := ∀ ad σ H v, Ok c ad env os σ H → SvOk c.K (Nof c ad os) ad os.length H v s → ∀ Q : St → Hp → Prop,
  (∀ σ', Ok c ad env' os σ' H → (∀ vs : List Nat, (∀ j ∈ js, j ∈ vs) → wipe σ' vs = wipe σ vs) → Q σ' H) → g v σ H Q
def Tgs (c : Cn) (env : Sy) (os : List SO) (g : TGs) (ds : List PyData) (env' : Sy) (js : List Nat) : Prop := ∀ ad σ H vs, Ok c ad env os σ H → DnAll c.K (Nof c ad os) H vs ds → ∀ Q : St → Hp → Prop,
  (∀ σ', Ok c ad env' os σ' H → (∀ vs : List Nat, (∀ j ∈ js, j ∈ vs) → wipe σ' vs = wipe σ vs) → Q σ' H) → g vs σ H Q
theorem wipe_set {σ : St} {j : Nat} {x : Option V} : ∀ {vs : List Nat}, j ∈ vs → wipe (σ.set j x) vs = wipe σ vs
  | v :: vs, h => by
    show (wipe (σ.set j x) vs).set v none = (wipe σ vs).set v none
    by_cases hj : j ∈ vs
    · rw [wipe_set hj]
    · have e : j = v := by
        rcases List.mem_cons.mp h with z | z
        · exact z
        · exact absurd z hj
      subst e
      have key : ∀ us : List Nat, j ∉ us → wipe (σ.set j x) us = (wipe σ us).set j x := by
        intro us
        induction us with
        | nil => intro _; rfl
        | cons u us ih =>
          intro hu
          have h1 : j ≠ u := fun z => hu (z ▸ List.mem_cons_self ..)
          have h2 : j ∉ us := fun z => hu (List.mem_cons_of_mem _ z)
          show (wipe (σ.set j x) us).set u none = ((wipe σ us).set u none).set j x
          rw [ih h2, List.set_comm _ _ h1]
      rw [key vs hj, List.set_set]
section
variable {w : Bool} {c : Cn} {env env' env'' : Sy} {os : List SO} {te ta tl : TE} {d : PyData} {g : TG} {u t v : TS} {D : Ends} {tt : TT}
theorem tg_name {j : Nat} {s : SV} : Tg c env os (gName j) s (env.set j (some s)) [j] := fun ad σ H v ok h Q q => q _ (ok.set h) fun vs hv => wipe_set (hv j (List.mem_cons_self ..))
theorem tgs_nil : Tgs c env os gNil [] env [] := fun ad σ H vs ok h Q q => by
  cases h
  exact ⟨rfl, q σ ok fun _ _ => rfl⟩
theorem tgs_cons {gs : TGs} {ds : List PyData} {js ks : List Nat} (h1 : Tg c env os g (.i d) env' js) (h2 : Tgs c env' os gs ds env'' ks) : Tgs c env os (gCons g gs) (d :: ds) env'' (js ++ ks) := fun ad σ H vs ok h Q q => by
  cases h with
  | cons a b =>
    refine ⟨_, _, rfl, h1 ad σ H _ ok a _ fun σ' ok' hw => h2 ad σ' H _ ok' b _ fun σ'' ok'' hw' => q σ'' ok'' fun vs hv => ?_⟩
    rw [hw' vs fun j hj => hv j (List.mem_append_right _ hj), hw vs fun j hj => hv j (List.mem_append_left _ hj)]
theorem tg_tup {gs : TGs} {ds : List PyData} {n : Nat} {js : List Nat} (h : Tgs c env os gs ds env' js) (hn : ds.length = n) : Tg c env os (gTup c.K n gs) (.i (.tuple ds)) env' js := fun ad σ H v ok r Q q => by
  cases (show Dn _ _ _ _ _ from r) with
  | tup r' a => exact ⟨_, _, rfl, r', a.length.trans hn, h ad σ H _ ok a Q q⟩
theorem gs_asg {i : Nat} (h : EvX false c env os te d) (k : Go c (env.set i (some (.i d))) os u D) : Go c env os (tSeq (tAsg te (gName i)) u) D := fun ad σ H ok =>
  h ad σ H ok _ fun v H2 e r => k ad _ H2 ((ok.ext e).set (by rw [Nw_false] at r; exact r))
theorem gs_asgF {i : Nat} {o : SO} (h : EvF c env os te o) (k : Go c (env.set i (some (.r os.length))) (os ++ [o]) u D) : Go c env os (tSeq (tAsg te (gName i)) u) D := fun ad σ H ok =>
  h ad σ H ok _ fun p H2 hp e r => by
    have h0 : c.H0 p = none ∨ c.M p := by
      by_cases hm : c.M p
      · exact Or.inr hm
      · refine Or.inl ?_
        cases hz : c.H0 p with
        | none => rfl
        | some o => rw [ok.ex p o hz hm] at hp; cases hp
    have ok2 := ok.new hp e h0 r
    refine k _ _ H2 (ok2.set (v := .ref p) (s := .r os.length) ⟨congrArg V.ref adN_same.symm, by simp⟩)
theorem gs_asgR {i k : Nat} (h : EvR c env os te k) (kk : Go c (env.set i (some (.r k))) os u D) : Go c env os (tSeq (tAsg te (gName i)) u) D := fun ad σ H ok =>
  h.2 ad σ H ok _ fun H2 e => kk ad _ H2 ((ok.ext e).set ⟨rfl, h.1⟩)
theorem gs_asgT {js : List Nat} (h : EvX false c env os te d) (ht : Tg c env os g (.i d) env' js) (k : Go c env' os u D) : Go c env os (tSeq (tAsg te g) u) D := fun ad σ H ok =>
  h ad σ H ok _ fun v H2 e r => ht ad σ H2 v (ok.ext e) (by rw [Nw_false] at r; exact r) _ fun σ' ok' _ => k ad σ' H2 ok'
theorem gs_if {b : Bool} (h : EvT c env os tt b) (h1 : b = true → Go c env os t { D with nx := u D }) (h2 : b = false → Go c env os v { D with nx := u D }) : Go c env os (tSeq (tIfS tt t v) u) D := fun ad σ H ok =>
  h ad σ H ok _ fun H2 e => by
    cases b with
    | true => exact h1 rfl ad σ H2 (ok.ext e)
    | false => exact h2 rfl ad σ H2 (ok.ext e)
theorem g_next (h : ∀ ad σ H, Ok c ad env os σ H → D.nx σ H) : Go c env os tNext D := h
theorem g_nextU (h : Go c env os u D) : Go c env os tNext { D with nx := u D } := h
theorem gs_ret (h : EvX true c env os te d) (k : Ret c d D) : Go c env os (tSeq (tRet te) u) D := fun ad σ H ok =>
  h ad σ H ok _ fun v H2 e r => k v H2 (ok.ext e).ex (r.sub fun a z => Or.inl z)
theorem gs_retF {ds : List PyData} (h : EvF c env os te (.lst (ds.map SV.i))) (hM : ∀ a, ¬ c.M a) (k : RetF c ds D) : Go c env os (tSeq (tRet te) u) D := fun ad σ H ok =>
  h ad σ H ok _ fun p H2 hp e r => by
    obtain ⟨vs, h1, h2⟩ := r
    refine k p H2 vs ?_ (ok.ext e).ex h1 ((paired_dn h2).sub fun a z => z.elim (fun y => Or.inl (Or.inl y)) Or.inr)
    cases hz : c.H0 p with
    | none => rfl
    | some o => rw [ok.ex p o hz (hM p)] at hp; cases hp
theorem gs_retO {k : Nat} {ds : List PyData} (h : EvR c env os te k) (hk : os[k]? = some (.lst (ds.map SV.i))) (hM : ∀ a, ¬ c.M a) (q : RetF c ds D) : Go c env os (tSeq (tRet te) u) D := fun ad σ H ok =>
  h.2 ad σ H ok _ fun H2 e => by
    have ok2 := ok.ext e
    obtain ⟨h0, vs, h1, h2⟩ := ok2.obj k _ hk rfl
    refine q (ad k) H2 vs (h0.resolve_right (hM _)) ok2.ex h1 ((paired_dn h2).sub fun a z => ?_)
    rcases z with z | z
    · exact Or.inl z
    · exact Or.inr ⟨k, ⟨_, hk, rfl⟩, z⟩
theorem gs_drop (h : EvX w c env os te d) (k : Go c env os u D) : Go c env os (tSeq (tDrop te) u) D := fun ad σ H ok => h ad σ H ok _ fun v H2 e r => k ad σ H2 (ok.ext e)
theorem paired_snoc {α β : Type} {F : α → β → Prop} {a : α} {b : β} : ∀ {l₁ : List α} {l₂ : List β}, Paired F l₁ l₂ → F a b → Paired F (l₁ ++ [a]) (l₂ ++ [b])
  | _, _, .nil, h => .cons h .nil
  | _, _, .cons r t, h => .cons r (paired_snoc t h)
/-- xs.append(e) -/
theorem gs_app {k : Nat} {ss : List SV} {s : SV} (hl : EvR c env os tl k) (hk : os[k]? = some (.lst ss)) (h : EvS c env os te s) (hz : ss.length < 100000) (kk : Go c env (os.set k (.lst (ss ++ [s]))) u D) : Go c env os (tSeq (tDrop (tBM c.K "list" rAppend tl (tCons te tNil))) u) D := fun ad σ H ok =>
  hl.2 ad σ H ok _ fun H1 e1 => by
    have ok1 := ok.ext e1
    obtain ⟨_, vs, hvs, pv⟩ := ok1.obj k _ hk rfl
    refine ⟨Or.inl ⟨rfl, vs, SqL.of hvs⟩, ?_⟩
    have fin : ∀ v H2, Ex H1 H2 → SvOk c.K (Nof c ad os) ad os.length H2 v s → tNil σ H2 fun xs H3 => rAppend (.ref (ad k)) (v :: xs) H3 fun _ H4 => u D σ H4 := fun v H2 e2 r => by
      have ok2 := ok1.ext e2
      have hv2 := e2 _ _ hvs
      refine ⟨ad k, vs, v, rfl, rfl, hv2, Nat.lt_of_lt_of_le (by rw [Paired.length pv]; exact hz) (by decide), ?_⟩
      refine kk ad σ _ (ok2.mut hk rfl rfl ⟨vs ++ [v], upd_same, ?_⟩)
      have hN : Nof c ad os (ad k) := Or.inr ⟨k, ⟨_, hk, rfl⟩, rfl⟩
      exact paired_snoc (Paired.imp pv fun _ _ z => (z.ext e2).mut hv2 rfl hN) (r.mut hv2 rfl hN)
    cases s with
    | i d => exact (show EvX false c env os te d from h) ad σ H1 ok1 _ fun v H2 e2 r => fin v H2 e2 (by rw [Nw_false] at r; exact r)
    | t ks => exact (show EvK c env os te ks from h).2 ad σ H1 ok1 _ fun b H2 e2 r => fin _ H2 e2 ⟨b, rfl, r, (show EvK c env os te ks from h).1⟩
    | ob C m => exact (show EvB c env os te C m from h) ad σ H1 ok1 _ fun v H2 e2 r => fin v H2 e2 r
    | z m => exact (show EvZ c env os te m from h) ad σ H1 ok1 _ fun v H2 e2 r => fin v H2 e2 r
    | r j => exact (show EvR c env os te j from h).2 ad σ H1 ok1 _ fun H2 e2 => fin _ H2 e2 ⟨rfl, (show EvR c env os te j from h).1⟩
/-- x += e, ints -/
theorem gs_aug {i : Nat} {f : Int → Int → Int} {a b : Int} (hx : env[i]? = some (some (.i (.int a)))) (h : EvX true c env os te (.int b)) (k : Go c (env.set i (some (.i (.int (f a b))))) os u D) : Go c env os (tSeq (tAug i te (ipI f)) u) D := fun ad σ H ok => by
  obtain ⟨v, h1, h2⟩ := ok.val i _ hx
  cases dn_int (show Dn _ _ _ _ _ from h2)
  exact ⟨.int a, h1, h ad σ H ok _ fun v H2 e r => ⟨a, b, rfl, dn_int r, k ad _ H2 ((ok.ext e).set (show Dn _ _ _ _ _ from .int _))⟩⟩
/-- less is known -/
theorem gs_weak {os' : List SO} (he : WkE env env') (ho : WkO os os') (l1 : EnLt os'.length env') (l2 : OsLt os'.length os') (l3 : c.lo ≤ os'.length) (k : Go c env' os' u D) : Go c env os u D := fun ad σ H ok => k ad σ H (ok.weak he ho l1 l2 l3)
theorem gs_own {i k : Nat} {ds : List PyData} (hi : env[i]? = some (some (.r k))) (hk : os[k]? = some (.lst (ds.map SV.i))) (kk : Go c (env.set i (some (.i (.list ds)))) (os.set k .x) u D) : Go c env os u D := fun ad σ H ok => kk ad σ H (ok.own hi hk)
/-- the state as it is told elsewhere -/
theorem gs_is {os' : List SO} (h1 : env = env') (h2 : os = os') (k : Go c env' os' u D) : Go c env os u D := by subst h1 h2; exact k
end

/-! ### what is walked -/
structure WalkD (c : Cn) (J : It) (n : Nat) (it : Nat → SV) (G : List SO → Prop) : Prop where
  goes : ∀ i ad env os σ H, i < n → Ok c ad env os σ H → G os → J.go i H
  stops : ∀ ad env os σ H, Ok c ad env os σ H → G os → J.stop n H
  yields : ∀ i ad env os σ H x H', i < n → Ok c ad env os σ H → G os → J.yld i H x H' → Ex H H' ∧ SvOk c.K (Nof c ad os) ad os.length H' x (it i)
/-- wi walks the n things it -/
def EvW (c : Cn) (env : Sy) (os : List SO) (wi : TI) (n : Nat) (it : Nat → SV) (G : List SO → Prop) : Prop := ∀ ad σ H, Ok c ad env os σ H → ∀ R : It → Hp → Prop,
  (∀ J H1 fr, Ex H H1 → Ok (c.w fr os.length) ad env os σ H1 → (∀ ad' env' os' σ' H', Ok (c.w fr os.length) ad' env' os' σ' H' → Ok c ad' env' os' σ' H') → WalkD (c.w fr os.length) J n it G → R J H1) → wi σ H R
/-- what is known outside is known inside -/
def Up (c c' : Cn) : Prop := ∀ ad env os σ H, Ok c' ad env os σ H → Ok c ad env os σ H
section
variable {c : Cn} {env : Sy} {os : List SO} {te tl : TE} {ad : Nat → Addr} {σ : St} {H : Hp}
theorem up_pin (ok : Ok c ad env os σ H) {v : V} {s : SV} : Up c (c.w ((v, s) :: c.fr) os.length) := fun ad' env' os' σ' H' o => ⟨o.len, o.ex, o.n0, o.val, o.obj, o.inj, o.nn, fun p hp => by
  have h1 := o.frm p (List.mem_cons_of_mem _ hp)
  have h2 := ok.frm p hp
  obtain ⟨x, y⟩ := p
  cases y with
  | i d => exact h1
  | t ks => exact h1
  | ob C m => exact h1
  | z m => exact h1
  | r k => exact ⟨h1.1, h2.2⟩, Nat.le_trans ok.low o.low⟩
theorem up_pin0 (ok : Ok c ad env os σ H) : Up c (c.w c.fr os.length) := fun ad' env' os' σ' H' o => ⟨o.len, o.ex, o.n0, o.val, o.obj, o.inj, o.nn, fun p hp => by
  have h1 := o.frm p hp
  have h2 := ok.frm p hp
  obtain ⟨x, y⟩ := p
  cases y with
  | i d => exact h1
  | t ks => exact h1
  | ob C m => exact h1
  | z m => exact h1
  | r k => exact ⟨h1.1, h2.2⟩, Nat.le_trans ok.low o.low⟩
theorem sql_of_dn {K : PySem.W.Frag} {N : Addr → Prop} {H : Hp} {a : Addr} {ds : List PyData} (h : Dn K N H (.ref a) (.list ds)) : ∃ xs, SqL K H a xs ∧ DnAll K N H xs ds := by
  cases h with
  | lst r n a => exact ⟨_, Or.inl r, a⟩
  | lstK r a => exact ⟨_, Or.inr r, a⟩
theorem dn_list_ref {K : PySem.W.Frag} {N : Addr → Prop} {H : Hp} {v : V} {ds : List PyData} (h : Dn K N H v (.list ds)) : ∃ a, v = .ref a := by cases h <;> exact ⟨_, rfl⟩
theorem dn_tup_ref {K : PySem.W.Frag} {N : Addr → Prop} {H : Hp} {v : V} {ds : List PyData} (h : Dn K N H v (.tuple ds)) : ∃ a xs, v = .ref a ∧ SqT K H a xs ∧ DnAll K N H xs ds := by
  cases h with
  | tup r a => exact ⟨_, _, rfl, r, a⟩
def itD (ds : List PyData) : Nat → SV := fun i => .i (ds.getD i .none)
theorem itD_at {ds : List PyData} {i : Nat} {d : PyData} (h : ds[i]? = some d) : itD ds i = .i d := by
  unfold itD
  rw [List.getD_eq_getElem?_getD, h]
  rfl
/-- a list of data -/
theorem ew_list {ds : List PyData} (h : EvX false c env os tl (.list ds)) : EvW c env os (iList c.K tl) ds.length (itD ds) (fun _ => True) := fun ad σ H ok R q =>
  h ad σ H ok _ fun v H1 e r => by
    rw [Nw_false] at r
    obtain ⟨a, rfl⟩ := dn_list_ref r
    obtain ⟨xs, hs, _⟩ := sql_of_dn r
    refine ⟨a, rfl, ⟨xs, hs⟩, q _ H1 ((.ref a, .i (.list ds)) :: c.fr) e ((ok.ext e).pin r) (up_pin (ok.ext e)) ⟨fun i ad' env' os' σ' H' hi o _ => ?_, fun ad' env' os' σ' H' o _ => ?_, fun i ad' env' os' σ' H' x H'' hi o _ y => ?_⟩⟩
    all_goals
      have r' : Dn c.K (Nof c ad' os') H' (.ref a) (.list ds) := o.frm _ (List.mem_cons_self ..)
      obtain ⟨ys, hy, ay⟩ := sql_of_dn r'
    · exact ⟨ys, ys[i]'(by rw [ay.length]; exact hi), hy, List.getElem?_eq_getElem _⟩
    · exact ⟨ys, hy, by rw [ay.length]; exact Nat.le_refl _⟩
    · obtain ⟨rfl, y⟩ := y
      refine ⟨Ex.refl _, ?_⟩
      obtain ⟨d, h1, h2⟩ := ay.getV (y ys hy)
      rw [itD_at h1]
      exact h2
/-- a tuple -/
theorem ew_tup {ds : List PyData} (h : EvX false c env os tl (.tuple ds)) : EvW c env os (iTup c.K tl) ds.length (itD ds) (fun _ => True) := fun ad σ H ok R q =>
  h ad σ H ok _ fun v H1 e r => by
    rw [Nw_false] at r
    obtain ⟨a, xs, rfl, hs, _⟩ := dn_tup_ref r
    refine ⟨a, rfl, ⟨xs, hs⟩, q _ H1 ((.ref a, .i (.tuple ds)) :: c.fr) e ((ok.ext e).pin r) (up_pin (ok.ext e)) ⟨fun i ad' env' os' σ' H' hi o _ => ?_, fun ad' env' os' σ' H' o _ => ?_, fun i ad' env' os' σ' H' x H'' hi o _ y => ?_⟩⟩
    all_goals
      have r' : Dn c.K (Nof c ad' os') H' (.ref a) (.tuple ds) := o.frm _ (List.mem_cons_self ..)
      obtain ⟨a', ys, ea, hy, ay⟩ := dn_tup_ref r'
      cases ea
    · exact ⟨ys, ys[i]'(by rw [ay.length]; exact hi), hy, List.getElem?_eq_getElem _⟩
    · exact ⟨ys, hy, by rw [ay.length]; exact Nat.le_refl _⟩
    · obtain ⟨rfl, y⟩ := y
      refine ⟨Ex.refl _, ?_⟩
      obtain ⟨d, h1, h2⟩ := ay.getV (y ys hy)
      rw [itD_at h1]
      exact h2
theorem ew_range1 {ta : TA} {n : Int} (h : EvA true c env os ta [.int n]) (hn : -1000000000000 ≤ n ∧ n ≤ 1000000000000) : EvW c env os (iRng1 ta) n.toNat (fun i => .i (.int (i : Int))) (fun _ => True) := fun ad σ H ok R q =>
  h ad σ H ok _ fun vs H1 e r => by
    cases r with
    | cons a b =>
      cases b
      cases dn_int a
      refine ⟨n, rfl, by omega, by omega, q _ H1 c.fr e (ok.ext e).pin0 (up_pin0 (ok.ext e)) ⟨fun i ad' env' os' σ' H' hi o _ => hi, fun ad' env' os' σ' H' o _ => Nat.le_refl _, fun i ad' env' os' σ' H' x H'' hi o _ y => ?_⟩⟩
      obtain ⟨rfl, rfl⟩ := y
      refine ⟨Ex.refl _, ?_⟩
      rw [Int.zero_add]
      exact Dn.int _
theorem ew_range2 {ta : TA} {lo hi : Int} (h : EvA true c env os ta [.int lo, .int hi]) (h1 : -1000000000000000000 ≤ lo ∧ lo ≤ 1000000000000000000) (h2 : -1000000000000000000 ≤ hi ∧ hi ≤ 1000000000000000000) : EvW c env os (iRng2 ta) (hi - lo).toNat (fun i => .i (.int (lo + (i : Int)))) (fun _ => True) := fun ad σ H ok R q =>
  h ad σ H ok _ fun vs H1 e r => by
    cases r with
    | cons a b =>
      cases b with
      | cons a' b' =>
        cases b'
        cases dn_int a
        cases dn_int a'
        refine ⟨lo, hi, rfl, ⟨by omega, by omega, by omega, by omega⟩, q _ H1 c.fr e (ok.ext e).pin0 (up_pin0 (ok.ext e)) ⟨fun i ad' env' os' σ' H' hi o _ => hi, fun ad' env' os' σ' H' o _ => Nat.le_refl _, fun i ad' env' os' σ' H' x H'' hi o _ y => ?_⟩⟩
        obtain ⟨rfl, rfl⟩ := y
        exact ⟨Ex.refl _, Dn.int _⟩
end

/-! ### loops -/
section
variable {c : Cn} {env : Sy} {os : List SO} {g : TG} {tb u : TS} {D : Ends}
/-- a for: E, O the slots and the store by the number of turns done -/
theorem gs_for {wi : TI} {n : Nat} {it : Nat → SV} {G : List SO → Prop} (E : Nat → Sy) (O : Nat → List SO) (hw : EvW c env os wi n it G)
    (h0 : ∀ c' : Cn, c'.lo = os.length → ∀ ad σ H, Ok c' ad env os σ H → Ok c' ad (E 0) (O 0) σ H) (hG : ∀ i, i ≤ n → G (O i))
    (hs : ∀ fr, Up c (c.w fr os.length) → ∀ i, i < n → ∃ env' js, Tg (c.w fr os.length) (E i) (O i) g (it i) env' js ∧ Go (c.w fr os.length) env' (O i) tb { D with nx := OkE (c.w fr os.length) (E (i + 1)) (O (i + 1)), ct := OkE (c.w fr os.length) (E (i + 1)) (O (i + 1)), bk := u D })
    (hd : Go c (E n) (O n) u D) : Go c env os (tSeq (tFor wi g tb) u) D := fun ad σ H ok => by
  refine hw ad σ H ok _ fun J H1 fr e ok1 up W => ?_
  refine ⟨fun i m σ H => m = n - i ∧ i ≤ n ∧ OkE (c.w fr os.length) (E i) (O i) σ H, ⟨n, by simp, Nat.zero_le _, ad, h0 _ rfl ad σ H1 ok1⟩, ?_⟩
  rintro i m σ H ⟨rfl, hi, ad', ok'⟩
  by_cases hlt : i < n
  · refine .inr ⟨W.goes i _ _ _ _ _ hlt ok' (hG i hi), OkE (c.w fr os.length) (E (i + 1)) (O (i + 1)), fun σ' H' p' => ⟨n - (i + 1), by omega, rfl, hlt, p'⟩, fun x H' y => ?_⟩
    obtain ⟨e2, r⟩ := W.yields i _ _ _ _ _ x H' hlt ok' (hG i hi) y
    obtain ⟨env', js, ht, hb⟩ := hs fr up i hlt
    exact ht ad' σ H' x (ok'.ext e2) r _ fun σ2 ok2 _ => hb ad' σ2 H' ok2
  · have q : i = n := by omega
    subst q
    exact .inl ⟨W.stops _ _ _ _ _ ok' (hG i hi), hd ad' σ H (up _ _ _ _ _ ok')⟩
/-- .. over the list of the e x, x in xs; E, O by the part that is done -/
theorem gs_forL {α : Type} {wi : TI} {xs : List α} {e : α → SV} {n : Nat} {it : Nat → SV} {G : List SO → Prop} (E : List α → Sy) (O : List α → List SO) (hw : EvW c env os wi n it G) (hn : n = xs.length) (hit : ∀ i x, xs[i]? = some x → it i = e x)
    (h0 : ∀ c' : Cn, c'.lo = os.length → ∀ ad σ H, Ok c' ad env os σ H → Ok c' ad (E []) (O []) σ H) (hG : ∀ pre post, xs = pre ++ post → G (O pre))
    (hs : ∀ fr, Up c (c.w fr os.length) → ∀ pre x post, xs = pre ++ x :: post → ∃ env' js, Tg (c.w fr os.length) (E pre) (O pre) g (e x) env' js ∧ Go (c.w fr os.length) env' (O pre) tb { D with nx := OkE (c.w fr os.length) (E (pre ++ [x])) (O (pre ++ [x])), ct := OkE (c.w fr os.length) (E (pre ++ [x])) (O (pre ++ [x])), bk := u D })
    (hd : Go c (E xs) (O xs) u D) : Go c env os (tSeq (tFor wi g tb) u) D := by
  subst hn
  refine gs_for (fun i => E (xs.take i)) (fun i => O (xs.take i)) hw (fun c' hc => by simpa using h0 c' hc) (fun i hi => hG _ (xs.drop i) (List.take_append_drop i xs).symm) (fun fr up i hi => ?_) (by simpa using hd)
  have e1 : xs = xs.take i ++ xs[i] :: xs.drop (i + 1) := by
    rw [List.getElem_cons_drop]; exact (List.take_append_drop i xs).symm
  obtain ⟨env', js, h1, h2⟩ := hs fr up (xs.take i) xs[i] (xs.drop (i + 1)) e1
  rw [hit i xs[i] (List.getElem?_eq_getElem hi)]
  refine ⟨env', js, h1, ?_⟩
  have e2 : xs.take (i + 1) = xs.take i ++ [xs[i]] := by rw [List.take_succ, List.getElem?_eq_getElem hi]; rfl
  simp only [e2]
  exact h2
/-- while -/
theorem gs_while {S : Type} {tc : TT} (E : S → Sy) (O : S → List SO) (P : S → Prop) (b : S → Bool) (μ : S → Nat) (s0 : S) (h0 : ∀ c' : Cn, c'.lo = os.length → ∀ ad σ H, Ok c' ad env os σ H → Ok c' ad (E s0) (O s0) σ H) (p0 : P s0)
    (ht : ∀ fr, Up c (c.w fr os.length) → ∀ s, P s → EvT (c.w fr os.length) (E s) (O s) tc (b s))
    (hs : ∀ fr, Up c (c.w fr os.length) → ∀ s, P s → b s = true → Go (c.w fr os.length) (E s) (O s) tb { D with nx := fun σ H => ∃ s', P s' ∧ μ s' < μ s ∧ OkE (c.w fr os.length) (E s') (O s') σ H, ct := fun σ H => ∃ s', P s' ∧ μ s' < μ s ∧ OkE (c.w fr os.length) (E s') (O s') σ H, bk := u D })
    (hd : ∀ s, P s → b s = false → Go c (E s) (O s) u D) : Go c env os (tSeq (tWhile tc tb) u) D := fun ad σ H ok => by
  have up := up_pin0 ok
  refine ⟨fun m σ H => ∃ s, P s ∧ m = μ s ∧ OkE (c.w c.fr os.length) (E s) (O s) σ H, ⟨_, s0, p0, rfl, ad, h0 _ rfl ad σ H ok.pin0⟩, ?_⟩
  rintro m σ H ⟨s, ps, rfl, ad', ok'⟩
  refine ht _ up s ps ad' σ H ok' _ fun H2 e2 => ?_
  cases hb : b s with
  | true =>
    rw [if_pos rfl]
    refine ⟨fun σ H => ∃ s', P s' ∧ μ s' < μ s ∧ OkE (c.w c.fr os.length) (E s') (O s') σ H, ?_, hs _ up s ps hb ad' σ H2 (ok'.ext e2)⟩
    rintro σ' H' ⟨s', p', hm, ok2⟩
    exact ⟨μ s', hm, s', p', rfl, ok2⟩
  | false =>
    rw [if_neg (by decide)]
    exact hd s ps hb ad' σ H2 (up _ _ _ _ _ (ok'.ext e2))
end
end DL

set_option Elab.async false
set_option linter.all false
set_option maxRecDepth 100000
set_option maxHeartbeats 2000000
/-! The data layer: comprehensions, types, a def's start. -/
namespace DL
open PySem L2
open Evl (Ex Ex.refl Ex.trans Ex.new)

/-! ### comprehensions -/
def wipeE (env : Sy) : List Nat → Sy
  | [] => env
  | v :: vs => (wipeE env vs).set v none
theorem Ok.wipe {c : Cn} {ad : Nat → Addr} {env : Sy} {os : List SO} {σ : St} {H : Hp} (ok : Ok c ad env os σ H) : ∀ vs : List Nat, Ok c ad (wipeE env vs) os (wipe σ vs) H
  | [] => ok
  | _ :: vs => (Ok.wipe ok vs).setU
section
variable {c : Cn} {env : Sy} {os : List SO} {g : TG} {tt : TT} {te : TE}
theorem ef_lc {α : Type} {wi : TI} {n : Nat} {it : Nat → SV} {G : List SO → Prop} {xs : List α} {e : α → SV} {vs : List Nat} (p : α → Bool) (f : α → PyData) (hw : EvW c env os wi n it G) (hn : n = xs.length) (hit : ∀ i x, xs[i]? = some x → it i = e x)
    (hG : ∀ o, G (os ++ [o])) (hz : xs.length ≤ 40000)
    (hs : ∀ fr lo, Up c (c.w fr lo) → ∀ acc x, x ∈ xs → ∃ env' js, (∀ j ∈ js, j ∈ vs) ∧ Tg (c.w fr lo) (wipeE env vs) (os ++ [.lst acc]) g (e x) env' js ∧ EvT (c.w fr lo) env' (os ++ [.lst acc]) tt (p x) ∧ (p x = true → EvX false (c.w fr lo) env' (os ++ [.lst acc]) te (f x))) :
    EvF c env os (tLc wi g tt te vs) (.lst (((xs.filter p).map f).map SV.i)) := fun ad σ H ok Q q => by
  subst hn
  refine hw ad σ H ok _ fun J H1 fr e1 ok1 up W D hD => ?_
  have h0 : (c.w fr os.length).H0 D = none ∨ (c.w fr os.length).M D := by
    by_cases hm : c.M D
    · exact Or.inr hm
    · refine Or.inl ?_
      show c.H0 D = none
      cases hz : c.H0 D with
      | none => rfl
      | some o => rw [ok1.ex D o hz hm] at hD; cases hD
  have ok2 := ok1.new (o := .lst []) hD (Ex.new (o := .lst []) hD) h0 ⟨[], upd_same, .nil⟩
  have ok3 := ok2.pin (v := .ref D) (s := .r os.length) ⟨congrArg V.ref adN_same.symm, by simp⟩
  have ok4 := ok3.wipe vs
  have up2 := up_pin (v := .ref D) (s := .r os.length) ok2
  generalize hlo : (os ++ [SO.lst []]).length = lo at ok4 up2
  generalize hfr : ((V.ref D, SV.r os.length) :: fr) = fr' at ok4 up2
  have upc : Up c (c.w fr' lo) := fun a b d e f z => up _ _ _ _ _ (up2 _ _ _ _ _ z)
  let acc : Nat → List SV := fun i => (((xs.take i).filter p).map f).map SV.i
  have hacc : ∀ i, (acc i).length ≤ i := fun i => by
    show ((((xs.take i).filter p).map f).map SV.i).length ≤ i
    rw [List.length_map, List.length_map]
    have h1 := List.length_filter_le p (xs.take i)
    rw [List.length_take] at h1
    omega
  refine ⟨fun i m H => m = xs.length - i ∧ i ≤ xs.length ∧ Ok (c.w fr' lo) (adN ad os.length D) (wipeE env vs) (os ++ [.lst (acc i)]) (wipe σ vs) H ∧ Ex H1 H, ⟨xs.length, by simp, Nat.zero_le _, ok4, Ex.new hD⟩, ?_⟩
  rintro i m H' ⟨rfl, hi, ok', ex1⟩
  have hget : (os ++ [SO.lst (acc i)])[os.length]? = some (.lst (acc i)) := by simp
  by_cases hlt : i < xs.length
  · have e0 : xs[i]? = some xs[i] := List.getElem?_eq_getElem hlt
    have et : xs.take (i + 1) = xs.take i ++ [xs[i]] := by rw [List.take_succ, e0]; rfl
    refine .inr ⟨W.goes i _ _ _ _ _ hlt (up2 _ _ _ _ _ ok') (hG _), fun H'' => Ok (c.w fr' lo) (adN ad os.length D) (wipeE env vs) (os ++ [.lst (acc (i + 1))]) (wipe σ vs) H'' ∧ Ex H1 H'', fun H'' p' => ⟨xs.length - (i + 1), by omega, rfl, hlt, p'.1, p'.2⟩, fun x H'' y => ?_⟩
    obtain ⟨e2, r⟩ := W.yields i _ _ _ _ _ x H'' hlt (up2 _ _ _ _ _ ok') (hG _) y
    rw [hit i xs[i] e0] at r
    have ok5 := ok'.ext e2
    obtain ⟨env', js, hjs, ht, hb, he⟩ := hs fr' lo upc (acc i) xs[i] (List.getElem_mem hlt)
    refine ht _ _ H'' x ok5 r _ fun σ2 ok6 hwp => ⟨?_, hb _ σ2 H'' ok6 _ fun H3 e3 => ?_⟩
    · rw [hwp vs hjs]
      have idem : ∀ (us : List Nat) (τ : St), (∀ j ∈ us, τ[j]? = some none ∨ τ[j]? = none) → wipe τ us = τ := by
        intro us
        induction us with
        | nil => intro τ _; rfl
        | cons u us ih =>
          intro τ h
          show (wipe τ us).set u none = τ
          rw [ih τ fun j hj => h j (List.mem_cons_of_mem _ hj)]
          rcases h u (List.mem_cons_self ..) with z | z
          · obtain ⟨h1, h2⟩ := List.getElem?_eq_some_iff.mp z
            exact List.ext_getElem? fun k => by
              by_cases q : u = k
              · subst q; rw [List.getElem?_set_self h1, z]
              · rw [List.getElem?_set_ne q]
          · exact List.set_eq_of_length_le (List.getElem?_eq_none_iff.mp z)
      refine idem vs _ fun j hj => ?_
      cases hx : (wipe σ vs)[j]? with
      | none => exact Or.inr rfl
      | some o =>
        cases o with
        | none => exact Or.inl rfl
        | some v => exact absurd hj (wipe_some hx).2
    · cases hp : p xs[i] with
      | false =>
        rw [if_neg (by decide)]
        have ea : acc (i + 1) = acc i := by
          show (((xs.take (i + 1)).filter p).map f).map SV.i = _
          rw [et, List.filter_append, List.filter_cons, if_neg (by rw [hp]; decide), List.filter_nil, List.append_nil]
        rw [ea]
        exact ⟨ok5.ext e3, (ex1.trans e2).trans e3⟩
      | true =>
        rw [if_pos rfl]
        refine he hp _ σ2 H3 (ok6.ext e3) _ fun y H4 e4 ry => ?_
        have ok7 := (ok5.ext e3).ext e4
        obtain ⟨_, ws, hws, pws⟩ := ok7.obj os.length _ hget rfl
        rw [adN_same] at hws
        have ea : acc (i + 1) = acc i ++ [SV.i (f xs[i])] := by
          show (((xs.take (i + 1)).filter p).map f).map SV.i = _
          rw [et, List.filter_append, List.filter_cons, if_pos hp, List.filter_nil, List.map_append, List.map_append]
          rfl
        refine ⟨ws, hws, ?_, ?_⟩
        · rw [Paired.length pws]
          exact Nat.lt_of_le_of_lt (hacc i) (Nat.lt_of_lt_of_le (show i < 40000 by omega) (by decide))
        · have hN : Nof (c.w fr' lo) (adN ad os.length D) (os ++ [SO.lst (acc i)]) D := Or.inr ⟨os.length, ⟨_, hget, rfl⟩, adN_same.symm⟩
          rw [Nw_false] at ry
          have m := ok7.mut (o' := .lst (acc (i + 1))) (u' := .lst (ws ++ [y])) hget rfl rfl (by
            rw [adN_same]
            refine ⟨_, upd_same, ?_⟩
            rw [ea]
            exact paired_snoc (Paired.imp pws fun _ _ z => z.mut hws rfl hN) (show Dn _ _ _ _ _ from Dn.mut hws rfl hN ry))
          rw [adN_same] at m
          have es : (os ++ [SO.lst (acc i)]).set os.length (SO.lst (acc (i + 1))) = os ++ [SO.lst (acc (i + 1))] := by
            rw [List.set_append_right _ _ (Nat.le_refl _), Nat.sub_self]
            rfl
          rw [es] at m
          refine ⟨m, fun a o h => ?_⟩
          rw [upd_ne (ne_of_none h hD)]
          exact ((ex1.trans e2).trans e3).trans e4 a o h
  · have q : i = xs.length := by omega
    subst q
    have ea : acc xs.length = ((xs.filter p).map f).map SV.i := by
      show (((xs.take xs.length).filter p).map f).map SV.i = _
      rw [List.take_length]
    refine .inl ⟨W.stops _ _ _ _ _ (up2 _ _ _ _ _ ok') (hG _), ?_⟩
    obtain ⟨_, ws, hws, pws⟩ := ok'.obj os.length _ hget rfl
    rw [adN_same] at hws
    refine q D H' (e1.free hD) (e1.trans ex1) ⟨ws, hws, ?_⟩
    have hget2 := hget
    rw [ea] at pws hget2
    refine dn_paired ((paired_dn pws).sub fun a z => ?_)
    rcases z with z | z
    · rcases z with z | ⟨k, ⟨o, h1, h2⟩, z⟩
      · exact Or.inl z
      · have hk : k < os.length := (List.getElem?_eq_some_iff.mp h1).1
        exact Or.inr ⟨k, ⟨o, by rw [List.getElem?_append_left hk]; exact h1, h2⟩, by rw [adN_ne (by omega)]; exact z⟩
    · exact Or.inr ⟨os.length, ⟨_, hget2, rfl⟩, by rw [adN_same]; exact z⟩
end

/-! ### types -/
def tyN : PyData → String
  | .none => "NoneType"
  | .bool _ => "bool"
  | .int _ => "int"
  | .str _ => "str"
  | .list _ => "list"
  | .tuple _ => "tuple"
  | .dict ((.bool true, _) :: _) => "@ins"
  | .dict _ => "dict"
/-- as kitB, for kinds of data alone -/
def kitD (a b : String) : Option Bool := if a = "@ins" then none else kitB a b
theorem tyx_of {K : PySem.W.Frag} {N : Addr → Prop} {H : Hp} {v : V} {d : PyData} (h : Dn K N H v d) (hi : tyN d ≠ "@ins") : TyX K H v (.type (tyN d)) := by
  cases h with
  | non => exact .base .non
  | bl b => exact .base (.bl b)
  | int i => exact .base (.int i)
  | str x => exact .base (.str x)
  | lst r n a =>
    rcases r with r | ⟨o, r⟩
    · exact .base (.lst r)
    · exact .base (.frz r)
  | lstK r a =>
    obtain ⟨o, its, n, h1, h2, _⟩ := r
    exact .kList h1 h2
  | tup r a =>
    rcases r with (r | ⟨o, r⟩) | ⟨o, its, n, h1, h2, _⟩
    · exact .base (.tup r)
    · exact .fTuple r
    · exact .kTuple h1 h2
  | @dkk _ ws kvs r n a =>
    have e : tyN (.dict kvs) = "dict" := by
      cases ws with
      | nil => cases a; rfl
      | cons x ws =>
        rw [List.map_cons] at a
        generalize hk : kdat x.1 = kd at a
        cases a
        obtain ⟨k, y⟩ := x
        cases k <;> cases hk <;> rfl
    rw [e]
    rcases r with r | ⟨o, r⟩
    · exact .base (.dK r)
    · exact .fDict r
  | dkt r n a =>
    cases a
    exact .base (.dT r)
  | dkz r n a =>
    cases a
    exact .fDict r
  | ins r n a =>
    cases a
    exact absurd rfl hi
theorem kitD_ins {a b : String} {r : Bool} (h : kitD a b = some r) : a ≠ "@ins" := fun e => by
  unfold kitD at h
  rw [if_pos e] at h
  cases h
theorem kitD_b {a b : String} {r : Bool} (h : kitD a b = some r) : kitB a b = some r := by
  have e := kitD_ins h
  unfold kitD at h
  rwa [if_neg e] at h
theorem kit_int_int : kitD "int" "int" = some true := by decide +kernel
theorem kit_int_bool : kitD "int" "bool" = some false := by decide +kernel
theorem kit_str_int : kitD "str" "int" = some false := by decide +kernel
theorem kit_str_str : kitD "str" "str" = some true := by decide +kernel
theorem kit_tuple_int : kitD "tuple" "int" = some false := by decide +kernel
theorem kit_tuple_tuple : kitD "tuple" "tuple" = some true := by decide +kernel
theorem kit_tuple_list : kitD "tuple" "list" = some false := by decide +kernel
section
variable {w : Bool} {c : Cn} {env : Sy} {os : List SO} {te tl : TE} {d : PyData}
theorem ex_isi {T : String} {b : Bool} (h : EvX true c env os te d) (hb : kitD (tyN d) T = some b) : EvX w c env os (tCB (rIsi c.K) (tCons te (tCons (tC (.ty T)) tNil))) (.bool b) := fun ad σ H ok Q q =>
  h ad σ H ok _ fun v H2 e r => ⟨v, .ty T, .type (tyN d), .type T, b, rfl, .ty T, tyx_of r (kitD_ins hb), kit_ty (kitD_b hb), q _ H2 e (.bl b)⟩
def maxL : List Int → Int
  | [] => 0
  | x :: xs => xs.foldl max x
def minL : List Int → Int
  | [] => 0
  | x :: xs => xs.foldl min x
theorem foldl_max : ∀ (xs : List Int) (a : Int), a ≤ xs.foldl max a ∧ (∀ y ∈ xs, y ≤ xs.foldl max a) ∧ (xs.foldl max a = a ∨ xs.foldl max a ∈ xs)
  | [], a => ⟨Int.le_refl _, (fun _ h => absurd h (List.not_mem_nil)), Or.inl rfl⟩
  | x :: xs, a => by
    obtain ⟨h1, h2, h3⟩ := foldl_max xs (max a x)
    refine ⟨by simp only [List.foldl_cons]; omega, fun y hy => ?_, ?_⟩
    · simp only [List.foldl_cons]
      rcases List.mem_cons.mp hy with z | z
      · subst z; omega
      · exact h2 y z
    · simp only [List.foldl_cons]
      rcases h3 with z | z
      · rw [z]
        by_cases hx : a ≤ x
        · exact Or.inr (by rw [show max a x = x by omega]; exact List.mem_cons_self ..)
        · exact Or.inl (by omega)
      · exact Or.inr (List.mem_cons_of_mem _ z)
theorem maxL_spec : ∀ {xs : List Int}, xs ≠ [] → maxL xs ∈ xs ∧ ∀ y ∈ xs, y ≤ maxL xs
  | [], h => absurd rfl h
  | x :: xs, _ => by
    obtain ⟨h1, h2, h3⟩ := foldl_max xs x
    refine ⟨?_, fun y hy => ?_⟩
    · show xs.foldl max x ∈ _
      rcases h3 with z | z
      · rw [z]; exact List.mem_cons_self ..
      · exact List.mem_cons_of_mem _ z
    · rcases List.mem_cons.mp hy with z | z
      · subst z; exact h1
      · exact h2 y z
theorem ints_of {K : PySem.W.Frag} {N : Addr → Prop} {ad : Nat → Addr} {n : Nat} {H : Hp} : ∀ {vs : List V} {ns : List Int}, Paired (SvOk K N ad n H) vs ((ns.map PyData.int).map SV.i) → vs = ns.map V.int
  | _, [], h => by cases h; rfl
  | _, x :: ns, h => by
    cases h with
    | cons a b => rw [ints_of b, dn_int (show Dn _ _ _ _ _ from a)]; rfl
theorem ex_sum {ns : List Int} (h : EvI c env os tl ((ns.map PyData.int).map SV.i)) : EvX w c env os (tCB (rSum c.K) (tCons tl tNil)) (.int ns.sum) := fun ad σ H ok Q q =>
  h ad σ H ok _ fun p vs H2 e s r => by
    rw [ints_of r] at s
    exact ⟨p, ns, rfl, s, q _ H2 e (.int _)⟩
theorem bls_of {K : PySem.W.Frag} {N : Addr → Prop} {ad : Nat → Addr} {n : Nat} {H : Hp} : ∀ {vs : List V} {ns : List Bool}, Paired (SvOk K N ad n H) vs ((ns.map PyData.bool).map SV.i) → vs = ns.map V.bl
  | _, [], h => by cases h; rfl
  | _, x :: ns, h => by
    cases h with
    | cons a b => rw [bls_of b, dn_bool (show Dn _ _ _ _ _ from a)]; rfl
theorem ex_all {ns : List Bool} (h : EvI c env os tl ((ns.map PyData.bool).map SV.i)) : EvX w c env os (tCB (rAll c.K) (tCons tl tNil)) (.bool (ns.all id)) := fun ad σ H ok Q q =>
  h ad σ H ok _ fun p vs H2 e s r => by
    rw [bls_of r] at s
    exact ⟨p, ns, rfl, s, q _ H2 e (.bl _)⟩
end

/-! ### a def's start -/
def env0 (n : Nat) (ds : List PyData) : Sy := ds.map (fun d => some (SV.i d)) ++ List.replicate (n - ds.length) none
theorem ok_start {K : PySem.W.Frag} {H : Hp} {N : Addr → Prop} {vs : List V} {ds : List PyData} {Nm : List Str} (hN : ∀ a, N a → H a ≠ none) (h : DnAll K N H vs ds) : Ok ⟨K, H, N, fun _ => False, [], 0⟩ (fun _ => 0) (env0 Nm.length ds) [] (L2.start Nm vs) H where
  len := by unfold L2.start env0; simp [h.length]
  ex := fun a o e _ => e
  n0 := hN
  val := fun i s e => by
    unfold env0 at e
    by_cases hi : i < ds.length
    · rw [List.getElem?_append_left (by simpa using hi), List.getElem?_map] at e
      cases hd : ds[i]? with
      | none => rw [hd] at e; cases e
      | some d =>
        rw [hd] at e
        cases e
        obtain ⟨v, h1, h2⟩ := h.get hd
        refine ⟨v, ?_, h2.sub fun a z => z.elim id fun ⟨k, ⟨o, y, _⟩, _⟩ => by simp at y⟩
        unfold L2.start
        rw [List.getElem?_append_left (by rw [List.length_map, h.length]; exact hi), List.getElem?_map, h1]
        rfl
    · rw [List.getElem?_append_right (by simpa using hi)] at e
      rw [List.getElem?_replicate] at e
      split at e <;> cases e
  obj := fun k o e _ => by simp at e
  inj := fun k j ⟨o, e, _⟩ => by simp at e
  nn := fun k ⟨o, e, _⟩ => by simp at e
  frm := fun p hp => by cases hp
  low := Nat.le_refl _
theorem spD_len {K : PySem.W.Frag} {R : List PyData → PyData → Prop} {n : Nat} (hR : ∀ ds d, R ds d → ds.length = n) : ∀ vs H Q E, spD K R vs H Q E → vs.length = n := fun vs H Q E ⟨N, ds, d, _, h, r, _⟩ => h.length.trans (hR ds d r)
theorem spF_len {K : PySem.W.Frag} {R : List PyData → List PyData → Prop} {n : Nat} (hR : ∀ ds d, R ds d → ds.length = n) : ∀ vs H Q E, spF K R vs H Q E → vs.length = n := fun vs H Q E ⟨N, ds, d, _, h, r, _⟩ => h.length.trans (hR ds d r)
/-- the ends of a def's body -/
abbrev De (Q : VK) : Ends := { nx := fun _ H' => Q .non H', rt := Q }
theorem run_spD {K : PySem.W.Frag} {R : List PyData → PyData → Prop} {vs : List V} {H : Hp} {Q : VK} {E : XK} {Nm : List Str} {t : TS} (h : spD K R vs H Q E)
    (g : ∀ N ds d, R ds d → Ret ⟨K, H, N, fun _ => False, [], 0⟩ d (De Q) → Go ⟨K, H, N, fun _ => False, [], 0⟩ (env0 Nm.length ds) [] t (De Q)) : t (De Q) (L2.start Nm vs) H := by
  obtain ⟨N, ds, d, hN, hv, hR, hq⟩ := h
  exact g N ds d hR (fun v H2 e r => hq v H2 (fun a o z => e a o z fun y => y) r) _ _ _ (ok_start hN hv)
theorem run_spF {K : PySem.W.Frag} {R : List PyData → List PyData → Prop} {vs : List V} {H : Hp} {Q : VK} {E : XK} {Nm : List Str} {t : TS} (h : spF K R vs H Q E)
    (g : ∀ N ds rs, R ds rs → RetF ⟨K, H, N, fun _ => False, [], 0⟩ rs (De Q) → Go ⟨K, H, N, fun _ => False, [], 0⟩ (env0 Nm.length ds) [] t (De Q)) : t (De Q) (L2.start Nm vs) H := by
  obtain ⟨N, ds, d, hN, hv, hR, hq⟩ := h
  exact g N ds d hR (fun p H2 ws hp e h1 h2 => hq p H2 ws hp (fun a o z => e a o z fun y => y) h1 h2) _ _ _ (ok_start hN hv)
end DL

set_option Elab.async false
set_option linter.all false
set_option maxRecDepth 100000
set_option maxHeartbeats 2000000
/-! The data layer: a def that is called, the law's end. -/
namespace DL
open PySem PySem.Spec PyProof.Rows L2

/-- the module's name x stands for a def that keeps the promise sp -/
def Cal (P : Program) (w : World) (K : PySem.W.Frag) (mg : Str → Option Value) (base : Heap) (k : Nat) (x : Str) (ps : List Str) (sp : Sp) : Prop :=
  ∃ f fd, FnOk P w K mg base CX0 k f fd ps sp ∧ Binds K fd ps [] ∧ mg x = some (.ref f) ∧ PySem.W.keepIn K (.ref f) = true
theorem pe_cal {X : Cx} {k j : Nat} {ps : List Str} {sp : Sp} {x : Str} {p pos : Pos} {e : Expr} {es : List Expr} {t : TA} (h : Cal X.prog X.w X.K X.mg X.base k x ps sp) (hr : Room j X.A) (hj : k ≤ j) (hg : Gl X x) (hx : Passes CX0 X E0) (ha : PA X (e :: es) t)
    (hdb : (x == ("__debug__" : Str)) = false := by decide) (he : starEach (e :: es) X.env = (false, eval e X.env) :: starEach es X.env := by rfl) (hpl : (backTo pos (starEach es X.env)).any (·.1) = false := by rfl) :
    PE X (.Call (.Name x p) (e :: es) [] pos) (tCall sp [] E0 t) := by
  obtain ⟨f, fd, G, b, g, kp⟩ := h
  exact pe_call G (hr.mono hj) hg g kp b .nil hx ha hdb he hpl
section
variable {P : Program} {w : World} {K : PySem.W.Frag} {mg : Str → Option Value} {base : Heap}
abbrev FnP (K : PySem.W.Frag) (x : Str) (st : Stmt) (f : Addr) (fd : FuncData) : Prop := FunD K x x (defArgs st) (defBody st) (defScope st) [] [] f fd
theorem cal_mk {x : Str} {st : Stmt} {f : Addr} {fd : FuncData} {N ps : List Str} {k : Nat} {sp : Sp} (F : FnP K x st f fd) (S : FnScope N ps (defScope st)) (g : mg x = some (.ref f)) (len : ∀ vs H Q E, sp vs H Q E → vs.length = ps.length)
    (hb : ∀ (kV doc pm : Value) (an : Option Addr) (cdv ct : Value) (us : List Value), us.length = ps.length → bindArgs (PySem.W.fnOf x x (defArgs st) (defBody st) (defScope st) .none kV doc pm an cdv ct) ⟨us, []⟩ = pure (ps.zip us))
    (hbody : ∀ (cdv : Value) (A : Around) (outer : List Env) (s : Shared) (H : Hp) (vs : List V) (Q : VK) (E : XK), Room k (A.deeper (envOfC x (defScope st) s.heap.objs.size f cdv)) → sp vs H Q E →
      ∃ t, PSs (cxOf CX0 P w K mg base N x (defScope st) f cdv A outer s H E).nox (defBody st) t ∧ t (De Q) (L2.start N vs) H) : Cal P w K mg base (k + 1) x ps sp :=
  ⟨f, fd, F.ok S len fun cdv A outer s H vs Q E hr h => let ⟨t, a, b⟩ := hbody cdv A outer s H vs Q E hr h; ⟨t, a.nox, b⟩, F.bindsN hb, g, F.kp⟩
end
/-- the script's promise -/
def RLaw : List PyData → PyData → Prop := fun ds d => ∃ ns : List Int, ns.length ≤ 63 ∧ ds = [.list (ns.map PyData.int)] ∧ d = .bool true
theorem RLaw_len : ∀ ds d, RLaw ds d → ds.length = 1 := fun ds d ⟨ns, _, e, _⟩ => by rw [e]; rfl
theorem ints_dn {K : PySem.W.Frag} {N : Addr → Prop} {H : Hp} : ∀ ns : List Int, DnAll K N H (ns.map V.int) (ns.map PyData.int)
  | [] => .nil
  | n :: ns => .cons (.int n) (ints_dn ns)
theorem law_sp {K : PySem.W.Frag} {H : Hp} {a : Addr} {ns : List Int} (hl : ns.length ≤ 63) (h : SqL K H a (ns.map V.int)) : spD K RLaw [.ref a] H (fun v _ => v = .bl true) fun _ _ _ => False := by
  refine ⟨fun _ => False, [.list (ns.map PyData.int)], .bool true, fun _ z => z.elim, .cons ?_ .nil, ⟨ns, hl, rfl, rfl⟩, fun v H' _ r => dn_bool r⟩
  rcases h with h | h
  · exact .lst h id (ints_dn ns)
  · exact .lstK h (ints_dn ns)
theorem fnok_mk {P : Program} {w : World} {K : PySem.W.Frag} {mg : Str → Option Value} {base : Heap} {x : Str} {st : Stmt} {f : Addr} {fd : FuncData} {N ps : List Str} {k : Nat} {sp : Sp} (F : FnP K x st f fd) (S : FnScope N ps (defScope st)) (len : ∀ vs H Q E, sp vs H Q E → vs.length = ps.length)
    (hbody : ∀ (cdv : Value) (A : Around) (outer : List Env) (s : Shared) (H : Hp) (vs : List V) (Q : VK) (E : XK), Room k (A.deeper (envOfC x (defScope st) s.heap.objs.size f cdv)) → sp vs H Q E →
      ∃ t, PSs (cxOf CX0 P w K mg base N x (defScope st) f cdv A outer s H E).nox (defBody st) t ∧ t (De Q) (L2.start N vs) H) : FnOk P w K mg base CX0 (k + 1) f fd ps sp :=
  F.ok S len fun cdv A outer s H vs Q E hr h => let ⟨t, a, b⟩ := hbody cdv A outer s H vs Q E hr h; ⟨t, a.nox, b⟩
/-- THE END: of a law whose top holds defs and constants -/
theorem walk_end {l : PySem.W.OpenLaw} {k : Nat} {q : Program} {loose : List Str} {XP : (Str → Option Value) → Heap → Prop} {d : DefRec} {fa : List He.Fa} {fn : List He.DefD} {ts : List He.Tab} {tf : List He.Defn} {ex : PySem.W.Frag → Bool} {st : Stmt}
    (hn : l.most = some 63) (hdf : d.params.defaults = []) (hr : Room k callerA) (hd : d.name = ("law" : Str))
    (hba : ∀ (kV doc pm : Value) (an : Option Addr) (cdv ct : Value) (us : List Value), us.length = 1 → bindArgs (PySem.W.fnOf "law" "law" (defArgs st) (defBody st) (defScope st) .none kV doc pm an cdv ct) ⟨us, []⟩ = pure ((["script"] : List Str).zip us))
    (F : ∀ (w : World) (mg : Str → Option Value) (K : PySem.W.Frag) (h : Heap), K.In h → h.Ns mainGlobals mg → He.SaysX fa fn ts tf ex w h K → mg "law" = some (.ref (He.ga K "law")) ∧ ∃ fd, FnP K "law" st (He.ga K "law") fd ∧
      ∀ base : Heap, K.In base → base.Ns mainGlobals mg → FnOk l.prog w K mg base CX0 k (He.ga K "law") fd ["script"] (spD K RLaw)) :
    PySem.W.WalkO q loose XP (He.hookX 4 fa fn ts tf ex).says l.row.toRowW d [] (fun f vs => PySem.call f vs) := by
  refine L2.walk_ofE (k := k) (x := "script") (CX := CX0) hn (by decide) hdf hr ?_ (fun _ _ _ _ z => z)
  intro w mg fa' h Y G hmg
  obtain ⟨K, KX, c⟩ := Y
  rw [hd] at hmg
  obtain ⟨h0, fd, h1, h2⟩ := F w mg K h KX G c
  rw [h0] at hmg
  cases hmg
  exact ⟨K, fd, spD K RLaw, KX, fun s u => FunD.bindsA (ps := ["script"]) h1 hba s [u] rfl, fun H a ns hl _ hS => law_sp hl hS, h2⟩

/-! ### tables -/
theorem itD_map {α : Type} {f : α → PyData} {xs : List α} (i : Nat) (x : α) (h : xs[i]? = some x) : itD (xs.map f) i = .i (f x) := itD_at (by rw [List.getElem?_map, h]; rfl)
/-- a for over a list of data -/
theorem gs_forD {α : Type} {c : Cn} {env : Sy} {os : List SO} {g : TG} {tb u : TS} {D : Ends} {tl : TE} {xs : List α} {f : α → PyData} (E : List α → Sy) (O : List α → List SO) (h : EvX false c env os tl (.list (xs.map f)))
    (h0 : ∀ c' : Cn, c'.lo = os.length → ∀ ad σ H, Ok c' ad env os σ H → Ok c' ad (E []) (O []) σ H)
    (hs : ∀ fr, Up c (c.w fr os.length) → ∀ pre x post, xs = pre ++ x :: post → ∃ env' js, Tg (c.w fr os.length) (E pre) (O pre) g (.i (f x)) env' js ∧ Go (c.w fr os.length) env' (O pre) tb { D with nx := OkE (c.w fr os.length) (E (pre ++ [x])) (O (pre ++ [x])), ct := OkE (c.w fr os.length) (E (pre ++ [x])) (O (pre ++ [x])), bk := u D })
    (hd : Go c (E xs) (O xs) u D) : Go c env os (tSeq (tFor (iList c.K tl) g tb) u) D :=
  gs_forL (e := fun x => .i (f x)) E O (ew_list h) (by simp) itD_map h0 (fun _ _ _ => True.intro) hs hd
/-- .. over a tuple -/
theorem gs_forTu {α : Type} {c : Cn} {env : Sy} {os : List SO} {g : TG} {tb u : TS} {D : Ends} {tl : TE} {xs : List α} {f : α → PyData} (E : List α → Sy) (O : List α → List SO) (h : EvX false c env os tl (.tuple (xs.map f)))
    (h0 : ∀ c' : Cn, c'.lo = os.length → ∀ ad σ H, Ok c' ad env os σ H → Ok c' ad (E []) (O []) σ H)
    (hs : ∀ fr, Up c (c.w fr os.length) → ∀ pre x post, xs = pre ++ x :: post → ∃ env' js, Tg (c.w fr os.length) (E pre) (O pre) g (.i (f x)) env' js ∧ Go (c.w fr os.length) env' (O pre) tb { D with nx := OkE (c.w fr os.length) (E (pre ++ [x])) (O (pre ++ [x])), ct := OkE (c.w fr os.length) (E (pre ++ [x])) (O (pre ++ [x])), bk := u D })
    (hd : Go c (E xs) (O xs) u D) : Go c env os (tSeq (tFor (iTup c.K tl) g tb) u) D :=
  gs_forL (e := fun x => .i (f x)) E O (ew_tup h) (by simp) itD_map h0 (fun _ _ _ => True.intro) hs hd
/-- a join behind an if -/
theorem gs_ifJ {c : Cn} {env : Sy} {os : List SO} {tt : TT} {t v u : TS} {D : Ends} {b : Bool} (env' : Sy) (os' : List SO) (h : EvT c env os tt b) (k : Go c env' os' u D) (h1 : b = true → Go c env' os' u D → Go c env os t { D with nx := u D }) (h2 : b = false → Go c env' os' u D → Go c env os v { D with nx := u D }) : Go c env os (tSeq (tIfS tt t v) u) D :=
  gs_if h (fun e => h1 e k) fun e => h2 e k
theorem EvF.is {c : Cn} {env : Sy} {os : List SO} {te : TE} {o o' : SO} (h : EvF c env os te o) (e : o = o') : EvF c env os te o' := e ▸ h
/-! ### equal data -/
end DL

set_option Elab.async false
set_option linter.all false
set_option maxRecDepth 100000
set_option maxHeartbeats 2000000
/-! The data layer: lists of rectangles and the like. -/
namespace DL
open PySem PySem.Spec PyProof.Rows L2
open Evl (Ex Ex.refl Ex.trans Ex.new)

/-! ### shapes of data -/
theorem eqv_self {d : PyData} (h : SeqAt.shaped d = true) : PyData.eqv d d = true := SeqAt.eqv_refl d (SeqAt.canLay_of_shaped h)

/-! ### rectangles -/
abbrev Rc := Int × Int × Int × Int
def dR (r : Rc) : PyData := .tuple [.int r.1, .int r.2.1, .int r.2.2.1, .int r.2.2.2]
abbrev dRs (rs : List Rc) : PyData := .list (rs.map dR)
/-! ### slices -/
theorem cutG_from {α : Type} (xs : List α) (k : Nat) : cutG xs (some (k : Int)) none = xs.drop k := by
  unfold cutG
  rw [HT.sIx_nat, HT.sIx_none]
  by_cases h : k ≤ xs.length
  · rw [Nat.min_eq_left h]
    exact List.take_of_length_le (by rw [List.length_drop]; exact Nat.le_refl _)
  · rw [Nat.min_eq_right (by omega), Nat.sub_self, List.take_zero, List.drop_of_length_le (by omega)]
theorem cutG_to {α : Type} (xs : List α) (k : Nat) : cutG xs none (some (k : Int)) = xs.take k := by
  unfold cutG
  rw [HT.sIx_nat, HT.sIx_none, List.drop_zero, Nat.sub_zero]
  by_cases h : k ≤ xs.length
  · rw [Nat.min_eq_left h]
  · rw [Nat.min_eq_right (by omega), List.take_length, List.take_of_length_le (by omega)]

/-! ### comprehensions over lists of data -/
section
variable {c : Cn} {env : Sy} {os : List SO} {g : TG} {tt : TT} {te tl ta tb : TE} {w : Bool}
theorem ef_lcD {α : Type} {xs : List α} {e : α → PyData} {vs : List Nat} (p : α → Bool) (f : α → PyData) (h : EvX false c env os tl (.list (xs.map e))) (hz : xs.length ≤ 40000)
    (hs : ∀ fr lo, Up c (c.w fr lo) → ∀ acc x, x ∈ xs → ∃ env' js, (∀ j ∈ js, j ∈ vs) ∧ Tg (c.w fr lo) (wipeE env vs) (os ++ [.lst acc]) g (.i (e x)) env' js ∧ EvT (c.w fr lo) env' (os ++ [.lst acc]) tt (p x) ∧ (p x = true → EvX false (c.w fr lo) env' (os ++ [.lst acc]) te (f x))) :
    EvF c env os (tLc (iList c.K tl) g tt te vs) (.lst (((xs.filter p).map f).map SV.i)) :=
  ef_lc (e := fun x => .i (e x)) p f (ew_list h) (by simp) itD_map (fun _ => True.intro) hz hs
/-- over a range -/
theorem ef_lcR {ta : TA} {n : Int} {vs : List Nat} (p : Nat → Bool) (f : Nat → PyData) (h : EvA true c env os ta [.int n]) (hn : -1000000000000 ≤ n ∧ n ≤ 40000)
    (hs : ∀ fr lo, Up c (c.w fr lo) → ∀ acc (x : Nat), (x : Int) < n → ∃ env' js, (∀ j ∈ js, j ∈ vs) ∧ Tg (c.w fr lo) (wipeE env vs) (os ++ [.lst acc]) g (.i (.int (x : Int))) env' js ∧ EvT (c.w fr lo) env' (os ++ [.lst acc]) tt (p x) ∧ (p x = true → EvX false (c.w fr lo) env' (os ++ [.lst acc]) te (f x))) :
    EvF c env os (tLc (iRng1 ta) g tt te vs) (.lst ((((List.range n.toNat).filter p).map f).map SV.i)) :=
  ef_lc (e := fun (x : Nat) => .i (.int (x : Int))) p f (ew_range1 h (by omega)) (by simp) (fun i x hx => by
    obtain ⟨h1, h2⟩ := List.getElem?_eq_some_iff.mp hx
    rw [List.getElem_range] at h2
    rw [h2]) (fun _ => True.intro) (by simp; omega) fun fr lo up acc x hx => hs fr lo up acc x (by have := List.mem_range.mp hx; omega)
theorem et_yes : EvT c env os tYes true := fun ad σ H ok Q q => q H (Ex.refl H)
/-- an item of a written list of data -/
theorem ex_tabD {ds : List PyData} {i : Int} (h : EvI c env os ta (ds.map SV.i)) (hi : EvX true c env os tb (.int i)) (h0 : 0 ≤ i) (h1 : i < (ds.length : Int)) :
    EvX w c env os (tOp (rIxL c.K) ta tb) (ds.getD i.toNat .none) := by
  refine ex_ixL h hi ?_
  have e : i = ((i.toNat : Nat) : Int) := by omega
  have hj : i.toNat < ds.length := by omega
  rw [e]
  refine atI_nat ?_
  rw [Int.toNat_natCast, List.getElem?_map, List.getD_eq_getElem?_getD, List.getElem?_eq_getElem hj]
  rfl
/-- xs.insert(i, e) -/
theorem gs_ins {u : TS} {D : Ends} {k : Nat} {ss : List SV} {d : PyData} {i : Int} {r : V → List V → Hp → VK → Prop} (hr : r = fun x vs H Q => ∃ (l : Addr) (xs : List V) (i : Int) (y : V), x = .ref l ∧ vs = [.int i, y] ∧ H l = some (.lst xs) ∧ xs.length < sizeLine ∧ 0 ≤ i ∧ i < 2 ^ 63 ∧ Q .non (upd H l (.lst (xs.take i.toNat ++ [y] ++ xs.drop i.toNat))))
    (hl : EvR c env os tl k) (hk : os[k]? = some (.lst ss)) (hi : EvX true c env os ta (.int i)) (h : EvX false c env os te d) (hz : ss.length < 100000) (h0 : 0 ≤ i) (h1 : i < 2 ^ 63)
    (kk : Go c env (os.set k (.lst (ss.take i.toNat ++ [.i d] ++ ss.drop i.toNat))) u D) : Go c env os (tSeq (tDrop (tBM c.K "list" r tl (tCons ta (tCons te tNil)))) u) D := fun ad σ H ok => by
  subst hr
  refine hl.2 ad σ H ok _ fun H1 e1 => ?_
  have ok1 := ok.ext e1
  obtain ⟨_, vs, hvs, pv⟩ := ok1.obj k _ hk rfl
  refine ⟨Or.inl ⟨rfl, vs, SqL.of hvs⟩, hi ad σ H1 ok1 _ fun v2 H2 e2 r2 => h ad σ H2 (ok1.ext e2) _ fun v H3 e3 r3 => ?_⟩
  have ok3 := (ok1.ext e2).ext e3
  have e23 := e2.trans e3
  have hv3 := e23 _ _ hvs
  refine ⟨ad k, vs, i, v, rfl, by rw [dn_int r2], hv3, Nat.lt_of_lt_of_le (by rw [Paired.length pv]; exact hz) (by decide), h0, h1, ?_⟩
  rw [Nw_false] at r3
  have hN : Nof c ad os (ad k) := Or.inr ⟨k, ⟨_, hk, rfl⟩, rfl⟩
  refine kk ad σ _ (ok3.mut hk rfl rfl ⟨_, upd_same, ?_⟩)
  have app : ∀ {l1 : List V} {m1 : List SV} {l2 : List V} {m2 : List SV}, Paired (SvOk c.K (Nof c ad os) ad os.length (upd H3 (ad k) (.lst (vs.take i.toNat ++ [v] ++ vs.drop i.toNat)))) l1 m1 → Paired (SvOk c.K (Nof c ad os) ad os.length (upd H3 (ad k) (.lst (vs.take i.toNat ++ [v] ++ vs.drop i.toNat)))) l2 m2 → Paired (SvOk c.K (Nof c ad os) ad os.length (upd H3 (ad k) (.lst (vs.take i.toNat ++ [v] ++ vs.drop i.toNat)))) (l1 ++ l2) (m1 ++ m2) := by
    intro l1 m1 l2 m2 p q
    induction p with
    | nil => exact q
    | cons r t ih => exact .cons r ih
  have pv3 := Paired.imp pv fun a b z => (z.ext e23).mut hv3 rfl hN (o' := .lst (vs.take i.toNat ++ [v] ++ vs.drop i.toNat))
  exact app (app (Paired.take _ pv3) (.cons (show Dn _ _ _ _ _ from Dn.mut hv3 rfl hN r3) .nil)) (Paired.drop _ pv3)
end
end DL

set_option Elab.async false
set_option linter.all false
set_option maxRecDepth 100000
set_option maxHeartbeats 2000000
/-! The data layer: the rules that name what the module has written, told by a letter. -/
namespace DL
open PySem PySem.Spec PyProof.Rows L2
section
variable {X : Cx} {K : PySem.W.Frag} {pos : Pos}
theorem kIxL (h : X.K = K := by rfl) : IxR X (rIxL K) := by subst h; exact ix_list
theorem kIxT (h : X.K = K := by rfl) : IxR X (rIxT K) := by subst h; exact ix_tup
theorem kSlL (h : X.K = K := by rfl) : SlR X (rSlL K) := by subst h; exact sl_list
def rLenK (K : PySem.W.Frag) : List V → Hp → VK → Prop := fun xs H Q => ∃ p ys, xs = [.ref p] ∧ (SqL K H p ys ∨ SqT K H p ys) ∧ Q (.int ys.length) H
theorem kLen (h : X.K = K := by rfl) : CallR X (.builtin "len") (rLenK K) := by subst h; exact call_len_seq
def rListK (K : PySem.W.Frag) : List V → Hp → VK → Prop := fun xs H Q => ∃ p ys, xs = [.ref p] ∧ (SqL K H p ys ∨ SqT K H p ys) ∧ ∀ l, H l = none → Q (.ref l) (upd H l (.lst ys))
theorem kList (h : X.K = K := by rfl) : CallR X (.type "list") (rListK K) := by subst h; exact call_list_of
theorem kSum (hc : X.calm = true) (h : X.K = K := by rfl) : CallR X (.builtin "sum") (rSum K) := by subst h; exact cr_sum hc
theorem kAll (hc : X.calm = true) (h : X.K = K := by rfl) : CallR X (.builtin "all") (rAll K) := by subst h; exact cr_all hc
theorem kIsi (h : X.K = K := by rfl) : CallR X (.builtin "isinstance") (rIsi K) := by subst h; exact call_isi
theorem kNeD (hu : X.A.units + 64 < cLine) (h : X.K = K := by rfl) : OpR X (compareOp .NotEq) (rNeD K) := by subst h; exact op_neD hu
theorem kBm {T : String} {r : V → List V → Hp → VK → Prop} {e : Expr} {to : TE} {t : TA} (h : PE X e (tBM X.K T r to t)) (hk : X.K = K := by rfl) : PE X e (tBM K T r to t) := by subst hk; exact h
theorem kTup {es : List Expr} {k : Nat} {t : TGs} {n : Nat} (hc : X.calm = true) (h : PGs X es t)
    (hn : (assignEach es X.env).length = n := by rfl) (hst : (assignEach es X.env).findIdx? (·.1) = none := by rfl) (hk : X.K = K := by rfl) : PG X (.Tuple es k pos) (gTup K n t) := by subst hk; exact pg_tup hc h hn hst
theorem kPiL {tg l : Expr} {tl : TE} (hl : PE X l tl) (hk : X.K = K := by rfl) : PI X tg l (iList K tl) := by subst hk; exact pi_list hl
theorem kPiT {tg l : Expr} {tl : TE} (hl : PE X l tl) (hk : X.K = K := by rfl) : PI X tg l (iTup K tl) := by subst hk; exact pi_tup hl
def tTruK (K : PySem.W.Frag) (ta : TE) : TT := fun σ H Q => ta σ H fun x H' => ∃ k, TruV K x H' k ∧ Q k H'
theorem kTru {a : Expr} {ta : TE} (ha : PE X a ta) (he : ∀ whole, isTrue a X.env whole = (do let v ← whole; standAt a.pos; holding [v] (truthy v))) (hk : X.K = K := by rfl) : PT X a (tTruK K ta) := by subst hk; exact pt_truth ha he
end
section
variable {w : Bool} {c : Cn} {env : Sy} {os : List SO} {te ta tb tl : TE} {d : PyData} {tt tu : TT}
theorem ex_lenK {ss : List SV} (h : EvI c env os te ss) : EvX w c env os (tCB (rLenK c.K) (tCons te tNil)) (.int (ss.length : Int)) := ex_len rfl h
theorem ex_lenTK {ds : List PyData} (h : EvX true c env os te (.tuple ds)) : EvX w c env os (tCB (rLenK c.K) (tCons te tNil)) (.int (ds.length : Int)) := ex_lenT rfl h
theorem et_truK {ss : List SV} (h : EvI c env os te ss) : EvT c env os (tTruK c.K te) (!ss.isEmpty) := et_truL rfl h
end
theorem soLt_data {n : Nat} {ds : List PyData} : SoLt n (.lst (ds.map SV.i)) := fun s hs => by
  obtain ⟨d, _, rfl⟩ := List.mem_map.mp hs
  exact True.intro
theorem filt_all {α : Type} (xs : List α) : xs.filter (fun _ => true) = xs := List.filter_eq_self.mpr fun _ _ => rfl
end DL

set_option Elab.async false
set_option linter.all false
set_option maxRecDepth 100000
set_option maxHeartbeats 2000000
/-! The data layer: lists, sets and dicts of any length are sorted. -/
namespace DL
open PySem PySem.Spec PyProof.Rows L2
open Evl (Ex Ex.refl Ex.trans Ex.new)

/-- sorted(xs): data of any kind that has an order -/
def rSortD (K : PySem.W.Frag) : List V → Hp → VK → Prop := fun vs H Q => ∃ (a : Addr) (xs : List V) (ds : List PyData), vs = [V.ref a] ∧ SqL K H a xs ∧ DpAll K H xs ds ∧ PySem.W.AllAlike ds ∧ PySem.W.Sortable ds ∧ (∀ d ∈ ds, d.depth ≤ 8) ∧
  ∀ p : Addr, H p = none → Q (.ref p) (upd H p (.lst (((xs.zip ds).mergeSort (PySem.W.dataLe false Prod.snd)).map Prod.fst)))
section
variable {w : Bool} {c : Cn} {env : Sy} {os : List SO} {te ta tb tl : TE} {d : PyData} {tt tu : TT}
mutual
theorem plain_alike : ∀ d : PyData, PySem.W.alike d d = true → d.plain = true
  | .none, _ => rfl
  | .bool _, _ => rfl
  | .int _, _ => rfl
  | .str _, _ => rfl
  | .list xs, h => by
    show PyData.plainAll xs = true
    exact plain_alikes xs (by simpa [PySem.W.alike] using h)
  | .tuple xs, h => by
    show PyData.plainAll xs = true
    exact plain_alikes xs (by simpa [PySem.W.alike] using h)
  | .dict _, h => by simp [PySem.W.alike] at h
theorem plain_alikes : ∀ ds : List PyData, PySem.W.alikeAll ds ds = true → PyData.plainAll ds = true
  | [], _ => rfl
  | d :: ds, h => by
    rw [PySem.W.alikeAll, Bool.and_eq_true] at h
    show (d.plain && PyData.plainAll ds) = true
    rw [plain_alike d h.1, plain_alikes ds h.2]
    rfl
end
end

/-! ### sets of ints, keys of dicts -/
section
variable {prog : Program} {w : World} {A : Around} {E : Value → Shared → Prop} {s : Shared}
end

section
variable {X : Cx}
/-- sorted(S), a set of ints -/
def rSortSetA (w : World) : List V → Hp → VK → Prop := fun vs H Q => ∃ (a : Addr) (S : Int → Bool) (n : Nat), vs = [V.ref a] ∧ H a = some (SetO w a S n) ∧
  ∀ (ns : List Int) (p : Addr), ns.Pairwise (· < ·) → (∀ k : Int, k ∈ ns ↔ S k = true) → ns.length = n → H p = none → Q (.ref p) (upd H p (.lst (ns.map V.int)))
/-- sorted(d), the keys ints -/
def rSortDKA : List V → Hp → VK → Prop := fun vs H Q => ∃ (a : Addr) (kvs : List (Key × V)) (ks : List Int), vs = [V.ref a] ∧ H a = some (.dK kvs) ∧ kvs.map (·.1) = ks.map Sum.inl ∧
  ∀ (ns : List Int) (p : Addr), ns.Perm ks → ns.Pairwise (· ≤ ·) → H p = none → Q (.ref p) (upd H p (.lst (ns.map V.int)))
end
end DL

set_option Elab.async false
set_option linter.all false
set_option maxRecDepth 100000
set_option maxHeartbeats 4000000
/-! Comprehensions of two clauses into a set of ints: each clause's loop by one lemma. -/
namespace DL
open PySem PySem.Spec PyProof.Rows L2
open PpSet (eval_SetComp newSet_ok codeAny_compStart_set)

/-- one turn of a clause: what goes on behind the tests, told by what comes after it -/
def turnT (tg i : Expr) (ifs : List Expr) (env : Env) (it : Value) (bodyK : Sem Fin → Sem Fin) (nxt : Sem Fin) : Sem Fin := do
  standAt i.pos
  match ← pyNext it with
  | none => pure (.done .next)
  | some v =>
    letOwnedTupleGo tg it v
    assign tg env v
    let mut ok := true
    for c in ifs do
      if ok then ok ← isTrue c env (eval c env)
    if ok then bodyK nxt else nxt
abbrev two (elt t0 i0 t1 i1 : Expr) (f0 f1 : List Expr) (scope : Scope) (pos : Pos) : Expr := .SetComp elt [⟨t0, i0, f0, 0⟩, ⟨t1, i1, f1, 0⟩] scope pos
def nestK (e i1 : Expr) (acc : Value) (env : Env) (nxt : Sem Fin) : Sem Fin := do
  let x ← eval i1 env
  standAt i1.pos
  let x ← foldedSetIterable i1 env x
  let _ ← runOwn (.compStart e 1 (← holding [x] (pyIter x)) acc env) env
  nxt
def emitK (elt : Expr) (acc : Value) (env : Env) (nxt : Sem Fin) : Sem Fin := do
  (do let v ← eval elt env; standAt elt.pos; let _ ← call (.builtin "set.add") [acc, v])
  nxt
/-- σ' knows what σ knows -/
def Kn (σ σ' : L2.St) : Prop := σ.length = σ'.length ∧ ∀ (j : Nat) v, σ[j]? = some (some v) → σ'[j]? = some (some v)
section
variable {Y : Cx}
end

/-- {elt for t0 in i0 if .. for t1 in i1 if ..}: the second clause's loop, from the first one's turn -/
def tNest (w : World) (D : Addr) (wi1 : TI) (g1 : TG) (tt1 : TT) (te : TE) (vs1 : List Nat) (σ : L2.St) (H : Hp) (Nx : Hp → Prop) : Prop := wi1 σ H fun J H4 => ∃ W : Nat → Nat → Hp → Prop, (∃ m, W 0 m H4) ∧ ∀ k m H, W k m H →
  (J.stop k H ∧ Nx H) ∨ (J.go k H ∧ ∃ Nx1 : Hp → Prop, (∀ H', Nx1 H' → ∃ m', m' < m ∧ W (k + 1) m' H') ∧ ∀ x H', J.yld k H x H' → g1 x (wipe σ vs1) H' fun σ3 H5 => wipe σ3 vs1 = wipe σ vs1 ∧ tt1 σ3 H5 fun b H6 =>
    if b = true then te σ3 H6 fun y H7 => ∃ (z : Int) (S : Int → Bool) (n : Nat), y = .int z ∧ H7 D = some (SetO w D S n) ∧ n + 1 < scanBound ∧ Nx1 (upd H7 D (SetO w D (fun j => S j || decide (j = z)) (if S z = true then n else n + 1))) else Nx1 H6)
def tSc2 (w : World) (wi : TI) (g : TG) (tt : TT) (wi1 : TI) (g1 : TG) (tt1 : TT) (te : TE) (vs vs1 : List Nat) : TE := fun σ H Q => wi σ H fun J H1 => ∀ D, H1 D = none → ∃ W : Nat → Nat → Hp → Prop, (∃ m, W 0 m (upd H1 D (SetO w D (fun _ => false) 0))) ∧ ∀ k m H, W k m H →
  (J.stop k H ∧ Q (.ref D) H) ∨ (J.go k H ∧ ∃ Nx : Hp → Prop, (∀ H', Nx H' → ∃ m', m' < m ∧ W (k + 1) m' H') ∧ ∀ x H', J.yld k H x H' → g x (wipe σ vs) H' fun σ2 H2 => wipe σ2 vs = wipe σ vs ∧ tt σ2 H2 fun b H3 =>
    if b = true then tNest w D wi1 g1 tt1 te vs1 σ2 H3 Nx else Nx H3)
section
variable {Y : Cx}
end

section
variable {X : Cx}
abbrev Blk (X : Cx) (scope : Scope) (P : Cx → Prop) : Prop := ∀ (s : Shared) (H : Hp) (C : Addr) (cl : List (PySem.Str × Addr)) (fp : List Addr), P (X.blk s H scope (compEnvC scope cl C X.env) fp)
end
end DL

set_option Elab.async false
set_option linter.all false
set_option maxRecDepth 100000
set_option maxHeartbeats 2000000
/-! The data layer: dicts. -/
namespace DL
open PySem PySem.Spec PyProof.Rows L2
open Evl (Ex Ex.refl Ex.trans Ex.new)

/-! ### tables -/
section
variable {κ β γ : Type} [DecidableEq κ]
def getA : List (κ × β) → κ → Option β
  | [], _ => none
  | p :: r, k => if p.1 = k then some p.2 else getA r k
def setA (m : List (κ × β)) (k : κ) (v : β) : List (κ × β) := if (getA m k).isSome then m.map (fun p => (p.1, if p.1 = k then v else p.2)) else m ++ [(k, v)]
theorem getA_cons (p : κ × β) (r : List (κ × β)) (k : κ) : getA (p :: r) k = if p.1 = k then some p.2 else getA r k := rfl
theorem getA_none {m : List (κ × β)} {k : κ} : getA m k = none ↔ ∀ p ∈ m, p.1 ≠ k := by
  induction m with
  | nil => simp [getA]
  | cons p r ih =>
    unfold getA
    by_cases h : p.1 = k
    · rw [if_pos h]
      simp [h]
    · rw [if_neg h, ih]
      simp [h]
theorem getA_app (m n : List (κ × β)) (k : κ) : getA (m ++ n) k = (getA m k).or (getA n k) := by
  induction m with
  | nil => simp [getA]
  | cons p r ih =>
    rw [List.cons_append, getA_cons, getA_cons]
    by_cases h : p.1 = k
    · rw [if_pos h, if_pos h]; rfl
    · rw [if_neg h, if_neg h]; exact ih
theorem getA_map (m : List (κ × β)) (k j : κ) (v : β) : getA (m.map fun p => (p.1, if p.1 = k then v else p.2)) j = (getA m j).map fun x => if j = k then v else x := by
  induction m with
  | nil => rfl
  | cons p r ih =>
    rw [List.map_cons]
    unfold getA
    by_cases h : p.1 = j
    · rw [if_pos h, if_pos h, h]; rfl
    · rw [if_neg h, if_neg h]; exact ih
theorem getA_set (m : List (κ × β)) (k j : κ) (v : β) : getA (setA m k v) j = if j = k then some v else getA m j := by
  unfold setA
  cases hk : getA m k with
  | some x =>
    rw [if_pos (show (some x).isSome = true from rfl), getA_map]
    by_cases h : j = k
    · subst h; rw [hk, if_pos rfl]; simp
    · rw [if_neg h]; cases getA m j <;> simp [h]
  | none =>
    rw [if_neg (by simp), getA_app]
    by_cases h : j = k
    · subst h; rw [hk, if_pos rfl]; simp [getA]
    · rw [if_neg h]
      have : getA [(k, v)] j = none := getA_none.mpr fun p hp => by simp at hp; subst hp; exact fun z => h z.symm
      rw [this]; cases getA m j <;> rfl
theorem setA_keys (m : List (κ × β)) (k : κ) (v : β) : (setA m k v).map (·.1) = if (getA m k).isSome then m.map (·.1) else m.map (·.1) ++ [k] := by
  unfold setA
  split
  · rw [List.map_map]; rfl
  · rw [List.map_append]; rfl
theorem getA_mem {m : List (κ × β)} {k : κ} : (getA m k).isSome = true ↔ k ∈ m.map (·.1) := by
  constructor
  · intro h
    apply Classical.byContradiction
    intro n
    have : getA m k = none := getA_none.mpr fun p hp e => n (List.mem_map.mpr ⟨p, hp, e⟩)
    rw [this] at h; cases h
  · intro h
    cases hg : getA m k with
    | some _ => rfl
    | none =>
      obtain ⟨p, hp, e⟩ := List.mem_map.mp h
      exact absurd e (getA_none.mp hg p hp)
theorem setA_nodup {m : List (κ × β)} (k : κ) (v : β) (h : (m.map (·.1)).Nodup) : ((setA m k v).map (·.1)).Nodup := by
  rw [setA_keys]
  split
  · exact h
  · rename_i n
    refine List.nodup_append.mpr ⟨h, by simp, fun a ha b hb => ?_⟩
    simp at hb
    subst hb
    intro z
    subst z
    exact n (getA_mem.mpr ha)
theorem setA_len (m : List (κ × β)) (k : κ) (v : β) : (setA m k v).length ≤ m.length + 1 := by
  unfold setA
  split
  · rw [List.length_map]; omega
  · rw [List.length_append]; exact Nat.le_refl _
variable {α : Type} [DecidableEq α]
theorem getA_enc {ek : α → κ} (hi : ∀ a b, ek a = ek b → a = b) {ev : β → γ} (m : List (α × β)) (a : α) : getA (m.map fun p => (ek p.1, ev p.2)) (ek a) = (getA m a).map ev := by
  induction m with
  | nil => rfl
  | cons p r ih =>
    rw [List.map_cons]
    unfold getA
    by_cases h : p.1 = a
    · rw [if_pos h, if_pos (by rw [h])]; rfl
    · rw [if_neg h, if_neg (fun z => h (hi _ _ z))]; exact ih
theorem setA_enc {ek : α → κ} (hi : ∀ a b, ek a = ek b → a = b) {ev : β → γ} (m : List (α × β)) (a : α) (v : β) : setA (m.map fun p => (ek p.1, ev p.2)) (ek a) (ev v) = (setA m a v).map fun p => (ek p.1, ev p.2) := by
  unfold setA
  rw [getA_enc hi, Option.isSome_map]
  split
  · rw [List.map_map, List.map_map]
    refine List.map_congr_left fun p _ => ?_
    show (ek p.1, if ek p.1 = ek a then ev v else ev p.2) = (ek p.1, ev (if p.1 = a then v else p.2))
    by_cases h : p.1 = a
    · rw [if_pos h, if_pos (by rw [h])]
    · rw [if_neg h, if_neg (fun z => h (hi _ _ z))]
  · rw [List.map_append]; rfl
end
section
variable {κ : Type} [DecidableEq κ]
theorem val_get {F : V → SV → Prop} : ∀ {ws : List (κ × V)} {kvs : List (κ × SV)}, Paired (fun p q => p.1 = q.1 ∧ F p.2 q.2) ws kvs → ∀ k, (valV ws k = none ∧ getA kvs k = none) ∨ ∃ v s, valV ws k = some v ∧ getA kvs k = some s ∧ F v s
  | _, _, .nil, k => Or.inl ⟨rfl, rfl⟩
  | _, _, .cons (a := p) (b := q) r t, k => by
    by_cases h : p.1 = k
    · exact Or.inr ⟨p.2, q.2, valV_pos h, by unfold getA; rw [if_pos (r.1 ▸ h)], r.2⟩
    · have h' : ¬ q.1 = k := r.1 ▸ h
      unfold getA
      rw [valV_neg h, if_neg h']
      exact val_get t k
theorem put_set {F : V → SV → Prop} {ws : List (κ × V)} {kvs : List (κ × SV)} {k : κ} {v : V} {s : SV} (p : Paired (fun p q => p.1 = q.1 ∧ F p.2 q.2) ws kvs) (h : F v s) : Paired (fun p q => p.1 = q.1 ∧ F p.2 q.2) (putK ws k v) (setA kvs k s) := by
  unfold putK setA
  have e : (ws.any fun kv => decide (kv.1 = k)) = (getA kvs k).isSome := by
    rw [valV_any]
    rcases val_get p k with ⟨a, b⟩ | ⟨x, y, a, b, _⟩
    · rw [a, b]; rfl
    · rw [a, b]; rfl
  rw [e]
  cases (getA kvs k).isSome with
  | true =>
    rw [if_pos rfl, if_pos rfl]
    clear e
    induction p with
    | nil => exact .nil
    | cons r t ih =>
      rename_i a b l1 l2
      rw [List.map_cons, List.map_cons]
      refine .cons ?_ ih
      by_cases hk : a.1 = k
      · rw [if_pos hk]
        exact ⟨r.1, by show F v (if b.1 = k then s else b.2); rw [if_pos (r.1 ▸ hk)]; exact h⟩
      · rw [if_neg hk]
        exact ⟨r.1, by show F a.2 (if b.1 = k then s else b.2); rw [if_neg (r.1 ▸ hk)]; exact r.2⟩
  | false =>
    rw [if_neg (by decide), if_neg (by decide)]
    exact paired_snoc p ⟨rfl, h⟩
end

/-! ### rules for a dict of the store -/
section
variable {K : PySem.W.Frag} {N : Addr → Prop} {H : Hp}
theorem dn_key {v : V} {k : Key} (h : Dn K N H v (kdat k)) : v = kV k := by cases k <;> cases h <;> rfl
theorem key_dn (k : Key) : Dn K N H (kV k) (kdat k) := by cases k <;> constructor
end
section
variable {w : Bool} {c : Cn} {env env' : Sy} {os : List SO} {te ta tb tl td ty tv tx : TE} {d : PyData} {u : TS} {D : Ends}
theorem ef_dnewK : EvF c env os tDNewK (.dK []) := fun ad σ H ok Q q p hp => q p _ hp (Ex.new hp) ⟨[], upd_same, .nil⟩
/-- d[k] -/
theorem ex_dget {k : Nat} {kvs : List (Key × SV)} {kk : Key} (hl : EvR c env os td k) (hk : os[k]? = some (.dK kvs)) (hi : EvX true c env os ty (kdat kk)) (hg : getA kvs kk = some (.i d)) : EvX w c env os (tDGet td ty) d := EvX.weak fun ad σ H ok Q q =>
  hl.2 ad σ H ok _ fun H1 e1 => hi ad σ H1 (ok.ext e1) _ fun v H2 e2 r2 => by
    obtain ⟨_, ws, hws, pw⟩ := ((ok.ext e1).ext e2).obj k _ hk rfl
    rcases val_get (F := SvOk c.K (Nof c ad os) ad os.length H2) pw kk with ⟨_, b⟩ | ⟨x, s, a, b, f⟩
    · rw [hg] at b; cases b
    · rw [hg] at b; cases b
      exact ⟨ad k, x, rfl, by rw [dn_key r2, ← a]; exact DGet.k hws, q x H2 (e1.trans e2) (by rw [Nw_false]; exact f)⟩
/-- what a thing of either kind gives -/
theorem EvS.run {tv : TE} {s : SV} (h : EvS c env os tv s) {ad : Nat → Addr} {σ : L2.St} {H : Hp} (ok : Ok c ad env os σ H) {Q : VK} (q : ∀ v H2, Ex H H2 → SvOk c.K (Nof c ad os) ad os.length H2 v s → Q v H2) : tv σ H Q := by
  cases s with
  | i d => exact (show EvX false c env os tv d from h) ad σ H ok Q fun v H2 e r => q v H2 e (by rw [Nw_false] at r; exact r)
  | t o => exact (show EvK c env os tv o from h).2 ad σ H ok Q fun b H2 e r => q _ H2 e ⟨b, rfl, r, (show EvK c env os tv o from h).1⟩
  | ob C m => exact (show EvB c env os tv C m from h) ad σ H ok Q fun v H2 e r => q v H2 e r
  | z m => exact (show EvZ c env os tv m from h) ad σ H ok Q fun v H2 e r => q v H2 e r
  | r j => exact (show EvR c env os tv j from h).2 ad σ H ok Q fun H2 e => q _ H2 e ⟨rfl, (show EvR c env os tv j from h).1⟩
/-- d[k] = v -/
theorem gs_dput {k : Nat} {kvs : List (Key × SV)} {kk : Key} {s : SV} (h : EvS c env os tv s) (hl : EvR c env os td k) (hk : os[k]? = some (.dK kvs)) (hi : EvX true c env os ty (kdat kk)) (hz : kvs.length < 100000)
    (g : Go c env (os.set k (.dK (setA kvs kk s))) u D) : Go c env os (tSeq (sDPut td ty tv) u) D := fun ad σ H ok =>
  h.run ok fun v H1 e1 r => hl.2 ad σ H1 (ok.ext e1) _ fun H2 e2 => hi ad σ H2 ((ok.ext e1).ext e2) _ fun y H3 e3 r3 => by
    have ok3 := ((ok.ext e1).ext e2).ext e3
    obtain ⟨_, ws, hws, pw⟩ := ok3.obj k _ hk rfl
    have hN : Nof c ad os (ad k) := Or.inr ⟨k, ⟨_, hk, rfl⟩, rfl⟩
    refine ⟨ad k, _, rfl, ?_, g ad σ _ (ok3.mut hk rfl rfl ⟨putK ws kk v, upd_same, ?_⟩)⟩
    · rw [dn_key r3]
      exact DPut.k hws (by rw [Paired.length pw]; exact Nat.lt_of_lt_of_le hz (by decide))
    · exact put_set (Paired.imp pw fun _ _ z => ⟨z.1, z.2.mut hws rfl hN⟩) ((r.ext (e2.trans e3)).mut hws rfl hN)
/-- sorted(d), keys ints -/
def srtI (ks : List Int) : List Int := ks.mergeSort fun a b => decide (a ≤ b)
end
end DL

set_option Elab.async false
set_option linter.all false
set_option maxRecDepth 100000
set_option maxHeartbeats 2000000
/-! The data layer: dicts as data, walks over keys and pairs, items that are set. -/
namespace DL
open PySem PySem.Spec PyProof.Rows L2
open Evl (Ex Ex.refl Ex.trans Ex.new)

/-! ### a dict with tuple keys, as data -/
def dTd {α β : Type} (ek : α → List Key) (ev : β → PyData) (m : List (α × β)) : PyData := .dict ((.none, .none) :: m.map fun p => (tdat (ek p.1), ev p.2))
theorem kdat_inj : ∀ {a b : Key}, kdat a = kdat b → a = b
  | .inl _, .inl _, h => by cases h; rfl
  | .inr _, .inr _, h => by cases h; rfl
  | .inl _, .inr _, h => by cases h
  | .inr _, .inl _, h => by cases h
section
variable {α β : Type} {K : PySem.W.Frag} {N : Addr → Prop} {H : Hp}
variable [DecidableEq α]
end
section
variable {α β : Type} [DecidableEq α] {w w' : Bool} {c : Cn} {env env' : Sy} {os : List SO} {te ta tb tl td ty tv tx : TE} {d : PyData} {u : TS} {D : Ends} {ek : α → List Key} {ev : β → PyData} {m : List (α × β)}
/-- a fresh dict is told by a def -/
def spT {α β : Type} (K : PySem.W.Frag) (ek : α → List Key) (ev : β → PyData) (R : List PyData → List (α × β) → Prop) : Sp := fun vs H Q _ => ∃ (N : Addr → Prop) (ds : List PyData) (m : List (α × β)), (∀ a, N a → H a ≠ none) ∧ DnAll K N H vs ds ∧ R ds m ∧
  ∀ p H' ws, H p = none → Ex H H' → H' p = some (.dT ws) → Paired (fun (x : List Key × V) (y : α × β) => x.1 = ek y.1 ∧ Dn K (fun a => N a ∨ a = p) H' x.2 (ev y.2)) ws m → Q (.ref p) H'
def RetT (ek : α → List Key) (ev : β → PyData) (c : Cn) (m : List (α × β)) (D : Ends) : Prop := ∀ p H2 ws, c.H0 p = none → (∀ a o, c.H0 a = some o → ¬ c.M a → H2 a = some o) → H2 p = some (.dT ws) → Paired (fun (x : List Key × V) (y : α × β) => x.1 = ek y.1 ∧ Dn c.K (fun a => c.N0 a ∨ a = p) H2 x.2 (ev y.2)) ws m → D.rt (.ref p) H2
end

/-! ### walks -/
/-- a new object is held fast from here on -/
def tFrz (te : TE) : TE := fun σ H Q => te σ H fun x H1 => ∃ d u, x = .ref d ∧ H1 d = some u ∧ Mut (some u) ∧ ∀ od, Q (.ref d) (upd H1 d (.frz od u))
theorem pe_frz {X : Cx} {e : Expr} {te : TE} (h : PE X e te) : PE X e (tFrz te) := ⟨fun pins s σ H Q I hw => wpAny_mono (h.run pins s σ H _ I hw) (fun v s1 h1 => by
  obtain ⟨x, H1, I1, r, d, u, rfl, hd, mu, q⟩ := h1
  obtain ⟨od, I2⟩ := I1.lock hd mu
  exact ⟨.ref d, _, I2, r, q od⟩) fun _ _ z => z⟩
section
variable {α β : Type} {w w' : Bool} {c : Cn} {env env' : Sy} {os : List SO} {te ta tb tl td ty tv tx : TE} {d : PyData} {u : TS} {D : Ends}
/-- an object of the store is given away and changed -/
theorem Ok.kill {ad : Nat → Addr} {σ : L2.St} {H : Hp} {o : SO} {k : Nat} {u' : HO} (ok : Ok c ad env os σ H) (h0 : os[k]? = some o) (l0 : o.live = true) : Ok c ad env (os.set k .x) σ (upd H (ad k) u') := by
  have lk : Lv os k := ⟨o, h0, l0⟩
  have hl : ∀ j, Lv (os.set k .x) j → Lv os j ∧ j ≠ k := fun j h => by
    obtain ⟨u, e, hu⟩ := h
    by_cases q : k = j
    · subst q
      rw [List.getElem?_set_self (List.getElem?_eq_some_iff.mp h0).1] at e
      cases e; cases hu
    · rw [List.getElem?_set_ne q] at e; exact ⟨⟨u, e, hu⟩, fun z => q z.symm⟩
  have hN : ∀ a, Nof c ad (os.set k .x) a → Nof c ad os a := fun a h => by
    rcases h with h | ⟨j, l, e⟩
    · exact Or.inl h
    · exact Or.inr ⟨j, (hl j l).1, e⟩
  obtain ⟨hk0, hk1⟩ := ok.obj k o h0 l0
  obtain ⟨u0, eu, wu⟩ := hk1.some l0
  have hNk : Nof c ad os (ad k) := Or.inr ⟨k, lk, rfl⟩
  have hv : ∀ v s, SvOk c.K (Nof c ad os) ad os.length H v s → SvOk c.K (Nof c ad (os.set k .x)) ad (os.set k .x).length (upd H (ad k) u') v s := fun v s h => by
    rw [List.length_set]
    exact (h.mut eu wu hNk).sub hN
  refine ⟨ok.len, fun a x h m => ?_, fun a h => ?_, fun i s h => ?_, fun j x h l => ?_, fun a b la lb => ok.inj a b (hl a la).1 (hl b lb).1, fun a la => ok.nn a (hl a la).1, fun q hq => ((ok.frm q hq).mut eu wu hNk).sub hN, by rw [List.length_set]; exact ok.low⟩
  · by_cases q : a = ad k
    · subst q
      rcases hk0 with z | z
      · rw [z] at h; cases h
      · exact absurd z m
    · rw [upd_ne q]; exact ok.ex a x h m
  · by_cases q : a = ad k
    · rw [q, upd_same]; exact fun z => nomatch z
    · rw [upd_ne q]; exact ok.n0 a h
  · obtain ⟨v, h1, h2⟩ := ok.val i s h
    exact ⟨v, h1, hv v s h2⟩
  · by_cases q : k = j
    · subst q
      rw [List.getElem?_set_self (List.getElem?_eq_some_iff.mp h0).1] at h
      cases h; cases l
    · rw [List.getElem?_set_ne q] at h
      obtain ⟨h1, h2⟩ := ok.obj j x h l
      refine ⟨h1, h2.map hv fun y hy => ?_⟩
      rw [upd_ne]
      · exact hy
      · intro z
        exact q (ok.inj k j lk ⟨x, h, l⟩ z.symm)
/-- as EvW; the walk takes what it goes over -/
def EvW2 (c : Cn) (env : Sy) (os os2 : List SO) (wi : TI) (n : Nat) (it : Nat → SV) (G : List SO → Prop) : Prop := ∀ ad σ H, Ok c ad env os σ H → ∀ R : It → Hp → Prop,
  (∀ J H1 fr, Ok (c.w fr os.length) ad env os2 σ H1 → (∀ ad' env' os' σ' H', Ok (c.w fr os.length) ad' env' os' σ' H' → Ok c ad' env' os' σ' H') → WalkD (c.w fr os.length) J n it G → R J H1) → wi σ H R
def itK (kvs : List (List Key × SV)) : Nat → SV := fun i => .t (.tup (((kvs.getD i ([], .i .none)).1).map kV))
/-! ### parts of a tuple, items that are set -/
end
end DL

set_option Elab.async false
set_option linter.all false
set_option maxRecDepth 100000
set_option maxHeartbeats 4000000
/-! The data layer: sets of ints by comprehension. -/
namespace DL
open PySem PySem.Spec PyProof.Rows L2
open Evl (Ex Ex.refl Ex.trans Ex.new)
def addS (p : (Int → Bool) × Nat) (z : Int) : (Int → Bool) × Nat := (fun j => p.1 j || decide (j = z), if p.1 z = true then p.2 else p.2 + 1)
def setOf (zs : List Int) : (Int → Bool) × Nat := zs.foldl addS (fun _ => false, 0)
/-- each once, ascending -/
def dd : List Int → List Int
  | [] => []
  | z :: zs => if z ∈ zs then dd zs else z :: dd zs
def asc (zs : List Int) : List Int := srtI (dd zs)
def soS (w : World) (zs : List Int) : SO := .ho fun a => SetO w a (setOf zs).1 (setOf zs).2
section
variable {c : Cn} {env : Sy} {os : List SO} {g g1 : TG} {tt tt1 : TT} {te ts : TE}
end

theorem u1 {n m : Nat} (h : n + 64 < m) : n + 1 < m := by omega

theorem soLt_dK {α β : Type} {ek : α → Key} {ev : β → PyData} {m : List (α × β)} {n : Nat} : SoLt n (.dK (m.map fun p => (ek p.1, SV.i (ev p.2)))) := fun p hp => by obtain ⟨q, _, rfl⟩ := List.mem_map.mp hp; exact True.intro
section
variable {c : Cn} {env : Sy} {os : List SO} {te ta tb : TE} {tr : TA}
theorem paired_app {α β : Type} {F : α → β → Prop} {l1 : List α} {m1 : List β} {l2 : List α} {m2 : List β} (p : Paired F l1 m1) (q : Paired F l2 m2) : Paired F (l1 ++ l2) (m1 ++ m2) := by
  induction p with
  | nil => exact q
  | cons r t ih => exact .cons r ih
end
end DL

set_option Elab.async false
set_option linter.all false
set_option maxRecDepth 100000
set_option maxHeartbeats 2000000
/-! The data layer: an object of the store gets another place. -/
namespace DL
open PySem PySem.Spec PyProof.Rows L2
open Evl (Ex Ex.refl Ex.trans Ex.new)
end DL

set_option Elab.async false
set_option linter.all false
set_option maxRecDepth 100000
set_option maxHeartbeats 2000000
/-! The data layer: texts. -/
namespace DL
open PySem PySem.Spec PyProof.Rows L2
open Evl (Ex Ex.refl Ex.trans Ex.new)
/-- a text by its signs -/
abbrev sT (l : List Nat) : Str := ⟨l.toArray⟩
abbrev dT (l : List Nat) : PyData := .str (sT l)
theorem sT_len (l : List Nat) : (sT l).length = l.length := by simp [sT, Str.length]
theorem sT_cps (l : List Nat) : (sT l).cps.toList = l := by simp [sT]
theorem sT_app (a b : List Nat) : sT a ++ sT b = sT (a ++ b) := TL.ext_tl (by rw [TL.tl_append])
theorem sT_inj {a b : List Nat} (h : sT a = sT b) : a = b := by
  have := congrArg (fun x : Str => x.cps.toList) h
  simpa using this
theorem sT_beq (a b : List Nat) : ((sT a == sT b : Bool)) = decide (a = b) := by
  by_cases h : a = b
  · subst h; simp
  · rw [decide_eq_false h]
    refine Bool.eq_false_iff.mpr fun z => h (sT_inj (by simpa using z))
def rMulS : R2 := fun x y H Q => ∃ (z : Str) (n : Int), x = .str z ∧ y = .int n ∧ 0 ≤ n ∧ n ≤ 1000000 ∧ z.length * n.toNat ≤ sizeLine ∧ Q (.str (sT (List.replicate n.toNat z.cps.toList).flatten)) H
section
variable {w : Bool} {c : Cn} {env : Sy} {os : List SO} {te ta tb tl : TE} {d : PyData} {tt tu : TT}
theorem ex_txt {x : Str} {l : List Nat} (h : x = sT l) : EvX w c env os (tC (.str x)) (dT l) := by subst h; exact ex_str
theorem ex_catS {r : R2} {a b : List Nat} (hr : r = (fun x y H Q => ∃ i j, x = .str i ∧ y = .str j ∧ i.length + j.length ≤ sizeLine ∧ Q (.str (i ++ j)) H)) (ha : EvX true c env os ta (dT a)) (hb : EvX true c env os tb (dT b)) (hl : a.length + b.length ≤ 16777216) : EvX w c env os (tOp r ta tb) (dT (a ++ b)) := fun ad σ H ok Q q => by
  subst hr
  refine ha ad σ H ok _ fun v H1 e1 r1 => hb ad σ H1 (ok.ext e1) _ fun u H2 e2 r2 => ⟨sT a, sT b, dn_str r1, dn_str r2, by rw [sT_len, sT_len]; exact hl, ?_⟩
  rw [sT_app]
  exact q _ H2 (e1.trans e2) (.str _)
theorem ex_ixS {a : List Nat} {i : Int} {x : Nat} (ha : EvX true c env os ta (dT a)) (hb : EvX true c env os tb (.int i)) (hl : a.length ≤ 16777216) (hd : atI a i = some x) : EvX w c env os (tOp rIxS ta tb) (dT [x]) := fun ad σ H ok Q q => by
  refine ha ad σ H ok _ fun v H1 e1 r1 => hb ad σ H1 (ok.ext e1) _ fun u H2 e2 r2 => ⟨sT a, i, x, dn_str r1, dn_int r2, by rw [sT_len]; exact hl, by rw [sT_cps]; exact hd, q _ H2 (e1.trans e2) (.str _)⟩
theorem ex_lenS {r : List V → Hp → VK → Prop} {a : List Nat} (hr : r = (fun xs H Q => ∃ z, xs = [.str z] ∧ z.length ≤ sizeLine ∧ Q (.int z.length) H)) (ha : EvX true c env os ta (dT a)) (hl : a.length ≤ 16777216) : EvX w c env os (tCB r (tCons ta tNil)) (.int (a.length : Int)) := fun ad σ H ok Q q => by
  subst hr
  refine ha ad σ H ok _ fun v H1 e1 r1 => ⟨sT a, by rw [dn_str r1], by rw [sT_len]; exact hl, ?_⟩
  rw [sT_len]
  exact q _ H1 e1 (.int _)
theorem ex_inS {r : R2} {x : Nat} {a : List Nat} (hr : r = (fun x y H Q => ∃ (c : Nat) (z : Str), x = .str ⟨#[c]⟩ ∧ y = .str z ∧ Q (.bl (decide (c ∈ z.cps.toList))) H)) (ha : EvX true c env os ta (dT [x])) (hb : EvX true c env os tb (dT a)) : EvX w c env os (tOp r ta tb) (.bool (decide (x ∈ a))) := fun ad σ H ok Q q => by
  subst hr
  refine ha ad σ H ok _ fun v H1 e1 r1 => hb ad σ H1 (ok.ext e1) _ fun u H2 e2 r2 => ⟨x, sT a, dn_str r1, dn_str r2, ?_⟩
  have e : (sT a).cps.toList = a := sT_cps a
  rw [show decide (x ∈ (sT a).cps.toList) = decide (x ∈ a) by simp]
  exact q _ H2 (e1.trans e2) (.bl _)
theorem ex_eqT {a b : List Nat} (ha : EvX true c env os ta (dT a)) (hb : EvX true c env os tb (dT b)) : EvX w c env os (tOp rEq ta tb) (.bool (decide (a = b))) := EvX.is (ex_eqS ha hb) (congrArg PyData.bool (sT_beq a b))
theorem cutS_cutG (a : List Nat) (lo hi : Option Int) : L2.cutS (sT a) lo hi = sT (cutG a lo hi) := by
  unfold L2.cutS cutG
  rw [sT_cps, sT_len]
theorem ex_slS {tl th : TO} {a : List Nat} {lo hi : Option Int} (h : EvX true c env os te (dT a)) (h1 : EvO c env os tl lo) (h2 : EvO c env os th hi) (hl : a.length ≤ 16777216) : EvX w c env os (tSl rSlS te tl th) (dT (cutG a lo hi)) := fun ad σ H ok Q q =>
  h ad σ H ok _ fun v H1 e1 r1 => h1 ad σ H1 (ok.ext e1) _ fun H2 e2 => h2 ad σ H2 ((ok.ext e1).ext e2) _ fun H3 e3 => ⟨sT a, dn_str r1, by rw [sT_len]; exact hl, by
    rw [cutS_cutG]
    exact q _ H3 ((e1.trans e2).trans e3) (.str _)⟩
/-- a text is walked -/
theorem ew_str {a : List Nat} (h : EvX true c env os te (dT a)) : EvW c env os (iStr te) a.length (fun i => .i (dT [a.getD i 0])) (fun _ => True) := fun ad σ H ok R q =>
  h ad σ H ok _ fun v H1 e r => by
    refine ⟨sT a, dn_str r, q _ H1 c.fr e (ok.ext e).pin0 (up_pin0 (ok.ext e)) ⟨fun i ad' env' os' σ' H' hi o _ => ?_, fun ad' env' os' σ' H' o _ => ?_, fun i ad' env' os' σ' H' x H'' hi o _ y => ?_⟩⟩
    · show i < (sT a).cps.size
      simpa using hi
    · show (sT a).cps.size ≤ _
      simp
    · obtain ⟨rfl, x, hx, rfl⟩ := y
      refine ⟨Ex.refl _, ?_⟩
      have hx2 : a[i]? = some x := by simpa using hx
      rw [List.getD_eq_getElem?_getD, hx2]
      exact Dn.str _
end
theorem itS_at {a : List Nat} (i : Nat) (x : Nat) (h : a[i]? = some x) : (SV.i (dT [a.getD i 0])) = .i (dT [x]) := by rw [List.getD_eq_getElem?_getD, h]; rfl
/-- a for over a text -/
theorem gs_forS {c : Cn} {env : Sy} {os : List SO} {g : TG} {tb u : TS} {D : Ends} {te : TE} {xs : List Nat} (E : List Nat → Sy) (O : List Nat → List SO) (h : EvX true c env os te (dT xs))
    (h0 : ∀ c' : Cn, c'.lo = os.length → ∀ ad σ H, Ok c' ad env os σ H → Ok c' ad (E []) (O []) σ H)
    (hs : ∀ fr, Up c (c.w fr os.length) → ∀ pre x post, xs = pre ++ x :: post → ∃ env' js, Tg (c.w fr os.length) (E pre) (O pre) g (.i (dT [x])) env' js ∧ Go (c.w fr os.length) env' (O pre) tb { D with nx := OkE (c.w fr os.length) (E (pre ++ [x])) (O (pre ++ [x])), ct := OkE (c.w fr os.length) (E (pre ++ [x])) (O (pre ++ [x])), bk := u D })
    (hd : Go c (E xs) (O xs) u D) : Go c env os (tSeq (tFor (iStr te) g tb) u) D :=
  gs_forL (e := fun x => .i (dT [x])) E O (ew_str h) rfl itS_at h0 (fun _ _ _ => True.intro) hs hd
end DL
namespace DL
open PySem PySem.Spec PyProof.Rows L2
theorem gcs {mg : Str → Option Value} {x z : Str} (h : ∃ t, mg x = some (.str z t)) : ∃ u, mg x = some u ∧ RelV (.str z) u := by
  obtain ⟨t, h⟩ := h
  exact ⟨_, h, t, rfl⟩
theorem gci {mg : Str → Option Value} {x : Str} {z : Int} (h : ∃ t, mg x = some (.int z t)) : ∃ u, mg x = some u ∧ RelV (.int z) u := by
  obtain ⟨t, h⟩ := h
  exact ⟨_, h, t, rfl⟩
theorem atI_pos {α : Type} {l : List α} {i : Int} {d : α} (h0 : 0 ≤ i) (h1 : i < (l.length : Int)) : atI l i = some (l.getD i.toNat d) := by
  have e : i = ((i.toNat : Nat) : Int) := by omega
  rw [e]
  refine atI_nat ?_
  rw [Int.toNat_natCast, List.getD_eq_getElem?_getD, List.getElem?_eq_getElem (by omega)]
  rfl
end DL
namespace DL
theorem EvW.is {c : Cn} {env : Sy} {os : List SO} {wi : L2.TI} {n n' : Nat} {it : Nat → SV} {G : List SO → Prop} (h : EvW c env os wi n it G) (e : n = n') : EvW c env os wi n' it G := e ▸ h
end DL

set_option Elab.async false
set_option linter.all false
set_option maxRecDepth 100000
set_option maxHeartbeats 2000000
/-! The data layer: methods of texts, what is in a tuple. -/
namespace DL
open PySem PySem.Spec PyProof.Rows L2
open Evl (Ex Ex.refl Ex.trans Ex.new)
/-- the parts between the signs d -/
def splitC (d : Nat) : List Nat → List (List Nat)
  | [] => [[]]
  | c :: r => if c = d then [] :: splitC d r else match splitC d r with
    | [] => [[c]]
    | p :: ps => (c :: p) :: ps
theorem splitC_hit (d : Nat) (r : List Nat) : splitC d (d :: r) = [] :: splitC d r := by show (if d = d then _ else _) = _; rw [if_pos rfl]
theorem splitC_miss {d c : Nat} {r : List Nat} {p : List Nat} {ps : List (List Nat)} (h : ¬ c = d) (e : splitC d r = p :: ps) : splitC d (c :: r) = (c :: p) :: ps := by
  show (if c = d then _ else match splitC d r with | [] => [[c]] | p :: ps => (c :: p) :: ps) = _
  rw [if_neg h, e]
theorem splitC_ne (d : Nat) : ∀ l, splitC d l ≠ []
  | [] => by simp [splitC]
  | c :: r => by
    unfold splitC
    split
    · simp
    · split <;> simp
theorem splitC_ex (d : Nat) (l : List Nat) : ∃ p ps, splitC d l = p :: ps := by
  have hn := splitC_ne d l
  cases hs : splitC d l with
  | nil => exact absurd hs hn
  | cons p ps => exact ⟨p, ps, rfl⟩
theorem spl_splitC (d : Nat) : ∀ (l acc : List Nat) (p : List Nat) (ps : List (List Nat)), splitC d l = p :: ps → TL.spl [d] 0 acc l = (acc ++ p) :: ps
  | [], acc, p, ps, e => by
    rw [TL.spl_nil]
    injection e with e1 e2
    subst e1 e2
    simp
  | c :: r, acc, p, ps, e => by
    obtain ⟨p2, ps2, e2⟩ := splitC_ex d r
    by_cases h : c = d
    · subst h
      rw [TL.spl_hit (by simp [TL.pre])]
      rw [splitC_hit] at e
      injection e with e3 e4
      subst e3 e4
      have ih := spl_splitC c r [] p2 ps2 e2
      show acc :: TL.spl [c] 0 [] r = _
      rw [ih, e2]
      simp
    · rw [TL.spl_miss (by simp [TL.pre, h])]
      rw [splitC_miss h e2] at e
      injection e with e3 e4
      subst e3 e4
      rw [spl_splitC d r (acc ++ [c]) p2 ps2 e2]
      simp
theorem split_C (l : List Nat) (d : Nat) (hd : d < 256) : Txt.split (sT l) (sT [d]) = (splitC d l).map sT := by
  have h := TL.split_spl (sT l) (sT [d]) (by simp [TL.tl]) (TL.kind_ok (by simp; omega))
  refine TL.map_tl_inj ?_
  rw [h]
  show TL.spl [d] 0 [] l = _
  obtain ⟨p, ps, hs⟩ := splitC_ex d l
  rw [spl_splitC d l [] p ps hs, hs]
  rw [List.map_map]
  have e : (TL.tl ∘ sT) = fun x : List Nat => x := by funext x; simp [TL.tl]
  rw [e, List.map_id']
  rfl
theorem splitC_len (d : Nat) : ∀ l, (splitC d l).length = 1 + l.count d
  | [] => rfl
  | c :: r => by
    have ih := splitC_len d r
    obtain ⟨p2, ps2, e2⟩ := splitC_ex d r
    by_cases h : c = d
    · subst h
      rw [splitC_hit, List.length_cons, ih, List.count_cons_self]
      omega
    · rw [splitC_miss h e2, List.count_cons_of_ne h, ← ih, e2]
      rfl
section
variable {w : Bool} {c : Cn} {env : Sy} {os : List SO} {te ta tb tl : TE} {d : PyData} {tt tu : TT}
theorem strs_dn {K : PySem.W.Frag} {N : Addr → Prop} {H : Hp} : ∀ ls : List (List Nat), DnAll K N H ((ls.map sT).map V.str) (ls.map dT)
  | [] => .nil
  | l :: ls => .cons (.str _) (strs_dn ls)
/-- text.split(sign) -/
theorem ef_split {r : V → List V → Hp → VK → Prop} {l : List Nat} {x : Nat} (hr : r = (fun x xs H Q => ∃ a b, x = .str a ∧ xs = [.str b] ∧ (b.length == 0) = false ∧ a.length + 2 ≤ sizeLine ∧ rNewStrs (Txt.split a b) H Q)) (ha : EvX true c env os ta (dT l)) (hb : EvX true c env os tb (dT [x])) (hx : x < 256) (hl : l.length ≤ 100000) :
    EvF c env os (tM1 r ta tb) (.lst (((splitC x l).map dT).map SV.i)) := fun ad σ H ok Q q => by
  subst hr
  refine ha ad σ H ok _ fun v H1 e1 r1 => ⟨⟨_, dn_str r1⟩, hb ad σ H1 (ok.ext e1) _ fun u H2 e2 r2 => ⟨sT l, sT [x], dn_str r1, by rw [dn_str r2], rfl, by rw [sT_len]; exact Nat.le_trans (Nat.add_le_add_right hl 2) (by decide), fun p hp => ?_⟩⟩
  rw [split_C l x hx]
  refine q p _ (e1.free (e2.free hp)) ((e1.trans e2).trans (Ex.new hp)) ⟨_, upd_same, ?_⟩
  exact dn_paired (strs_dn _)
end
theorem kInSeq {X : Cx} {K : PySem.W.Frag} (h : X.K = K := by rfl) : OpR X (compareOp .In) (rIn K false) := by subst h; exact op_in_seq
/-- texts as values -/
def txV (ls : List (List Nat)) : List V := ls.map fun l => V.str (sT l)
theorem txs_of {K : PySem.W.Frag} {N : Addr → Prop} {H : Hp} : ∀ {vs : List V} {ls : List (List Nat)}, DnAll K N H vs (ls.map dT) → vs = txV ls
  | _, [], h => by cases h; rfl
  | _, l :: ls, h => by
    cases h with
    | cons a b => rw [txs_of b, dn_str a]; rfl
theorem txV_flat (ls : List (List Nat)) : (txV ls).all flatV = true := by
  unfold txV
  rw [List.all_map]
  exact List.all_eq_true.mpr fun _ _ => rfl
theorem inV_txV (l : List Nat) (ls : List (List Nat)) : inV (.str (sT l)) (txV ls) = decide (l ∈ ls) := by
  unfold inV txV
  rw [List.any_map]
  by_cases h : l ∈ ls
  · rw [decide_eq_true h]
    exact List.any_eq_true.mpr ⟨l, h, by simp [eqV]⟩
  · rw [decide_eq_false h]
    refine Bool.eq_false_iff.mpr fun z => h ?_
    obtain ⟨y, hy, e⟩ := List.any_eq_true.mp z
    have e2 : sT y = sT l := by simpa [eqV] using e
    rw [← sT_inj e2]
    exact hy
section
variable {w : Bool} {c : Cn} {env : Sy} {os : List SO} {te ta tb tl : TE} {d : PyData} {tt tu : TT}
/-- text in (text, ..) -/
theorem ex_inTt {l : List Nat} {ls : List (List Nat)} (ha : EvX true c env os ta (dT l)) (hb : EvX true c env os tb (.tuple (ls.map dT))) : EvX w c env os (tOp (rIn c.K false) ta tb) (.bool (decide (l ∈ ls))) := fun ad σ H ok Q q =>
  ha ad σ H ok _ fun v H1 e1 r1 => hb ad σ H1 (ok.ext e1) _ fun u H2 e2 r2 => by
    obtain ⟨a, xs, rfl, hs, hx⟩ := dn_tup_ref r2
    rw [txs_of hx] at hs
    refine ⟨a, txV ls, rfl, Or.inr hs, by rw [dn_str r1]; rfl, txV_flat ls, ?_⟩
    rw [dn_str r1]
    show Q (.bl (inV (.str (sT l)) (txV ls))) H2
    rw [inV_txV]
    exact q _ H2 (e1.trans e2) (.bl _)
end
end DL
namespace DL
open PySem PySem.Spec PyProof.Rows L2
open Evl (Ex Ex.refl Ex.trans Ex.new)
theorem Paired.app {α β : Type} {F : α → β → Prop} : ∀ {l₁ m₁ : List α} {l₂ m₂ : List β}, Paired F l₁ l₂ → Paired F m₁ m₂ → Paired F (l₁ ++ m₁) (l₂ ++ m₂)
  | _, _, _, _, .nil, h => h
  | _, _, _, _, .cons r t, h => .cons r (Paired.app t h)
section
variable {w : Bool} {c : Cn} {env : Sy} {os : List SO} {te ta tb tl : TE} {d : PyData} {tt tu : TT} {u : TS} {D : Ends}
end
end DL
namespace DL
open PySem PySem.Spec PyProof.Rows L2
open Evl (Ex Ex.refl Ex.trans Ex.new)
end DL

set_option Elab.async false
set_option linter.all false
set_option maxRecDepth 100000
set_option maxHeartbeats 2000000
/-! The data layer: strip, partition, find of texts. -/
namespace DL
open PySem PySem.Spec PyProof.Rows L2
open Evl (Ex Ex.refl Ex.trans Ex.new)
/-- the part ahead of the first d -/
def upC (d : Nat) (l : List Nat) : List Nat := l.takeWhile fun c => !decide (c = d)
/-- strip(sign) -/
def stripL (d : Nat) (l : List Nat) : List Nat := (Txt.stripChars (sT l) (sT [d])).cps.toList
section
variable {w : Bool} {c : Cn} {env : Sy} {os : List SO} {te ta tb tl : TE} {d : PyData} {tt tu : TT}
end
end DL

set_option Elab.async false
set_option linter.all false
set_option maxRecDepth 100000
set_option maxHeartbeats 2000000
/-! The data layer: keywords, written dicts, divmod. -/
namespace DL
open PySem PySem.Spec PyProof.Rows L2
open Evl (Ex Ex.refl Ex.trans Ex.new)
/-! ### defs with keyword-only parameters -/
abbrev FnQ (K : PySem.W.Frag) (x : Str) (st : Stmt) (kws : List (Str × V)) (f : Addr) (fd : FuncData) : Prop := FunD K x x (defArgs st) (defBody st) (defScope st) [] kws f fd
/-- a form of call: how many values by place, the names, what fills up -/
abbrev CForm := Nat × List Str × List (Str × V)
def FormOk (K : PySem.W.Frag) (fd : FuncData) (ps : List Str) (F : CForm) : Prop := ∃ ds, KBn K fd ps F.1 F.2.1 (fun us ws => us ++ (ws ++ ds)) (fun vs zs => vs ++ (zs ++ F.2.2.map (·.2)))
def CalQ (P : Program) (w : World) (K : PySem.W.Frag) (mg : Str → Option Value) (base : Heap) (k : Nat) (x : Str) (ps : List Str) (sp : Sp) (fs : List CForm) : Prop :=
  ∃ f fd, FnOk P w K mg base CX0 k f fd ps sp ∧ (∀ F ∈ fs, FormOk K fd ps F) ∧ mg x = some (.ref f) ∧ PySem.W.keepIn K (.ref f) = true
section
variable {P : Program} {w : World} {K : PySem.W.Frag} {mg : Str → Option Value} {base : Heap}
theorem form_mk {x qual : Str} {params : Arguments} {body : List Stmt} {scope : Scope} {kws : List (Str × V)} {f : Addr} {fd : FuncData} {ps : List Str} (F : FunD K x qual params body scope [] kws f fd) (n : Nat) (ks : List Str) (ms : List (Str × V)) (hk : kws ≠ []) (hms : ∀ q ∈ ms, q ∈ kws)
    (h : ∀ (D : Addr) (doc pm : Value) (an : Option Addr) (cdv ct : Value) (us mv ws : List Value), us.length = n → mv.length = ms.length → ws.length = ks.length →
      KwChain D ((ms.map (·.1)).zip mv) (bindArgs (PySem.W.fnOf x qual params body scope .none (.ref D) doc pm an cdv ct) ⟨us, ks.zip ws⟩) (ps.zip (us ++ (ws ++ mv)))) : FormOk K fd ps (n, ks, ms) := by
  obtain ⟨oc, od, dV, kV, doc, pm, an, cdv, ct, osl, rfl, lk, hcd, hD, hK⟩ := F.ex
  rcases hD with ⟨_, rfl⟩ | ⟨e, _⟩
  · rcases hK with e | ⟨D, rfl, hq⟩
    · exact absurd e hk
    · obtain ⟨mv, hl, rk, hks⟩ := kwd_vals (ms := ms) fun q hm => hq q (hms q hm)
      exact ⟨mv, ⟨fun s us ws X l1 l2 => BindsTo.of_looks fun M => KwChain.looks X hks (h D doc pm an cdv ct us mv ws l1 hl l2), fun r1 r2 => r1.append (r2.append rk)⟩⟩
  · exact absurd rfl e
end
section
variable {w : Bool} {c : Cn} {env : Sy} {os : List SO} {te ta tb tl : TE} {d : PyData} {tt tu : TT} {t tk : TA}
/-! ### written dicts -/
def EvP (c : Cn) (env : Sy) (os : List SO) (trs : List (TE × TE)) (kvs : List (Key × PyData)) : Prop := ∀ ad σ H, Ok c ad env os σ H → ∀ Q : List (V × V) → Hp → Prop,
  (∀ (vs : List (Key × V)) H2, Ex H H2 → Paired (fun (x : Key × V) (y : Key × PyData) => x.1 = y.1 ∧ Dn c.K (fun _ => True) H2 x.2 y.2) vs kvs → Q (vs.map fun kv => (kV kv.1, kv.2)) H2) → tPairs trs σ H Q
theorem ep_nil : EvP c env os [] [] := fun ad σ H ok Q q => q [] H (Ex.refl H) .nil
theorem ep_cons {trs : List (TE × TE)} {kvs : List (Key × PyData)} {kk : Key} (hk : EvX true c env os ta (kdat kk)) (hv : EvX true c env os tb d) (hd : noList d = true) (hr : EvP c env os trs kvs) : EvP c env os ((ta, tb) :: trs) ((kk, d) :: kvs) := fun ad σ H ok Q q =>
  hk ad σ H ok _ fun v H1 e1 r1 => hv ad σ H1 (ok.ext e1) _ fun u H2 e2 r2 => hr ad σ H2 ((ok.ext e1).ext e2) _ fun vs H3 e3 p => by
    have := q ((kk, u) :: vs) H3 ((e1.trans e2).trans e3) (.cons ⟨rfl, Dn.goF (fun _ _ r => r) d u hd (r2.ext e3)⟩ p)
    rw [List.map_cons] at this
    rw [dn_key r1]
    exact this
theorem mergeK_app : ∀ (more kvs : List (Key × V)), ((kvs ++ more).map (·.1)).Nodup → mergeK kvs more = kvs ++ more
  | [], kvs, _ => by simp [mergeK]
  | p :: more, kvs, h => by
    have e : putK kvs p.1 p.2 = kvs ++ [p] := by
      have hn : ∀ q ∈ kvs, q.1 ≠ p.1 := fun q hq z => by
        rw [List.map_append, List.nodup_append] at h
        exact h.2.2 q.1 (List.mem_map_of_mem hq) p.1 (by simp) z
      unfold putK
      rw [if_neg]
      intro z
      obtain ⟨q, hq, e⟩ := List.any_eq_true.mp z
      exact hn q hq (of_decide_eq_true e)
    show mergeK (putK kvs p.1 p.2) more = _
    rw [e, mergeK_app more (kvs ++ [p]) (by simpa using h)]
    simp
theorem ef_disp {trs : List (TE × TE)} {kvs : List (Key × PyData)} (h : EvP c env os trs kvs) (hn : (kvs.map (·.1)).Nodup) (hl : kvs.length ≤ 15) : EvF c env os (tDisp trs) (.dK (kvs.map fun q => (q.1, SV.i q.2))) := fun ad σ H ok Q q p hp => by
  refine h ad σ _ (ok.ext (Ex.new hp)) _ fun vs H2 e pv => ?_
  have hp2 : H2 p = some (.dK []) := e _ _ upd_same
  have hkeys : vs.map (·.1) = kvs.map (·.1) := by
    clear h hn hl q
    induction pv with
    | nil => rfl
    | cons r t ih => rw [List.map_cons, List.map_cons, r.1, ih]
  refine ⟨hp2, vs, rfl, by have := congrArg List.length hkeys; simp at this; omega, ?_⟩
  rw [mergeK_app vs [] (by simpa [hkeys] using hn), List.nil_append]
  refine q p _ hp (fun a o ha => ?_) ⟨vs, upd_same, ?_⟩
  · rw [upd_ne (ne_of_none ha hp)]
    exact e a o (by rw [upd_ne (ne_of_none ha hp)]; exact ha)
  · have mutd : ∀ (v : V) (d : PyData), Dn c.K (fun _ => True) H2 v d → Dn c.K (fun a => Nof c ad os a ∨ a = p) (upd H2 p (.dK vs)) v d := fun v d r => (r.mut hp2 rfl True.intro).sub fun _ _ => True.intro
    clear hkeys h hn hl q e
    generalize upd H2 p (HO.dK vs) = H3 at mutd
    induction pv with
    | nil => exact .nil
    | cons r t ih => exact .cons ⟨r.1, mutd _ _ r.2⟩ (ih)
end
end DL

set_option Elab.async false
set_option linter.all false
set_option maxRecDepth 100000
set_option maxHeartbeats 2000000
/-! The data layer: enumerate of a text. -/
namespace L2
open PySem PySem.Spec PyProof.Rows
def IteS (x : Str) : It :=
  ⟨fun i _ => i < x.cps.size, fun i H v H' => ∃ T c, v = .ref T ∧ H T = none ∧ H' = upd H T (.tup [.int (i : Nat), .str ⟨#[c]⟩]) ∧ x.cps[i]? = some c, fun i _ => x.cps.size ≤ i⟩
def iEnumS (ta : TA) : TI := fun σ H R => ta σ H fun vs H1 => ∃ x, vs = [.str x] ∧ R (IteS x) H1
end L2
namespace DL
open PySem PySem.Spec PyProof.Rows L2
open Evl (Ex Ex.refl Ex.trans Ex.new)
end DL

set_option Elab.async false
set_option linter.all false
set_option maxRecDepth 100000
set_option maxHeartbeats 2000000
/-! The data layer: a generator that hands out a list's items; list(g). -/
namespace L2
open PySem PySem.Spec PyProof.Rows GenW
section
variable {prog : Program} {w : World} {A : Around} {E : Value → Shared → Prop} {s : Shared}
end
section
variable {X : Cx} {e : Expr} {te : TE}
def tYfLst (te : TE) : TYf := fun σ H Q => te σ H fun x H1 => ∃ a xs, x = .ref a ∧ H1 a = some (.lst xs) ∧ Q xs H1
end
end L2
namespace DL
open PySem PySem.Spec PyProof.Rows L2
open Evl (Ex Ex.refl Ex.trans Ex.new)
/-- data in; what is handed out -/
def spG (K : PySem.W.Frag) (R : List PyData → List PyData → Prop) : SpG := fun vs H Q _ => ∃ (N : Addr → Prop) (ds : List PyData) (rs : List PyData), (∀ a, N a → H a ≠ none) ∧ DnAll K N H vs ds ∧ R ds rs ∧ ∀ H' ws, Ex H H' → DnAll K N H' ws rs → Q ws H'
def CalG (P : Program) (w : World) (K : PySem.W.Frag) (mg : Str → Option Value) (base : Heap) (k : Nat) (x : Str) (ps : List Str) (sp : SpG) : Prop :=
  ∃ f fd, GFn P w K mg base k f fd ps sp ∧ Binds K fd ps [] ∧ mg x = some (.ref f) ∧ PySem.W.keepIn K (.ref f) = true
section
variable {c : Cn} {env : Sy} {os : List SO} {ta : TA}
end
end DL

set_option Elab.async false
set_option linter.all false
set_option maxRecDepth 100000
set_option maxHeartbeats 2000000
/-! The data layer: dicts with whole numbers or texts as keys, as data; lists of the store within a dict of the store. -/
namespace DL
open PySem PySem.Spec PyProof.Rows L2
open Evl (Ex Ex.refl Ex.trans Ex.new)
/-! ### as data -/
def dKd {α β : Type} (ek : α → Key) (ev : β → PyData) (m : List (α × β)) : PyData := .dict (m.map fun p => (kdat (ek p.1), ev p.2))
section
variable {α β : Type} {K : PySem.W.Frag} {N : Addr → Prop} {H : Hp}
theorem dn_dK {ek : α → Key} {ev : β → PyData} {m : List (α × β)} {v : V} (h : Dn K N H v (dKd ek ev m)) : ∃ a ws, v = .ref a ∧ Rd H a (.dK ws) ∧ ¬ N a ∧ Paired (fun (p : Key × V) (q : α × β) => p.1 = ek q.1 ∧ Dn K N H p.2 (ev q.2)) ws m := by
  unfold dKd at h
  cases h with
  | @dkk a ws _ r n p =>
    refine ⟨_, _, rfl, r, n, ?_⟩
    clear r
    induction m generalizing ws with
    | nil =>
      cases ws with
      | nil => exact .nil
      | cons x ws => cases p
    | cons q m ih =>
      cases ws with
      | nil => cases p
      | cons x ws =>
        rw [List.map_cons, List.map_cons] at p
        generalize hk : kdat x.1 = kd at p
        generalize hk2 : kdat (ek q.1) = kd2 at p
        cases p with
        | cons a b => exact .cons ⟨kdat_inj (hk.trans hk2.symm), a⟩ (ih b)
  | @dkt a ws _ r n p =>
    cases m with
    | nil => cases p
    | cons q m =>
      rw [List.map_cons] at p
      generalize hk : kdat (ek q.1) = kd at p
      cases p
      cases hq : ek q.1 <;> rw [hq] at hk <;> cases hk
  | dkz r n p =>
    cases m with
    | nil => cases p
    | cons q m =>
      rw [List.map_cons] at p
      generalize hk : kdat (ek q.1) = kd at p
      cases p
      cases hq : ek q.1 <;> rw [hq] at hk <;> cases hk
  | ins r n p =>
    cases m with
    | nil => cases p
    | cons q m =>
      rw [List.map_cons] at p
      generalize hk : kdat (ek q.1) = kd at p
      cases p
      cases hq : ek q.1 <;> rw [hq] at hk <;> cases hk
theorem dK_dn {ek : α → Key} {ev : β → PyData} {m : List (α × β)} {a : Addr} {ws : List (Key × V)} (r : Rd H a (.dK ws)) (n : ¬ N a) (p : Paired (fun (p : Key × V) (q : α × β) => p.1 = ek q.1 ∧ Dn K N H p.2 (ev q.2)) ws m) : Dn K N H (.ref a) (dKd ek ev m) := by
  refine .dkk r n ?_
  clear r
  induction p with
  | nil => exact .nil
  | cons r t ih =>
    rw [List.map_cons, List.map_cons, r.1]
    exact .cons r.2 ih
theorem pairK {ek : α → Key} {ev : β → PyData} {ad : Nat → Addr} {n : Nat} : ∀ {ws : List (Key × V)} {m : List (α × β)}, Paired (fun (p : Key × V) (q : Key × SV) => p.1 = q.1 ∧ SvOk K N ad n H p.2 q.2) ws (m.map fun p => (ek p.1, SV.i (ev p.2))) → Paired (fun (p : Key × V) (q : α × β) => p.1 = ek q.1 ∧ Dn K N H p.2 (ev q.2)) ws m
  | _, [], h => by cases h; exact .nil
  | _, q :: m, h => by
    cases h with
    | cons a b => exact .cons a (pairK b)
theorem pairKi {ek : α → Key} {ev : β → PyData} {ad : Nat → Addr} {n : Nat} : ∀ {ws : List (Key × V)} {m : List (α × β)}, Paired (fun (p : Key × V) (q : α × β) => p.1 = ek q.1 ∧ Dn K N H p.2 (ev q.2)) ws m → Paired (fun (p : Key × V) (q : Key × SV) => p.1 = q.1 ∧ SvOk K N ad n H p.2 q.2) ws (m.map fun p => (ek p.1, SV.i (ev p.2)))
  | _, _, .nil => .nil
  | _, _, .cons r t => .cons r (pairKi t)
variable [DecidableEq α]
theorem val_dK {ek : α → Key} (hi : ∀ a b, ek a = ek b → a = b) {F : V → β → Prop} : ∀ {ws : List (Key × V)} {m : List (α × β)}, Paired (fun (p : Key × V) (q : α × β) => p.1 = ek q.1 ∧ F p.2 q.2) ws m → ∀ a, (valV ws (ek a) = none ∧ getA m a = none) ∨ ∃ v b, valV ws (ek a) = some v ∧ getA m a = some b ∧ F v b
  | _, _, .nil, a => Or.inl ⟨rfl, rfl⟩
  | _, _, .cons (a := p) (b := q) r t, a => by
    rw [getA_cons]
    by_cases h : q.1 = a
    · rw [if_pos h]
      exact Or.inr ⟨p.2, q.2, valV_pos (r.1.trans (by rw [h])), rfl, r.2⟩
    · rw [if_neg h, valV_neg (fun z => h (hi _ _ (r.1.symm.trans z)))]
      exact val_dK hi t a
end
section
variable {α β : Type} [DecidableEq α] {w w' : Bool} {c : Cn} {env env' : Sy} {os : List SO} {te ta tb tl td ty tv tx : TE} {d : PyData} {u : TS} {D : Ends} {ek : α → Key} {ev : β → PyData} {m : List (α × β)}
theorem DGet.rk {H : Hp} {a : Addr} {kvs : List (Key × V)} {k : Key} (e : Rd H a (.dK kvs)) : DGet H a (kV k) (valV kvs k) := .inl ⟨kvs, k, e, rfl, rfl⟩
/-- k in d, k not in d, d[k] of data -/
theorem ex_inD {a : α} (hi : ∀ a b, ek a = ek b → a = b) (hk : EvX true c env os ty (kdat (ek a))) (hd : EvX true c env os td (dKd ek ev m)) : EvX w c env os (tDIn ty td) (.bool (getA m a).isSome) := fun ad σ H ok Q q =>
  hk ad σ H ok _ fun b H1 e1 r1 => hd ad σ H1 (ok.ext e1) _ fun v H2 e2 r2 => by
    obtain ⟨p, ws, rfl, hp, _, pw⟩ := dn_dK r2
    refine ⟨p, _, rfl, by rw [dn_key r1]; exact DGet.rk hp, ?_⟩
    rcases val_dK (F := fun v b => Dn c.K (Nw true c ad os) H2 v (ev b)) hi pw a with ⟨x, y⟩ | ⟨v, b, x, y, _⟩
    · rw [y] at q; rw [x]; exact q _ H2 (e1.trans e2) (.bl false)
    · rw [y] at q; rw [x]; exact q _ H2 (e1.trans e2) (.bl true)
theorem ex_notinD {a : α} (hi : ∀ a b, ek a = ek b → a = b) (hk : EvX true c env os ty (kdat (ek a))) (hd : EvX true c env os td (dKd ek ev m)) : EvX w c env os (tDNotIn ty td) (.bool (!(getA m a).isSome)) := fun ad σ H ok Q q =>
  hk ad σ H ok _ fun b H1 e1 r1 => hd ad σ H1 (ok.ext e1) _ fun v H2 e2 r2 => by
    obtain ⟨p, ws, rfl, hp, _, pw⟩ := dn_dK r2
    refine ⟨p, _, rfl, by rw [dn_key r1]; exact DGet.rk hp, ?_⟩
    rcases val_dK (F := fun v b => Dn c.K (Nw true c ad os) H2 v (ev b)) hi pw a with ⟨x, y⟩ | ⟨v, b, x, y, _⟩
    · rw [y] at q; rw [x]; exact q _ H2 (e1.trans e2) (.bl true)
    · rw [y] at q; rw [x]; exact q _ H2 (e1.trans e2) (.bl false)
theorem ex_dgetD {a : α} {b : β} (hi : ∀ a b, ek a = ek b → a = b) (hd : EvX w c env os td (dKd ek ev m)) (hk : EvX true c env os ty (kdat (ek a))) (hg : getA m a = some b) : EvX w c env os (tDGet td ty) (ev b) := fun ad σ H ok Q q =>
  hd ad σ H ok _ fun v H1 e1 r1 => hk ad σ H1 (ok.ext e1) _ fun y H2 e2 r2 => by
    obtain ⟨p, ws, rfl, hp, _, pw⟩ := dn_dK (r1.ext e2)
    rcases val_dK (F := fun v b => Dn c.K (Nw w c ad os) H2 v (ev b)) hi pw a with ⟨x, z⟩ | ⟨v, b', x, z, f⟩
    · rw [hg] at z; cases z
    · rw [hg] at z; cases z
      exact ⟨p, v, rfl, by rw [dn_key r2, ← x]; exact DGet.rk hp, q v H2 (e1.trans e2) f⟩
/-! ### of the store -/
theorem ex_notinK {k : Nat} {kvs : List (Key × SV)} {kk : Key} (hi : EvX true c env os ty (kdat kk)) (hl : EvR c env os td k) (hk : os[k]? = some (.dK kvs)) : EvX w c env os (tDNotIn ty td) (.bool (!(getA kvs kk).isSome)) := fun ad σ H ok Q q =>
  hi ad σ H ok _ fun b H1 e1 r1 => hl.2 ad σ H1 (ok.ext e1) _ fun H2 e2 => by
    obtain ⟨_, ws, hws, pw⟩ := ((ok.ext e1).ext e2).obj k _ hk rfl
    refine ⟨ad k, _, rfl, by rw [dn_key r1]; exact DGet.k hws, ?_⟩
    rcases val_get (F := SvOk c.K (Nof c ad os) ad os.length H2) pw kk with ⟨x, y⟩ | ⟨v, b, x, y, _⟩
    · rw [y] at q; rw [x]; exact q _ H2 (e1.trans e2) (.bl true)
    · rw [y] at q; rw [x]; exact q _ H2 (e1.trans e2) (.bl false)
theorem er_dget {k j : Nat} {kvs : List (Key × SV)} {kk : Key} (hl : EvR c env os td k) (hk : os[k]? = some (.dK kvs)) (hi : EvX true c env os ty (kdat kk)) (hg : getA kvs kk = some (.r j)) (hj : j < os.length) : EvR c env os (tDGet td ty) j := ⟨hj, fun ad σ H ok Q q =>
  hl.2 ad σ H ok _ fun H1 e1 => hi ad σ H1 (ok.ext e1) _ fun v H2 e2 r2 => by
    obtain ⟨_, ws, hws, pw⟩ := ((ok.ext e1).ext e2).obj k _ hk rfl
    rcases val_get (F := SvOk c.K (Nof c ad os) ad os.length H2) pw kk with ⟨_, b⟩ | ⟨x, s, a, b, f⟩
    · rw [hg] at b; cases b
    · rw [hg] at b; cases b
      obtain ⟨rfl, _⟩ := (show x = .ref (ad j) ∧ j < os.length from f)
      exact ⟨ad k, _, rfl, by rw [dn_key r2, ← a]; exact DGet.k hws, q H2 (e1.trans e2)⟩⟩
/-- d[k] = a new object -/
theorem gs_dputF {k : Nat} {kvs : List (Key × SV)} {kk : Key} {o : SO} (h : EvF c env os tv o) (hl : EvR c env os td k) (hk : os[k]? = some (.dK kvs)) (hi : EvX true c env os ty (kdat kk)) (hz : kvs.length < 100000)
    (g : Go c env ((os ++ [o]).set k (.dK (setA kvs kk (.r os.length)))) u D) : Go c env os (tSeq (sDPut td ty tv) u) D := fun ad σ H ok =>
  h ad σ H ok _ fun p H1 hp e r => hl.2 ad σ H1 (ok.ext e) _ fun H2 e2 => hi ad σ H2 ((ok.ext e).ext e2) _ fun y H3 e3 r3 => by
    have h0 : c.H0 p = none ∨ c.M p := by
      by_cases hm : c.M p
      · exact Or.inr hm
      · refine Or.inl ?_
        cases hz : c.H0 p with
        | none => rfl
        | some o => rw [ok.ex p o hz hm] at hp; cases hp
    have ok1 := ok.new hp e h0 r
    have ok3 := (ok1.ext e2).ext e3
    have hlt : k < os.length := (List.getElem?_eq_some_iff.mp hk).1
    have hk' : (os ++ [o])[k]? = some (.dK kvs) := by rw [List.getElem?_append_left hlt]; exact hk
    obtain ⟨_, ws, hws, pw⟩ := ok3.obj k _ hk' rfl
    have ea : adN ad os.length p k = ad k := adN_ne (by omega)
    have hN : Nof c (adN ad os.length p) (os ++ [o]) (adN ad os.length p k) := Or.inr ⟨k, ⟨_, hk', rfl⟩, rfl⟩
    have ok4 := ok3.mut (u' := .dK (putK ws kk (.ref p))) hk' rfl (o' := .dK (setA kvs kk (.r os.length))) rfl ⟨putK ws kk (.ref p), upd_same, put_set (Paired.imp pw fun _ _ z => ⟨z.1, z.2.mut hws rfl hN⟩) ⟨by rw [adN_same], by simp⟩⟩
    rw [ea] at ok4 hws
    refine ⟨ad k, _, rfl, ?_, g _ σ _ ok4⟩
    rw [dn_key r3]
    exact DPut.k hws (by rw [Paired.length pw]; exact Nat.lt_of_lt_of_le hz (by decide))
theorem paired_setR {γ δ : Type} {F G : γ → δ → Prop} {b' : δ} : ∀ {l1 : List γ} {l2 : List δ} {i : Nat}, Paired F l1 l2 → (∀ a b, F a b → G a b) → (∀ a b, l2[i]? = some b → F a b → G a b') → Paired G l1 (l2.set i b')
  | _, _, _, .nil, _, _ => .nil
  | _, _, 0, .cons r t, f, h => .cons (h _ _ rfl r) (Paired.imp t f)
  | _, _, i + 1, .cons r t, f, h => .cons (f _ _ r) (paired_setR t f fun a b e q => h a b (by simpa using e) q)
/-! ### a fresh dict is told by a def -/
def spI {α β : Type} (K : PySem.W.Frag) (ek : α → Key) (ev : β → PyData) (R : List PyData → List (α × β) → Prop) : Sp := fun vs H Q _ => ∃ (N : Addr → Prop) (ds : List PyData) (m : List (α × β)), (∀ a, N a → H a ≠ none) ∧ DnAll K N H vs ds ∧ R ds m ∧
  ∀ p H' ws, H p = none → Ex H H' → H' p = some (.dK ws) → Paired (fun (x : Key × V) (y : α × β) => x.1 = ek y.1 ∧ Dn K (fun a => N a ∨ a = p) H' x.2 (ev y.2)) ws m → Q (.ref p) H'
theorem ef_callI {R : List PyData → List (α × β) → Prop} {E : XK} {ta : TA} {ds : List PyData} (h : EvA false c env os ta ds) (hR : R ds m) : EvF c env os (tCall (spI c.K ek ev R) [] E ta) (.dK (m.map fun p => (ek p.1, SV.i (ev p.2)))) := fun ad σ H ok Q q =>
  h ad σ H ok _ fun vs H2 e a => by
    rw [List.append_nil]
    rw [Nw_false] at a
    exact ⟨Nof c ad os, ds, m, fun b z => (ok.ext e).nof z, a, hR, fun p H' ws hp e' h1 h2 => q p H' (e.free hp) (e.trans e') ⟨ws, h1, pairKi h2⟩⟩
theorem spI_len {K : PySem.W.Frag} {R : List PyData → List (α × β) → Prop} {n : Nat} (hR : ∀ ds d, R ds d → ds.length = n) : ∀ vs H Q E, spI K ek ev R vs H Q E → vs.length = n := fun vs H Q E ⟨N, ds, d, _, h, r, _⟩ => h.length.trans (hR ds d r)
def RetI (ek : α → Key) (ev : β → PyData) (c : Cn) (m : List (α × β)) (D : Ends) : Prop := ∀ p H2 ws, c.H0 p = none → (∀ a o, c.H0 a = some o → ¬ c.M a → H2 a = some o) → H2 p = some (.dK ws) → Paired (fun (x : Key × V) (y : α × β) => x.1 = ek y.1 ∧ Dn c.K (fun a => c.N0 a ∨ a = p) H2 x.2 (ev y.2)) ws m → D.rt (.ref p) H2
theorem gs_retI {k : Nat} (h : EvR c env os te k) (hk : os[k]? = some (.dK (m.map fun p => (ek p.1, SV.i (ev p.2))))) (hM : ∀ a, ¬ c.M a) (q : RetI ek ev c m D) : Go c env os (tSeq (tRet te) u) D := fun ad σ H ok =>
  h.2 ad σ H ok _ fun H2 e => by
    have ok2 := ok.ext e
    obtain ⟨h0, vs, h1, h2⟩ := ok2.obj k _ hk rfl
    refine q (ad k) H2 vs (h0.resolve_right (hM _)) ok2.ex h1 (Paired.imp (pairK h2) fun x y z => ⟨z.1, z.2.sub fun a y => ?_⟩)
    rcases y with y | y
    · exact Or.inl y
    · exact Or.inr ⟨k, ⟨_, hk, rfl⟩, y⟩
theorem run_spI {K : PySem.W.Frag} {R : List PyData → List (α × β) → Prop} {vs : List V} {H : Hp} {Q : VK} {E : XK} {Nm : List Str} {t : TS} (h : spI K ek ev R vs H Q E)
    (g : ∀ N ds m, R ds m → RetI ek ev ⟨K, H, N, fun _ => False, [], 0⟩ m (De Q) → Go ⟨K, H, N, fun _ => False, [], 0⟩ (env0 Nm.length ds) [] t (De Q)) : t (De Q) (L2.start Nm vs) H := by
  obtain ⟨N, ds, m, hN, hv, hR, hq⟩ := h
  exact g N ds m hR (fun p H2 ws hp e h1 h2 => hq p H2 ws hp (fun a o z => e a o z fun y => y) h1 h2) _ _ _ (ok_start hN hv)
/-! ### a walk over the keys -/
def EvW3 (c : Cn) (env : Sy) (os : List SO) (env2 : Sy) (os2 : List SO) (wi : TI) (n : Nat) (it : Nat → SV) (G : List SO → Prop) : Prop := ∀ ad σ H, Ok c ad env os σ H → ∀ R : It → Hp → Prop,
  (∀ J H1 fr, Ok (c.w fr os.length) ad env2 os2 σ H1 → (∀ ad' env' os' σ' H', Ok (c.w fr os.length) ad' env' os' σ' H' → Ok c ad' env' os' σ' H') → WalkD (c.w fr os.length) J n it G → R J H1) → wi σ H R
theorem set_at {γ : Type} {l : List γ} {i : Nat} {x : γ} (h : l[i]? = some x) : l.set i x = l := by
  obtain ⟨hl, e⟩ := List.getElem?_eq_some_iff.mp h
  rw [← e]
  exact List.set_getElem_self hl
end
end DL

set_option Elab.async false
set_option linter.all false
set_option maxRecDepth 100000
set_option maxHeartbeats 2000000
/-! The data layer: a state [numbers, number, number] of the caller that defs draw from and change. -/
namespace DL
open PySem PySem.Spec PyProof.Rows L2
open Evl (Ex Ex.refl Ex.trans Ex.new)
def Stt (H : Hp) (s b : Addr) : Prop := ∃ (ns : List Int) (a m : Int), H b = some (.lst (ns.map V.int)) ∧ H s = some (.lst [.ref b, .int a, .int m])
section
variable {w : Bool} {c : Cn} {env : Sy} {os : List SO} {te ta tb tl t1 t2 : TE} {tr : TA} {u : TS} {D : Ends} {P PA PB : PyData → Prop} {ad : Nat → Addr} {σ : L2.St} {H H' : Hp}
/-! ### the promise -/
def spM (K : PySem.W.Frag) (R : List PyData → PyData → Prop) : Sp := fun vs H Q _ => ∃ (N : Addr → Prop) (s b : Addr) (rest : List V) (ds : List PyData), vs = .ref s :: rest ∧ Stt H s b ∧ ¬ N s ∧ ¬ N b ∧ (∀ a, N a → H a ≠ none) ∧ DnAll K (fun a => N a ∨ a = s ∨ a = b) H rest ds ∧ (∃ d, R ds d) ∧
  ∀ v H' d, R ds d → (∀ a x, H a = some x → a ≠ s → a ≠ b → H' a = some x) → Stt H' s b → Dn K (fun a => N a ∨ a = s ∨ a = b) H' v d → Q v H'
/-- te gives data with P; the state may be drawn from -/
def EvM (c : Cn) (env : Sy) (os : List SO) (te : TE) (P : PyData → Prop) : Prop := ∀ ad σ H, Ok c ad env os σ H → ∀ Q : VK, (∀ v H2 d, P d → Ok c ad env os σ H2 → Dn c.K (Nof c ad os) H2 v d → Q v H2) → te σ H Q
def EvAM (c : Cn) (env : Sy) (os : List SO) (ta : TA) (P : List PyData → Prop) : Prop := ∀ ad σ H, Ok c ad env os σ H → ∀ Q : List V → Hp → Prop, (∀ vs H2 ds, P ds → Ok c ad env os σ H2 → DnAll c.K (Nof c ad os) H2 vs ds → Q vs H2) → ta σ H Q
theorem em_x {d : PyData} (h : EvX false c env os te d) (hP : P d) : EvM c env os te P := fun ad σ H ok Q q => h ad σ H ok Q fun v H2 e r => q v H2 d hP (ok.ext e) (by rw [Nw_false] at r; exact r)
/-! ### one thing behind the other -/
theorem ex_pin {v : V} {d : PyData} (h : (v, SV.i d) ∈ c.fr) : EvX w c env os (tC v) d := EvX.weak fun ad σ H ok Q q => q v H (Ex.refl H) (by
  rw [Nw_false]
  exact ok.frm _ h)
/-! ### statements -/
def RetM (c : Cn) (R : List PyData → PyData → Prop) (ds : List PyData) (D : Ends) : Prop := ∀ ad env os σ v H2 d, Ok c ad env os σ H2 → os[0]? = some .nums → os[1]? = some (.stt 0) → R ds d → Dn c.K (Nof c ad os) H2 v d → D.rt v H2
def env1 (n : Nat) (ds : List PyData) : Sy := some (.r 1) :: env0 (n - 1) ds
end
end DL

set_option Elab.async false
set_option linter.all false
set_option maxRecDepth 100000
set_option maxHeartbeats 2000000
/-! The data layer: a dict of the module with text keys. -/
namespace DL
open PySem PySem.Spec PyProof.Rows L2
open Evl (Ex Ex.refl Ex.trans Ex.new)
/-! ### what is looked at -/
mutual
def datB (K : PySem.W.Frag) : PyData → Value → Bool
  | .int i, .int j _ => decide (i = j)
  | .bool b, .bool c => b == c
  | .str x, .str y _ => decide (x = y)
  | .tuple ds, .ref a => match K.lookup a with
    | some ⟨.type c, _, .seq its _, _⟩ => decide (c = "tuple") && (decide (its.size ≤ sizeLine) && datsB K ds its.toList)
    | _ => false
  | _, _ => false
def datsB (K : PySem.W.Frag) : List PyData → List Value → Bool
  | [], [] => true
  | d :: ds, v :: vs => datB K d v && datsB K ds vs
  | _, _ => false
end
mutual
theorem datB_ok {K : PySem.W.Frag} : ∀ (d : PyData) (u : Value), datB K d u = true → ∃ v, RelV v u ∧ ∀ N H, Dn K N H v d
  | .none, u, h => by unfold datB at h; cases u <;> cases h
  | .list _, u, h => by unfold datB at h; cases u <;> cases h
  | .dict _, u, h => by unfold datB at h; cases u <;> cases h
  | .int i, u, h => by
    cases u <;> unfold datB at h <;> first | cases h | skip
    exact ⟨.int i, ⟨_, by rw [of_decide_eq_true h]⟩, fun N H => .int i⟩
  | .bool b, u, h => by
    cases u <;> unfold datB at h <;> first | cases h | skip
    exact ⟨.bl b, by rw [beq_iff_eq.mp h]; rfl, fun N H => .bl b⟩
  | .str x, u, h => by
    cases u <;> unfold datB at h <;> first | cases h | skip
    exact ⟨.str x, ⟨_, by rw [of_decide_eq_true h]⟩, fun N H => .str x⟩
  | .tuple ds, u, h => by
    cases u with
    | ref a =>
      unfold datB at h
      cases q : K.lookup a with
      | none => rw [q] at h; cases h
      | some o =>
        obtain ⟨oc, od, dt, osl⟩ := o
        rw [q] at h
        cases oc with
        | type c =>
          cases dt with
          | seq its n =>
            have h1 : (decide (c = "tuple") && (decide (its.size ≤ sizeLine) && datsB K ds its.toList)) = true := h
            rw [Bool.and_eq_true, Bool.and_eq_true] at h1
            obtain ⟨h2, h3, h4⟩ := h1
            obtain ⟨vs, h5, h6⟩ := datsB_ok ds its.toList h4
            exact ⟨.ref a, rfl, fun N H => .tup (.inr ⟨_, its, n, q, congrArg Value.type (of_decide_eq_true h2), rfl, of_decide_eq_true h3, h5⟩) (h6 N H)⟩
          | _ => cases h
        | _ => cases dt <;> cases h
    | _ => unfold datB at h; cases h
theorem datsB_ok {K : PySem.W.Frag} : ∀ (ds : List PyData) (us : List Value), datsB K ds us = true → ∃ vs, Vals vs us ∧ ∀ N H, DnAll K N H vs ds
  | [], [], _ => ⟨[], .nil, fun _ _ => .nil⟩
  | [], _ :: _, h => by unfold datsB at h; cases h
  | _ :: _, [], h => by unfold datsB at h; cases h
  | d :: ds, u :: us, h => by
    unfold datsB at h
    rw [Bool.and_eq_true] at h
    obtain ⟨v, h1, h2⟩ := datB_ok d u h.1
    obtain ⟨vs, h3, h4⟩ := datsB_ok ds us h.2
    exact ⟨v :: vs, .cons h1 h3, fun N H => .cons (h2 N H) (h4 N H)⟩
end
def kdB (K : PySem.W.Frag) (a : Addr) (m : List (Str × PyData)) : Bool := m.all fun p => match PySem.W.nsIn K a p.1 with
  | some (some u) => datB K p.2 u
  | _ => false
/-- the dict m stands at a -/
structure KdOk (K : PySem.W.Frag) (w : World) (a : Addr) (m : List (Str × PyData)) : Prop where
  get : ∀ p ∈ m, ∃ v, KDct K w a p.1 v ∧ ∀ N H, Dn K N H v p.2
  keys : He.dicW K a = some (He.keysIn w.params (m.map (·.1)))
/-! ### rules -/
section
variable {w : Bool} {c : Cn} {env : Sy} {os : List SO} {te ta tb : TE}
end
/-- sorted(d) of such a dict -/
def rSortKd (K : PySem.W.Frag) (W : World) : List V → Hp → VK → Prop := fun vs H Q => ∃ (a : Addr) (ks : List Str), vs = [V.ref a] ∧ He.dicW K a = some (He.keysIn W.params ks) ∧ ks.length ≤ 1000 ∧ ∀ p, H p = none → Q (.ref p) (upd H p (.lst ((ks.mergeSort (PySem.W.dataLe false PyData.str)).map V.str)))
theorem each_str : ∀ {l : List Value} {m : List Str}, PySem.W.EachIs (fun v x => ∃ t, v = Value.str x t) l m → Vals (m.map V.str) l
  | _, _, .nil => .nil
  | _, _, .cons r t => .cons r (each_str t)
/-! ### written dicts with lists -/
section
variable {w : Bool} {c : Cn} {env : Sy} {os : List SO} {te ta tb td ty tx : TE} {d : PyData}
def EvP2 (c : Cn) (env : Sy) (os : List SO) (trs : List (TE × TE)) (kvs : List (Key × PyData)) : Prop := ∀ ad σ H, Ok c ad env os σ H → ∀ Q : List (V × V) → Hp → Prop,
  (∀ (vs : List (Key × V)) H2, Ex H H2 → Paired (fun (x : Key × V) (y : Key × PyData) => x.1 = y.1 ∧ Dn c.K (Nof c ad os) H2 x.2 y.2) vs kvs → Q (vs.map fun kv => (kV kv.1, kv.2)) H2) → tPairs trs σ H Q
theorem ex_dget2D {α β : Type} [DecidableEq α] {ek : α → Key} {ev : β → PyData} {m : List (α × β)} {a : α} {d2 : PyData} (hi : ∀ a b, ek a = ek b → a = b) (hd : EvX w c env os td (dKd ek ev m)) (hk : EvX true c env os ty (kdat (ek a))) (hx : EvX w c env os tx d2) (hg : ((getA m a).map ev).getD d2 = d) : EvX w c env os (tDGet2 td ty tx) d := fun ad σ H ok Q q =>
  hd ad σ H ok _ fun v H1 e1 r1 => by
    obtain ⟨p, ws1, rfl, hp1, _, _⟩ := dn_dK r1
    refine ⟨p, rfl, Or.inl ⟨ws1, hp1⟩, hk ad σ H1 (ok.ext e1) _ fun y H2 e2 r2 => hx ad σ H2 ((ok.ext e1).ext e2) _ fun z H3 e3 r3 => ?_⟩
    obtain ⟨p', ws, ep, hp, _, pw⟩ := dn_dK ((r1.ext e2).ext e3)
    cases ep
    refine ⟨_, by rw [dn_key r2]; exact DGet.rk hp, ?_⟩
    rcases val_dK (F := fun v b => Dn c.K (Nw w c ad os) H3 v (ev b)) hi pw a with ⟨x, y⟩ | ⟨v, b, x, y, f⟩
    · rw [x]
      rw [y] at hg
      cases hg
      exact q z H3 ((e1.trans e2).trans e3) r3
    · rw [x]
      rw [y] at hg
      cases hg
      exact q v H3 ((e1.trans e2).trans e3) f
end
/-- list + list, read only -/
def rCatL (K : PySem.W.Frag) : R2 := fun x y H Q => ∃ (a b : Addr) (xs ys : List V), x = .ref a ∧ y = .ref b ∧ SqL K H a xs ∧ SqL K H b ys ∧ xs.length + ys.length ≤ sizeLine ∧ ∀ p, H p = none → Q (.ref p) (upd H p (.lst (xs ++ ys)))
end DL

set_option Elab.async false
set_option linter.all false
set_option maxRecDepth 100000
set_option maxHeartbeats 2000000
/-! The data layer: reversed(list), list(dict), whole numbers in a list. -/
namespace DL
open PySem PySem.Spec PyProof.Rows L2
open Evl (Ex Ex.refl Ex.trans Ex.new)
section
variable {w : Bool} {c : Cn} {env : Sy} {os : List SO} {te ta tb tl td : TE} {d : PyData}
/-! a dict of the store with whole numbers as keys -/
def addK (ns : List Int) (n : Int) : List Int := if n ∈ ns then ns else ns ++ [n]
abbrev encK (ns : List Int) : List (Key × SV) := ns.map fun n => ((.inl n : Key), SV.i (.bool true))
end
end DL
namespace DL
open PySem PySem.Spec PyProof.Rows L2
section
variable {c : Cn} {env : Sy} {os : List SO} {g : TG} {tb u : TS} {D : Ends}
end
end DL
namespace DL
open PySem PySem.Spec PyProof.Rows L2
open Evl (Ex Ex.refl Ex.trans Ex.new)
section
variable {w : Bool} {c : Cn} {env : Sy} {os : List SO} {te ta tb tl td ty tx : TE} {d : PyData}
end
end DL
namespace DL
open PySem PySem.Spec PyProof.Rows L2
open Evl (Ex Ex.refl Ex.trans Ex.new)
section
variable {w : Bool} {c : Cn} {env : Sy} {os : List SO} {te ta tb : TE}
theorem SvOk.fresh {K : PySem.W.Frag} {N : Addr → Prop} {ad : Nat → Addr} {n : Nat} {H : Hp} {v : V} {s : SV} {l : Addr} {o : HO} (hl : H l = none) (z : SvOk K N ad n H v s) : SvOk K (fun a => N a ∨ a = l) ad n (upd H l o) v s := by
  cases s with
  | i d => exact (Dn.add hl z).ext (Ex.new hl)
  | t ks => obtain ⟨b, e1, e2⟩ := z; exact ⟨b, e1, Ex.new hl _ _ e2.1, e2.2⟩
  | ob C m => exact (ObOk.add hl z).ext (Ex.new hl)
  | z m => exact (ZOk.add hl z).ext (Ex.new hl)
  | r k => exact z
end
end DL
namespace DL
open PySem PySem.Spec PyProof.Rows L2
open Evl (Ex Ex.refl Ex.trans Ex.new)
end DL
namespace DL
open PySem PySem.Spec PyProof.Rows L2
open Evl (Ex Ex.refl Ex.trans Ex.new)
end DL

set_option Elab.async false
set_option linter.all false
set_option maxRecDepth 100000
set_option maxHeartbeats 2000000
/-! The data layer: == of dicts of data, max of three. -/
namespace DL
open PySem PySem.Spec PyProof.Rows L2
open Evl (Ex Ex.refl Ex.trans Ex.new)
/-- a datum that is equal to itself, place by place -/
structure Same1 (d : PyData) : Prop where
  al : PySem.W.alike d d = true
  eq : PyData.eqv d d = true
  dep : d.depth ≤ 8
def rNeDi (K : PySem.W.Frag) : R2 := fun x y H Q => ∃ a b ks ls, x = .ref a ∧ y = .ref b ∧ Rd H a (.dK ks) ∧ Rd H b (.dK ls) ∧ ks.length = ls.length ∧ (∀ p ∈ ks, ∃ v d, valV ls p.1 = some v ∧ Dp K H p.2 d ∧ Dp K H v d ∧ Same1 d) ∧ Q (.bl false) H
section
variable {X : Cx}
end
section
variable {α β : Type} [DecidableEq α] {w : Bool} {c : Cn} {env : Sy} {os : List SO} {ta tb tc : TE} {ek : α → Key} {ev : β → PyData} {m : List (α × β)}
theorem getA_nodup {m : List (α × β)} (h : (m.map (·.1)).Nodup) {p : α × β} (hp : p ∈ m) : getA m p.1 = some p.2 := by
  induction m with
  | nil => cases hp
  | cons q m ih =>
    rw [getA_cons]
    rw [List.map_cons, List.nodup_cons] at h
    rcases List.mem_cons.mp hp with z | z
    · rw [z, if_pos rfl]
    · rw [if_neg (fun e => h.1 (by rw [e]; exact List.mem_map.mpr ⟨p, z, rfl⟩))]
      exact ih h.2 z
theorem ex_max3 {r : List V → Hp → VK → Prop} {i j k : Int} (hr : r = rNuC3 nuMax3) (ha : EvX true c env os ta (.int i)) (hb : EvX true c env os tb (.int j)) (hc : EvX true c env os tc (.int k)) : EvX w c env os (tCB r (tCons ta (tCons tb (tCons tc tNil)))) (.int (max (max i j) k)) := fun ad σ H ok Q q => by
  subst hr
  refine ha ad σ H ok _ fun v H1 e1 r1 => hb ad σ H1 (ok.ext e1) _ fun u H2 e2 r2 => hc ad σ H2 ((ok.ext e1).ext e2) _ fun z H3 e3 r3 => ?_
  cases dn_int r1
  cases dn_int r2
  cases dn_int r3
  refine ⟨.int i, .int j, .int k, .int (max (max i j) k), rfl, ?_, q _ H3 ((e1.trans e2).trans e3) (.int _)⟩
  have h2 : ∀ x y : Int, nuMax2 (.int x) (.int y) = some (.int (max x y)) := fun x y => by
    show (some (if decide (x < y) = true then V.int y else V.int x)) = _
    by_cases h : x < y
    · rw [if_pos (decide_eq_true h), Int.max_eq_right (by omega)]
    · rw [if_neg (by rw [decide_eq_false h]; decide), Int.max_eq_left (by omega)]
  show (nuMax2 (.int i) (.int j)).bind (fun m => nuMax2 m (.int k)) = _
  rw [h2]
  exact h2 _ _
end
end DL
namespace DL
open PySem PySem.Spec PyProof.Rows L2
end DL

set_option Elab.async false
set_option linter.all false
set_option maxRecDepth 100000
set_option maxHeartbeats 2000000
/-! The data layer: a list of new lists; a list within a list becomes data. -/
namespace DL
open PySem L2
open Evl (Ex Ex.refl Ex.trans Ex.new)
theorem Ok.free0 {c : Cn} {ad : Nat → Addr} {env : Sy} {os : List SO} {σ : L2.St} {H : Hp} (ok : Ok c ad env os σ H) {p : Addr} (hp : H p = none) : c.H0 p = none ∨ c.M p := by
  by_cases hm : c.M p
  · exact Or.inr hm
  · refine Or.inl ?_
    cases hz : c.H0 p with
    | none => rfl
    | some o => rw [ok.ex p o hz hm] at hp; cases hp
/-- gives the object k of the store, which has grown to os' -/
def EvG (c : Cn) (env : Sy) (os : List SO) (te : TE) (k : Nat) (os' : List SO) : Prop := k < os'.length ∧ ∀ ad σ H, Ok c ad env os σ H → ∀ Q : VK, (∀ ad' H2, Ok c ad' env os' σ H2 → Q (.ref (ad' k)) H2) → te σ H Q
section
variable {c : Cn} {env env' : Sy} {os os' : List SO} {g : TG} {tt : TT} {te : TE} {u : TS} {D : Ends}
theorem gs_asgG {i k : Nat} (h : EvG c env os te k os') (kk : Go c (env.set i (some (.r k))) os' u D) : Go c env os (tSeq (tAsg te (gName i)) u) D := fun ad σ H ok =>
  h.2 ad σ H ok _ fun ad' H2 ok2 => kk ad' _ H2 (ok2.set ⟨rfl, h.1⟩)
def refL (n i : Nat) : List SV := (List.range i).map fun j => SV.r (n + 1 + j)
end
section
variable {c : Cn} {env env' : Sy} {os os' : List SO} {u : TS} {D : Ends}
end
end DL
namespace DL
open PySem L2
open Evl (Ex Ex.refl Ex.trans Ex.new)
/-! ### a dict comprehension -/
def dcM {α A B : Type} [DecidableEq A] (fk : α → A) (fv : α → B) (xs : List α) : List (A × B) := xs.foldl (fun m x => setA m (fk x) (fv x)) []
theorem dcM_snoc {α A B : Type} [DecidableEq A] (fk : α → A) (fv : α → B) (xs : List α) (x : α) : dcM fk fv (xs ++ [x]) = setA (dcM fk fv xs) (fk x) (fv x) := by unfold dcM; rw [List.foldl_append]; rfl
theorem dcM_len {α A B : Type} [DecidableEq A] (fk : α → A) (fv : α → B) : ∀ xs : List α, (dcM fk fv xs).length ≤ xs.length := by
  have go : ∀ (xs : List α) (m : List (A × B)), (xs.foldl (fun m x => setA m (fk x) (fv x)) m).length ≤ m.length + xs.length := by
    intro xs
    induction xs with
    | nil => intro m; exact Nat.le_refl _
    | cons x xs ih =>
      intro m
      have h1 := ih (setA m (fk x) (fv x))
      have h2 := setA_len m (fk x) (fv x)
      rw [List.foldl_cons, List.length_cons]
      omega
  intro xs
  simpa [dcM] using go xs []
section
variable {c : Cn} {env env' : Sy} {os os' : List SO} {g : TG} {tt : TT} {tk tv : TE} {u : TS} {D : Ends}
theorem ef_dc {α A B : Type} [DecidableEq A] {ek : A → Key} {ev : B → PyData} (inj : ∀ a b, ek a = ek b → a = b) {wi : TI} {n : Nat} {it : Nat → SV} {G : List SO → Prop} {xs : List α} {e : α → SV} {vs : List Nat} (fk : α → A) (fv : α → B) (hw : EvW c env os wi n it G) (hn : n = xs.length) (hit : ∀ i x, xs[i]? = some x → it i = e x)
    (hG : ∀ o, G (os ++ [o])) (hz : xs.length ≤ 40000)
    (hs : ∀ fr lo, Up c (c.w fr lo) → ∀ acc x, x ∈ xs → ∃ env' js, (∀ j ∈ js, j ∈ vs) ∧ Tg (c.w fr lo) (wipeE env vs) (os ++ [.dK acc]) g (e x) env' js ∧ EvT (c.w fr lo) env' (os ++ [.dK acc]) tt true ∧ EvX true (c.w fr lo) env' (os ++ [.dK acc]) tk (kdat (ek (fk x))) ∧ EvX false (c.w fr lo) env' (os ++ [.dK acc]) tv (ev (fv x))) :
    EvF c env os (tDc wi g tt tk tv vs) (.dK ((dcM fk fv xs).map fun p => (ek p.1, SV.i (ev p.2)))) := fun ad σ H ok Q q => by
  subst hn
  refine hw ad σ H ok _ fun J H1 fr e1 ok1 up W D hD => ?_
  have ok2 := ok1.new (o := .dK []) hD (Ex.new (o := .dK []) hD) (ok1.free0 hD) ⟨[], upd_same, .nil⟩
  have ok3 := ok2.pin (v := .ref D) (s := .r os.length) ⟨congrArg V.ref adN_same.symm, by simp⟩
  have ok4 := ok3.wipe vs
  have up2 := up_pin (v := .ref D) (s := .r os.length) ok2
  generalize hlo : (os ++ [SO.dK []]).length = lo at ok4 up2
  generalize hfr : ((V.ref D, SV.r os.length) :: fr) = fr' at ok4 up2
  have upc : Up c (c.w fr' lo) := fun a b d e f z => up _ _ _ _ _ (up2 _ _ _ _ _ z)
  let acc : Nat → List (Key × SV) := fun i => (dcM fk fv (xs.take i)).map fun p => (ek p.1, SV.i (ev p.2))
  have hacc : ∀ i, (acc i).length ≤ i := fun i => by
    show ((dcM fk fv (xs.take i)).map _).length ≤ i
    rw [List.length_map]
    have h1 := dcM_len fk fv (xs.take i)
    rw [List.length_take] at h1
    omega
  refine ⟨fun i m H => m = xs.length - i ∧ i ≤ xs.length ∧ Ok (c.w fr' lo) (adN ad os.length D) (wipeE env vs) (os ++ [.dK (acc i)]) (wipe σ vs) H ∧ Ex H1 H, ⟨xs.length, by simp, Nat.zero_le _, ok4, Ex.new hD⟩, ?_⟩
  rintro i m H' ⟨rfl, hi, ok', ex1⟩
  have hget : (os ++ [SO.dK (acc i)])[os.length]? = some (.dK (acc i)) := by simp
  by_cases hlt : i < xs.length
  · have e0 : xs[i]? = some xs[i] := List.getElem?_eq_getElem hlt
    have et : xs.take (i + 1) = xs.take i ++ [xs[i]] := by rw [List.take_succ, e0]; rfl
    refine .inr ⟨W.goes i _ _ _ _ _ hlt (up2 _ _ _ _ _ ok') (hG _), fun H'' => Ok (c.w fr' lo) (adN ad os.length D) (wipeE env vs) (os ++ [.dK (acc (i + 1))]) (wipe σ vs) H'' ∧ Ex H1 H'', fun H'' p' => ⟨xs.length - (i + 1), by omega, rfl, hlt, p'.1, p'.2⟩, fun x H'' y => ?_⟩
    obtain ⟨e2, r⟩ := W.yields i _ _ _ _ _ x H'' hlt (up2 _ _ _ _ _ ok') (hG _) y
    rw [hit i xs[i] e0] at r
    have ok5 := ok'.ext e2
    obtain ⟨env', js, hjs, ht, hb, hek, hev⟩ := hs fr' lo upc (acc i) xs[i] (List.getElem_mem hlt)
    refine ht _ _ H'' x ok5 r _ fun σ2 ok6 hwp => ⟨?_, hb _ σ2 H'' ok6 _ fun H3 e3 => ?_⟩
    · rw [hwp vs hjs]
      have idem : ∀ (us : List Nat) (τ : L2.St), (∀ j ∈ us, τ[j]? = some none ∨ τ[j]? = none) → wipe τ us = τ := by
        intro us
        induction us with
        | nil => intro τ _; rfl
        | cons u us ih =>
          intro τ h
          show (wipe τ us).set u none = τ
          rw [ih τ fun j hj => h j (List.mem_cons_of_mem _ hj)]
          rcases h u (List.mem_cons_self ..) with z | z
          · obtain ⟨h1, h2⟩ := List.getElem?_eq_some_iff.mp z
            exact List.ext_getElem? fun k => by
              by_cases q : u = k
              · subst q; rw [List.getElem?_set_self h1, z]
              · rw [List.getElem?_set_ne q]
          · exact List.set_eq_of_length_le (List.getElem?_eq_none_iff.mp z)
      refine idem vs _ fun j hj => ?_
      cases hx : (wipe σ vs)[j]? with
      | none => exact Or.inr rfl
      | some o =>
        cases o with
        | none => exact Or.inl rfl
        | some v => exact absurd hj (wipe_some hx).2
    · rw [if_pos rfl]
      refine hek _ σ2 H3 (ok6.ext e3) _ fun yk H4 e4 rk => hev _ σ2 H4 ((ok6.ext e3).ext e4) _ fun y H5 e5 ry => ?_
      have ok7 := ((ok5.ext e3).ext e4).ext e5
      obtain ⟨_, ws, hws, pws⟩ := ok7.obj os.length _ hget rfl
      rw [adN_same] at hws
      have ea : acc (i + 1) = setA (acc i) (ek (fk xs[i])) (SV.i (ev (fv xs[i]))) := by
        show (dcM fk fv (xs.take (i + 1))).map _ = _
        rw [et, dcM_snoc]
        exact (setA_enc (ev := fun b : B => SV.i (ev b)) inj _ _ _).symm
      refine ⟨ws, ek (fk xs[i]), dn_key rk, hws, ?_, ?_⟩
      · rw [Paired.length pws]
        exact Nat.lt_of_le_of_lt (hacc i) (Nat.lt_of_lt_of_le (show i < 40000 by omega) (by decide))
      · have hN : Nof (c.w fr' lo) (adN ad os.length D) (os ++ [SO.dK (acc i)]) D := Or.inr ⟨os.length, ⟨_, hget, rfl⟩, adN_same.symm⟩
        rw [Nw_false] at ry
        have m := ok7.mut (o' := .dK (acc (i + 1))) (u' := .dK (putK ws (ek (fk xs[i])) y)) hget rfl rfl (by
          rw [adN_same]
          refine ⟨_, upd_same, ?_⟩
          rw [ea]
          exact put_set (Paired.imp pws fun _ _ z => ⟨z.1, z.2.mut hws rfl hN⟩) (show SvOk _ _ _ _ _ _ (SV.i _) from Dn.mut hws rfl hN ry))
        rw [adN_same] at m
        have es : (os ++ [SO.dK (acc i)]).set os.length (SO.dK (acc (i + 1))) = os ++ [SO.dK (acc (i + 1))] := by
          rw [List.set_append_right _ _ (Nat.le_refl _), Nat.sub_self]
          rfl
        rw [es] at m
        refine ⟨m, fun a o h => ?_⟩
        rw [upd_ne (ne_of_none h hD)]
        exact (((ex1.trans e2).trans e3).trans e4).trans e5 a o h
  · have q0 : i = xs.length := by omega
    subst q0
    have ea : acc xs.length = (dcM fk fv xs).map fun p => (ek p.1, SV.i (ev p.2)) := by
      show (dcM fk fv (xs.take xs.length)).map _ = _
      rw [List.take_length]
    refine .inl ⟨W.stops _ _ _ _ _ (up2 _ _ _ _ _ ok') (hG _), ?_⟩
    obtain ⟨_, ws, hws, pws⟩ := ok'.obj os.length _ hget rfl
    rw [adN_same] at hws
    refine q D H' (e1.free hD) (e1.trans ex1) ⟨ws, hws, ?_⟩
    have hget2 := hget
    rw [ea] at pws hget2
    refine pairKi (Paired.imp (pairK pws) fun x y z => ⟨z.1, z.2.sub fun a z => ?_⟩)
    rcases z with z | z
    · rcases z with z | ⟨k, ⟨o, h1, h2⟩, z⟩
      · exact Or.inl z
      · have hk : k < os.length := (List.getElem?_eq_some_iff.mp h1).1
        exact Or.inr ⟨k, ⟨o, by rw [List.getElem?_append_left hk]; exact h1, h2⟩, by rw [adN_ne (by omega)]; exact z⟩
    · exact Or.inr ⟨os.length, ⟨_, hget2, rfl⟩, by rw [adN_same]; exact z⟩
end
end DL
namespace L2
open PySem PySem.Spec PyProof.Rows
section
variable {X : Cx} {o lo hi : Expr} {to tl th : TE} {p2 pos : Pos}
/-- xs[i:j] = ys -/
def gSl (to tl th : TE) : TG := fun v σ H Q => to σ H fun o H1 => tl σ H1 fun a H2 => th σ H2 fun c H3 => ∃ (l b : Addr) (xs ys : List V) (i j : Int), o = .ref l ∧ v = .ref b ∧ a = .int i ∧ c = .int j ∧ H3 l = some (.lst xs) ∧ H3 b = some (.lst ys) ∧ l ≠ b ∧ 0 ≤ i ∧ i ≤ j ∧ j ≤ xs.length ∧ xs.length + ys.length ≤ sizeLine ∧
  Q σ (upd H3 l (.lst (xs.take i.toNat ++ ys ++ xs.drop j.toNat)))
end
end L2
namespace DL
open PySem L2
open Evl (Ex Ex.refl Ex.trans Ex.new)
section
variable {c : Cn} {env env' : Sy} {os os' : List SO} {te tl ta tb : TE} {u : TS} {D : Ends}
end
end DL

set_option Elab.async false
set_option linter.all false
set_option maxRecDepth 100000
set_option maxHeartbeats 2000000
/-! enumerate(zip(a, b)) over two lists. -/
namespace EZ
open PySem PySem.Spec PyProof.Rows L2
section
variable {prog : Program} {w : World} {A : Around} {E : Value → Shared → Prop} {s : Shared}
/-- what the next item of a zip leaves behind -/
def ZOut (h h' : Heap) (z TI TO i1 i2 l1 l2 : Addr) (k1 k2 : Nat) (x y : Value) : Prop :=
  (∃ T f, IsZipHeld h' z TI TO T f) ∧ (∃ a b, IsPair h' TO a b) ∧ h'.IsListIter i1 l1 (k1 + 1) ∧ h'.IsListIter i2 l2 (k2 + 1) ∧ IsPair h' h.objs.size x y ∧ h'.objs.size = h.objs.size + 1 ∧
    ∀ c o, c ≠ z → c ≠ TO → c ≠ i1 → c ≠ i2 → h.get? c = some o → h'.get? c = some o
/-- a zip in any state between its items -/
def ZSt (h : Heap) (z TI TO : Addr) : Prop := IsZip h z TI TO .none ∨ ∃ T f, IsZipHeld h z TI TO T f
end
end EZ
namespace L2
open PySem PySem.Spec PyProof.Rows EZ
/-- the lists at a and b as they stand at each turn: a new pair of the number and a new pair of the items -/
def Itez (K : PySem.W.Frag) (a b : Addr) : It :=
  ⟨fun i H => ∃ (xs ys : List V) (x y : V), SqL K H a xs ∧ SqL K H b ys ∧ xs[i]? = some x ∧ ys[i]? = some y,
    fun i H v H' => ∃ (T T2 : Addr) (x y : V), v = .ref T ∧ H T2 = none ∧ upd H T2 (.tup [x, y]) T = none ∧ H' = upd (upd H T2 (.tup [x, y])) T (.tup [.int (i : Nat), .ref T2]) ∧ (∀ xs, SqL K H a xs → xs[i]? = some x) ∧ ∀ ys, SqL K H b ys → ys[i]? = some y,
    fun i H => ∃ xs ys : List V, SqL K H a xs ∧ SqL K H b ys ∧ (xs.length ≤ i ∨ ys.length ≤ i)⟩
def EzSt (e z TI TO i1 i2 a b : Addr) (i : Nat) (h : Heap) : Prop :=
  (∃ old, IsEnum h e z ((i : Nat) : Int) old) ∧ ZSt h z TI TO ∧ IsPair h TI (.ref i1) (.ref i2) ∧ (∃ x y, IsPair h TO x y) ∧ h.IsListIter i1 a i ∧ h.IsListIter i2 b i
end L2
namespace L2
open PySem PySem.Spec PyProof.Rows EZ
def iEZ (K : PySem.W.Frag) (ta : TA) : TI := fun σ H R => ta σ H fun vs H1 => ∃ a b xs ys, vs = [.ref a, .ref b] ∧ SqL K H1 a xs ∧ SqL K H1 b ys ∧ R (Itez K a b) H1
end L2
namespace DL
open PySem PySem.Spec PyProof.Rows L2
open Evl (Ex Ex.refl Ex.trans Ex.new)
end DL
namespace L2
open PySem PySem.Spec PyProof.Rows
section
variable {X : Cx}
theorem ps_setDc {i : Nat} {y : Str} {py : Pos} {kx vx tg iter : Expr} {ifs : List Expr} {scope : Scope} {own : List (Str × Nat)} {pos spos : Pos} {wi : TI} {g : TG} {tt : TT} {tk tv : TE} (hc : X.calm = true) (hN : X.N.Nodup) (hy : X.N[i]? = some y) (hyl : X.env.scope.names.lookup y = some .local)
    (hsw : swapsWith (.DictComp kx vx [⟨tg, iter, ifs, 0⟩] scope pos) (some (.Name y py)) spos.line X.env = pure true) (hi : PI X tg iter wi) (ok : BlkOk X.N X.env.scope scope own)
    (hg : ∀ (s : Shared) (H : Hp) (C : Addr) (cl : List (Str × Addr)) (fp : List Addr), PG (X.blk s H scope (compEnvC scope cl C X.env) fp) tg g) (ht : ∀ (s : Shared) (H : Hp) (C : Addr) (cl : List (Str × Addr)) (fp : List Addr), PTs (X.blk s H scope (compEnvC scope cl C X.env) fp) ifs tt)
    (hk : ∀ (s : Shared) (H : Hp) (C : Addr) (cl : List (Str × Addr)) (fp : List Addr), PE (X.blk s H scope (compEnvC scope cl C X.env) fp) kx tk)
    (he : ∀ (s : Shared) (H : Hp) (C : Addr) (cl : List (Str × Addr)) (fp : List Addr), PE (X.blk s H scope (compEnvC scope cl C X.env) fp) vx tv) (hs : ∀ x, foldedSetIterable iter X.env x = pure x := by intro _; rfl) :
    PS X (.Assign [.Name y py] (.DictComp kx vx [⟨tg, iter, ifs, 0⟩] scope pos) spos) (tAsg (tDc wi g tt tk tv (own.map (·.2))) (gName i)) := by
  refine ⟨fun pins s σ H D I h => ?_⟩
  rw [exec_Assign_Name_used _ _ _ _ hsw]
  refine wpAny_bind (wpAny_standAt (wpAny_bind ?_))
  show wpAny _ X.A (do let _ ← comprehension (.DictComp kx vx [⟨tg, iter, ifs, 0⟩] scope pos) scope X.env (firstIterPos [⟨tg, iter, ifs, 0⟩] pos) newDict false (eval iter X.env) (some (assign (.Name y py) X.env))) _ _ s
  have h : tDc wi g tt tk tv (own.map (·.2)) σ H (fun x H1 => gName i x σ H1 D.nx) := h
  refine wpAny_bind (thn (dc_core (Qf := fun _ s' => SP X pins D .next s') hc hN I hi ok hg ht hk he hs h fun L C s' m H' I' q hn f => ?_) fun _ s' hq => wpAny_pure (wpAny_pure hq))
  show wpAny _ _ (assign (.Name y py) X.env (.ref L)) _ _ _
  refine wpAny_assign_Name (store_ok2 (v := V.ref L) I' hN hy (.inl hyl) rfl (fun s2 I2 ⟨a, sb, ha⟩ => ?_) (.inr hyl))
  obtain ⟨f0, f1, f2, f3, f4, f5⟩ := f
  have haC : C ≠ a := by
    rcases ha with z | z
    · rw [z]; exact f1
    · exact fun e => f4 y a z e.symm
  refine ⟨m, hn.sameBut sb haC, fun h3 sb3 => ?_⟩
  exact ⟨_, H', I2.turned (t' := s2.toks) (fun b o hb e => (sb3.2 b hb).trans e) f0 f1 f3 f4 f5, q⟩
theorem sw_trueD {kx vx : Expr} {gs : List Comprehension} {scope : Scope} {pos py : Pos} {y : Str} {l : Nat} {env : Env} (hk : env.scope.kind = .function) (hy : env.scope.names.lookup y = some .local) (hl : (py.line == pos.line) = true)
    (ha : (scope.names.any fun (n, k) => n == y && (k == .local || k == .cell)) = false) : swapsWith (.DictComp kx vx gs scope pos) (some (.Name y py)) l env = pure true := by
  have ky : env.kindOf y = some .local := hy
  have hb : env.blockKind = .function := by unfold Env.blockKind; rw [hk]; rfl
  unfold swapsWith
  simp only [hb, ky, ha, Expr.pos, hl]
  rfl
end
end L2

set_option Elab.async false
set_option linter.all false
set_option maxRecDepth 100000
set_option maxHeartbeats 2000000
/-! The data layer: instances of the program's classes. -/
namespace DL
open PySem PySem.Spec PyProof.Rows L2
open Evl (Ex Ex.refl Ex.trans Ex.new)
/-! ### reading -/
theorem paired_lookup {F : V → PyData → Prop} {f : Str} : ∀ {fs : List (Str × V)} {m : List (Str × PyData)}, Paired (fun (p : Str × V) (q : Str × PyData) => p.1 = q.1 ∧ F p.2 q.2) fs m → (fs.lookup f = none ∧ m.lookup f = none) ∨ ∃ v d, fs.lookup f = some v ∧ m.lookup f = some d ∧ F v d
  | _, _, .nil => Or.inl ⟨rfl, rfl⟩
  | (x, v) :: fs, (y, d) :: m, .cons r t => by
    obtain ⟨e, r⟩ := r
    have e : x = y := e
    subst e
    by_cases h : (f == x) = true
    · exact Or.inr ⟨v, d, by simp [List.lookup, h], by simp [List.lookup, h], r⟩
    · rw [Bool.not_eq_true] at h
      rcases paired_lookup (f := f) t with ⟨a, b⟩ | ⟨v', d', a, b, c⟩
      · exact Or.inl ⟨by simp [List.lookup, h, a], by simp [List.lookup, h, b]⟩
      · exact Or.inr ⟨v', d', by simp [List.lookup, h, a], by simp [List.lookup, h, b], c⟩
section
variable {w : Bool} {c : Cn} {env env' : Sy} {os os' : List SO} {te ta : TE} {t tk : TA} {d : PyData} {C : Addr} {m : List (Str × PyData)} {u : TS} {D : Ends}
/-! ### methods that read -/
def spSD (K : PySem.W.Frag) (C : Addr) (R : List (Str × PyData) → List PyData → PyData → Prop) : Sp := fun vs H Q _ => ∃ (N : Addr → Prop) (v : V) (rest : List V) (m : List (Str × PyData)) (ds : List PyData) (d : PyData), vs = v :: rest ∧ (∀ a, N a → H a ≠ none) ∧ ObOk K N H v C m ∧ DnAll K N H rest ds ∧ R m ds d ∧ ∀ v H', Ex H H' → Dn K N H' v d → Q v H'
def spSF (K : PySem.W.Frag) (C : Addr) (R : List (Str × PyData) → List PyData → List PyData → Prop) : Sp := fun vs H Q _ => ∃ (N : Addr → Prop) (v : V) (rest : List V) (m : List (Str × PyData)) (ds rs : List PyData), vs = v :: rest ∧ (∀ a, N a → H a ≠ none) ∧ ObOk K N H v C m ∧ DnAll K N H rest ds ∧ R m ds rs ∧
  ∀ p H' ws, H p = none → Ex H H' → H' p = some (.lst ws) → DnAll K (fun a => N a ∨ a = p) H' ws rs → Q (.ref p) H'
theorem ob_lookup {K : PySem.W.Frag} {N : Addr → Prop} {H : Hp} {v : V} {x : Str} (hx : m.lookup x = none) (h : ObOk K N H v C m) : ∃ a dx fs, v = .ref a ∧ H a = some (.ins C dx fs) ∧ fs.lookup x = none := by
  obtain ⟨a, dx, fs, rfl, h1, h2, h3⟩ := h
  refine ⟨a, dx, fs, rfl, h1, ?_⟩
  rcases paired_lookup (f := x) h3 with ⟨z, _⟩ | ⟨_, _, _, z, _⟩
  · exact z
  · rw [hx] at z; cases z
/-! ### the start of a method's body -/
def envS (n : Nat) (ss : List SV) : Sy := ss.map some ++ List.replicate (n - ss.length) none
end
end DL
namespace DL
open PySem PySem.Spec PyProof.Rows L2
open Evl (Ex Ex.refl Ex.trans Ex.new)
/-! ### methods and constructors as promises -/
def MetP (P : Program) (w : World) (K : PySem.W.Frag) (mg : Str → Option Value) (base : Heap) (k : Nat) (C : Addr) (m : Str) (ps : List Str) (sp : Sp) : Prop :=
  ∃ f fd, Cls K C ∧ Meth K C m f ∧ FnOk P w K mg base CX0 k f fd ps sp ∧ Binds K fd ps []
def MakP (P : Program) (w : World) (K : PySem.W.Frag) (mg : Str → Option Value) (base : Heap) (k : Nat) (x : Str) (C : Addr) (ps : List Str) (sp : Sp) (fs : List CForm) : Prop :=
  ∃ f fd, Mk K C f ∧ FnOk P w K mg base CX0 k f fd ps sp ∧ (∀ F ∈ fs, FormOk K fd ps F) ∧ mg x = some (.ref C)
abbrev FnM (K : PySem.W.Frag) (x qual : Str) (st : Stmt) (kws : List (Str × V)) (f : Addr) (fd : FuncData) : Prop := FunD K x qual (defArgs st) (defBody st) (defScope st) [] kws f fd
section
variable {P : Program} {w : World} {K : PySem.W.Frag} {mg : Str → Option Value} {base : Heap}
theorem met_mk {x qual : Str} {st : Stmt} {f : Addr} {fd : FuncData} {N ps : List Str} {k : Nat} {sp : Sp} {C : Addr} (F : FnM K x qual st [] f fd) (S : FnScope N ps (defScope st)) (c : Cls K C) (me : Meth K C x f) (len : ∀ vs H Q E, sp vs H Q E → vs.length = ps.length)
    (hb : ∀ (kV doc pm : Value) (an : Option Addr) (cdv ct : Value) (us : List Value), us.length = ps.length → bindArgs (PySem.W.fnOf x qual (defArgs st) (defBody st) (defScope st) .none kV doc pm an cdv ct) ⟨us, []⟩ = pure (ps.zip us))
    (hbody : ∀ (cdv : Value) (A : Around) (outer : List Env) (s : Shared) (H : Hp) (vs : List V) (Q : VK) (E : XK), Room k (A.deeper (envOfC qual (defScope st) s.heap.objs.size f cdv)) → sp vs H Q E →
      ∃ t, PSs (cxOf CX0 P w K mg base N qual (defScope st) f cdv A outer s H E).nox (defBody st) t ∧ t (De Q) (L2.start N vs) H) : MetP P w K mg base (k + 1) C x ps sp :=
  ⟨f, fd, c, me, F.ok S len fun cdv A outer s H vs Q E hr h => let ⟨t, a, b⟩ := hbody cdv A outer s H vs Q E hr h; ⟨t, a.nox, b⟩, F.bindsN hb⟩
end
section
variable {X : Cx} {k j : Nat} {ps : List Str} {sp : Sp} {x m : Str} {p pos apos : Pos} {e o : Expr} {es : List Expr} {t tk : TA} {ta : TE} {C : Addr} {kws : List Keyword} {fs : List CForm} {n : Nat} {ks : List Str} {ms : List (Str × V)}
theorem pe_metP {pl : Sem Bool} (h : MetP X.prog X.w X.K X.mg X.base k C m ps sp) (hr : Room j X.A) (hj : k ≤ j) (hx : Passes CX0 X E0) (he : PE X o ta) (ha : PA X (e :: es) t)
    (hst : starEach (e :: es) X.env = (false, eval e X.env) :: starEach es X.env := by rfl) (hpl : (backTo pos (starEach es X.env)).any (·.1) = false := by rfl)
    (ht : eval (.Call (.Attribute o m apos) (e :: es) [] pos) X.env = (do
      let ov ← eval o X.env
      standAt apos.atName
      let (f, first) ← holding [ov] (getMethod ov m pl)
      callWith pos f first (backTo pos (starEach (e :: es) X.env)) (backToKw pos (keywordEach [] X.env))) := by rfl) :
    PE X (.Call (.Attribute o m apos) (e :: es) [] pos) (tMeth C m sp [] E0 ta t) := by
  obtain ⟨f, fd, c, me, G, b⟩ := h
  exact pe_meth (pl := pl) he c me G (hr.mono hj) b .nil hx ha hst hpl ht
theorem pe_metP0 {pl : Sem Bool} (h : MetP X.prog X.w X.K X.mg X.base k C m ps sp) (hr : Room j X.A) (hj : k ≤ j) (hx : Passes CX0 X E0) (he : PE X o ta)
    (ht : eval (.Call (.Attribute o m apos) [] [] pos) X.env = (do
      let ov ← eval o X.env
      standAt apos.atName
      let (f, first) ← holding [ov] (getMethod ov m pl)
      callWith pos f first (backTo pos (starEach [] X.env)) (backToKw pos (keywordEach [] X.env))) := by rfl) :
    PE X (.Call (.Attribute o m apos) [] [] pos) (tMeth C m sp [] E0 ta tNil) := by
  obtain ⟨f, fd, c, me, G, b⟩ := h
  exact pe_meth0 (pl := pl) he c me G (hr.mono hj) b .nil hx ht
end
/-! ### making -/
def spO (K : PySem.W.Frag) (C : Addr) (R : List PyData → List (Str × PyData) → Prop) : Sp := fun vs H Q _ => ∃ (N : Addr → Prop) (x dx : Addr) (rest : List V) (ds : List PyData) (m : List (Str × PyData)), vs = .ref x :: rest ∧ H x = some (.ins C dx []) ∧ (∀ a, N a → H a ≠ none) ∧ ¬ N x ∧ DnAll K (fun a => N a ∨ a = x) H rest ds ∧ R ds m ∧
  ∀ H', (∀ a o, H a = some o → a ≠ x → H' a = some o) → ObOk K N H' (.ref x) C m → Q .non H'
section
variable {w : Bool} {c : Cn} {env env' : Sy} {os os' : List SO} {te ta tv to : TE} {t tk : TA} {d : PyData} {C : Addr} {m : List (Str × PyData)} {u : TS} {D : Ends}
/-! ### the body of __init__ -/
def putS (f : Str) (v : SV) : List (Str × SV) → List (Str × SV)
  | [] => [(f, v)]
  | (g, x) :: r => if g = f then (g, v) :: r else (g, x) :: putS f v r
theorem paired_put {F : V → SV → Prop} {f : Str} {v : V} {s : SV} (hv : F v s) : ∀ {fs : List (Str × V)} {m : List (Str × SV)}, Paired (fun (p : Str × V) (q : Str × SV) => p.1 = q.1 ∧ F p.2 q.2) fs m → Paired (fun (p : Str × V) (q : Str × SV) => p.1 = q.1 ∧ F p.2 q.2) (putF f v fs) (putS f s m)
  | _, _, .nil => .cons ⟨rfl, hv⟩ .nil
  | (x, a) :: fs, (y, b) :: m, .cons r t => by
    obtain ⟨e, r⟩ := r
    have e : x = y := e
    subst e
    unfold putF putS
    by_cases h : x = f
    · rw [if_pos h, if_pos h]; exact .cons ⟨rfl, hv⟩ t
    · rw [if_neg h, if_neg h]; exact .cons ⟨rfl, r⟩ (paired_put hv t)
theorem gs_setFld {k : Nat} {f : Str} {fs : List (Str × SV)} {s : SV} (h : EvS c env os tv s) (hl : EvR c env os to k) (hk : os[k]? = some (.ob C fs)) (kc : Cls c.K C) (kn : NoAttr c.K C f) (hz : fs.length < 1000) (g : Go c env (os.set k (.ob C (putS f s fs))) u D) : Go c env os (tSeq (sFld c.K to tv f) u) D := fun ad σ H ok =>
  h.run ok fun v H1 e1 r => hl.2 ad σ H1 (ok.ext e1) _ fun H2 e2 => by
    have ok2 := (ok.ext e1).ext e2
    obtain ⟨_, dx, vs, hvs, pv⟩ := ok2.obj k _ hk rfl
    have hN : Nof c ad os (ad k) := Or.inr ⟨k, ⟨_, hk, rfl⟩, rfl⟩
    refine ⟨ad k, C, dx, vs, rfl, hvs, kc, kn, by rw [Paired.length pv]; exact hz, g ad σ _ (ok2.mut hk rfl rfl ⟨dx, _, upd_same, ?_⟩)⟩
    exact paired_put ((r.ext e2).mut hvs rfl hN) (Paired.imp pv fun _ _ z => ⟨z.1, z.2.mut hvs rfl hN⟩)
def RetO (x : Addr) (C : Addr) (m : List (Str × PyData)) (c : Cn) (D : Ends) : Prop := ∀ ad env os σ H2, Ok c ad env os σ H2 → os[0]? = some (.ob C (m.map fun p => (p.1, SV.i p.2))) → D.nx σ H2
end
end DL
namespace DL
open PySem PySem.Spec PyProof.Rows L2
theorem kFld {X : Cx} {K : PySem.W.Frag} {o : Expr} {f : Str} {pos : Pos} {ta : TE} (ha : PE X o ta) (hb : attributeBase o f X.env (eval o X.env) = eval o X.env := by rfl) (hk : X.K = K := by rfl) : PE X (.Attribute o f pos) (tFld K ta f) := by subst hk; exact pe_fld ha hb
theorem kSetFld {X : Cx} {K : PySem.W.Frag} {o value : Expr} {f : Str} {pos pos' : Pos} {ta tv : TE} (ha : PE X o ta) (hv : PE X value tv) (hs : swapsWith value (some (.Attribute o f pos')) pos.line X.env = pure false := by rfl) (hk : X.K = K := by rfl) : PS X (.Assign [.Attribute o f pos'] value pos) (sFld K ta tv f) := by subst hk; exact ps_fld ha hv hs
end DL

set_option Elab.async false
set_option linter.all false
set_option maxRecDepth 100000
set_option maxHeartbeats 2000000
/-! The data layer: list(o) of an instance whose __iter__ gives iter(list); properties. -/
namespace DL
open PySem PySem.Spec PyProof.Rows L2
open Evl (Ex Ex.refl Ex.trans Ex.new)
section
variable {prog : Program} {w : World} {A : Around} {E : Value → Shared → Prop} {s : Shared} {it l : Addr} {i : Nat} {items : Array Value}
end
section
variable {X : Cx} {pins : List (Addr × Obj)} {σ : L2.St} {H : Hp} {s : Shared} {A1 : Around}
variable {C fi : Addr} {fdI : FuncData} {psI : List Str} {sp : Sp} {n : Nat}
/-- list(o) of an o whose __iter__ gives an iterator over a list -/
def rItr (K : PySem.W.Frag) (C : Addr) (sp : Sp) : List V → Hp → VK → Prop := fun xs H Q => ∃ a dx fs, xs = [.ref a] ∧ H a = some (.ins C dx fs) ∧ ∀ q, H q = none →
  sp [.ref a] (upd H q (.lst [])) (fun v H1 => ∃ it l ys, v = .ref it ∧ H1 it = some (ItO l it 0) ∧ H1 q = some (.lst []) ∧ (∃ dx fs, H1 a = some (.ins C dx fs)) ∧ SqL K H1 l ys ∧ Q (.ref q) (upd (upd H1 q (.lst ys)) it (ItE it ys.length))) E0
end

/-! ### __iter__ as a promise -/
def spIt (K : PySem.W.Frag) (C : Addr) (R : List (Str × PyData) → List PyData → Prop) : Sp := fun vs H Q _ => ∃ (N : Addr → Prop) (v : V) (m : List (Str × PyData)) (ds : List PyData), vs = [v] ∧ (∀ a, N a → H a ≠ none) ∧ ObOk K N H v C m ∧ R m ds ∧
  ∀ it l ys H1, H it = none → Ex H H1 → H1 it = none → SqL K H1 l ys → DnAll K N H1 ys ds → Q (.ref it) (upd H1 it (ItO l it 0))
def RetIt (c : Cn) (ds : List PyData) (D : Ends) : Prop := ∀ it l ys H1, (∀ a o, c.H0 a = some o → ¬ c.M a → H1 a = some o) → H1 it = none → SqL c.K H1 l ys → DnAll c.K c.N0 H1 ys ds → D.rt (.ref it) (upd H1 it (ItO l it 0))
section
variable {X : Cx} {K : PySem.W.Frag} {k j : Nat} {ps : List Str} {C : Addr} {sp : Sp}
end
/-! ### properties -/
def PropP (P : Program) (w : World) (K : PySem.W.Frag) (mg : Str → Option Value) (base : Heap) (k : Nat) (C : Addr) (f : Str) (sp : Sp) : Prop :=
  ∃ p g fd, Cls K C ∧ PropOf K C f p g ∧ FnOk P w K mg base CX0 k g fd ["self"] sp ∧ Binds K fd ["self"] []
end DL
namespace DL
open PySem PySem.Spec PyProof.Rows L2 He
/-! ### the head's facts of properties -/
structure PrD where
  cl : Str
  f : Str
  d : DefD
def prP (K : PySem.W.Frag) (p : PrD) : Addr := match PySem.W.findIn K (.ref (ga K p.cl)) p.f with
  | some (some (.ref a)) => a
  | _ => 0
def prG (K : PySem.W.Frag) (p : PrD) : Addr := match PySem.W.recIn K (prP K p) "property" with
  | some (.ref g :: _) => g
  | _ => 0
def fnWA (K : PySem.W.Frag) (a : Addr) : FnW := match K.lookup a with
  | some ⟨_, _, .func fd, _⟩ => some (fd.name, fd.qualname, fd.params, fd.body, fd.scope, fd.globals, fd.closure, fd.builtins)
  | _ => none
def okA (K : PySem.W.Frag) (a : Addr) (d : DefD) : Bool := PySem.W.keepIn K (.ref a) && (match K.lookup a with
  | some ⟨_, _, .func fd, _⟩ => PySem.W.codeIn K fd.code d.qual && (dflB K fd.defaults (d.dvs K) && kwdB K fd.kwdefaults (d.kws K))
  | _ => false)
def PrD.ok (K : PySem.W.Frag) (p : PrD) : Bool := eqO (PySem.W.findIn K (.ref (ga K p.cl)) p.f) (some (some (.ref (prP K p)))) && (eqO (PySem.W.specialIn K (.ref (prP K p)) "__get__") (some (some (.builtin "property.__get__"))) && (decide (PySem.W.takesIn K (.ref (prP K p)) = some true) && ((match PySem.W.recIn K (prP K p) "property" with
  | some (.ref g :: _) => true
  | _ => false) && okA K (prG K p) p.d)))
abbrev AlP : Type := AlX × Bool × List FnW
def obsP (n : Nat) (fa : List Fa) (fn : List DefD) (ts : List Tab) (tf : List Defn) (ex : PySem.W.Frag → Bool) (pn : List PrD) (g : Addr → Option Obj) : AlP := (obsX n fa fn ts tf ex g, pn.all (PrD.ok (frT g (asD g n))), pn.map fun p => fnWA (frT g (asD g n)) (prG (frT g (asD g n)) p))
def valP (fn : List DefD) (ts : List Tab) (pn : List PrD) (w : World) : AlP := (valX fn ts w, true, pn.map fun p => p.d.val)
structure SaysP (fa : List Fa) (fn : List DefD) (ts : List Tab) (tf : List Defn) (ex : PySem.W.Frag → Bool) (pn : List PrD) (w : World) (h : Heap) (K : PySem.W.Frag) : Prop where
  x : SaysX fa fn ts tf ex w h K
  b : ∀ p ∈ pn, p.ok K = true
  v : pn.map (fun p => fnWA K (prG K p)) = pn.map fun p => p.d.val
def hookP (n : Nat) (fa : List Fa) (fn : List DefD) (ts : List Tab) (tf : List Defn) (ex : PySem.W.Frag → Bool) (pn : List PrD) : PySem.W.Hook where
  α := AlP
  obs := fun s => obsP n fa fn ts tf ex pn s.heap.get?
  val := fun w => valP fn ts pn w
  says := fun w h => ∃ K : PySem.W.Frag, K.In h ∧ SaysP fa fn ts tf ex pn w h K
  of := fun w s e => ⟨_, frT_in, saysX_of (n := n) (congrArg (fun z : AlP => z.1) e), List.all_eq_true.mp (congrArg (fun z : AlP => z.2.1) e), congrArg (fun z : AlP => z.2.2) e⟩
  keeps := fun _ _ _ ⟨K, hK, c⟩ k => ⟨K, PySem.W.Frag.In.keeps hK k, ⟨c.x.t, c.x.more, c.x.hd, c.x.out, fun p hp => k _ _ (c.x.empty p hp)⟩, c.b, c.v⟩
end DL
namespace DL
open PySem PySem.Spec PyProof.Rows L2
open Evl (Ex Ex.refl Ex.trans Ex.new)
/-! ### making, with defaults ahead of what is written -/
abbrev CForm2 := Nat × List Str × List (Str × V) × List (Str × V)
def FormOk2 (K : PySem.W.Frag) (fd : FuncData) (ps : List Str) (F : CForm2) : Prop := ∃ da db, KBn K fd ps F.1 F.2.1 (fun us ws => us ++ (da ++ (ws ++ db))) (fun vs zs => vs ++ (F.2.2.1.map (·.2) ++ (zs ++ F.2.2.2.map (·.2))))
def MakP2 (P : Program) (w : World) (K : PySem.W.Frag) (mg : Str → Option Value) (base : Heap) (k : Nat) (x : Str) (C : Addr) (ps : List Str) (sp : Sp) (fs : List CForm2) : Prop :=
  ∃ f fd, Mk K C f ∧ FnOk P w K mg base CX0 k f fd ps sp ∧ (∀ F ∈ fs, FormOk2 K fd ps F) ∧ mg x = some (.ref C)
end DL
namespace DL
open PySem PySem.Spec PyProof.Rows L2
open Evl (Ex Ex.refl Ex.trans Ex.new)
/-! ### a def that takes a list over: gives it back, or a new list -/
def spV (K : PySem.W.Frag) (j : Nat) (R : List PyData → List PyData → Prop) : Sp := fun vs H Q _ => ∃ (N : Addr → Prop) (l : Addr) (ds rs es : List PyData) (ws : List V), (∀ a, N a → H a ≠ none) ∧ ¬ N l ∧ H l = some (.lst ws) ∧ DnAll K (fun a => N a ∨ a = l) H ws es ∧ ds[j]? = some (.list es) ∧ Paired (SvOk K (fun a => N a ∨ a = l) (fun _ => l) 1 H) vs ((ds.map SV.i).set j (.r 0)) ∧ R ds rs ∧
  ∀ p H' ws', (p = l ∨ H p = none) → (∀ a o, H a = some o → a ≠ l → H' a = some o) → H' p = some (.lst ws') → DnAll K (fun a => N a ∨ a = p) H' ws' rs → Q (.ref p) H'
def RetV (c : Cn) (ds : List PyData) (D : Ends) : Prop := ∀ p H2 ws, (c.H0 p = none ∨ c.M p) → (∀ a o, c.H0 a = some o → ¬ c.M a → H2 a = some o) → H2 p = some (.lst ws) → DnAll c.K (fun a => c.N0 a ∨ a = p) H2 ws ds → D.rt (.ref p) H2
end DL
namespace DL
open PySem PySem.Spec PyProof.Rows L2
open Evl (Ex Ex.refl Ex.trans Ex.new)
def absI (i : Int) : Int := if i < 0 then -i else i
/-! ### rfind of a newline; list(range(..)) -/
/-- where the paragraph of the index i begins -/
def bgn (l : List Nat) : Nat → Nat
  | 0 => 0
  | i + 1 => if l[i]? = some 10 then i + 1 else bgn l i
/-- the ints lo .. lo + n - 1 -/
def rgI (lo : Int) (n : Nat) : List Int := (List.range n).map fun i : Nat => lo + (i : Int)
end DL

set_option Elab.async false
set_option linter.all false
set_option maxRecDepth 100000
set_option maxHeartbeats 4000000
/-! The data layer: len(set(xs)) of texts, starred targets. -/
namespace DL
open PySem PySem.Spec PyProof.Rows L2
open Evl (Ex Ex.refl Ex.trans Ex.new)
/-- how many unlike ones stand among the first i -/
def cntD (xs : List Str) : Nat → Nat
  | 0 => 0
  | i + 1 => if xs.getD i Str.empty ∈ xs.take i then cntD xs i else cntD xs i + 1
section
variable {prog : Program} {w : World} {A : Around} {R : Result → Shared → Prop} {I S : Addr} {fp wr : List Addr} {G : Array GenState → Array GenState → Prop} {n : Nat} {P : Nat → Value → Prop} {St : Nat → Shared → Prop} {xs : List Str}
end

section
variable {prog : Program} {w : World} {A : Around} {E : Value → Shared → Prop} {s : Shared}
end
/-- len(set(xs)), xs a list of texts -/
def tLenS (K : PySem.W.Frag) (ta : TE) : TE := fun σ H Q => ta σ H fun x H1 => ∃ (l : Addr) (xs : List Str), x = .ref l ∧ SqL K H1 l (xs.map V.str) ∧ xs.length ≤ 4000 ∧ Q (.int (cntD xs xs.length : Nat)) H1
/-! ### (a, *b) = a list -/
section
variable {prog : Program} {w : World} {A : Around} {E : Value → Shared → Prop} {s : Shared}
end
/-- a, *b = a list: b a new list -/
def gStar (K : PySem.W.Frag) (t : TGs) : TG := fun v σ H Q => ∃ a x xs, v = .ref a ∧ SqL K H a (x :: xs) ∧ ∀ p, H p = none → t [x, .ref p] σ (upd H p (.lst xs)) Q
end DL

set_option Elab.async false
set_option linter.all false
set_option maxRecDepth 100000
set_option maxHeartbeats 2000000
/-! The data layer: what is drawn within tests, targets, loops, displays and comprehensions; tuple(..), signs in order, a starred target. -/
namespace DL
open PySem PySem.Spec PyProof.Rows L2
open Evl (Ex Ex.refl Ex.trans Ex.new)
/-- a statement that is never reached -/
theorem ps_never {X : Cx} {st : Stmt} : PS X st (fun _ _ _ => False) := ⟨fun _ _ _ _ _ _ h => h.elim⟩
theorem kTupleOf {X : Cx} {K : PySem.W.Frag} (h : X.K = K := by rfl) : CallR X (.type "tuple") (fun xs H Q => ∃ p ys, xs = [.ref p] ∧ ((SqL K H p ys ∧ ∀ l, H l = none → Q (.ref l) (upd H l (.tup ys))) ∨ (SqT K H p ys ∧ Q (.ref p) H))) := by subst h; exact call_tuple_of
section
variable {w : Bool} {c : Cn} {env env' : Sy} {os : List SO} {te ta tb tc tl td ty to : TE} {tr : TA} {u : TS} {D : Ends} {g : TG} {P PA PB : PyData → Prop} {d : PyData}
theorem fresh0 {ad : Nat → Addr} {σ : L2.St} {H : Hp} {p : Addr} (ok : Ok c ad env os σ H) (hp : H p = none) : c.H0 p = none ∨ c.M p := by
  by_cases hm : c.M p
  · exact Or.inr hm
  · refine Or.inl ?_
    cases hz : c.H0 p with
    | none => rfl
    | some o => rw [ok.ex p o hz hm] at hp; cases hp
theorem EvF.is2 {o o' : SO} (h : EvF c env os te o) (e : o = o') : EvF c env os te o' := e ▸ h
/-- tuple(a list) -/
theorem ex_tupleOf {r : List V → Hp → VK → Prop} {ds : List PyData} (hr : r = (fun xs H Q => ∃ p ys, xs = [.ref p] ∧ ((SqL c.K H p ys ∧ ∀ l, H l = none → Q (.ref l) (upd H l (.tup ys))) ∨ (SqT c.K H p ys ∧ Q (.ref p) H)))) (h : EvI c env os te (ds.map SV.i)) : EvX w c env os (tCB r (tCons te tNil)) (.tuple ds) := EvX.weak fun ad σ H ok Q q => by
  subst hr
  refine h ad σ H ok _ fun p vs H2 e hs pv => ⟨p, vs, rfl, Or.inl ⟨hs, fun l hl => q _ _ (e.trans (Ex.new hl)) ?_⟩⟩
  rw [Nw_false]
  exact .tup (SqT.of upd_same) ((paired_dn pv).ext (Ex.new hl))
/-- a <= x <= b of signs -/
theorem ex_chainS {r r' : R2} {lo x hi : Nat} (hr : r = (fun x y H Q => ∃ i j : Str, x = .str i ∧ y = .str j ∧ Q (.bl (!decide (j.cps.toList < i.cps.toList))) H)) (hr' : r' = r) (ha : EvX true c env os ta (dT [lo])) (hb : EvX true c env os tb (dT [x])) (hc : EvX true c env os tc (dT [hi])) :
    EvX w c env os (tChain r r' ta tb tc) (.bool (decide (lo ≤ x) && decide (x ≤ hi))) := fun ad σ H ok Q q => by
  subst hr hr'
  have key : ∀ a b : Nat, (!decide ((sT [b]).cps.toList < (sT [a]).cps.toList)) = decide (a ≤ b) := fun a b => by
    rw [sT_cps, sT_cps]
    have e : ([b] < [a]) ↔ b < a := by
      rw [List.cons_lt_cons_iff]
      simp
    rw [decide_eq_decide.mpr e, ← decide_not]
    exact decide_eq_decide.mpr Nat.not_lt
  refine ha ad σ H ok _ fun v H1 e1 r1 => hb ad σ H1 (ok.ext e1) _ fun u H2 e2 r2 => ⟨_, _, dn_str r1, dn_str r2, _, rfl, ?_⟩
  rw [key]
  cases hf : decide (lo ≤ x) with
  | true =>
    rw [if_pos rfl]
    exact hc ad σ H2 ((ok.ext e1).ext e2) _ fun z H3 e3 r3 => ⟨_, _, dn_str r2, dn_str r3, q _ H3 ((e1.trans e2).trans e3) (by rw [key, hf, Bool.true_and]; exact .bl _)⟩
  | false =>
    rw [if_neg (by decide)]
    exact q _ H2 (e1.trans e2) (by rw [hf, Bool.false_and]; exact .bl _)
/-! ### what is drawn -/
def EvTM (c : Cn) (env : Sy) (os : List SO) (tt : TT) (PB : Bool → Prop) : Prop := ∀ ad σ H, Ok c ad env os σ H → ∀ Q : Bool → Hp → Prop, (∀ b H2, PB b → Ok c ad env os σ H2 → Q b H2) → tt σ H Q
def EvWM (c : Cn) (env : Sy) (os : List SO) (wi : TI) (PN : Nat → Prop) (it : Nat → SV) (G : List SO → Prop) : Prop := ∀ ad σ H, Ok c ad env os σ H → ∀ R : It → Hp → Prop,
  (∀ n J H1 fr, PN n → Ok (c.w fr os.length) ad env os σ H1 → (∀ ad' env' os' σ' H', Ok (c.w fr os.length) ad' env' os' σ' H' → Ok c ad' env' os' σ' H') → WalkD (c.w fr os.length) J n it G → R J H1) → wi σ H R
theorem ewm {wi : TI} {n : Nat} {it : Nat → SV} {G : List SO → Prop} {PN : Nat → Prop} (h : EvW c env os wi n it G) (hn : PN n) : EvWM c env os wi PN it G := fun ad σ H ok R q => h ad σ H ok R fun J H1 fr _ ok1 up W => q n J H1 fr hn ok1 up W
def OkI (c : Cn) (J : Sy → List SO → Prop) : L2.St → Hp → Prop := fun σ H => ∃ e o, J e o ∧ OkE c e o σ H
/-- a for whose slots and store are known by what holds of them -/
theorem gs_forN {wi : TI} {it : Nat → SV} {G : List SO → Prop} {tb : TS} (PN : Nat → Prop) (I : Nat → Sy → List SO → Prop) (hw : EvWM c env os wi PN it G)
    (h0 : I 0 env os) (hG : ∀ i e o, I i e o → G o)
    (hs : ∀ fr, Up c (c.w fr os.length) → ∀ n i e o, PN n → i < n → I i e o → ∃ env' js, Tg (c.w fr os.length) e o g (it i) env' js ∧ Go (c.w fr os.length) env' o tb { D with nx := OkI (c.w fr os.length) (I (i + 1)), ct := OkI (c.w fr os.length) (I (i + 1)), bk := u D })
    (hd : ∀ n e o, PN n → I n e o → Go c e o u D) : Go c env os (tSeq (tFor wi g tb) u) D := fun ad σ H ok => by
  refine hw ad σ H ok _ fun n J H1 fr hn ok1 up W => ?_
  refine ⟨fun i m σ H => m = n - i ∧ i ≤ n ∧ OkI (c.w fr os.length) (I i) σ H, ⟨n, by simp, Nat.zero_le _, env, os, h0, ad, ok1⟩, ?_⟩
  rintro i m σ H ⟨rfl, hi, e0, o0, hI, ad', ok'⟩
  by_cases hlt : i < n
  · refine .inr ⟨W.goes i _ _ _ _ _ hlt ok' (hG i _ _ hI), OkI (c.w fr os.length) (I (i + 1)), fun σ' H' p' => ⟨n - (i + 1), by omega, rfl, hlt, p'⟩, fun x H' y => ?_⟩
    obtain ⟨e2, r⟩ := W.yields i _ _ _ _ _ x H' hlt ok' (hG i _ _ hI) y
    obtain ⟨env', js, ht, hb⟩ := hs fr up n i e0 o0 hn hlt hI
    exact ht ad' σ H' x (ok'.ext e2) r _ fun σ2 ok2 _ => hb ad' σ2 H' ok2
  · have q : i = n := by omega
    subst q
    exact .inl ⟨W.stops _ _ _ _ _ ok' (hG i _ _ hI), hd i e0 o0 hn hI ad' σ H (up _ _ _ _ _ ok')⟩
theorem gs_nxI {J : Sy → List SO → Prop} {e : Sy} {o : List SO} (hj : J e o) (h : ∀ ad σ H, Ok c ad env os σ H → OkE c e o σ H) (hD : D.nx = OkI c J := by rfl) : Go c env os tNext D := fun ad σ H ok => by
  show D.nx σ H
  rw [hD]
  exact ⟨e, o, hj, h ad σ H ok⟩
end
end DL
namespace DL
open PySem PySem.Spec PyProof.Rows L2
def rJoin (K : PySem.W.Frag) : V → List V → Hp → VK → Prop := fun x xs H Q => ∃ a p, ∃ ys : List Str, x = .str a ∧ xs = [.ref p] ∧ (SqL K H p (ys.map V.str) ∨ SqT K H p (ys.map V.str)) ∧ (ys.map (·.length)).sum + ys.length * a.length ≤ 16777216 ∧ Q (.str (Txt.join a ys)) H
end DL

set_option Elab.async false
set_option linter.all false
set_option maxRecDepth 100000
set_option maxHeartbeats 2000000
/-! The data layer: objects of the caller's store that a def reads and changes (a segment of the store). -/
namespace DL
open PySem PySem.Spec PyProof.Rows L2
open Evl (Ex Ex.refl Ex.trans Ex.new)
def reV (f : Nat → Nat) : SV → SV
  | .r k => .r (f k)
  | .i d => .i d
  | .t u => .t u
  | .ob C m => .ob C m
  | .z m => .z m
def reS (f : Nat → Nat) : SO → SO
  | .lst xs => .lst (xs.map (reV f))
  | .dK kvs => .dK (kvs.map fun p => (p.1, reV f p.2))
  | .dT kvs => .dT (kvs.map fun p => (p.1, reV f p.2))
  | .stt k => .stt (f k)
  | .ob C fs => .ob C (fs.map fun p => (p.1, reV f p.2))
  | .x => .x
  | .ho g => .ho g
  | .nums => .nums
theorem reS_live (f : Nat → Nat) (o : SO) : (reS f o).live = o.live := by cases o <;> rfl
theorem paired_mapR {α β γ : Type} {F : α → γ → Prop} {g : β → γ} : ∀ {l : List α} {m : List β}, Paired F l (m.map g) → Paired (fun a b => F a (g b)) l m
  | [], [], _ => .nil
  | _ :: _, [], h => by cases h
  | [], _ :: _, h => by cases h
  | _ :: _, _ :: _, h => by cases h with | cons r t => exact .cons r (paired_mapR t)
theorem paired_mapL {α β γ : Type} {F : α → γ → Prop} {g : β → γ} : ∀ {l : List α} {m : List β}, Paired (fun a b => F a (g b)) l m → Paired F l (m.map g)
  | _, _, .nil => .nil
  | _, _, .cons r t => .cons r (paired_mapL t)
theorem soOk_in {K : PySem.W.Frag} {N N' : Addr → Prop} {ad ad' : Nat → Addr} {m n : Nat} {H : Hp} {l : Addr} {f : Nat → Nat} {o : SO} (h : SoOk K N ad n H l (reS f o)) (hl : SoLt m o) (hv : ∀ v s, SvLt m s → SvOk K N ad n H v (reV f s) → SvOk K N' ad' m H v s) : SoOk K N' ad' m H l o := by
  cases o with
  | x => exact True.intro
  | lst xs => obtain ⟨vs, e, p⟩ := h; exact ⟨vs, e, Paired.impR (paired_mapR p) fun a b mm q => hv _ _ (hl b mm) q⟩
  | dK kvs => obtain ⟨vs, e, p⟩ := h; exact ⟨vs, e, Paired.impR (paired_mapR p) fun a b mm q => ⟨q.1, hv _ _ (hl b mm) q.2⟩⟩
  | dT kvs => obtain ⟨vs, e, p⟩ := h; exact ⟨vs, e, Paired.impR (paired_mapR p) fun a b mm q => ⟨q.1, hv _ _ (hl b mm) q.2⟩⟩
  | ho g => exact h
  | nums => exact h
  | stt k => obtain ⟨v, a, b, e, r⟩ := h; exact ⟨v, a, b, e, hv v (.r k) hl r⟩
  | ob C fs => obtain ⟨dx, vs, e, p⟩ := h; exact ⟨dx, vs, e, Paired.impR (paired_mapR p) fun a b mm q => ⟨q.1, hv _ _ (hl b mm) q.2⟩⟩
theorem soOk_out {K : PySem.W.Frag} {N N' : Addr → Prop} {ad ad' : Nat → Addr} {m n : Nat} {H : Hp} {l : Addr} {f : Nat → Nat} {o : SO} (h : SoOk K N ad m H l o) (hv : ∀ v s, SvOk K N ad m H v s → SvOk K N' ad' n H v (reV f s)) : SoOk K N' ad' n H l (reS f o) := by
  cases o with
  | x => exact True.intro
  | lst xs => obtain ⟨vs, e, p⟩ := h; exact ⟨vs, e, paired_mapL (Paired.imp p fun a b q => hv _ _ q)⟩
  | dK kvs => obtain ⟨vs, e, p⟩ := h; exact ⟨vs, e, paired_mapL (Paired.imp p fun a b q => ⟨q.1, hv _ _ q.2⟩)⟩
  | dT kvs => obtain ⟨vs, e, p⟩ := h; exact ⟨vs, e, paired_mapL (Paired.imp p fun a b q => ⟨q.1, hv _ _ q.2⟩)⟩
  | ho g => exact h
  | nums => exact h
  | stt k => obtain ⟨v, a, b, e, r⟩ := h; exact ⟨v, a, b, e, hv v (.r k) r⟩
  | ob C fs => obtain ⟨dx, vs, e, p⟩ := h; exact ⟨dx, vs, e, paired_mapL (Paired.imp p fun a b q => ⟨q.1, hv _ _ q.2⟩)⟩
/-- what is avoided: N and the segment -/
def SegN (N : Addr → Prop) (ad : Nat → Addr) (n : Nat) : Addr → Prop := fun a => N a ∨ ∃ j, j < n ∧ a = ad j
structure SegOk (K : PySem.W.Frag) (N : Addr → Prop) (ad : Nat → Addr) (n : Nat) (H : Hp) (sh : List SO) : Prop where
  obj : ∀ (i : Nat) (o : SO), sh[i]? = some o → SoOk K (SegN N ad n) ad n H (ad i) o
  inj : ∀ i j, i < n → j < n → ad i = ad j → i = j
  nn : ∀ i, i < n → ¬ N (ad i)
structure ShOk (n : Nat) (sh : List SO) : Prop where
  len : sh.length = n
  live : ∀ (i : Nat) (o : SO), sh[i]? = some o → o.live = true
  lt : OsLt n sh
/-- the promise: R x ss x' d, the segment goes from x to x' -/
def spS (K : PySem.W.Frag) (n : Nat) {α : Type} (shape : α → List SO) (R : α → List SV → α → PyData → Prop) : Sp := fun vs H Q _ => ∃ (N : Addr → Prop) (ad : Nat → Addr) (x : α) (ds : List SV),
  ShOk n (shape x) ∧ SegOk K N ad n H (shape x) ∧ (∀ a, N a → H a ≠ none) ∧ Paired (SvOk K (SegN N ad n) ad n H) vs ds ∧ (∃ x' d, R x ds x' d) ∧
  ∀ v H' x' d, R x ds x' d → ShOk n (shape x') → (∀ a u, H a = some u → (∀ j, j < n → a ≠ ad j) → H' a = some u) → SegOk K N ad n H' (shape x') → Dn K (SegN N ad n) H' v d → Q v H'
theorem spS_len {K : PySem.W.Frag} {n l : Nat} {α : Type} {shape : α → List SO} {R : α → List SV → α → PyData → Prop} (hR : ∀ x ds x' d, R x ds x' d → ds.length = l) : ∀ vs H Q E, spS K n shape R vs H Q E → vs.length = l := fun vs H Q E ⟨N, ad, x, ds, _, _, _, h, ⟨x', d, r⟩, _⟩ => by rw [Paired.length h, hR x ds x' d r]
section
variable {w : Bool} {c : Cn} {env env' : Sy} {os os2 : List SO} {te ta tb tl : TE} {tr : TA} {u : TS} {D : Ends} {g : TG} {P PA PB : PyData → Prop} {d : PyData} {ad : Nat → Addr} {σ : L2.St} {H H' : Hp} {n : Nat} {α : Type} {shape : α → List SO} {R : α → List SV → α → PyData → Prop} {f : Nat → Nat} {x : α} {ds : List SV}
/-- objects of the store are changed -/
theorem Ok.chgF {S : Nat → Prop} (ok : Ok c ad env os σ H) (hl : os2.length = os.length) (hS1 : ∀ j, S j → ∃ o o2, os[j]? = some o ∧ o.live = true ∧ os2[j]? = some o2 ∧ o2.live = true ∧ SoOk c.K (Nof c ad os) ad os.length H' (ad j) o2) (hS0 : ∀ j, ¬ S j → os2[j]? = os[j]?)
    (hch : ∀ a u, H a = some u → (∀ j, S j → a ≠ ad j) → H' a = some u) : Ok c ad env os2 σ H' := by
  have hlv : ∀ j, Lv os2 j ↔ Lv os j := fun j => by
    by_cases q : S j
    · obtain ⟨o, o2, h1, h2, h3, h4, _⟩ := hS1 j q
      exact ⟨fun _ => ⟨o, h1, h2⟩, fun _ => ⟨o2, h3, h4⟩⟩
    · unfold Lv; rw [hS0 j q]
  have hNof : Nof c ad os2 = Nof c ad os := by
    funext a
    unfold Nof
    exact propext ⟨fun z => z.imp id fun ⟨k, l, e⟩ => ⟨k, (hlv k).mp l, e⟩, fun z => z.imp id fun ⟨k, l, e⟩ => ⟨k, (hlv k).mpr l, e⟩⟩
  have lS : ∀ j, S j → Lv os j := fun j q => by obtain ⟨o, _, h1, h2, _⟩ := hS1 j q; exact ⟨o, h1, h2⟩
  have NS : ∀ j, S j → Nof c ad os (ad j) := fun j q => Or.inr ⟨j, lS j q, rfl⟩
  have wS : ∀ j, S j → ∃ u, H (ad j) = some u ∧ Wr u = true := fun j q => by
    obtain ⟨o, _, h1, h2, _⟩ := hS1 j q
    exact (ok.obj j o h1 h2).2.some h2
  have hnw : ∀ a x, H a = some x → Wr x = false → H' a = some x := fun a x e hw => hch a x e fun j q z => by
    obtain ⟨u, eu, wu⟩ := wS j q
    rw [z] at e; rw [e] at eu; cases eu; rw [hw] at wu; cases wu
  have hout : ∀ a x, H a = some x → ¬ Nof c ad os a → H' a = some x := fun a x e nn => hch a x e fun j q z => nn (z ▸ NS j q)
  have hrd : ∀ a x, Rd H a x → ¬ Nof c ad os a → Rd H' a x ∧ ¬ Nof c ad os a := fun a x r nn => ⟨by
    rcases r with r | ⟨o, r⟩
    · exact Or.inl (hout a x r nn)
    · exact Or.inr ⟨o, hout a _ r nn⟩, nn⟩
  have hsq : ∀ a xs, SqT c.K H a xs → SqT c.K H' a xs := fun a xs r => by
    rcases r with (r | ⟨o, r⟩) | r
    · exact Or.inl (Or.inl (hnw a _ r rfl))
    · exact Or.inl (Or.inr ⟨o, hnw a _ r rfl⟩)
    · exact Or.inr r
  have hv : ∀ m v s, SvOk c.K (Nof c ad os) ad m H v s → SvOk c.K (Nof c ad os) ad m H' v s := fun m v s h => by
    cases s with
    | i d => exact Dn.go hrd hout hsq d v h
    | t x => obtain ⟨b, e1, e2, e3⟩ := h; exact ⟨b, e1, hnw b _ e2 e3, e3⟩
    | ob C m => obtain ⟨a, dx, fs, e1, e2, e3, e4⟩ := h; exact ⟨a, dx, fs, e1, hout a _ e2 e3, e3, Paired.imp e4 fun _ _ z => ⟨z.1, Dn.go hrd hout hsq _ _ z.2⟩⟩
    | z m => obtain ⟨a, dx, fs, e1, e2, e3, e4⟩ := h; exact ⟨a, dx, fs, e1, hout a _ e2 e3, e3, Paired.imp e4 fun _ _ z => ⟨z.1, Dn.go hrd hout hsq _ _ z.2⟩⟩
    | r k => exact h
  refine ⟨ok.len, fun a o h m => ?_, fun a h => ?_, fun i s h => ?_, fun k o h l => ?_, fun k j hk hj => ok.inj k j ((hlv k).mp hk) ((hlv j).mp hj), fun k hk => ok.nn k ((hlv k).mp hk), fun p hp => by rw [hNof]; exact hv _ _ _ (ok.frm p hp), by rw [hl]; exact ok.low⟩
  · refine hch a o (ok.ex a o h m) fun j q z => ?_
    obtain ⟨o1, _, h1, h2, _⟩ := hS1 j q
    rcases (ok.obj j o1 h1 h2).1 with y | y
    · rw [← z, h] at y; cases y
    · exact m (z ▸ y)
  · cases e : H a with
    | none => exact absurd e (ok.n0 a h)
    | some x =>
      rw [hch a x e fun j q z => ok.nn j (lS j q) (z ▸ h)]
      exact fun z => nomatch z
  · obtain ⟨v, h1, h2⟩ := ok.val i s h
    rw [hNof, hl]
    exact ⟨v, h1, hv _ v s h2⟩
  · rw [hNof, hl]
    by_cases q : S k
    · obtain ⟨o1, o2, h1, h2, h3, h4, h5⟩ := hS1 k q
      rw [h3] at h; cases h
      exact ⟨(ok.obj k o1 h1 h2).1, h5⟩
    · rw [hS0 k q] at h
      obtain ⟨h1, h2⟩ := ok.obj k o h l
      exact ⟨h1, h2.map (hv _) fun x e => hch _ x e fun j qj z => q (ok.inj k j ⟨o, h, l⟩ (lS j qj) z ▸ qj)⟩
/-- gives data; objects of the store may be changed -/
def EvN (c : Cn) (env : Sy) (os : List SO) (te : TE) (P : List SO → PyData → Prop) : Prop := ∀ ad σ H, Ok c ad env os σ H → ∀ Q : VK, (∀ v H2 os' d, P os' d → Ok c ad env os' σ H2 → Dn c.K (Nof c ad os') H2 v d → Q v H2) → te σ H Q
theorem EvM.asN (h : EvM c env os te P) : EvN c env os te (fun os' d => os' = os ∧ P d) := fun ad σ H ok Q q => h ad σ H ok Q fun v H2 d p ok2 r => q v H2 os d ⟨rfl, p⟩ ok2 r
theorem args_in {ad0 : Nat → Addr} {N1 N2 : Addr → Prop} {l n : Nat} (hN : ∀ a, N2 a → N1 a) (ha : ∀ k, k < n → ad0 k = ad (f k)) : ∀ {vs : List V} {ds : List SV}, (∀ s ∈ ds, SvLt n s) → Paired (SvOk c.K N1 ad l H) vs (ds.map (reV f)) → Paired (SvOk c.K N2 ad0 n H) vs ds
  | _, [], _, h => by cases h; exact .nil
  | _, s :: ds, hl, h => by
    cases h with
    | cons a b =>
      refine .cons ?_ (args_in hN ha (fun s hs => hl s (List.mem_cons_of_mem _ hs)) b)
      cases s with
      | i d => exact Dn.sub hN a
      | t u => exact a
      | ob C m => exact ObOk.sub hN a
      | z m => exact ZOk.sub hN a
      | r k => exact ⟨by rw [ha k (hl (.r k) (List.mem_cons_self ..))]; exact a.1, hl (.r k) (List.mem_cons_self ..)⟩
/-- how the store looks as a function of what the segment holds -/
structure SegAt (f : Nat → Nat) (n : Nat) (shape : α → List SO) (G : α → List SO) : Prop where
  inj : ∀ i j, i < n → j < n → f i = f j → i = j
  sh : ∀ x, ShOk n (shape x)
  at_ : ∀ (x : α) (i : Nat) (o : SO), (shape x)[i]? = some o → (G x)[f i]? = some (reS f o)
  len : ∀ x y, (G x).length = (G y).length
  out : ∀ x y j, (∀ i, i < n → j ≠ f i) → (G x)[j]? = (G y)[j]?
theorem seg_call {G : α → List SO} {vs : List V} {Q : VK} {E : XK} (S : SegAt f n shape G) (ok : Ok c ad env (G x) σ H) (hl : ∀ s ∈ ds, SvLt n s) (ha : Paired (SvOk c.K (Nof c ad (G x)) ad (G x).length H) vs (ds.map (reV f))) (hR : ∃ x' d, R x ds x' d)
    (q : ∀ v H2 x' d, R x ds x' d → Ok c ad env (G x') σ H2 → Dn c.K (Nof c ad (G x')) H2 v d → Q v H2) : spS c.K n shape R vs H Q E := by
  have hlt : ∀ y i, i < n → ∃ o, (shape y)[i]? = some o ∧ o.live = true ∧ (G y)[f i]? = some (reS f o) := fun y i hi => by
    have hh : i < (shape y).length := by rw [(S.sh y).len]; exact hi
    have e := List.getElem?_eq_getElem hh
    exact ⟨_, e, (S.sh y).live _ _ e, S.at_ y i _ e⟩
  have lv : ∀ y i, i < n → Lv (G y) (f i) := fun y i hi => by
    obtain ⟨o, _, h2, h3⟩ := hlt y i hi
    exact ⟨_, h3, by rw [reS_live]; exact h2⟩
  have hNs : ∀ a, SegN (fun a => Nof c ad (G x) a ∧ ∀ i, i < n → a ≠ ad (f i)) (fun i => ad (f i)) n a ↔ Nof c ad (G x) a := fun a => by
    constructor
    · rintro (z | ⟨i, hi, z⟩)
      · exact z.1
      · exact z ▸ Or.inr ⟨f i, lv x i hi, rfl⟩
    · intro z
      by_cases h : ∃ i, i < n ∧ a = ad (f i)
      · exact Or.inr h
      · exact Or.inl ⟨z, fun i hi e => h ⟨i, hi, e⟩⟩
  have hNeq : SegN (fun a => Nof c ad (G x) a ∧ ∀ i, i < n → a ≠ ad (f i)) (fun i => ad (f i)) n = Nof c ad (G x) := funext fun a => propext (hNs a)
  refine ⟨fun a => Nof c ad (G x) a ∧ ∀ i, i < n → a ≠ ad (f i), fun i => ad (f i), x, ds, S.sh x, ⟨fun i o e => ?_, fun i j hi hj e => S.inj i j hi hj (ok.inj _ _ (lv x i hi) (lv x j hj) e), fun i hi z => z.2 i hi rfl⟩, fun a z => ok.nof z.1, by rw [hNeq]; exact args_in (f := f) (fun _ z => z) (fun _ _ => rfl) hl ha, hR, fun v H' x' d hd hsh hch hs r => ?_⟩
  · have hi : i < n := by rw [← (S.sh x).len]; exact (List.getElem?_eq_some_iff.mp e).1
    have hl := (S.sh x).live i o e
    obtain ⟨_, h2⟩ := ok.obj (f i) _ (S.at_ x i o e) (by rw [reS_live]; exact hl)
    rw [hNeq]
    refine soOk_in h2 ((S.sh x).lt.get e) fun v s ls z => ?_
    cases s with
    | i d => exact z
    | t u => exact z
    | ob C m => exact z
    | z m => exact z
    | r k => exact ⟨z.1, ls⟩
  · have ok2 : Ok c ad env (G x') σ H' := by
      refine ok.chgF (S := fun j => ∃ i, i < n ∧ j = f i) (S.len x' x) (fun j hj => ?_) (fun j hj => S.out x' x j fun i hi e => hj ⟨i, hi, e⟩) (fun a u e ne => hch a u e fun i hi => ne (f i) ⟨i, hi, rfl⟩)
      obtain ⟨i, hi, rfl⟩ := hj
      obtain ⟨o, h1, h2, h3⟩ := hlt x i hi
      obtain ⟨o', g1, g2, g3⟩ := hlt x' i hi
      refine ⟨_, _, h3, by rw [reS_live]; exact h2, g3, by rw [reS_live]; exact g2, ?_⟩
      have so := hs.obj i o' g1
      rw [hNeq] at so
      refine soOk_out so fun v s z => ?_
      cases s with
      | i d => exact z
      | t u => exact z
      | ob C m => exact z
      | z m => exact z
      | r k => exact ⟨z.1, (List.getElem?_eq_some_iff.mp (lv x k z.2).choose_spec.1).1⟩
    refine q v H' x' d hd ok2 ?_
    rw [hNeq] at r
    refine r.sub fun a z => ?_
    rcases z with z | ⟨k, l, e⟩
    · exact Or.inl z
    · refine Or.inr ⟨k, ?_, e⟩
      by_cases h : ∃ i, i < n ∧ k = f i
      · obtain ⟨i, hi, rfl⟩ := h; exact lv x i hi
      · unfold Lv at l ⊢
        rw [S.out x x' k fun i hi e => h ⟨i, hi, e⟩]
        exact l
theorem lookup_paired {F : V → SV → Prop} {mn : Str} : ∀ {l : List (Str × V)} {m : List (Str × SV)}, Paired (fun (p : Str × V) (q : Str × SV) => p.1 = q.1 ∧ F p.2 q.2) l m → m.lookup mn = none → l.lookup mn = none
  | _, _, .nil, _ => rfl
  | (a1, a2) :: l, (b1, b2) :: m, .cons r t, h => by
    have e : a1 = b1 := r.1
    subst e
    rw [List.lookup_cons] at h ⊢
    cases hq : (mn == a1) with
    | true => rw [hq] at h; cases h
    | false => rw [hq] at h; exact lookup_paired t h
/-- a call of a def -/
theorem en_call {G : α → List SO} {E : XK} (S : SegAt f n shape G) (hl : ∀ s ∈ ds, SvLt n s) (ha : EvAS c env (G x) tr (ds.map (reV f))) (hR : ∃ x' d, R x ds x' d) : EvN c env (G x) (tCall (spS c.K n shape R) [] E tr) (fun os' d => ∃ x', R x ds x' d ∧ os' = G x') := fun ad σ H ok Q q => ha ad σ H ok _ fun vs H2 e r => by
  rw [List.append_nil]
  exact seg_call S (ok.ext e) hl r hR fun v H3 x' d hd ok3 r3 => q v H3 _ d ⟨x', hd, rfl⟩ ok3 r3
/-- a call of a method -/
theorem en_meth {G : α → List SO} {E : XK} {C : Addr} {mn : Str} {k : Nat} {fs : List (Str × SV)} (S : SegAt f n shape G) (ho : EvR c env (G x) te (f k)) (hk : (G x)[f k]? = some (.ob C fs)) (hm : fs.lookup mn = none) (hkn : k < n) (hl : ∀ s ∈ ds, SvLt n s) (ha : EvAS c env (G x) tr (ds.map (reV f))) (hR : ∃ x' d, R x (.r k :: ds) x' d) : EvN c env (G x) (tMeth C mn (spS c.K n shape R) [] E te tr) (fun os' d => ∃ x', R x (.r k :: ds) x' d ∧ os' = G x') := fun ad σ H ok Q q => ho.2 ad σ H ok _ fun H1 e1 => by
  have ok1 := ok.ext e1
  obtain ⟨_, dx, vs0, h0, pv⟩ := ok1.obj (f k) _ hk rfl
  have hlk : vs0.lookup mn = none := lookup_paired pv hm
  refine ⟨ad (f k), dx, vs0, rfl, h0, hlk, ha ad σ H1 ok1 _ fun vs H2 e r => ?_⟩
  rw [List.append_nil]
  exact seg_call (ds := .r k :: ds) S (ok1.ext e) (fun s hs => (List.mem_cons.mp hs).elim (fun e => e ▸ hkn) (hl s)) (show Paired _ (.ref (ad (f k)) :: vs) (.r (f k) :: ds.map (reV f)) from .cons ⟨rfl, (List.getElem?_eq_some_iff.mp hk).1⟩ r) hR fun v H3 x' d hd ok3 r3 => q v H3 _ d ⟨x', hd, rfl⟩ ok3 r3
/-! ### statements -/
theorem gs_asgN {i : Nat} {P : List SO → PyData → Prop} (h : EvN c env os te P) (k : ∀ os' d, P os' d → Go c (env.set i (some (.i d))) os' u D) : Go c env os (tSeq (tAsg te (gName i)) u) D := fun ad σ H ok => h ad σ H ok _ fun v H2 os' d p ok2 r => k os' d p ad _ H2 (ok2.set (s := .i d) r)
theorem gs_asgNT {P : List SO → PyData → Prop} (h : EvN c env os te P) (k : ∀ os' d, P os' d → ∃ env' js, Tg c env os' g (.i d) env' js ∧ Go c env' os' u D) : Go c env os (tSeq (tAsg te g) u) D := fun ad σ H ok => h ad σ H ok _ fun v H2 os' d p ok2 r => by
  obtain ⟨env', js, ht, hk⟩ := k os' d p
  exact ht ad σ H2 v ok2 r _ fun σ2 ok3 _ => hk ad σ2 H2 ok3
theorem gs_doN {P : List SO → PyData → Prop} (h : EvN c env os te P) (k : ∀ os' d, P os' d → Go c env os' u D) : Go c env os (tSeq (tDrop te) u) D := fun ad σ H ok => h ad σ H ok _ fun v H2 os' d p ok2 r => k os' d p ad σ H2 ok2
/-! ### the body -/
abbrev cnS (K : PySem.W.Frag) (H : Hp) (N : Addr → Prop) (ad : Nat → Addr) (n : Nat) : Cn := ⟨K, H, N, fun a => ∃ j, j < n ∧ a = ad j, (List.range n).map fun j => (V.ref (ad j), SV.r j), n⟩
def envG (L : Nat) (ds : List SV) : Sy := ds.map some ++ List.replicate (L - ds.length) none
def RetS (shape : α → List SO) (n : Nat) (R : α → List SV → α → PyData → Prop) (c : Cn) (x : α) (ds : List SV) (D : Ends) : Prop := ∀ ad env os σ v H2 d x', Ok c ad env os σ H2 → (∀ (i : Nat) (o : SO), (shape x')[i]? = some o → os[i]? = some o) → ShOk n (shape x') → R x ds x' d → Dn c.K (Nof c ad os) H2 v d → D.rt v H2
theorem paired_getG {α β : Type} {F : α → β → Prop} : ∀ {l : List α} {m : List β} {i : Nat} {b : β}, Paired F l m → m[i]? = some b → ∃ a, l[i]? = some a ∧ F a b
  | _, _, _, _, .nil, e => by simp at e
  | _ :: _, _ :: _, 0, b, .cons r t, e => by simp at e; subst e; exact ⟨_, rfl, r⟩
  | _ :: _, _ :: _, i + 1, b, .cons r t, e => by simp only [List.getElem?_cons_succ] at e ⊢; exact paired_getG t e
theorem ok_startG {K : PySem.W.Frag} {N : Addr → Prop} {vs : List V} {sh : List SO} {Nm : List Str} (hs : ShOk n sh) (so : SegOk K N ad n H sh) (hN : ∀ a, N a → H a ≠ none) (ha : Paired (SvOk K (SegN N ad n) ad n H) vs ds) (hl : ds.length ≤ Nm.length) :
    Ok (cnS K H N ad n) ad (envG Nm.length ds) sh (L2.start Nm vs) H := by
  have hlen := Paired.length ha
  have lv : ∀ k, Lv sh k → k < n := fun k ⟨o, e, _⟩ => by rw [← hs.len]; exact (List.getElem?_eq_some_iff.mp e).1
  have hNof : ∀ a, Nof (cnS K H N ad n) ad sh a → SegN N ad n a := fun a z => z.imp id fun ⟨k, l, e⟩ => ⟨k, lv k l, e⟩
  refine ⟨?_, fun a o e _ => e, hN, fun i t e => ?_, fun k o e l => ?_, fun k j hk hj q => so.inj k j (lv k hk) (lv j hj) q, fun k hk => so.nn k (lv k hk), fun p hp => ?_, by show n ≤ sh.length; rw [hs.len]; exact Nat.le_refl _⟩
  · unfold L2.start envG; simp [hlen]
  · unfold envG at e
    by_cases hi : i < ds.length
    · rw [List.getElem?_append_left (by simpa using hi), List.getElem?_map] at e
      cases hd : ds[i]? with
      | none => rw [hd] at e; cases e
      | some s =>
        rw [hd] at e
        cases e
        obtain ⟨v, h1, h2⟩ := paired_getG ha hd
        refine ⟨v, ?_, by rw [hs.len]; exact h2.sub hNof⟩
        unfold L2.start
        rw [List.getElem?_append_left (by simp [hlen]; exact hi), List.getElem?_map, h1]
        rfl
    · rw [List.getElem?_append_right (by simpa using hi), List.getElem?_replicate] at e
      split at e <;> cases e
  · have hk := lv k ⟨o, e, l⟩
    refine ⟨Or.inr ⟨k, hk, rfl⟩, ?_⟩
    rw [hs.len]
    exact (so.obj k o e).map (fun v s z => z.sub hNof) fun _ q => q
  · obtain ⟨j, hj, rfl⟩ := List.mem_map.mp hp
    exact ⟨rfl, List.mem_range.mp hj⟩
theorem run_spS {K : PySem.W.Frag} {vs : List V} {Q : VK} {E : XK} {Nm : List Str} {t : TS} (h : spS K n shape R vs H Q E) (hl : vs.length ≤ Nm.length)
    (gg : ∀ (N : Addr → Prop) (ad : Nat → Addr) (x : α) (ds : List SV), ShOk n (shape x) → (∃ x' d, R x ds x' d) → RetS shape n R (cnS K H N ad n) x ds (De Q) → Go (cnS K H N ad n) (envG Nm.length ds) (shape x) t (De Q)) : t (De Q) (L2.start Nm vs) H := by
  obtain ⟨N, ad, x, ds, hs, so, hN, ha, hR, hq⟩ := h
  refine gg N ad x ds hs hR (fun ad' env os σ v H2 d x' ok hos hs' hd r => ?_) _ _ _ (ok_startG hs so hN ha (by rw [← Paired.length ha]; exact hl))
  have had : ∀ j, j < n → ad' j = ad j := fun j hj => by
    obtain ⟨f1, _⟩ := (show V.ref (ad j) = .ref (ad' j) ∧ _ from ok.frm (.ref (ad j), .r j) (List.mem_map.mpr ⟨j, List.mem_range.mpr hj, rfl⟩))
    exact (V.ref.inj f1).symm
  have hlt : ∀ i, i < n → Lv os i := fun i hi => by
    have hh : i < (shape x').length := by rw [hs'.len]; exact hi
    have e := List.getElem?_eq_getElem hh
    exact ⟨_, hos i _ e, hs'.live i _ e⟩
  have hNs : ∀ a, SegN N ad n a → Nof (cnS K H N ad n) ad' os a := fun a z => by
    rcases z with z | ⟨j, hj, e⟩
    · exact Or.inl z
    · exact Or.inr ⟨j, hlt j hj, by rw [e, had j hj]⟩
  refine hq v H2 x' d hd hs' (fun a u e ne => ok.ex a u e fun ⟨j, hj, z⟩ => ne j hj z) ⟨fun i o e => ?_, so.inj, so.nn⟩ (r.sub hNs)
  have hi : i < n := by rw [← hs'.len]; exact (List.getElem?_eq_some_iff.mp e).1
  obtain ⟨_, h2⟩ := ok.obj i o (hos i o e) (hs'.live i o e)
  rw [had i hi] at h2
  have lt := hs'.lt.get e
  have hv : ∀ v s, SvLt n s → SvOk K (Nof (cnS K H N ad n) ad' os) ad' os.length H2 v s → SvOk K (SegN N ad n) ad n H2 v s := fun v s l z => by
    cases s with
    | i d => exact Dn.sub hNs z
    | t u => exact z
    | ob C m => exact ObOk.sub hNs z
    | z m => exact ZOk.sub hNs z
    | r k => exact ⟨by rw [z.1, had k l], l⟩
  cases o with
  | x => exact True.intro
  | lst xs => obtain ⟨vs, e, p⟩ := h2; exact ⟨vs, e, Paired.impR p fun a b m q => hv _ _ (lt b m) q⟩
  | dK kvs => obtain ⟨vs, e, p⟩ := h2; exact ⟨vs, e, Paired.impR p fun a b m q => ⟨q.1, hv _ _ (lt b m) q.2⟩⟩
  | dT kvs => obtain ⟨vs, e, p⟩ := h2; exact ⟨vs, e, Paired.impR p fun a b m q => ⟨q.1, hv _ _ (lt b m) q.2⟩⟩
  | ho g => exact h2
  | nums => exact h2
  | stt k => obtain ⟨v, a, m, e, r⟩ := h2; exact ⟨v, a, m, e, hv v (.r k) lt r⟩
  | ob C fs => obtain ⟨dx, vs, e, p⟩ := h2; exact ⟨dx, vs, e, Paired.impR p fun a b m q => ⟨q.1, hv _ _ (lt b m) q.2⟩⟩
/-- return -/
theorem gs_retS {te : TE} {x' : α} (h : EvX false c env os te d) (k : RetS shape n R c x ds D) (hos : ∀ (i : Nat) (o : SO), (shape x')[i]? = some o → os[i]? = some o) (hs : ShOk n (shape x')) (hR : R x ds x' d) : Go c env os (tSeq (tRet te) u) D := fun ad σ H ok =>
  h ad σ H ok _ fun v H2 e r => k ad env os σ v H2 d x' (ok.ext e) hos hs hR (by rw [Nw_false] at r; exact r)
theorem gs_retSN {te : TE} {P : List SO → PyData → Prop} (h : EvN c env os te P) (k : RetS shape n R c x ds D) (hP : ∀ os' d, P os' d → ∃ x', (∀ (i : Nat) (o : SO), (shape x')[i]? = some o → os'[i]? = some o) ∧ ShOk n (shape x') ∧ R x ds x' d) : Go c env os (tSeq (tRet te) u) D := fun ad σ H ok =>
  h ad σ H ok _ fun v H2 os' d p ok2 r => by
    obtain ⟨x', h1, h2, h3⟩ := hP os' d p
    exact k ad env os' σ v H2 d x' ok2 h1 h2 h3 r
/-- the end of a body, without return -/
theorem g_endS {Q : VK} {x' : α} (k : RetS shape n R c x ds (De Q)) (hos : ∀ (i : Nat) (o : SO), (shape x')[i]? = some o → os[i]? = some o) (hs : ShOk n (shape x')) (hR : R x ds x' .none) : Go c env os tNext (De Q) := fun ad σ H ok => k ad env os σ .non H .none x' ok hos hs hR .non
/-! ### objects that are made -/
theorem Ok.grow {ad' : Nat → Addr} {m : Nat} (ok : Ok c ad env os σ H) (h : ∀ j, j < os.length → ad' j = ad j) : Ok c ad' env (os ++ List.replicate m .x) σ H := by
  have lv : ∀ k, Lv (os ++ List.replicate m SO.x) k → Lv os k ∧ k < os.length := fun k ⟨o, e, l⟩ => by
    by_cases hk : k < os.length
    · rw [List.getElem?_append_left hk] at e
      exact ⟨⟨o, e, l⟩, hk⟩
    · rw [List.getElem?_append_right (by omega), List.getElem?_replicate] at e
      split at e
      · cases e; cases l
      · cases e
  have hN : ∀ a, Nof c ad' (os ++ List.replicate m .x) a → Nof c ad os a := fun a z => z.imp id fun ⟨k, l, e⟩ => by
    obtain ⟨l2, hk⟩ := lv k l
    exact ⟨k, l2, by rw [e, h k hk]⟩
  have hv : ∀ b v s, b ≤ os.length → SvOk c.K (Nof c ad os) ad b H v s → SvOk c.K (Nof c ad' (os ++ List.replicate m .x)) ad' b H v s := fun b v s hb z => by
    cases s with
    | i d => exact Dn.sub hN z
    | t u => exact z
    | ob C mm => exact ObOk.sub hN z
    | z m => exact ZOk.sub hN z
    | r k => exact ⟨by rw [h k (Nat.lt_of_lt_of_le z.2 hb)]; exact z.1, z.2⟩
  have hv2 : ∀ v s, SvOk c.K (Nof c ad os) ad os.length H v s → SvOk c.K (Nof c ad' (os ++ List.replicate m .x)) ad' (os ++ List.replicate m SO.x).length H v s := fun v s z => (hv _ v s (Nat.le_refl _) z).lift (by simp)
  refine ⟨ok.len, ok.ex, ok.n0, fun i s e => ?_, fun k o e l => ?_, fun k j lk lj z => ?_, fun k lk => ?_, fun p hp => hv _ _ _ ok.low (ok.frm p hp), by have := ok.low; simp; omega⟩
  · obtain ⟨v, h1, h2⟩ := ok.val i s e
    exact ⟨v, h1, hv2 v s h2⟩
  · obtain ⟨l2, hk⟩ := lv k ⟨o, e, l⟩
    rw [List.getElem?_append_left hk] at e
    obtain ⟨h1, h2⟩ := ok.obj k o e l
    rw [h k hk]
    exact ⟨h1, h2.map hv2 fun _ q => q⟩
  · obtain ⟨l1, hk⟩ := lv k lk
    obtain ⟨l2, hj⟩ := lv j lj
    rw [h k hk, h j hj] at z
    exact ok.inj k j l1 l2 z
  · obtain ⟨l1, hk⟩ := lv k lk
    rw [h k hk]
    exact ok.nn k l1
/-- as chgF; objects that are dead before may come to life at new addresses -/
theorem Ok.chgK {S : Nat → Prop} (ok : Ok c ad env os σ H) (hl : os2.length = os.length)
    (hS1 : ∀ j, S j → ∃ o o2, os[j]? = some o ∧ (o.live = true ∨ H (ad j) = none) ∧ os2[j]? = some o2 ∧ o2.live = true ∧ SoOk c.K (Nof c ad os2) ad os.length H' (ad j) o2) (hinj : ∀ i j, S i → S j → ad i = ad j → i = j) (hS0 : ∀ j, ¬ S j → os2[j]? = os[j]?)
    (hch : ∀ a u, H a = some u → (∀ j, S j → a ≠ ad j) → H' a = some u) : Ok c ad env os2 σ H' := by
  have hlv : ∀ j, Lv os2 j ↔ (S j ∨ Lv os j) := fun j => by
    by_cases q : S j
    · obtain ⟨o, o2, h1, h2, h3, h4, _⟩ := hS1 j q
      exact ⟨fun _ => Or.inl q, fun _ => ⟨o2, h3, h4⟩⟩
    · unfold Lv; rw [hS0 j q]; exact ⟨Or.inr, fun z => z.resolve_left q⟩
  have NS : ∀ j, S j → Nof c ad os2 (ad j) := fun j q => Or.inr ⟨j, (hlv j).mpr (Or.inl q), rfl⟩
  have wS : ∀ j, S j → H (ad j) = none ∨ (Lv os j ∧ ∃ u, H (ad j) = some u ∧ Wr u = true) := fun j q => by
    obtain ⟨o, _, h1, h2, _⟩ := hS1 j q
    rcases h2 with h2 | h2
    · exact Or.inr ⟨⟨o, h1, h2⟩, (ok.obj j o h1 h2).2.some h2⟩
    · exact Or.inl h2
  have hnw : ∀ a x, H a = some x → Wr x = false → H' a = some x := fun a x e hw => hch a x e fun j q z => by
    rcases wS j q with y | ⟨_, u, eu, wu⟩
    · rw [z, y] at e; cases e
    · rw [z] at e; rw [e] at eu; cases eu; rw [hw] at wu; cases wu
  have hNo : ∀ a x, H a = some x → ¬ Nof c ad os a → ¬ Nof c ad os2 a := fun a x e nn z => by
    rcases z with z | ⟨k, l, z⟩
    · exact nn (Or.inl z)
    · rcases (hlv k).mp l with q | q
      · rcases wS k q with y | ⟨y, _⟩
        · rw [z, y] at e; cases e
        · exact nn (Or.inr ⟨k, y, z⟩)
      · exact nn (Or.inr ⟨k, q, z⟩)
  have hout : ∀ a x, H a = some x → ¬ Nof c ad os a → H' a = some x := fun a x e nn => hch a x e fun j q z => hNo a x e nn (z ▸ NS j q)
  have hrd : ∀ a x, Rd H a x → ¬ Nof c ad os a → Rd H' a x ∧ ¬ Nof c ad os2 a := fun a x r nn => by
    rcases r with r | ⟨o, r⟩
    · exact ⟨Or.inl (hout a x r nn), hNo a x r nn⟩
    · exact ⟨Or.inr ⟨o, hout a _ r nn⟩, hNo a _ r nn⟩
  have hsq : ∀ a xs, SqT c.K H a xs → SqT c.K H' a xs := fun a xs r => by
    rcases r with (r | ⟨o, r⟩) | r
    · exact Or.inl (Or.inl (hnw a _ r rfl))
    · exact Or.inl (Or.inr ⟨o, hnw a _ r rfl⟩)
    · exact Or.inr r
  have hv : ∀ m v s, SvOk c.K (Nof c ad os) ad m H v s → SvOk c.K (Nof c ad os2) ad m H' v s := fun m v s h => by
    cases s with
    | i d => exact Dn.go hrd hout hsq d v h
    | t x => obtain ⟨b, e1, e2, e3⟩ := h; exact ⟨b, e1, hnw b _ e2 e3, e3⟩
    | ob C m => obtain ⟨a, dx, fs, e1, e2, e3, e4⟩ := h; exact ⟨a, dx, fs, e1, hout a _ e2 e3, hNo a _ e2 e3, Paired.imp e4 fun _ _ z => ⟨z.1, Dn.go hrd hout hsq _ _ z.2⟩⟩
    | z m => obtain ⟨a, dx, fs, e1, e2, e3, e4⟩ := h; exact ⟨a, dx, fs, e1, hout a _ e2 e3, hNo a _ e2 e3, Paired.imp e4 fun _ _ z => ⟨z.1, Dn.go hrd hout hsq _ _ z.2⟩⟩
    | r k => exact h
  have hnS : ∀ k, Lv os k → ∃ x, H (ad k) = some x := fun k ⟨o, e, l⟩ => by obtain ⟨u, e, _⟩ := (ok.obj k o e l).2.some l; exact ⟨u, e⟩
  refine ⟨ok.len, fun a o h m => ?_, fun a h => ?_, fun i s h => ?_, fun k o h l => ?_, fun k j hk hj z => ?_, fun k hk z => ?_, fun p hp => hv _ _ _ (ok.frm p hp), by rw [hl]; exact ok.low⟩
  · refine hch a o (ok.ex a o h m) fun j q z => ?_
    rcases wS j q with y | ⟨⟨o1, h1, h2⟩, _⟩
    · rw [← z, ok.ex a o h m] at y; cases y
    · rcases (ok.obj j o1 h1 h2).1 with y | y
      · rw [← z, h] at y; cases y
      · exact m (z ▸ y)
  · cases e : H a with
    | none => exact absurd e (ok.n0 a h)
    | some x =>
      rw [hch a x e fun j q z => ?_]
      · exact fun z => nomatch z
      · rcases wS j q with y | ⟨y, _⟩
        · rw [← z, e] at y; cases y
        · exact ok.nn j y (z ▸ h)
  · obtain ⟨v, h1, h2⟩ := ok.val i s h
    rw [hl]
    exact ⟨v, h1, hv _ v s h2⟩
  · rw [hl]
    by_cases q : S k
    · obtain ⟨o1, o2, h1, h2, h3, h4, h5⟩ := hS1 k q
      rw [h3] at h; cases h
      refine ⟨?_, h5⟩
      rcases h2 with h2 | h2
      · exact (ok.obj k o1 h1 h2).1
      · exact fresh0 ok h2
    · rw [hS0 k q] at h
      obtain ⟨h1, h2⟩ := ok.obj k o h l
      refine ⟨h1, h2.map (hv _) fun x e => hch _ x e fun j qj z => ?_⟩
      rcases wS j qj with y | ⟨y, _⟩
      · rw [← z, e] at y; cases y
      · exact q (ok.inj k j ⟨o, h, l⟩ y z ▸ qj)
  · rcases (hlv k).mp hk with q1 | q1 <;> rcases (hlv j).mp hj with q2 | q2
    · exact hinj k j q1 q2 z
    · rcases wS k q1 with y | ⟨y, _⟩
      · obtain ⟨u, e⟩ := hnS j q2
        rw [← z, y] at e; cases e
      · exact ok.inj k j y q2 z
    · rcases wS j q2 with y | ⟨y, _⟩
      · obtain ⟨u, e⟩ := hnS k q1
        rw [z, y] at e; cases e
      · exact ok.inj k j q1 y z
    · exact ok.inj k j q1 q2 z
  · rcases (hlv k).mp hk with q1 | q1
    · rcases wS k q1 with y | ⟨y, _⟩
      · exact ok.n0 _ z y
      · exact ok.nn k y z
    · exact ok.nn k q1 z
/-- the promise of a maker: objects of the caller, and new ones behind them -/
def spK (K : PySem.W.Frag) (n0 n1 : Nat) {α β : Type} (sh0 : α → List SO) (sh1 : β → List SO) (R : α → List SV → β → Prop) : Sp := fun vs H Q _ => ∃ (N : Addr → Prop) (ad : Nat → Addr) (x : α) (ds : List SV),
  ShOk n0 (sh0 x) ∧ SegOk K N ad n0 H (sh0 x) ∧ (∀ a, N a → H a ≠ none) ∧ Paired (SvOk K (SegN N ad n0) ad n0 H) vs ds ∧ (∃ y, R x ds y) ∧
  ∀ H' ad' y, R x ds y → ShOk n1 (sh1 y) → (∀ j, j < n0 → ad' j = ad j) → (∀ j, n0 ≤ j → j < n1 → H (ad' j) = none) → (∀ a u, H a = some u → (∀ j, j < n0 → a ≠ ad j) → H' a = some u) → SegOk K N ad' n1 H' (sh1 y) → Q .non H'
theorem spK_len {K : PySem.W.Frag} {n0 n1 l : Nat} {β : Type} {sh0 : α → List SO} {sh1 : β → List SO} {R : α → List SV → β → Prop} (hR : ∀ x ds y, R x ds y → ds.length = l) : ∀ vs H Q E, spK K n0 n1 sh0 sh1 R vs H Q E → vs.length = l := fun vs H Q E ⟨N, ad, x, ds, _, _, _, h, ⟨y, r⟩, _⟩ => by rw [Paired.length h, hR x ds y r]
def gAt (f : Nat → Nat) (n0 l : Nat) : Nat → Nat := fun i => if i < n0 then f i else l + (i - n0)
/-- how the store looks before (by x) and after (by y) -/
structure SegAtK (f : Nat → Nat) (n0 n1 : Nat) {α β : Type} (sh0 : α → List SO) (sh1 : β → List SO) (x : α) (os : List SO) (G : β → List SO) : Prop where
  le : n0 ≤ n1
  inj : ∀ i j, i < n0 → j < n0 → f i = f j → i = j
  sh : ShOk n0 (sh0 x)
  at_ : ∀ (i : Nat) (o : SO), (sh0 x)[i]? = some o → os[f i]? = some (reS f o)
  len : ∀ y, (G y).length = os.length + (n1 - n0)
  at2 : ∀ y (i : Nat) (o : SO), (sh1 y)[i]? = some o → (G y)[gAt f n0 os.length i]? = some (reS (gAt f n0 os.length) o)
  out : ∀ y j, j < os.length → (∀ i, i < n0 → j ≠ f i) → (G y)[j]? = os[j]?
theorem seg_callK {n0 n1 : Nat} {β : Type} {sh0 : α → List SO} {sh1 : β → List SO} {R : α → List SV → β → Prop} {G : β → List SO} {vs : List V} {Q : VK} {E : XK} (S : SegAtK f n0 n1 sh0 sh1 x os G) (ok : Ok c ad env os σ H) (hl : ∀ s ∈ ds, SvLt n0 s) (ha : Paired (SvOk c.K (Nof c ad os) ad os.length H) vs (ds.map (reV f))) (hR : ∃ y, R x ds y)
    (q : ∀ H2 ad' y, R x ds y → (∀ j, j < os.length → ad' j = ad j) → Ok c ad' env (G y) σ H2 → Q .non H2) : spK c.K n0 n1 sh0 sh1 R vs H Q E := by
  have hlt : ∀ i, i < n0 → ∃ o, (sh0 x)[i]? = some o ∧ o.live = true ∧ os[f i]? = some (reS f o) := fun i hi => by
    have hh : i < (sh0 x).length := by rw [S.sh.len]; exact hi
    have e := List.getElem?_eq_getElem hh
    exact ⟨_, e, S.sh.live _ _ e, S.at_ i _ e⟩
  have lv : ∀ i, i < n0 → Lv os (f i) := fun i hi => by
    obtain ⟨o, _, h2, h3⟩ := hlt i hi
    exact ⟨_, h3, by rw [reS_live]; exact h2⟩
  have flt : ∀ i, i < n0 → f i < os.length := fun i hi => by obtain ⟨o, e, _⟩ := lv i hi; exact (List.getElem?_eq_some_iff.mp e).1
  have hNs : ∀ a, SegN (fun a => Nof c ad os a ∧ ∀ i, i < n0 → a ≠ ad (f i)) (fun i => ad (f i)) n0 a ↔ Nof c ad os a := fun a => by
    constructor
    · rintro (z | ⟨i, hi, z⟩)
      · exact z.1
      · exact z ▸ Or.inr ⟨f i, lv i hi, rfl⟩
    · intro z
      by_cases h : ∃ i, i < n0 ∧ a = ad (f i)
      · exact Or.inr h
      · exact Or.inl ⟨z, fun i hi e => h ⟨i, hi, e⟩⟩
  have hNeq : SegN (fun a => Nof c ad os a ∧ ∀ i, i < n0 → a ≠ ad (f i)) (fun i => ad (f i)) n0 = Nof c ad os := funext fun a => propext (hNs a)
  refine ⟨fun a => Nof c ad os a ∧ ∀ i, i < n0 → a ≠ ad (f i), fun i => ad (f i), x, ds, S.sh, ⟨fun i o e => ?_, fun i j hi hj e => S.inj i j hi hj (ok.inj _ _ (lv i hi) (lv j hj) e), fun i hi z => z.2 i hi rfl⟩, fun a z => ok.nof z.1, by rw [hNeq]; exact args_in (f := f) (fun _ z => z) (fun _ _ => rfl) hl ha, hR, fun H' ad1 y hd hsh hsame hfr hch hs => ?_⟩
  · have hi : i < n0 := by rw [← S.sh.len]; exact (List.getElem?_eq_some_iff.mp e).1
    have hl := S.sh.live i o e
    obtain ⟨_, h2⟩ := ok.obj (f i) _ (S.at_ i o e) (by rw [reS_live]; exact hl)
    rw [hNeq]
    refine soOk_in h2 (S.sh.lt.get e) fun v s ls z => ?_
    cases s with
    | i d => exact z
    | t u => exact z
    | ob C m => exact z
    | z m => exact z
    | r k => exact ⟨z.1, ls⟩
  · let ad2 : Nat → Addr := fun j => if j < os.length then ad j else ad1 (n0 + (j - os.length))
    have h2l : ∀ j, j < os.length → ad2 j = ad j := fun j hj => if_pos hj
    have hg : ∀ i, i < n1 → ad2 (gAt f n0 os.length i) = ad1 i := fun i hi => by
      show (if gAt f n0 os.length i < os.length then _ else _) = _
      unfold gAt
      by_cases h : i < n0
      · rw [if_pos h, if_pos (flt i h), hsame i h]
      · rw [if_neg h, if_neg (by omega)]
        congr 1
        omega
    have gl : ∀ i, i < n1 → gAt f n0 os.length i < os.length + (n1 - n0) := fun i hi => by
      unfold gAt
      by_cases h : i < n0
      · rw [if_pos h]; have := flt i h; omega
      · rw [if_neg h]; omega
    have hlt2 : ∀ i, i < n1 → ∃ o, (sh1 y)[i]? = some o ∧ o.live = true ∧ (G y)[gAt f n0 os.length i]? = some (reS (gAt f n0 os.length) o) := fun i hi => by
      have hh : i < (sh1 y).length := by rw [hsh.len]; exact hi
      have e := List.getElem?_eq_getElem hh
      exact ⟨_, e, hsh.live _ _ e, S.at2 y i _ e⟩
    have ok1 : Ok c ad2 env (os ++ List.replicate (n1 - n0) .x) σ H := ok.grow h2l
    have outx : ∀ j, (¬ ∃ i, i < n1 ∧ j = gAt f n0 os.length i) → (G y)[j]? = (os ++ List.replicate (n1 - n0) SO.x)[j]? := fun j hj => by
      by_cases h : j < os.length
      · rw [List.getElem?_append_left h]
        refine S.out y j h fun i hi e => hj ⟨i, Nat.lt_of_lt_of_le hi S.le, ?_⟩
        unfold gAt; rw [if_pos hi]; exact e
      · by_cases h2 : j < os.length + (n1 - n0)
        · exfalso
          have hle := S.le
          refine hj ⟨n0 + (j - os.length), by omega, ?_⟩
          unfold gAt; rw [if_neg (by omega)]; omega
        · rw [List.getElem?_eq_none (by rw [S.len]; omega), List.getElem?_eq_none (by simp; omega)]
    have hNof2 : ∀ a, Nof c ad2 (G y) a → SegN (fun a => Nof c ad os a ∧ ∀ i, i < n0 → a ≠ ad (f i)) ad1 n1 a := fun a z => by
      rcases z with z | ⟨k, l, e⟩
      · refine Or.inl ⟨Or.inl z, fun i hi e => ok.nn (f i) (lv i hi) (e ▸ z)⟩
      · by_cases h : ∃ i, i < n1 ∧ k = gAt f n0 os.length i
        · obtain ⟨i, hi, rfl⟩ := h
          exact Or.inr ⟨i, hi, by rw [e, hg i hi]⟩
        · unfold Lv at l
          rw [outx k h] at l
          obtain ⟨o, e1, l1⟩ := l
          have hk : k < os.length := by
            by_cases hk : k < os.length
            · exact hk
            · rw [List.getElem?_append_right (by omega), List.getElem?_replicate] at e1
              split at e1
              · cases e1; cases l1
              · cases e1
          rw [List.getElem?_append_left hk] at e1
          rw [h2l k hk] at e
          refine Or.inl ⟨Or.inr ⟨k, ⟨o, e1, l1⟩, e⟩, fun i hi e2 => h ⟨i, Nat.lt_of_lt_of_le hi S.le, ?_⟩⟩
          unfold gAt
          rw [if_pos hi]
          exact ok.inj k (f i) ⟨o, e1, l1⟩ (lv i hi) (e.symm.trans e2)
    refine q H' ad2 y hd h2l (ok1.chgK (S := fun j => ∃ i, i < n1 ∧ j = gAt f n0 os.length i) (by rw [S.len]; simp) (fun j hj => ?_) (fun a b ha hb e => ?_) outx (fun a u e ne => hch a u e fun i hi z => ne (gAt f n0 os.length i) ⟨i, Nat.lt_of_lt_of_le hi S.le, rfl⟩ ?_))
    · obtain ⟨i, hi, rfl⟩ := hj
      obtain ⟨o', g1, g2, g3⟩ := hlt2 i hi
      have so := hs.obj i o' g1
      have hso : SoOk c.K (Nof c ad2 (G y)) ad2 (os ++ List.replicate (n1 - n0) SO.x).length H' (ad2 (gAt f n0 os.length i)) (reS (gAt f n0 os.length) o') := by
        rw [hg i hi]
        refine soOk_out so fun v s z => ?_
        cases s with
        | i d => exact Dn.sub hNof2 z
        | t u => exact z
        | ob C m => exact ObOk.sub hNof2 z
        | z m => exact ZOk.sub hNof2 z
        | r k => exact ⟨by rw [hg k z.2]; exact z.1, by simp; exact gl k z.2⟩
      by_cases h : i < n0
      · obtain ⟨o, h1, h2, h3⟩ := hlt i h
        have e : gAt f n0 os.length i = f i := by unfold gAt; rw [if_pos h]
        refine ⟨_, _, by rw [e, List.getElem?_append_left (flt i h)]; exact h3, Or.inl (by rw [reS_live]; exact h2), g3, by rw [reS_live]; exact g2, hso⟩
      · refine ⟨.x, _, ?_, Or.inr ?_, g3, by rw [reS_live]; exact g2, hso⟩
        · unfold gAt
          rw [if_neg h, List.getElem?_append_right (by omega), List.getElem?_replicate, if_pos (by omega)]
        · rw [hg i hi]; exact hfr i (by omega) hi
    · obtain ⟨i, hi, rfl⟩ := ha
      obtain ⟨j, hj, rfl⟩ := hb
      rw [hg i hi, hg j hj] at e
      rw [hs.inj i j hi hj e]
    · rw [hg i (Nat.lt_of_lt_of_le hi S.le), hsame i hi]
      exact z
def RetK {β : Type} (sh1 : β → List SO) (n1 : Nat) (R : α → List SV → β → Prop) (c : Cn) (x : α) (ds : List SV) (D : Ends) : Prop := ∀ ad env os σ H2 y, Ok c ad env os σ H2 → (∀ (i : Nat) (o : SO), (sh1 y)[i]? = some o → os[i]? = some o) → ShOk n1 (sh1 y) → R x ds y → D.nx σ H2
theorem g_endK {β : Type} {sh1 : β → List SO} {n1 : Nat} {R : α → List SV → β → Prop} {y : β} (k : RetK sh1 n1 R c x ds D) (hos : ∀ (i : Nat) (o : SO), (sh1 y)[i]? = some o → os[i]? = some o) (hs : ShOk n1 (sh1 y)) (hR : R x ds y) : Go c env os tNext D := fun ad σ H ok => k ad env os σ H y ok hos hs hR
theorem run_spK {K : PySem.W.Frag} {n0 n1 : Nat} {β : Type} {sh0 : α → List SO} {sh1 : β → List SO} {R : α → List SV → β → Prop} {vs : List V} {Q : VK} {E : XK} {Nm : List Str} {t : TS} (h : spK K n0 n1 sh0 sh1 R vs H Q E) (hl : vs.length ≤ Nm.length) (hn : n0 ≤ n1)
    (gg : ∀ (N : Addr → Prop) (ad : Nat → Addr) (x : α) (ds : List SV), ShOk n0 (sh0 x) → (∃ y, R x ds y) → RetK sh1 n1 R (cnS K H N ad n0) x ds (De Q) → Go (cnS K H N ad n0) (envG Nm.length ds) (sh0 x) t (De Q)) : t (De Q) (L2.start Nm vs) H := by
  obtain ⟨N, ad, x, ds, hs, so, hN, ha, hR, hq⟩ := h
  refine gg N ad x ds hs hR (fun ad' env os σ H2 y ok hos hs' hd => ?_) _ _ _ (ok_startG hs so hN ha (by rw [← Paired.length ha]; exact hl))
  have had : ∀ j, j < n0 → ad' j = ad j := fun j hj => by
    obtain ⟨f1, _⟩ := (show V.ref (ad j) = .ref (ad' j) ∧ _ from ok.frm (.ref (ad j), .r j) (List.mem_map.mpr ⟨j, List.mem_range.mpr hj, rfl⟩))
    exact (V.ref.inj f1).symm
  have hlt : ∀ i, i < n1 → Lv os i := fun i hi => by
    have hh : i < (sh1 y).length := by rw [hs'.len]; exact hi
    have e := List.getElem?_eq_getElem hh
    exact ⟨_, hos i _ e, hs'.live i _ e⟩
  have hNs : ∀ a, SegN N ad' n1 a → Nof (cnS K H N ad n0) ad' os a := fun a z => by
    rcases z with z | ⟨j, hj, e⟩
    · exact Or.inl z
    · exact Or.inr ⟨j, hlt j hj, e⟩
  show Q .non H2
  refine hq H2 ad' y hd hs' had (fun j h0 h1 => ?_) (fun a u e ne => ok.ex a u e fun ⟨j, hj, z⟩ => ne j hj z) ⟨fun i o e => ?_, fun i j hi hj z => ok.inj i j (hlt i hi) (hlt j hj) z, fun i hi z => ok.nn i (hlt i hi) z⟩
  · obtain ⟨o, e, l⟩ := hlt j h1
    rcases (ok.obj j o e l).1 with z | ⟨i, hi, z⟩
    · exact z
    · rw [← had i hi] at z
      have := ok.inj j i ⟨o, e, l⟩ (hlt i (Nat.lt_of_lt_of_le hi hn)) z
      omega
  · obtain ⟨_, h2⟩ := ok.obj i o (hos i o e) (hs'.live i o e)
    have lt := hs'.lt.get e
    have hv : ∀ v s, SvLt n1 s → SvOk K (Nof (cnS K H N ad n0) ad' os) ad' os.length H2 v s → SvOk K (SegN N ad' n1) ad' n1 H2 v s := fun v s l z => by
      cases s with
      | i d => exact Dn.sub hNs z
      | t u => exact z
      | ob C m => exact ObOk.sub hNs z
      | z m => exact ZOk.sub hNs z
      | r k => exact ⟨z.1, l⟩
    cases o with
    | x => exact True.intro
    | lst xs => obtain ⟨vs, e, p⟩ := h2; exact ⟨vs, e, Paired.impR p fun a b m q => hv _ _ (lt b m) q⟩
    | dK kvs => obtain ⟨vs, e, p⟩ := h2; exact ⟨vs, e, Paired.impR p fun a b m q => ⟨q.1, hv _ _ (lt b m) q.2⟩⟩
    | dT kvs => obtain ⟨vs, e, p⟩ := h2; exact ⟨vs, e, Paired.impR p fun a b m q => ⟨q.1, hv _ _ (lt b m) q.2⟩⟩
    | ho g => exact h2
    | nums => exact h2
    | stt k => obtain ⟨v, a, m, e, r⟩ := h2; exact ⟨v, a, m, e, hv v (.r k) lt r⟩
    | ob C fs => obtain ⟨dx, vs, e, p⟩ := h2; exact ⟨dx, vs, e, Paired.impR p fun a b m q => ⟨q.1, hv _ _ (lt b m) q.2⟩⟩
/-! ### arguments that are made, makers -/
def EvAPG (c : Cn) (env : Sy) (os : List SO) (ta : TA) (ss : List SV) (os2 : List SO) : Prop := ∀ ad σ H, Ok c ad env os σ H → ∀ Q : List V → Hp → Prop, (∀ ad' vs H2, Ok c ad' env os2 σ H2 → Paired (SvOk c.K (Nof c ad' os2) ad' os2.length H2) vs ss → Q vs H2) → ta σ H Q
theorem EvAS.asG {ss : List SV} (h : EvAS c env os tr ss) : EvAPG c env os tr ss os := fun ad σ H ok Q q => h ad σ H ok _ fun vs H2 e r => q ad vs H2 (ok.ext e) r
theorem eapg_s {s : SV} {ss : List SV} (h : EvS c env os te s) (hr : ∀ v, EvAPG (c.w ((v, s) :: c.fr) os.length) env os tr ss os2) : EvAPG c env os (tCons te tr) (s :: ss) os2 := fun ad σ H ok Q q => h.run ok fun v H1 e1 r1 => by
  have ok1 := ok.ext e1
  refine hr v ad σ H1 (ok1.pin (s := s) r1) _ fun ad' vs H2 ok2 r2 => ?_
  exact q ad' (v :: vs) H2 (up_pin (v := v) (s := s) ok1 _ _ _ _ _ ok2) (.cons ((ok2.frm (v, s) (List.mem_cons_self ..)).lift ok2.low) r2)
theorem eapg_g {k : Nat} {ss : List SV} {os1 : List SO} (h : EvG c env os te k os1) (hr : ∀ v, EvAPG (c.w ((v, .r k) :: c.fr) os1.length) env os1 tr ss os2) : EvAPG c env os (tCons te tr) (.r k :: ss) os2 := fun ad σ H ok Q q => h.2 ad σ H ok _ fun ad1 H1 ok1 => by
  refine hr _ ad1 σ H1 (ok1.pin (v := .ref (ad1 k)) (s := .r k) ⟨rfl, h.1⟩) _ fun ad' vs H2 ok2 r2 => ?_
  exact q ad' _ H2 (up_pin (v := .ref (ad1 k)) (s := .r k) ok1 _ _ _ _ _ ok2) (.cons ((ok2.frm (_, .r k) (List.mem_cons_self ..)).lift ok2.low) r2)
theorem eg_F {o : SO} (h : EvF c env os te o) : EvG c env os te os.length (os ++ [o]) := ⟨by simp, fun ad σ H ok Q q => h ad σ H ok _ fun p H2 hp e r => by
  have ok2 := ok.new hp e (fresh0 ok hp) r
  have := q _ H2 ok2
  rw [adN_same] at this
  exact this⟩
/-- gives an object of the store, which has changed -/
def EvGN (c : Cn) (env : Sy) (os : List SO) (te : TE) (P : Nat → List SO → Prop) : Prop := ∀ ad σ H, Ok c ad env os σ H → ∀ Q : VK, (∀ ad' H2 k os', P k os' → k < os'.length → Ok c ad' env os' σ H2 → Q (.ref (ad' k)) H2) → te σ H Q
theorem gs_asgGN {i : Nat} {P : Nat → List SO → Prop} (h : EvGN c env os te P) (k : ∀ k os', P k os' → Go c (env.set i (some (.r k))) os' u D) : Go c env os (tSeq (tAsg te (gName i)) u) D := fun ad σ H ok => h ad σ H ok _ fun ad' H2 j os' p hj ok2 => k j os' p ad' _ H2 (ok2.set (s := .r j) ⟨rfl, hj⟩)
/-! ### fields -/
theorem lookup_so {F : V → SV → Prop} {fn : Str} {s : SV} : ∀ {fs : List (Str × V)} {m : List (Str × SV)}, Paired (fun (p : Str × V) (q : Str × SV) => p.1 = q.1 ∧ F p.2 q.2) fs m → m.lookup fn = some s → ∃ v, fs.lookup fn = some v ∧ F v s
  | _, _, .nil, h => by cases h
  | (a1, a2) :: l, (b1, b2) :: m, .cons r t, h => by
    have e : a1 = b1 := r.1
    subst e
    rw [List.lookup_cons] at h ⊢
    cases hq : (fn == a1) with
    | true => rw [hq] at h; cases h; exact ⟨a2, rfl, r.2⟩
    | false => rw [hq] at h; exact lookup_so t h
theorem ex_fldO {k : Nat} {C : Addr} {fn : Str} {fs : List (Str × SV)} (h : EvR c env os te k) (hk : os[k]? = some (.ob C fs)) (kc : Cls c.K C) (kn : NoAttr c.K C fn) (hf : fs.lookup fn = some (.i d)) : EvX w c env os (tFld c.K te fn) d := EvX.weak fun ad σ H ok Q q => h.2 ad σ H ok _ fun H2 e => by
  obtain ⟨_, dx, vs, e1, pv⟩ := (ok.ext e).obj k _ hk rfl
  obtain ⟨v, l, r⟩ := lookup_so pv hf
  exact ⟨ad k, C, dx, vs, v, rfl, e1, kc, kn, l, q v H2 e (by rw [Nw_false]; exact r)⟩
theorem er_fldO {k j : Nat} {C : Addr} {fn : Str} {fs : List (Str × SV)} (h : EvR c env os te k) (hk : os[k]? = some (.ob C fs)) (kc : Cls c.K C) (kn : NoAttr c.K C fn) (hf : fs.lookup fn = some (.r j)) (hj : j < os.length) : EvR c env os (tFld c.K te fn) j := ⟨hj, fun ad σ H ok Q q => h.2 ad σ H ok _ fun H2 e => by
  obtain ⟨_, dx, vs, e1, pv⟩ := (ok.ext e).obj k _ hk rfl
  obtain ⟨v, l, r⟩ := lookup_so pv hf
  obtain ⟨rfl, _⟩ := (show v = .ref (ad j) ∧ _ from r)
  exact ⟨ad k, C, dx, vs, _, rfl, e1, kc, kn, l, q H2 e⟩⟩
/-- o.f += number -/
theorem gs_fldAug {k : Nat} {C : Addr} {fn : Str} {fs : List (Str × SV)} {i j : Int} {to tv : TE} (hl : EvR c env os to k) (hk : os[k]? = some (.ob C fs)) (kc : Cls c.K C) (kn : NoAttr c.K C fn) (hf : fs.lookup fn = some (.i (.int i))) (h : EvX true c env os tv (.int j)) (hz : fs.length < 1000) (g : Go c env (os.set k (.ob C (putS fn (.i (.int (i + j))) fs))) u D) :
    Go c env os (tSeq (sFldAug c.K to tv (fun x y H Q => ∃ i j, x = .int i ∧ y = .int j ∧ Q (.int (i + j)) H) fn) u) D := fun ad σ H ok => hl.2 ad σ H ok _ fun H1 e1 => by
  have ok1 := ok.ext e1
  obtain ⟨_, dx, vs, h1, pv⟩ := ok1.obj k _ hk rfl
  obtain ⟨v, l, r⟩ := lookup_so pv hf
  have hv : v = .int i := dn_int (show Dn _ _ _ _ _ from r)
  subst hv
  refine ⟨ad k, C, dx, vs, _, rfl, h1, kc, kn, l, h ad σ H1 ok1 _ fun y H2 e2 r2 => ⟨i, j, rfl, dn_int r2, ?_⟩⟩
  have ok2 := ok1.ext e2
  obtain ⟨_, dx2, vs2, h2, pv2⟩ := ok2.obj k _ hk rfl
  have hN : Nof c ad os (ad k) := Or.inr ⟨k, ⟨_, hk, rfl⟩, rfl⟩
  refine ⟨dx2, vs2, h2, by rw [Paired.length pv2]; exact hz, g ad σ _ (ok2.mut hk rfl rfl ⟨dx2, _, upd_same, ?_⟩)⟩
  exact paired_put (show Dn _ _ _ _ _ from .int _) (Paired.imp pv2 fun _ _ z => ⟨z.1, z.2.mut h2 rfl hN⟩)
/-- (.., o.f, ..) = value -/
def gFld (K : PySem.W.Frag) (to : TE) (fn : Str) : TG := fun v σ H Q => to σ H fun x H1 => ∃ a C dx fs, x = .ref a ∧ H1 a = some (.ins C dx fs) ∧ Cls K C ∧ NoAttr K C fn ∧ fs.length < 1000 ∧ Q σ (upd H1 a (.ins C dx (putF fn v fs)))
theorem pg_fld {X : Cx} {K : PySem.W.Frag} {o : Expr} {fn : Str} {pos : Pos} {to : TE} (ho : PE X o to) (hk : X.K = K := by rfl)
    (ha : ∀ v, assign (.Attribute o fn pos) X.env v = (do
      let ov ← holding [v] (eval o X.env)
      standAt pos.atName
      holding [v, ov] (setAttr ov fn v)
      release [v, ov] []) := by intro _; rfl) : PG X (.Attribute o fn pos) (gFld K to fn) := by
  subst hk
  refine ⟨fun pins s σ H v u Q I r h => ?_⟩
  rw [ha]
  refine wpAny_bind (wpAny_holding (thn (ho.run pins s σ H _ I h) fun ov s1 ⟨x, H1, I1, r1, a, C, dx, fs, e0, ea, kc, kn, hl, q1⟩ => ?_))
  subst e0
  obtain rfl : ov = Value.ref a := r1
  refine wpAny_bind (wpAny_standAt (wpAny_bind (wpAny_holding (setattr_ok I1 ea kc kn hl r fun s3 I3 => ?_))))
  exact wpAny_release ⟨σ, _, I3, q1⟩
/-- C(..), without keywords and defaults: the new instance stands behind os2, what it makes behind it -/
theorem egn_makeN {n0 n1 : Nat} {β : Type} {sh0 : α → List SO} {sh1 : β → List SO} {R : α → List SV → β → Prop} {G : β → List SO} {C : Addr} {E : XK} (ha : EvAPG c env os tr (ds.map (reV f)) os2) (hf0 : f 0 = os2.length) (h0 : 0 < n0) (hl : ∀ s ∈ ds, SvLt n0 s) (S : SegAtK f n0 n1 sh0 sh1 x (os2 ++ [.ob C []]) G) (hR : ∃ y, R x (.r 0 :: ds) y) :
    EvGN c env os (tMake C (spK c.K n0 n1 sh0 sh1 R) [] E tr) (fun k os' => k = os2.length ∧ ∃ y, R x (.r 0 :: ds) y ∧ os' = G y) := fun ad σ H ok Q q => ha ad σ H ok _ fun ad1 vs H1 ok1 r1 => by
  intro p dx hx hdx hne
  have e3 : Ex H1 (upd H1 dx (.own p)) := Ex.new hdx
  have hx3 : upd H1 dx (.own p) p = none := by rw [upd_ne (Ne.symm hne)]; exact hx
  have e4 : Ex (upd H1 dx (.own p)) (upd (upd H1 dx (.own p)) p (.ins C dx [])) := Ex.new hx3
  have ok2 := ok1.new (o := .ob C []) (p := p) hx (e3.trans e4) (fresh0 ok1 hx) ⟨dx, [], upd_same, .nil⟩
  have hargs : Paired (SvOk c.K (Nof c (adN ad1 os2.length p) (os2 ++ [.ob C []])) (adN ad1 os2.length p) (os2 ++ [SO.ob C []]).length (upd (upd H1 dx (.own p)) p (.ins C dx []))) (.ref p :: vs) (.r (f 0) :: ds.map (reV f)) := by
    refine .cons ⟨by rw [hf0, adN_same], by rw [hf0]; simp⟩ (Paired.imp r1 fun v s z => ?_)
    have z2 : SvOk c.K (Nof c (adN ad1 os2.length p) (os2 ++ [.ob C []])) ad1 os2.length (upd (upd H1 dx (.own p)) p (.ins C dx [])) v s := by
      cases s with
      | i d => exact ((Dn.add hx3 (Dn.ext e3 z)).ext e4).sub fun a y => Nof_app y
      | ob C m => exact ((ObOk.add hx3 (ObOk.ext e3 z)).ext e4).sub fun a y => Nof_app y
      | z m => exact ((ZOk.add hx3 (ZOk.ext e3 z)).ext e4).sub fun a y => Nof_app y
      | t u => exact SvOk.ext (e3.trans e4) z
      | r k => exact z
    have := z2.adN (p := p)
    exact this.lift (by simp)
  rw [List.append_nil]
  refine seg_callK (ds := .r 0 :: ds) S ok2 (fun s hs => (List.mem_cons.mp hs).elim (fun e => e ▸ h0) (hl s)) hargs hR fun H3 ad3 y hy hsame ok3 => ⟨rfl, ?_⟩
  have e : ad3 os2.length = p := by rw [hsame _ (by simp), adN_same]
  have hlen : os2.length < (G y).length := by rw [S.len]; simp; omega
  have := q ad3 H3 os2.length (G y) ⟨rfl, y, hy, rfl⟩ hlen ok3
  rw [e] at this
  exact this
/-- the end of a body that tells nothing -/
theorem g_endR {N : Addr → Prop} {H0 : Hp} {K : PySem.W.Frag} {Q : VK} {env : Sy} {os : List SO} (hq : Ret ⟨K, H0, N, fun _ => False, [], 0⟩ .none (De Q)) : Go ⟨K, H0, N, fun _ => False, [], 0⟩ env os tNext (De Q) := fun ad σ H ok => hq .non H ok.ex .non
end
/-! ### makers without keywords -/
def MakN (P : Program) (w : World) (K : PySem.W.Frag) (mg : Str → Option Value) (base : Heap) (k : Nat) (x : Str) (C : Addr) (ps : List Str) (sp : Sp) : Prop :=
  ∃ f fd, Mk K C f ∧ FnOk P w K mg base CX0 k f fd ps sp ∧ Binds K fd ps [] ∧ mg x = some (.ref C)
theorem makN_mk {P : Program} {w : World} {K : PySem.W.Frag} {mg : Str → Option Value} {base : Heap} {x y qual : Str} {st : Stmt} {f : Addr} {fd : FuncData} {N ps : List Str} {k : Nat} {sp : Sp} {C : Addr} (F : FnM K y qual st [] f fd) (S : FnScope N ps (defScope st)) (M : Mk K C f) (g : mg x = some (.ref C)) (len : ∀ vs H Q E, sp vs H Q E → vs.length = ps.length)
    (hb : ∀ (kV doc pm : Value) (an : Option Addr) (cdv ct : Value) (us : List Value), us.length = ps.length → bindArgs (PySem.W.fnOf y qual (defArgs st) (defBody st) (defScope st) .none kV doc pm an cdv ct) ⟨us, []⟩ = pure (ps.zip us))
    (hbody : ∀ (cdv : Value) (A : Around) (outer : List Env) (s : Shared) (H : Hp) (vs : List V) (Q : VK) (E : XK), Room k (A.deeper (envOfC qual (defScope st) s.heap.objs.size f cdv)) → sp vs H Q E →
      ∃ t, PSs (cxOf CX0 P w K mg base N qual (defScope st) f cdv A outer s H E).nox (defBody st) t ∧ t (De Q) (L2.start N vs) H) : MakN P w K mg base (k + 1) x C ps sp :=
  ⟨f, fd, M, F.ok S len fun cdv A outer s H vs Q E hr h => let ⟨t, a, b⟩ := hbody cdv A outer s H vs Q E hr h; ⟨t, a.nox, b⟩, F.bindsN hb, g⟩
section
variable {X : Cx} {k j : Nat} {ps : List Str} {sp : Sp} {x : Str} {p pos : Pos} {e : Expr} {es : List Expr} {t : TA} {C : Addr}
theorem pe_makN (h : MakN X.prog X.w X.K X.mg X.base k x C ps sp) (hr : Room j X.A) (hj : k + 1 ≤ j) (hg : Gl X x) (hx : Passes CX0 X E0) (ha : PA X (e :: es) t) (hdb : (x == ("__debug__" : Str)) = false := by decide)
    (he : starEach (e :: es) X.env = (false, eval e X.env) :: starEach es X.env := by rfl) (hpl : (backTo pos (starEach es X.env)).any (·.1) = false := by rfl) : PE X (.Call (.Name x p) (e :: es) [] pos) (tMake C sp [] E0 t) := by
  obtain ⟨f, fd, M, G, b, g⟩ := h
  exact pe_make M G (hr.mono hj) hg g b .nil hx ha hdb he hpl
end
def rAugI : V → V → Hp → VK → Prop := fun x y H Q => ∃ i j, x = .int i ∧ y = .int j ∧ Q (.int (i + j)) H
theorem kFldAug {X : Cx} {K : PySem.W.Frag} {o value : Expr} {fn : Str} {pos tpos : Pos} {ta tv : TE} (ha : PE X o ta) (hv : PE X value tv) (hk : X.K = K := by rfl) : PS X (.AugAssign (.Attribute o fn tpos) .Add value pos) (sFldAug K ta tv (fun x y H Q => ∃ i j, x = .int i ∧ y = .int j ∧ Q (.int (i + j)) H) fn) := by subst hk; exact ps_fldaug ha hv in_add
theorem kGFld {X : Cx} {K : PySem.W.Frag} {o : Expr} {fn : Str} {pos : Pos} {to : TE} (ho : PE X o to) (hk : X.K = K := by rfl)
    (ha : ∀ v, assign (.Attribute o fn pos) X.env v = (do
      let ov ← holding [v] (eval o X.env)
      standAt pos.atName
      holding [v, ov] (setAttr ov fn v)
      release [v, ov] []) := by intro _; rfl) : PG X (.Attribute o fn pos) (gFld K to fn) := pg_fld ho hk ha
end DL

set_option Elab.async false
set_option linter.all false
set_option maxRecDepth 100000
set_option maxHeartbeats 2000000
/-! The data layer: dicts that no one writes any more, as values. -/
namespace DL
open PySem PySem.Spec PyProof.Rows L2
open Evl (Ex Ex.refl Ex.trans Ex.new)
abbrev dK0 (m : List (Key × PyData)) : PyData := dKd (fun k : Key => k) (fun d : PyData => d) m
section
variable {w : Bool} {c : Cn} {env : Sy} {os : List SO} {te td ty : TE} {d : PyData} {m : List (Key × PyData)}
theorem ez_var {i : Nat} (h : env[i]? = some (some (.z m))) : EvZ c env os (tVar i) m := fun ad σ H ok Q q => by
  obtain ⟨v, h1, h2⟩ := ok.val i _ h
  exact ⟨v, h1, q v H (Ex.refl H) h2⟩
theorem ez_F (h : EvF c env os te (.dK (m.map fun p => (p.1, SV.i p.2)))) : EvZ c env os (tFrz te) m := fun ad σ H ok Q q => h ad σ H ok _ fun p H2 hp e r => by
  obtain ⟨ws, hws, pw⟩ := r
  refine ⟨p, _, rfl, hws, trivial, fun od => q _ _ (fun a o z => ?_) ⟨p, od, ws, rfl, upd_same, fun z => ok.nof z hp, ?_⟩⟩
  · rw [upd_ne (ne_of_none z hp)]
    exact e a o z
  · exact Paired.imp (paired_mapR pw) fun x y z => ⟨z.1, (Dn.mut hws rfl (Or.inr rfl) (show Dn _ _ _ _ _ from z.2)).sub fun a y => Or.inl y⟩
theorem EvZ.ev (h : EvZ c env os te m) : EvX w c env os te (dK0 m) := EvX.weak fun ad σ H ok Q q => h ad σ H ok _ fun v H2 e r => by
  obtain ⟨a, od, ws, rfl, e1, n1, pw⟩ := r
  rw [Nw_false] at q
  exact q _ H2 e (dK_dn (Or.inr ⟨od, e1⟩) n1 pw)
theorem ew_keysZ (h : EvZ c env os td m) : EvW c env os (iKeys td) m.length (itD (m.map fun p => kdat p.1)) (fun _ => True) := fun ad σ H ok R q => h ad σ H ok _ fun v H2 e r => by
  obtain ⟨a, od, ws, rfl, e1, n1, pw⟩ := r
  have ok2 := ok.ext e
  refine ⟨a, od, rfl, Or.inl ⟨ws, e1, ?_⟩⟩
  have hp := ok2.pin (v := .ref a) (s := .t (.frz od (.dK ws))) ⟨a, rfl, e1, rfl⟩
  have hu := up_pin (v := .ref a) (s := .t (.frz od (.dK ws))) ok2
  have len : ws.length = m.length := Paired.length pw
  have at' : ∀ {ad' env' os' σ' H'}, Ok (c.w ((.ref a, .t (.frz od (.dK ws))) :: c.fr) os.length) ad' env' os' σ' H' → H' a = some (.frz od (.dK ws)) := fun o => by
    obtain ⟨b, e1, e2, _⟩ := o.frm _ (List.mem_cons_self ..)
    cases e1
    exact e2
  refine q _ _ _ e hp hu ⟨fun i ad env os σ H hi o _ => ⟨at' o, by rw [len]; exact hi⟩, fun ad env os σ H o _ => ⟨at' o, by rw [len]; exact Nat.le_refl _⟩, fun i ad env os σ H x H' hi o _ y => ?_⟩
  obtain ⟨rfl, kx, vx, h1, rfl⟩ := y
  refine ⟨Ex.refl _, ?_⟩
  obtain ⟨b, h3, h4, _⟩ := paired_getL pw h1
  rw [itD_at (d := kdat b.1) (by rw [List.getElem?_map, h3]; rfl)]
  show Dn _ _ _ _ _
  have h4 : kx = b.1 := h4
  rw [← h4]
  exact key_dn kx
theorem ex_dgetZ {kk : Key} (hd : EvZ c env os td m) (hi : EvX true c env os ty (kdat kk)) (hg : getA m kk = some d) : EvX w c env os (tDGet td ty) d := EvX.weak fun ad σ H ok Q q => hd ad σ H ok _ fun v H1 e1 r1 => hi ad σ H1 (ok.ext e1) _ fun y H2 e2 r2 => by
  have r1 := ZOk.ext e2 r1
  obtain ⟨a, od, ws, rfl, h1, n1, pw⟩ := r1
  have key : ∀ {ws : List (Key × V)} {m : List (Key × PyData)}, Paired (fun (p : Key × V) (q : Key × PyData) => p.1 = q.1 ∧ Dn c.K (Nof c ad os) H2 p.2 q.2) ws m → getA m kk = some d → ∃ x, valV ws kk = some x ∧ Dn c.K (Nof c ad os) H2 x d := by
    intro ws m pw
    induction pw with
    | nil => intro h; cases h
    | @cons p q _ _ r t ih =>
      intro h
      by_cases hk : p.1 = kk
      · refine ⟨p.2, valV_pos hk, ?_⟩
        unfold getA at h
        rw [if_pos (r.1 ▸ hk)] at h
        cases h
        exact r.2
      · have hk' : ¬ q.1 = kk := r.1 ▸ hk
        unfold getA at h
        rw [if_neg hk'] at h
        obtain ⟨x, a, b⟩ := ih h
        exact ⟨x, by rw [valV_neg hk]; exact a, b⟩
  obtain ⟨x, hx, hdn⟩ := key pw hg
  exact ⟨a, x, rfl, by rw [dn_key r2, ← hx]; exact .inl ⟨ws, kk, .inr ⟨od, h1⟩, rfl, rfl⟩, q x H2 (e1.trans e2) (by rw [Nw_false]; exact hdn)⟩
/-- o.f = a new object -/
theorem gs_setFldF {k : Nat} {C : Addr} {fn : Str} {fs : List (Str × SV)} {o : SO} {to tv : TE} {u : TS} {D : Ends} (h : EvF c env os tv o) (hl : EvR c env (os ++ [o]) to k) (hk : os[k]? = some (.ob C fs)) (kc : Cls c.K C) (kn : NoAttr c.K C fn) (hz : fs.length < 1000) (g : Go c env ((os ++ [o]).set k (.ob C (putS fn (.r os.length) fs))) u D) : Go c env os (tSeq (sFld c.K to tv fn) u) D := fun ad σ H ok => h ad σ H ok _ fun p H1 hp e1 r1 => by
  have ok1 := ok.new hp e1 (fresh0 ok hp) r1
  refine hl.2 _ σ H1 ok1 _ fun H2 e2 => ?_
  have ok2 := ok1.ext e2
  have hk2 : (os ++ [o])[k]? = some (.ob C fs) := by rw [List.getElem?_append_left (List.getElem?_eq_some_iff.mp hk).1]; exact hk
  obtain ⟨_, dx, vs, hvs, pv⟩ := ok2.obj k _ hk2 rfl
  have hN : Nof c (adN ad os.length p) (os ++ [o]) (adN ad os.length p k) := Or.inr ⟨k, ⟨_, hk2, rfl⟩, rfl⟩
  refine ⟨_, C, dx, vs, rfl, hvs, kc, kn, by rw [Paired.length pv]; exact hz, g _ σ _ (ok2.mut hk2 rfl rfl ⟨dx, _, upd_same, ?_⟩)⟩
  exact paired_put (show SvOk c.K _ _ _ _ (.ref p) (.r os.length) from ⟨by rw [adN_same], by simp⟩) (Paired.imp pv fun _ _ z => ⟨z.1, z.2.mut hvs rfl hN⟩)
end
end DL
namespace DL
open PySem PySem.Spec PyProof.Rows L2
open Evl (Ex Ex.refl Ex.trans Ex.new)
/-- a dict of data is data from now on -/
theorem Ok.ownK {c : Cn} {ad : Nat → Addr} {env : Sy} {os : List SO} {σ : L2.St} {H : Hp} {i k : Nat} {m : List (Key × PyData)} (ok : Ok c ad env os σ H) (hi : env[i]? = some (some (.r k))) (hk : os[k]? = some (.dK (m.map fun p => (p.1, SV.i p.2)))) :
    Ok c ad (env.set i (some (.i (dK0 m)))) (os.set k .x) σ H := by
  have lk : Lv os k := ⟨_, hk, rfl⟩
  have hl : ∀ j, Lv (os.set k .x) j → Lv os j ∧ j ≠ k := fun j h => by
    obtain ⟨u, e, hu⟩ := h
    by_cases q : k = j
    · subst q
      rw [List.getElem?_set_self (List.getElem?_eq_some_iff.mp hk).1] at e
      cases e; cases hu
    · rw [List.getElem?_set_ne q] at e; exact ⟨⟨u, e, hu⟩, fun z => q z.symm⟩
  have hN : ∀ a, Nof c ad (os.set k .x) a → Nof c ad os a ∧ a ≠ ad k := fun a h => by
    rcases h with h | ⟨j, l, e⟩
    · exact ⟨Or.inl h, fun z => ok.nn k lk (z ▸ h)⟩
    · obtain ⟨l', ne⟩ := hl j l
      exact ⟨Or.inr ⟨j, l', e⟩, fun z => ne (ok.inj j k l' lk (e.symm.trans z))⟩
  have hv : ∀ v s, SvOk c.K (Nof c ad os) ad os.length H v s → SvOk c.K (Nof c ad (os.set k .x)) ad (os.set k .x).length H v s := fun v s h => by
    rw [List.length_set]
    exact h.sub fun a q => (hN a q).1
  obtain ⟨v0, hv0, e0, _⟩ := ok.val i _ hi
  obtain ⟨_, vs, hvs, pv⟩ := ok.obj k _ hk rfl
  have hd : Dn c.K (Nof c ad (os.set k .x)) H v0 (dK0 m) := by
    rw [e0]
    exact dK_dn (Or.inl hvs) (fun z => (hN _ z).2 rfl) (Paired.imp (paired_mapR pv) fun x y z => ⟨z.1, (show Dn _ _ _ _ _ from z.2).sub fun a q => (hN a q).1⟩)
  refine ⟨by rw [List.length_set]; exact ok.len, ok.ex, ok.n0, fun j s h => ?_, fun j o h l => ?_, fun a b la lb => ok.inj a b (hl a la).1 (hl b lb).1, fun a la => ok.nn a (hl a la).1, fun p hp => (ok.frm p hp).sub fun a q => (hN a q).1, by rw [List.length_set]; exact ok.low⟩
  · by_cases q : i = j
    · subst q
      rw [List.getElem?_set_self (List.getElem?_eq_some_iff.mp hi).1] at h
      cases h
      exact ⟨v0, hv0, hd⟩
    · rw [List.getElem?_set_ne q] at h
      obtain ⟨v, h1, h2⟩ := ok.val j s h
      exact ⟨v, h1, hv v s h2⟩
  · by_cases q : k = j
    · subst q
      rw [List.getElem?_set_self (List.getElem?_eq_some_iff.mp hk).1] at h
      cases h; cases l
    · rw [List.getElem?_set_ne q] at h
      obtain ⟨h1, h2⟩ := ok.obj j o h l
      exact ⟨h1, h2.map hv fun u e => e⟩
theorem gs_ownK {c : Cn} {env : Sy} {os : List SO} {i k : Nat} {m : List (Key × PyData)} {u : TS} {D : Ends} (hi : env[i]? = some (some (.r k))) (hk : os[k]? = some (.dK (m.map fun p => (p.1, SV.i p.2)))) (g : Go c (env.set i (some (.i (dK0 m)))) (os.set k .x) u D) : Go c env os u D := fun ad σ H ok => g ad σ H (ok.ownK hi hk)
end DL
namespace DL
open PySem PySem.Spec PyProof.Rows L2
open Evl (Ex Ex.refl Ex.trans Ex.new)
/-- d.get(k), a dict of the store that holds data -/
theorem ex_dget1O {w : Bool} {c : Cn} {env : Sy} {os : List SO} {td ty : TE} {k : Nat} {m : List (Key × PyData)} {kk : Key} (hl : EvR c env os td k) (hk : os[k]? = some (.dK (m.map fun p => (p.1, SV.i p.2)))) (hi : EvX true c env os ty (kdat kk)) : EvX w c env os (tDGet1 td ty) ((getA m kk).getD .none) := EvX.weak fun ad σ H ok Q q => hl.2 ad σ H ok _ fun H1 e1 => by
  have ok1 := ok.ext e1
  obtain ⟨_, ws1, hw1, _⟩ := ok1.obj k _ hk rfl
  refine ⟨ad k, rfl, Or.inl ⟨ws1, .inl hw1⟩, hi ad σ H1 ok1 _ fun y H2 e2 r2 => ?_⟩
  obtain ⟨_, ws, hws, pw⟩ := (ok1.ext e2).obj k _ hk rfl
  have key : ∀ {ws : List (Key × V)} {m : List (Key × PyData)}, Paired (fun (p : Key × V) (q : Key × PyData) => p.1 = q.1 ∧ Dn c.K (Nof c ad os) H2 p.2 q.2) ws m → Dn c.K (Nof c ad os) H2 ((valV ws kk).getD .non) ((getA m kk).getD .none) := by
    intro ws m pw
    induction pw with
    | nil => exact .non
    | @cons p q _ _ r t ih =>
      by_cases h : p.1 = kk
      · have h' : q.1 = kk := r.1 ▸ h
        rw [valV_pos h]
        unfold getA
        rw [if_pos h']
        exact r.2
      · have h' : ¬ q.1 = kk := r.1 ▸ h
        rw [valV_neg h]
        unfold getA
        rw [if_neg h']
        exact ih
  refine ⟨_, by rw [dn_key r2]; exact .inl ⟨ws, kk, .inl hws, rfl, rfl⟩, q _ H2 (e1.trans e2) (by rw [Nw_false]; exact key (Paired.imp (paired_mapR pw) fun _ _ z => z))⟩
theorem reV_id (s : SV) : reV (fun i => i) s = s := by cases s <;> rfl
theorem reS_id (o : SO) : reS (fun i => i) o = o := by
  cases o with
  | lst xs => show SO.lst (xs.map (reV fun i => i)) = _; rw [List.map_congr_left fun a _ => reV_id a, List.map_id']
  | dK kvs => show SO.dK (kvs.map fun p => (p.1, reV (fun i => i) p.2)) = _; rw [List.map_congr_left (g := id) fun a _ => by rw [reV_id]; rfl, List.map_id]
  | dT kvs => show SO.dT (kvs.map fun p => (p.1, reV (fun i => i) p.2)) = _; rw [List.map_congr_left (g := id) fun a _ => by rw [reV_id]; rfl, List.map_id]
  | ob C fs => show SO.ob C (fs.map fun p => (p.1, reV (fun i => i) p.2)) = _; rw [List.map_congr_left (g := id) fun a _ => by rw [reV_id]; rfl, List.map_id]
  | x => rfl
  | ho g => rfl
  | nums => rfl
  | stt k => rfl
/-- the store is the segment -/
theorem segAt_self {α : Type} {n : Nat} {shape : α → List SO} (h : ∀ x, ShOk n (shape x)) : SegAt (fun i => i) n shape shape := ⟨fun _ _ _ _ e => e, h, fun x i o e => by rw [reS_id]; exact e, fun x y => by rw [(h x).len, (h y).len], fun x y j hj => by
  have : n ≤ j := by
    by_cases q : j < n
    · exact absurd rfl (hj j q)
    · omega
  rw [List.getElem?_eq_none (by rw [(h x).len]; exact this), List.getElem?_eq_none (by rw [(h y).len]; exact this)]⟩
end DL
namespace DL
open PySem PySem.Spec PyProof.Rows L2
open Evl (Ex Ex.refl Ex.trans Ex.new)
/-- o.f = a new object that is made -/
theorem gs_setFldGN {c : Cn} {env : Sy} {os : List SO} {to tv : TE} {u : TS} {D : Ends} {P : Nat → List SO → Prop} {k : Nat} {C : Addr} {fn : Str} (h : EvGN c env os tv P) (g : ∀ j os', P j os' → ∃ fs, EvR c env os' to k ∧ os'[k]? = some (.ob C fs) ∧ Cls c.K C ∧ NoAttr c.K C fn ∧ fs.length < 1000 ∧ Go c env (os'.set k (.ob C (putS fn (.r j) fs))) u D) : Go c env os (tSeq (sFld c.K to tv fn) u) D := fun ad σ H ok => h ad σ H ok _ fun ad' H1 j os' p hj ok1 => by
  obtain ⟨fs, hl, hk, kc, kn, hz, hg⟩ := g j os' p
  refine hl.2 _ σ H1 ok1 _ fun H2 e2 => ?_
  have ok2 := ok1.ext e2
  obtain ⟨_, dx, vs, hvs, pv⟩ := ok2.obj k _ hk rfl
  have hN : Nof c ad' os' (ad' k) := Or.inr ⟨k, ⟨_, hk, rfl⟩, rfl⟩
  refine ⟨_, C, dx, vs, rfl, hvs, kc, kn, by rw [Paired.length pv]; exact hz, hg _ σ _ (ok2.mut hk rfl rfl ⟨dx, _, upd_same, ?_⟩)⟩
  exact paired_put (show SvOk c.K _ _ _ _ (.ref (ad' j)) (.r j) from ⟨rfl, hj⟩) (Paired.imp pv fun _ _ z => ⟨z.1, z.2.mut hvs rfl hN⟩)
end DL
namespace DL
open PySem PySem.Spec PyProof.Rows L2
theorem reS_dk (f : Nat → Nat) (m : List (Key × PyData)) : reS f (.dK (m.map fun p => (p.1, SV.i p.2))) = .dK (m.map fun p => (p.1, SV.i p.2)) := by
  show SO.dK _ = SO.dK _
  rw [List.map_map]
  rfl
theorem reS_ls (f : Nat → Nat) (ds : List PyData) : reS f (.lst (ds.map SV.i)) = .lst (ds.map SV.i) := by
  show SO.lst _ = SO.lst _
  rw [List.map_map]
  rfl
end DL
namespace DL
open PySem PySem.Spec PyProof.Rows L2
open Evl (Ex Ex.refl Ex.trans Ex.new)
section
variable {c : Cn} {env : Sy} {os : List SO} {te ta tb : TE} {d : PyData} {P P1 : List SO → PyData → Prop}
theorem en_x (h : EvX false c env os te d) (hP : P os d) : EvN c env os te P := fun ad σ H ok Q q => h ad σ H ok Q fun v H2 e r => q v H2 os d hP (ok.ext e) (by rw [Nw_false] at r; exact r)
end
end DL
namespace DL
open PySem PySem.Spec PyProof.Rows L2
open Evl (Ex Ex.refl Ex.trans Ex.new)
theorem kBm0 {X : Cx} {K : PySem.W.Frag} {T : String} {r : V → List V → Hp → VK → Prop} {e : Expr} {to : TE} (h : PE X e (tBM0 X.K T r to)) (hk : X.K = K := by rfl) : PE X e (tBM0 K T r to) := by subst hk; exact h
/-- ord(one sign) -/
theorem ex_ord {w : Bool} {c : Cn} {env : Sy} {os : List SO} {ta : TE} {r : List V → Hp → VK → Prop} {a : Nat} (hr : r = (fun xs H Q => ∃ x : Str, xs = [.str x] ∧ x.length = 1 ∧ Q (.int (x.cps.getD 0 0 : Nat)) H)) (ha : EvX true c env os ta (dT [a])) : EvX w c env os (tCB r (tCons ta tNil)) (.int (a : Int)) := fun ad σ H ok Q q => by
  subst hr
  refine ha ad σ H ok _ fun v H1 e1 r1 => ⟨sT [a], by rw [dn_str r1], rfl, q _ H1 e1 (.int _)⟩
end DL
namespace DL
open PySem PySem.Spec PyProof.Rows L2
open Evl (Ex Ex.refl Ex.trans Ex.new)
end DL

set_option Elab.async false
set_option linter.all false
set_option maxRecDepth 100000
set_option maxHeartbeats 2000000
/-! The data layer: instances as data; what stands in the store, read as data. -/
namespace DL
open PySem PySem.Spec PyProof.Rows L2
open Evl (Ex Ex.refl Ex.trans Ex.new)
/-- an instance, as data -/
abbrev insD (C : Addr) (fs : List (Str × PyData)) : PyData := .dict ((.bool true, .int (C : Int)) :: fs.map fun p => (.str p.1, p.2))
section
variable {K : PySem.W.Frag} {N : Addr → Prop} {H : Hp}
theorem dnps_paired : ∀ {fs : List (Str × V)} {m : List (Str × PyData)}, DnPs K N H (fs.map fun p => (PyData.str p.1, p.2)) (m.map fun p => (PyData.str p.1, p.2)) → Paired (fun (p : Str × V) (q : Str × PyData) => p.1 = q.1 ∧ Dn K N H p.2 q.2) fs m
  | [], [], _ => .nil
  | [], _ :: _, h => by cases h
  | _ :: _, [], h => by cases h
  | (a, v) :: fs, (b, d) :: m, h => by
    rw [List.map_cons, List.map_cons] at h
    cases h with
    | cons x y => exact .cons ⟨rfl, x⟩ (dnps_paired y)
theorem paired_dnps : ∀ {fs : List (Str × V)} {m : List (Str × PyData)}, Paired (fun (p : Str × V) (q : Str × PyData) => p.1 = q.1 ∧ Dn K N H p.2 q.2) fs m → DnPs K N H (fs.map fun p => (PyData.str p.1, p.2)) (m.map fun p => (PyData.str p.1, p.2))
  | _, _, .nil => .nil
  | (a, v) :: _, (b, d) :: _, .cons ⟨e, x⟩ y => by
    cases e
    exact .cons x (paired_dnps y)
theorem dn_ins {v : V} {C : Addr} {m : List (Str × PyData)} (h : Dn K N H v (insD C m)) : ObOk K N H v C m := by
  generalize hg : insD C m = d at h
  cases h with
  | dkk r n p =>
    rename_i a ws kvs
    injection hg with hg
    cases ws with
    | nil => cases p; cases hg
    | cons x ws =>
      rw [List.map_cons] at p
      generalize hk : kdat x.1 = kd at p
      cases p
      injection hg with e _
      injection e with e _
      subst e
      obtain ⟨k, y⟩ := x
      cases k <;> cases hk
  | dkt r n p =>
    cases p
    injection hg with hg
    injection hg with e _
    injection e with e _
    cases e
  | dkz r n p =>
    cases p
    injection hg with hg
    injection hg with e _
    injection e with e _
    cases e
  | ins r n p =>
    injection hg with hg
    subst hg
    cases p with
    | cons x y =>
      have e := Int.ofNat.inj (by simpa using dn_int x)
      subst e
      exact ⟨_, _, _, rfl, r, n, dnps_paired y⟩
  | non => cases hg
  | bl b => cases hg
  | int i => cases hg
  | str x => cases hg
  | lst r n a => cases hg
  | lstK r a => cases hg
  | tup r a => cases hg
theorem ins_dn {v : V} {C : Addr} {m : List (Str × PyData)} (h : ObOk K N H v C m) : Dn K N H v (insD C m) := by
  obtain ⟨a, dx, fs, rfl, h1, h2, h3⟩ := h
  exact .ins h1 h2 (.cons (.int _) (paired_dnps h3))
end
section
variable {w : Bool} {c : Cn} {env env' : Sy} {os os' : List SO} {te ta : TE} {t tk : TA} {d : PyData} {C : Addr} {m : List (Str × PyData)} {u : TS} {D : Ends}
theorem ex_fldD {f : Str} (h : EvX w c env os te (insD C m)) (kc : Cls c.K C) (kn : NoAttr c.K C f) (hf : m.lookup f = some d) : EvX w c env os (tFld c.K te f) d := fun ad σ H ok Q q =>
  h ad σ H ok _ fun v H1 e r => by
    obtain ⟨a, dx, fs, rfl, h1, h2, h3⟩ := dn_ins r
    rcases paired_lookup (f := f) h3 with ⟨_, z⟩ | ⟨v', d', z1, z2, z3⟩
    · rw [hf] at z; cases z
    · rw [hf] at z2
      cases z2
      exact ⟨a, C, dx, fs, v', rfl, h1, kc, kn, z1, q v' H1 e z3⟩
theorem ex_methD {R : List PyData → PyData → Prop} {E : XK} {x : Str} {ds : List PyData} (h : EvX w c env os te (insD C m)) (hx : m.lookup x = none) (ha : EvA w c env os t ds) (hR : R (insD C m :: ds) d) : EvX w c env os (tMeth C x (spD c.K R) [] E te t) d := fun ad σ H ok Q q =>
  h ad σ H ok _ fun v H1 e1 r1 => by
    obtain ⟨a, dx, fs, rfl, h1, h2⟩ := ob_lookup hx (dn_ins r1)
    refine ⟨a, dx, fs, rfl, h1, h2, ha ad σ H1 (ok.ext e1) _ fun vs H2 e2 r2 => ?_⟩
    rw [List.append_nil]
    exact ⟨Nw w c ad os, insD C m :: ds, d, fun b z => ((ok.ext e1).ext e2).nof (Nw_le b z), .cons (r1.ext e2) r2, hR, fun v' H' e' r' => q v' H' ((e1.trans e2).trans e') r'⟩
theorem ef_methD {R : List PyData → List PyData → Prop} {E : XK} {x : Str} {ds rs : List PyData} (h : EvX false c env os te (insD C m)) (hx : m.lookup x = none) (ha : EvA false c env os t ds) (hR : R (insD C m :: ds) rs) : EvF c env os (tMeth C x (spF c.K R) [] E te t) (.lst (rs.map SV.i)) := fun ad σ H ok Q q =>
  h ad σ H ok _ fun v H1 e1 r1 => by
    obtain ⟨a, dx, fs, rfl, h1, h2⟩ := ob_lookup hx (dn_ins r1)
    refine ⟨a, dx, fs, rfl, h1, h2, ha ad σ H1 (ok.ext e1) _ fun vs H2 e2 r2 => ?_⟩
    rw [List.append_nil]
    exact ⟨Nw false c ad os, insD C m :: ds, rs, fun b z => ((ok.ext e1).ext e2).nof (Nw_le b z), .cons (r1.ext e2) r2, hR, fun p H' ws hp e' g1 g2 => q p H' (e1.free (e2.free hp)) ((e1.trans e2).trans e') ⟨ws, g1, dn_paired (by rw [Nw_false] at g2; exact g2)⟩⟩
theorem ef_methDW {R : List PyData → List PyData → Prop} {E : XK} {x : Str} {ds rs : List PyData} (h : EvX true c env os te (insD C m)) (hx : m.lookup x = none) (ha : EvA true c env os t ds) (hR : R (insD C m :: ds) rs) (hn : noLists rs = true) : EvF c env os (tMeth C x (spF c.K R) [] E te t) (.lst (rs.map SV.i)) := fun ad σ H ok Q q =>
  h ad σ H ok _ fun v H1 e1 r1 => by
    obtain ⟨a, dx, fs, rfl, h1, h2⟩ := ob_lookup hx (dn_ins r1)
    refine ⟨a, dx, fs, rfl, h1, h2, ha ad σ H1 (ok.ext e1) _ fun vs H2 e2 r2 => ?_⟩
    rw [List.append_nil]
    exact ⟨Nw true c ad os, insD C m :: ds, rs, fun b z => ((ok.ext e1).ext e2).nof (Nw_le b z), .cons (r1.ext e2) r2, hR, fun p H' ws hp e' g1 g2 => q p H' (e1.free (e2.free hp)) ((e1.trans e2).trans e') ⟨ws, g1, dn_paired (DnAll.goF (fun _ _ r => r) rs ws hn g2)⟩⟩
end
/-! ### what stands in the store, as data -/
mutual
inductive DatO (os : List SO) : SV → PyData → Prop
  | i (d : PyData) : DatO os (.i d) d
  | z (m : List (Key × PyData)) : DatO os (.z m) (dK0 m)
  | ov (C : Addr) (m : List (Str × PyData)) : DatO os (.ob C m) (insD C m)
  | ob {k : Nat} {C : Addr} {fs : List (Str × SV)} {m : List (Str × PyData)} : os[k]? = some (.ob C fs) → DatF os fs m → DatO os (.r k) (insD C m)
  | lst {k : Nat} {ss : List SV} {ds : List PyData} : os[k]? = some (.lst ss) → DatL os ss ds → DatO os (.r k) (.list ds)
  | dK {k : Nat} {kvs : List (Key × SV)} {m : List (Key × PyData)} : os[k]? = some (.dK kvs) → DatK os kvs m → DatO os (.r k) (dK0 m)
inductive DatF (os : List SO) : List (Str × SV) → List (Str × PyData) → Prop
  | nil : DatF os [] []
  | cons {f : Str} {s : SV} {d : PyData} {fs : List (Str × SV)} {m : List (Str × PyData)} : DatO os s d → DatF os fs m → DatF os ((f, s) :: fs) ((f, d) :: m)
inductive DatL (os : List SO) : List SV → List PyData → Prop
  | nil : DatL os [] []
  | cons {s : SV} {d : PyData} {ss : List SV} {ds : List PyData} : DatO os s d → DatL os ss ds → DatL os (s :: ss) (d :: ds)
inductive DatK (os : List SO) : List (Key × SV) → List (Key × PyData) → Prop
  | nil : DatK os [] []
  | cons {k : Key} {s : SV} {d : PyData} {fs : List (Key × SV)} {m : List (Key × PyData)} : DatO os s d → DatK os fs m → DatK os ((k, s) :: fs) ((k, d) :: m)
end
theorem DatL.i {os : List SO} : ∀ ds : List PyData, DatL os (ds.map SV.i) ds
  | [] => .nil
  | d :: ds => .cons (.i d) (DatL.i ds)
theorem DatK.i {os : List SO} : ∀ m : List (Key × PyData), DatK os (m.map fun p => (p.1, SV.i p.2)) m
  | [] => .nil
  | (k, d) :: m => .cons (.i d) (DatK.i m)
theorem zok_dn {K : PySem.W.Frag} {N : Addr → Prop} {H : Hp} {v : V} {m : List (Key × PyData)} (h : ZOk K N H v m) : Dn K N H v (dK0 m) := by
  obtain ⟨a, dx, fs, rfl, h1, h2, h3⟩ := h
  exact dK_dn (Or.inr ⟨_, h1⟩) h2 h3
section
variable {c : Cn} {ad : Nat → Addr} {env : Sy} {os : List SO} {σ : L2.St} {H : Hp}
mutual
theorem DatO.dn (ok : Ok c ad env os σ H) : ∀ {s : SV} {d : PyData}, DatO os s d → ∀ v, SvOk c.K (Nof c ad os) ad os.length H v s → Dn c.K c.N0 H v d
  | _, _, .i d, v, h => h.sub fun a z => Or.inl z
  | _, _, .z m, v, h => zok_dn (ZOk.sub (fun a z => Or.inl z) h)
  | _, _, .ov C m, v, h => ins_dn (ObOk.sub (fun a z => Or.inl z) h)
  | _, _, .ob hk hf, v, ⟨e, _⟩ => by
    obtain ⟨_, dx, vs, h1, h2⟩ := ok.obj _ _ hk rfl
    rw [e]
    exact ins_dn ⟨_, dx, vs, rfl, h1, fun z => ok.nn _ ⟨_, hk, rfl⟩ z, DatF.dn ok hf vs h2⟩
  | _, _, .lst hk hl, v, ⟨e, _⟩ => by
    obtain ⟨_, vs, h1, h2⟩ := ok.obj _ _ hk rfl
    rw [e]
    exact .lst (Or.inl h1) (fun z => ok.nn _ ⟨_, hk, rfl⟩ z) (DatL.dn ok hl vs h2)
  | _, _, .dK hk hl, v, ⟨e, _⟩ => by
    obtain ⟨_, vs, h1, h2⟩ := ok.obj _ _ hk rfl
    rw [e]
    exact dK_dn (Or.inl h1) (fun z => ok.nn _ ⟨_, hk, rfl⟩ z) (DatK.dn ok hl vs h2)
theorem DatF.dn (ok : Ok c ad env os σ H) : ∀ {fs : List (Str × SV)} {m : List (Str × PyData)}, DatF os fs m → ∀ vs, Paired (fun (p : Str × V) (q : Str × SV) => p.1 = q.1 ∧ SvOk c.K (Nof c ad os) ad os.length H p.2 q.2) vs fs → Paired (fun (p : Str × V) (q : Str × PyData) => p.1 = q.1 ∧ Dn c.K c.N0 H p.2 q.2) vs m
  | _, _, .nil, _, h => by cases h; exact .nil
  | _, _, .cons a b, _, h => by
    cases h with
    | cons x y => exact .cons ⟨x.1, DatO.dn ok a _ x.2⟩ (DatF.dn ok b _ y)
theorem DatL.dn (ok : Ok c ad env os σ H) : ∀ {fs : List SV} {m : List PyData}, DatL os fs m → ∀ vs, Paired (SvOk c.K (Nof c ad os) ad os.length H) vs fs → DnAll c.K c.N0 H vs m
  | _, _, .nil, _, h => by cases h; exact .nil
  | _, _, .cons a b, _, h => by
    cases h with
    | cons x y => exact .cons (DatO.dn ok a _ x) (DatL.dn ok b _ y)
theorem DatK.dn (ok : Ok c ad env os σ H) : ∀ {fs : List (Key × SV)} {m : List (Key × PyData)}, DatK os fs m → ∀ vs, Paired (fun (p : Key × V) (q : Key × SV) => p.1 = q.1 ∧ SvOk c.K (Nof c ad os) ad os.length H p.2 q.2) vs fs → Paired (fun (p : Key × V) (q : Key × PyData) => p.1 = q.1 ∧ Dn c.K c.N0 H p.2 q.2) vs m
  | _, _, .nil, _, h => by cases h; exact .nil
  | _, _, .cons a b, _, h => by
    cases h with
    | cons x y => exact .cons ⟨x.1, DatO.dn ok a _ x.2⟩ (DatK.dn ok b _ y)
end
end
/-- an object of the store, read as data -/
theorem ex_dat {c : Cn} {env : Sy} {os : List SO} {te : TE} {k : Nat} {d : PyData} (h : EvR c env os te k) (hd : DatO os (.r k) d) : EvX true c env os te d := fun ad σ H ok Q q => h.2 ad σ H ok Q fun H2 e => q _ H2 e ((DatO.dn (ok.ext e) hd _ ⟨rfl, h.1⟩).sub fun a z => Nw_true a z)
end DL

set_option Elab.async false
set_option linter.all false
set_option maxRecDepth 100000
set_option maxHeartbeats 4000000
/-! The data layer: tuples of any length are cut, joined, turned round; a list takes over a tuple; xs.pop(). -/
namespace L2
open PySem PySem.Spec PyProof.Rows HT
section
variable {prog : Program} {w : World} {A : Around} {E : Value → Shared → Prop} {s : Shared}
theorem adjust_rev (n : Nat) : Builtin.Slice.sliceAdjust none none (-1) (n : Int) = ((n : Int) - 1, -1) := by
  unfold Builtin.Slice.sliceAdjust
  simp
theorem places_rev (n : Nat) : Builtin.Slice.slicePlaces ((n : Int) - 1) (-1) (-1) = n := by
  unfold Builtin.Slice.slicePlaces
  have h1 : ¬ ((-1 : Int) > 0) := by omega
  have h2 : (- -1 : Int) = 1 := by omega
  simp only [h1, if_false, h2, Int.ediv_one]
  split <;> omega
theorem sliceApplied_rev {sl : Addr} {vl vu vs : Value} {n : Nat} {Q : Int × Int × Nat → Shared → Prop} (hs : s.heap.IsSliceOf sl vl vu vs) (pl : IsPart vl none) (pu : IsPart vu none) (ps : IsPart vs (some (-1)))
    (h : Q ((n : Int) - 1, -1, n) s) : wpAny (model prog w) A (Builtin.Slice.sliceApplied (.ref sl) (pure (n : Int))) Q E s := by
  obtain ⟨os, hos, hcs, hds⟩ := id hs
  unfold Builtin.Slice.sliceApplied Builtin.Slice.sliceFields
  refine wpAny_bind (wpAny_bind (wpAny_field hos hds (x := vl) rfl (wpAny_bind (wpAny_field hos hds (x := vu) rfl (wpAny_bind (wpAny_field hos hds (x := vs) rfl (wpAny_pure ?_)))))))
  refine wpAny_bind (slicePart_ ps ?_)
  show wpAny _ _ (if ((-1 : Int) == 0) = true then _ else _) _ _ s
  rw [if_neg (by decide)]
  refine wpAny_bind (slicePart_ pl (wpAny_bind (slicePart_ pu (wpAny_bind (wpAny_pure ?_)))))
  show wpAny _ _ (match Builtin.Slice.sliceAdjust none none (-1) (n : Int) with | (lo, hi) => pure (lo, (-1 : Int), Builtin.Slice.slicePlaces lo hi (-1))) _ _ s
  rw [adjust_rev n]
  show wpAny _ _ (pure ((n : Int) - 1, (-1 : Int), Builtin.Slice.slicePlaces ((n : Int) - 1) (-1) (-1))) _ _ s
  rw [places_rev]
  exact wpAny_pure h
theorem fm_congr {α β : Type} {f g : α → Option β} : ∀ l : List α, (∀ x ∈ l, f x = g x) → l.filterMap f = l.filterMap g
  | [], _ => rfl
  | a :: l, h => by
    rw [List.filterMap_cons, List.filterMap_cons, h a (List.mem_cons_self ..), fm_congr l fun x hx => h x (List.mem_cons_of_mem _ hx)]
theorem pick_rev (xs : Array Value) : ((List.range xs.size).filterMap fun (m : Nat) => xs[((xs.size : Int) - 1 + (m : Int) * (-1)).toNat]?).toArray = xs.toList.reverse.toArray := by
  have e : (List.range xs.size).filterMap (fun (m : Nat) => xs[((xs.size : Int) - 1 + (m : Int) * (-1)).toNat]?) = (List.range xs.size).filterMap (fun m => xs[xs.size - 1 - m]?) := by
    refine fm_congr _ fun m hm => ?_
    have hm := List.mem_range.mp hm
    have : ((xs.size : Int) - 1 + (m : Int) * (-1)).toNat = xs.size - 1 - m := by omega
    rw [this]
  rw [e]
  have := PySem.W.krv_range xs.size
  have e2 : (List.range xs.size).filterMap (fun m => xs[xs.size - 1 - m]?) = ((List.range xs.size).map (fun k => xs.size - 1 - k)).filterMap (xs[·]?) := by
    rw [List.filterMap_map]; rfl
  rw [e2, this, List.filterMap_reverse, PySem.W.krv_all]
theorem getItem_tuple_rev {t sl : Addr} {items : Array Value} {vl vu vs : Value} {Q : Value → Shared → Prop} (ht : IsTup s.heap t items) (hs : s.heap.IsSliceOf sl vl vu vs) (pl : IsPart vl none) (pu : IsPart vu none) (ps : IsPart vs (some (-1)))
    (h : Q (.ref s.heap.objs.size) { s with heap := s.heap.push { cls := .type "tuple", data := .seq items.toList.reverse.toArray } })
    (hsz : items.size ≤ sizeLine) : wpAny (model prog w) A (getItem (.ref t) (.ref sl)) Q E s := by
  have htake : sizeOk (.seq items.toList.reverse.toArray) := by
    show items.toList.reverse.toArray.size ≤ sizeLine
    rw [List.size_toArray, List.length_reverse, Array.length_toList]
    exact hsz
  obtain ⟨os, hos, hcs, hds⟩ := id hs
  have hTs : s.TypeIs (.ref sl) "slice" := ⟨os, hos, hcs⟩
  unfold getItem
  try with_reducible refine wpAny_holding ?_
  first | refine wpAny_bind (wpAny_pure ?_) | skip
  refine wpAny_bind (wpAny_sequenceKey ht.typeIs (by decide) ?_)
  refine wpAny_bind (wpAny_callSpecial?_slot (name := Str.ofString "__getitem__") ht.typeIs PyProof.Rows.slot_tuple_getitem
    (wpAny_call_entry PyProof.Rows.slot_tuple_getitem ht.typeIs entry_tuple_getitem ?_ (args_tuple_getitem _ _)))
  show wpAny _ _ (Builtin.Tuple.tupleItemsOf (.ref t) >>= _) _ _ s
  refine wpAny_bind (tupleItemsOf_ ht ?_)
  refine wpAny_bind (wpAny_typeOf hTs ?_)
  rw [if_pos (by decide)]
  refine wpAny_bind (sliceApplied_rev hs pl pu ps ?_)
  have hno : ¬ ((((items.size : Int) - 1) == 0 && (-1 : Int) == 1 && items.size == items.size) = true) := by
    intro q
    rw [Bool.and_eq_true, Bool.and_eq_true] at q
    exact absurd (eq_of_beq q.1.2) (by decide)
  show wpAny _ _ (if (((items.size : Int) - 1) == 0 && (-1 : Int) == 1 && items.size == items.size) = true then _ else _) _ _ s
  rw [if_neg hno, pick_rev]
  first
    | exact wpAny_bind (m := Builtin.Tuple.tupleExact _) (wpAny_newObj_type (wpAny_pure ⟨_, rfl, wpAny_pure h⟩) htake)
    | exact wpAny_bind (m := Builtin.Tuple.tupleExact _) (wpAny_newObj_type (wpAny_bind (wpAny_pure (wpAny_pure ⟨_, rfl, wpAny_pure h⟩))) htake)
    | exact wpAny_bind (wpAny_bind (m := Builtin.Tuple.tupleExact _) (wpAny_newObj_type (wpAny_pure (wpAny_pure ⟨_, rfl, wpAny_pure h⟩)) htake))
    | exact wpAny_bind (wpAny_bind (m := Builtin.Tuple.tupleExact _) (wpAny_newObj_type (wpAny_pure ⟨_, rfl, wpAny_pure h⟩) htake))
end
section
variable {X : Cx}
/-- t[::-1] -/
def tRevT (K : PySem.W.Frag) (te : TE) : TE := fun σ H Q => te σ H fun x H1 => ∃ a xs, x = .ref a ∧ SqT K H1 a xs ∧ ∀ p, H1 p = none → Q (.ref p) (upd H1 p (.tup xs.reverse))
theorem pe_revT {e : Expr} {te : TE} {k : Nat} {p1 p2 p3 pos : Pos} (he : PE X e te) : PE X (.Subscript e (.Slice none none (some (.UnaryOp .USub (.Constant (.int 1) k p1) p2)) p3) pos) (tRevT X.K te) := by
  refine ⟨fun pins s σ H Q I h => ?_⟩
  refine Subscript_ (thn (he.run pins s σ H _ I h) fun v s1 ⟨x, H1, I1, r1, q1⟩ => ?_)
  obtain ⟨a, xs, ex, hx, q⟩ := q1
  subst ex
  cases r1
  have hst : PO X (some (.UnaryOp .USub (.Constant (.int 1) k p1) p2)) (tPart (tUn (rU fun i => .int (-i)) (tC (.int 1)))) := po_some (pe_un un_neg pe_int)
  refine wpAny_Slice (thn (po_none.run pins s1 σ H1 (fun o H2 => o = none ∧ H2 = H1) I1 ⟨rfl, rfl⟩) fun vl s2 ⟨l, H2, I2, pl, el, e2⟩ => ?_)
  subst el e2
  refine thn (po_none.run pins s2 σ H2 (fun o H3 => o = none ∧ H3 = H2) I2 ⟨rfl, rfl⟩) fun vu s3 ⟨u, H3, I3, pu, eu, e3⟩ => ?_
  subst eu e3
  refine thn (hst.run pins s3 σ H3 (fun o H4 => o = some (-1) ∧ H4 = H3) I3 ⟨1, rfl, -1, rfl, rfl, rfl⟩) fun vs s4 ⟨o, H4, I4, ps, eo, e4⟩ => ?_
  subst eo e4
  have I5 : Inv X pins σ H4 { s4 with heap := s4.heap.push { cls := .type "slice", data := .fields #[vl, vu, vs] } } := I4.kept (t' := s4.toks) fun b ob q => Heap.get?_push_of_some _ q
  obtain ⟨its, r, ht, hz⟩ := I5.tuple hx
  have hlen := r.length
  show wpAny (model X.prog X.w) X.A (subscriptTail e (.Slice none none (some (.UnaryOp .USub (.Constant (.int 1) k p1) p2)) p3) (.ref a) (.ref s4.heap.objs.size)) (EP X pins σ Q) X.xe { s4 with heap := s4.heap.push { cls := .type "slice", data := .fields #[vl, vu, vs] } }
  refine tail_any (ops := [.ref a, .ref s4.heap.objs.size]) ht.typeIs (PyProof.Rows.slot_tuple_getitem.lookup) ?_ (by with_unfolding_all rfl)
  refine getItem_tuple_rev ht (Heap.IsSliceOf.new _ vl vu vs) pl pu ps ?_ (by rw [List.size_toArray]; omega)
  refine ⟨.ref _, _, I5.laid (t' := s4.toks) (o := .tup xs.reverse) (fun b ob q => Heap.get?_push_of_some _ q) (Nat.le_refl _) ?_, rfl, q _ (I5.hok.fresh (Nat.le_refl _))⟩
  exact ⟨by rw [List.length_reverse]; exact hz, _, r.reverse, IsTup.new _ _⟩
/-! ### xs.extend(tuple) -/
theorem list_extend_tup (l : Addr) (items : Array Value) (n : Nat) (b : Addr) (items2 : Array Value) (hs0 : ¬(!items.isEmpty && Builtin.List.listTooLong (items.size + items2.size)) = true) (hs1 : items.size ≤ sizeLine) (hs2 : items.size + items2.size ≤ sizeLine + 1) :
    Meets (Builtin.«list.extend» ⟨[.ref l, .ref b], []⟩) (fun _ R s => s.heap.get? l = some { cls := .type "list", dict := none, data := .seq items n, slots := #[] } ∧ IsTup s.heap b items2 ∧ R (.ok (.ret Value.none)) { s with heap := s.heap.update l (Obj.mapSeq fun x => x ++ items2), toks := s.toks }) :=
  .of_wp fun prog w A R s h => by
    obtain ⟨hl, ⟨o, ho, hc, m, hd⟩, h⟩ := h
    show wpAny _ A.in1 (Builtin.List.listExtendWith (.ref l) (.ref b) .none) _ _ s
    unfold Builtin.List.listExtendWith
    refine wpAny_bind (wpAny_typeOf ⟨o, ho, hc⟩ ?_)
    have h1 : (Builtin.List.listSameRef (.ref l) (.ref b) || Value.type "tuple" == Value.type "list" || Value.type "tuple" == Value.type "tuple") = true := by simp
    simp only [h1, if_true]
    refine wpAny_bind ?_
    unfold Builtin.List.listItems
    refine wpAny_bind (wpAny_seqItems ho hd (wpAny_pure ?_))
    refine wpAny_bind ?_
    refine wpAny_bind (wpAny_seqItems hl rfl (wpAny_pure ?_))
    rw [if_neg hs0]
    refine wpAny_bind (wpAny_updateSeq hl rfl (hz := hs1) (_hz' := by rw [Array.size_append]; exact hs2) ?_)
    exact wpAny_pure ⟨_, rfl, h⟩
def rExtT (K : PySem.W.Frag) : V → List V → Hp → VK → Prop := fun x vs H Q => ∃ l b xs zs, x = .ref l ∧ vs = [.ref b] ∧ H l = some (.lst xs) ∧ SqT K H b zs ∧ xs.length + zs.length ≤ sizeLine ∧ Q .non (upd H l (.lst (xs ++ zs)))
theorem mt_extT : MtM X "list.extend" (rExtT X.K) := by
  intro pins s σ H x vs v us Q I rx rv h
  obtain ⟨l, b, xs, zs, rfl, rfl, hH, hB, hz, q⟩ := h
  cases rx
  obtain ⟨u, rfl, ru⟩ := rv.one
  cases ru
  obtain ⟨z, its, n, r, hl, e⟩ := I.lstM hH
  obtain ⟨its2, r2, e2, _⟩ := I.tuple hB
  have hl2 := r2.length
  have hsz : its.toArray.size + its2.toArray.size ≤ sizeLine := by rw [List.size_toArray, List.size_toArray]; omega
  have hlong : ¬ (!its.toArray.isEmpty && Builtin.List.listTooLong (its.toArray.size + its2.toArray.size)) = true := by
    rw [notLongL hsz, Bool.and_false]
    exact Bool.false_ne_true
  refine call_meets PySem.F.slot_list_extend ⟨_, e, rfl⟩ PySem.F.entry_list_extend (PySem.F.args_list_extend_2 _ _)
    (list_extend_tup l its.toArray n b its2.toArray hlong (by rw [List.size_toArray]; omega) (by omega)) ⟨e, e2, ?_⟩
  refine ⟨.non, _, I.lset (its' := its ++ its2) hH e (by simp) (r.append r2) ?_, rfl, q⟩
  rw [List.length_append]
  omega
end
end L2
namespace DL
open PySem PySem.Spec PyProof.Rows L2
open Evl (Ex Ex.refl Ex.trans Ex.new)
theorem kRevT {X : Cx} {K : PySem.W.Frag} {e : Expr} {te : TE} {k : Nat} {p1 p2 p3 pos : Pos} (he : PE X e te) (hk : X.K = K := by rfl) : PE X (.Subscript e (.Slice none none (some (.UnaryOp .USub (.Constant (.int 1) k p1) p2)) p3) pos) (tRevT K te) := by subst hk; exact pe_revT he
theorem kSlA {X : Cx} {K : PySem.W.Frag} (h : X.K = K := by rfl) : SlR X (rSlA K) := by subst h; exact sl_tupA
theorem kCatA {X : Cx} {K : PySem.W.Frag} (h : X.K = K := by rfl) : OpR X (binaryOp .Add) (rCatA K) := by subst h; exact op_catA
theorem kExtT {X : Cx} {K : PySem.W.Frag} {e : Expr} {to : TE} {t : TA} (h : PE X e (tBM X.K "list" (rExtT X.K) to t)) (hk : X.K = K := by rfl) : PE X e (tBM K "list" (rExtT K) to t) := by subst hk; exact h
section
variable {w : Bool} {c : Cn} {env : Sy} {os : List SO} {te ta tb tl : TE} {d : PyData} {u : TS} {D : Ends}
/-- t[::-1] -/
theorem ex_revT {ds : List PyData} (h : EvX w c env os te (.tuple ds)) : EvX w c env os (tRevT c.K te) (.tuple ds.reverse) := fun ad σ H ok Q q =>
  h ad σ H ok _ fun v H1 e1 r1 => by
    obtain ⟨a, xs, rfl, hs, ha⟩ := dn_tup_ref r1
    exact ⟨a, xs, rfl, hs, fun p hp => q _ _ (e1.trans (Ex.new hp)) (.tup (SqT.of upd_same) (ha.ext (Ex.new hp)).reverse)⟩
/-- t[lo:hi] -/
theorem ex_slA {tl th : TO} {ds : List PyData} {lo hi : Option Int} (h : EvX w c env os te (.tuple ds)) (h1 : EvO c env os tl lo) (h2 : EvO c env os th hi) : EvX w c env os (tSl (rSlA c.K) te tl th) (.tuple (cutG ds lo hi)) := fun ad σ H ok Q q =>
  h ad σ H ok _ fun v H1 e1 r1 => h1 ad σ H1 (ok.ext e1) _ fun H2 e2 => h2 ad σ H2 ((ok.ext e1).ext e2) _ fun H3 e3 => by
    have r3 := r1.ext (e2.trans e3)
    obtain ⟨a, xs, rfl, hs, ha⟩ := dn_tup_ref r3
    have hcut : cutV xs lo hi = cutG xs lo hi := rfl
    refine ⟨a, xs, rfl, hs, fun hw => ?_, fun hw p hp => q _ _ (((e1.trans e2).trans e3).trans (Ex.new hp)) (.tup (SqT.of upd_same) ?_)⟩
    · rw [ha.length] at hw
      have e : cutG ds lo hi = ds := by
        unfold cutG
        rw [hw.1, hw.2, List.drop_zero, Nat.sub_zero, List.take_length]
      exact q _ _ ((e1.trans e2).trans e3) (by rw [e]; exact r3)
    · unfold cutV cutG
      rw [ha.length]
      exact ((ha.drop _).take _).ext (Ex.new hp)
/-- t + u -/
theorem ex_catA {ds es : List PyData} (ha : EvX w c env os ta (.tuple ds)) (hb : EvX w c env os tb (.tuple es)) (hl : ds.length + es.length ≤ 100000) : EvX w c env os (tOp (rCatA c.K) ta tb) (.tuple (ds ++ es)) := fun ad σ H ok Q q => ha ad σ H ok _ fun v H1 e1 r1 => hb ad σ H1 (ok.ext e1) _ fun u H2 e2 r2 => by
  have r1 := r1.ext e2
  obtain ⟨a, xs, rfl, hs, hx⟩ := dn_tup_ref r1
  obtain ⟨b, ys, rfl, ht, hy⟩ := dn_tup_ref r2
  have l1 := hx.length
  have l2 := hy.length
  refine ⟨a, b, xs, ys, rfl, rfl, hs, ht, by rw [l1, l2]; exact Nat.le_trans hl (by decide), fun z => ?_, fun z z2 => ?_, fun z z2 p hp => ?_⟩
  · subst z
    have : ds = [] := List.length_eq_zero_iff.mp l1.symm
    subst this
    exact q _ _ (e1.trans e2) r2
  · subst z2
    have : es = [] := List.length_eq_zero_iff.mp l2.symm
    subst this
    exact q _ _ (e1.trans e2) (by rw [List.append_nil]; exact r1)
  · exact q _ _ ((e1.trans e2).trans (Ex.new hp)) (.tup (SqT.of upd_same) ((hx.append hy).ext (Ex.new hp)))
/-- xs.extend(a tuple) -/
theorem gs_extT {k : Nat} {ss : List SV} {ds : List PyData} (hl : EvR c env os tl k) (hk : os[k]? = some (.lst ss)) (h : EvX false c env os te (.tuple ds)) (hz : ss.length + ds.length ≤ 100000) (kk : Go c env (os.set k (.lst (ss ++ ds.map SV.i))) u D) : Go c env os (tSeq (tDrop (tBM c.K "list" (rExtT c.K) tl (tCons te tNil))) u) D := fun ad σ H ok =>
  hl.2 ad σ H ok _ fun H1 e1 => by
    have ok1 := ok.ext e1
    obtain ⟨_, vs, hvs, pv⟩ := ok1.obj k _ hk rfl
    refine ⟨Or.inl ⟨rfl, vs, SqL.of hvs⟩, ?_⟩
    refine h ad σ H1 ok1 _ fun v H2 e2 r => ?_
    rw [Nw_false] at r
    obtain ⟨b, ws, rfl, hs, hx⟩ := dn_tup_ref r
    have ok2 := ok1.ext e2
    have hv2 := e2 _ _ hvs
    have hN : Nof c ad os (ad k) := Or.inr ⟨k, ⟨_, hk, rfl⟩, rfl⟩
    refine ⟨ad k, b, vs, ws, rfl, rfl, hv2, hs, ?_, ?_⟩
    · rw [Paired.length pv, hx.length]
      exact Nat.le_trans hz (by decide)
    refine kk ad σ _ (ok2.mut hk rfl rfl ⟨vs ++ ws, upd_same, ?_⟩)
    exact Paired.app (Paired.imp pv fun _ _ z => (z.ext e2).mut hv2 rfl hN) (dn_paired (hx.mut hv2 rfl hN))
/-- x = xs.pop() -/
theorem gs_asgPop {i k : Nat} {s : SV} {ss : List SV} (hl : EvR c env os tl k) (hk : os[k]? = some (.lst (ss ++ [s]))) (g : Go c (env.set i (some s)) (os.set k (.lst ss)) u D) : Go c env os (tSeq (tAsg (tBM0 c.K "list" rPop tl) (gName i)) u) D := fun ad σ H ok =>
  hl.2 ad σ H ok _ fun H1 e1 => by
    have ok1 := ok.ext e1
    obtain ⟨_, vs, hvs, pv⟩ := ok1.obj k _ hk rfl
    have hN : Nof c ad os (ad k) := Or.inr ⟨k, ⟨_, hk, rfl⟩, rfl⟩
    have hlen := Paired.length pv
    rw [List.length_append, List.length_singleton] at hlen
    obtain ⟨y, hy, ry⟩ := paired_get (i := ss.length) (b := s) pv (by simp)
    refine ⟨Or.inl ⟨rfl, vs, SqL.of hvs⟩, ad k, vs, y, rfl, rfl, hvs, ?_, ?_⟩
    · rw [hlen]; exact hy
    have hd : Paired (SvOk c.K (Nof c ad os) ad os.length H1) vs.dropLast ss := by
      have := Paired.take ss.length pv
      rw [List.take_left] at this
      rw [List.dropLast_eq_take, hlen]
      exact this
    have ok3 := ok1.mut (u' := .lst vs.dropLast) hk rfl (o' := .lst ss) rfl ⟨vs.dropLast, upd_same, Paired.imp hd fun _ _ z => z.mut hvs rfl hN⟩
    refine g ad _ _ (ok3.set (s := s) ?_)
    rw [Nof_set hk rfl rfl, List.length_set]
    exact ry.mut hvs rfl hN
end
end DL

set_option Elab.async false
set_option linter.all false
set_option maxRecDepth 100000
set_option maxHeartbeats 4000000
/-! The data layer: two fields of an object at once. -/
namespace DL
open PySem PySem.Spec PyProof.Rows L2
open Evl (Ex Ex.refl Ex.trans Ex.new)
section
variable {w : Bool} {c : Cn} {env : Sy} {os : List SO} {te ta tb tl to : TE} {d : PyData} {u : TS} {D : Ends}
/-- o.f = data, as a target -/
theorem fld_run {ad : Nat → Addr} {σ : L2.St} {H : Hp} {k : Nat} {C : Addr} {f : Str} {fs : List (Str × SV)} {v : V} (ok : Ok c ad env os σ H) (r : Dn c.K (Nof c ad os) H v d) (hl : EvR c env os to k) (hk : os[k]? = some (.ob C fs)) (kc : Cls c.K C) (kn : NoAttr c.K C f) (hz : fs.length < 1000) {Q : L2.St → Hp → Prop}
    (q : ∀ H2, Ok c ad env (os.set k (.ob C (putS f (.i d) fs))) σ H2 → (∀ e v', Dn c.K (Nof c ad os) H v' e → Dn c.K (Nof c ad (os.set k (.ob C (putS f (.i d) fs)))) H2 v' e) → Q σ H2) : gFld c.K to f v σ H Q := hl.2 ad σ H ok _ fun H1 e1 => by
  have ok1 := ok.ext e1
  obtain ⟨_, dx, vs, hvs, pv⟩ := ok1.obj k _ hk rfl
  have hN : Nof c ad os (ad k) := Or.inr ⟨k, ⟨_, hk, rfl⟩, rfl⟩
  have hn2 : Nof c ad (os.set k (.ob C (putS f (.i d) fs))) = Nof c ad os := Nof_set hk rfl rfl
  refine ⟨ad k, C, dx, vs, rfl, hvs, kc, kn, by rw [Paired.length pv]; exact hz, q _ (ok1.mut hk rfl rfl ⟨dx, _, upd_same, ?_⟩) fun e v' r' => ?_⟩
  · exact paired_put (show Dn _ _ _ _ _ from (r.ext e1).mut hvs rfl hN) (Paired.imp pv fun _ _ z => ⟨z.1, z.2.mut hvs rfl hN⟩)
  · rw [hn2]; exact (r'.ext e1).mut hvs rfl hN
/-- o.f, o.g = a pair -/
theorem gs_asgFF {k : Nat} {C : Addr} {f g : Str} {fs : List (Str × SV)} {d1 d2 : PyData} {to2 : TE} (h : EvX false c env os te (.tuple [d1, d2])) (hl : EvR c env os to k) (hk : os[k]? = some (.ob C fs)) (kc : Cls c.K C) (kn : NoAttr c.K C f) (kn2 : NoAttr c.K C g) (hz : fs.length < 900)
    (hl2 : EvR c env (os.set k (.ob C (putS f (.i d1) fs))) to2 k) (kk : Go c env ((os.set k (.ob C (putS f (.i d1) fs))).set k (.ob C (putS g (.i d2) (putS f (.i d1) fs)))) u D) :
    Go c env os (tSeq (tAsg te (gTup c.K 2 (gCons (gFld c.K to f) (gCons (gFld c.K to2 g) gNil)))) u) D := fun ad σ H ok => h ad σ H ok _ fun v H1 e1 r => by
  rw [Nw_false] at r
  obtain ⟨a, xs, rfl, hs, ha⟩ := dn_tup_ref r
  have hlen := ha.length
  cases ha with
  | cons r1 ha =>
    cases ha with
    | cons r2 ha =>
      cases ha with
      | nil =>
        rename_i v1 v2
        have hkl : k < os.length := (List.getElem?_eq_some_iff.mp hk).1
        refine ⟨a, _, rfl, hs, hlen, v1, [v2], rfl, ?_⟩
        refine fld_run (ok.ext e1) r1 hl hk kc kn (by omega) fun H2 ok2 up => ⟨v2, [], rfl, ?_⟩
        have hp : (putS f (SV.i d1) fs).length < 1000 := by
          have : ∀ l : List (Str × SV), (putS f (SV.i d1) l).length ≤ l.length + 1 := by
            intro l
            induction l with
            | nil => exact Nat.le_refl _
            | cons x l ih =>
              unfold putS
              split
              · simp
              · simp only [List.length_cons]; omega
          have := this fs
          omega
        refine fld_run ok2 (up _ _ r2) hl2 (by rw [List.getElem?_set_self hkl]) kc kn2 hp fun H3 ok3 _ => ⟨rfl, kk ad σ H3 ok3⟩
end
end DL

set_option Elab.async false
set_option linter.all false
set_option maxRecDepth 100000
set_option maxHeartbeats 4000000
/-! The data layer: what gives data while the store grows. -/
namespace DL
open PySem PySem.Spec PyProof.Rows L2
open Evl (Ex Ex.refl Ex.trans Ex.new)
section
variable {w : Bool} {c : Cn} {env : Sy} {os : List SO} {te ta tb tl to : TE} {tr : TA} {d : PyData} {u : TS} {D : Ends} {n : Nat} {α : Type} {shape : α → List SO} {R : α → List SV → α → PyData → Prop} {f : Nat → Nat} {y : α} {ds : List SV}
/-- gives data; objects of the store may be changed, and new ones come -/
def EvNG (c : Cn) (env : Sy) (os : List SO) (te : TE) (P : List SO → PyData → Prop) : Prop := ∀ ad σ H, Ok c ad env os σ H → ∀ Q : VK, (∀ ad' v H2 os' d, P os' d → Ok c ad' env os' σ H2 → Dn c.K (Nof c ad' os') H2 v d → Q v H2) → te σ H Q
theorem EvN.asNG {P : List SO → PyData → Prop} (h : EvN c env os te P) : EvNG c env os te P := fun ad σ H ok Q q => h ad σ H ok Q fun v H2 os' d p ok2 r => q ad v H2 os' d p ok2 r
theorem EvGN.imp {P1 P2 : Nat → List SO → Prop} (h : EvGN c env os te P1) (i : ∀ k o, P1 k o → P2 k o) : EvGN c env os te P2 := fun ad σ H ok Q q => h ad σ H ok Q fun ad' H2 k o p hk ok2 => q ad' H2 k o (i k o p) hk ok2
/-- a method of a new object -/
theorem eng_meth {G : α → List SO} {E : XK} {C : Addr} {mn : Str} {fs : List (Str × SV)} (ho : EvGN c env os te (fun k os' => k = f 0 ∧ os' = G y)) (S : SegAt f n shape G) (hk : (G y)[f 0]? = some (.ob C fs)) (hm : fs.lookup mn = none) (hkn : 0 < n) (hl : ∀ s ∈ ds, SvLt n s) (ha : EvAS c env (G y) tr (ds.map (reV f))) (hR : ∃ x' d, R y (.r 0 :: ds) x' d) : EvNG c env os (tMeth C mn (spS c.K n shape R) [] E te tr) (fun os' d => ∃ x', R y (.r 0 :: ds) x' d ∧ os' = G x') := fun ad σ H ok Q q => ho ad σ H ok _ fun ad1 H1 k os1 ⟨ek, eo⟩ hk1 ok1 => by
  subst ek eo
  obtain ⟨_, dx, vs0, h0, pv⟩ := ok1.obj (f 0) _ hk rfl
  have hlk : vs0.lookup mn = none := lookup_paired pv hm
  refine ⟨ad1 (f 0), dx, vs0, rfl, h0, hlk, ha ad1 σ H1 ok1 _ fun vs H2 e r => ?_⟩
  rw [List.append_nil]
  exact seg_call (ds := .r 0 :: ds) S (ok1.ext e) (fun s hs => (List.mem_cons.mp hs).elim (fun e => e ▸ hkn) (hl s)) (show Paired _ (.ref (ad1 (f 0)) :: vs) (.r (f 0) :: ds.map (reV f)) from .cons ⟨rfl, (List.getElem?_eq_some_iff.mp hk).1⟩ r) hR fun v H3 x' d hd ok3 r3 => q ad1 v H3 _ d ⟨x', hd, rfl⟩ ok3 r3
theorem eng_op {r : R2} {P1 P : List SO → PyData → Prop} (ha : EvNG c env os ta P1) (h : ∀ v os' d, P1 os' d → EvNG (c.w ((v, .i d) :: c.fr) os'.length) env os' (tOp r (tC v) tb) P) : EvNG c env os (tOp r ta tb) P := fun ad σ H ok Q q => ha ad σ H ok _ fun ad1 v H1 os1 d p ok1 r1 => by
  have ok2 := ok1.pin (v := v) (s := .i d) r1
  exact h v os1 d p ad1 σ H1 ok2 Q fun ad3 v3 H3 os3 d3 p3 ok3 r3 => q ad3 v3 H3 os3 d3 p3 (up_pin ok1 (v := v) (s := .i d) _ _ _ _ _ ok3) r3
theorem eng_x {P : List SO → PyData → Prop} (h : EvX false c env os te d) (hP : P os d) : EvNG c env os te P := (en_x h hP).asNG
theorem gs_retNG {P : List SO → PyData → Prop} (h : EvNG c env os te P) (k : Ret c d D) (hP : ∀ os' d', P os' d' → d' = d) : Go c env os (tSeq (tRet te) u) D := fun ad σ H ok => h ad σ H ok _ fun ad' v H2 os' d' p ok2 r => by
  rw [hP os' d' p] at r
  exact k v H2 ok2.ex (r.sub fun a z => Or.inl z)
end
end DL

set_option Elab.async false
set_option linter.all false
set_option maxRecDepth 100000
set_option maxHeartbeats 4000000
/-! The data layer: text.replace(sign, ''). -/
namespace DL
open PySem PySem.Spec PyProof.Rows L2 CwR
open Evl (Ex Ex.refl Ex.trans Ex.new)
section
variable {w : Bool} {c : Cn} {env : Sy} {os : List SO} {to : TE} {l : List Nat} {d : Nat} {y z : Str}
end
section
variable {X : Cx} {a b e : Expr} {ta tb te tf : TE} {rest : List Stmt} {u : TS} {r : R2} {i j : Nat} {x : Str} {c : Int} {cpos pos' p pos : Pos}
end
section
variable {α β : Type} {ek : α → Key} {ev : β → PyData} {c : Cn} {env : Sy} {os : List SO} {te : TE} {m : List (α × β)} {u : TS} {D : Ends}
/-- return a new dict -/
theorem gs_retIF (h : EvF c env os te (.dK (m.map fun p => (ek p.1, SV.i (ev p.2))))) (hM : ∀ a, ¬ c.M a) (q : RetI ek ev c m D) : Go c env os (tSeq (tRet te) u) D := fun ad σ H ok =>
  h ad σ H ok _ fun p H2 hp e r => by
    obtain ⟨vs, h1, h2⟩ := r
    refine q p H2 vs ?_ (ok.ext e).ex h1 (Paired.imp (pairK h2) fun x y z => ⟨z.1, z.2.sub fun a y => y.elim (fun y => Or.inl (Or.inl y)) Or.inr⟩)
    cases hz : c.H0 p with
    | none => rfl
    | some o => rw [ok.ex p o hz (hM p)] at hp; cases hp
end
end DL

set_option Elab.async false
set_option linter.all false
set_option maxRecDepth 100000
set_option maxHeartbeats 4000000
/-! The data layer: max(xs, default=d), xs[a::k]. -/
namespace DL
open PySem PySem.Spec PyProof.Rows L2
open Evl (Ex Ex.refl Ex.trans Ex.new)
/-- max(xs, default=d) of a list of ints -/
def rMaxDf (K : PySem.W.Frag) : List V → List V → Hp → VK → Prop := fun xs zs H Q => ∃ (a : Addr) (ns : List Int) (d : Int), xs = [.ref a] ∧ zs = [.int d] ∧ SqL K H a (ns.map V.int) ∧ Q (.int (if ns = [] then d else maxL ns)) H
theorem ints_alike : ∀ ns : List Int, PySem.W.AlikeAll (ns.map PyData.int) := fun ns => by
  refine ⟨fun x hx y hy => ?_, fun x hx => ?_⟩
  · obtain ⟨i, _, rfl⟩ := List.mem_map.mp hx
    obtain ⟨j, _, rfl⟩ := List.mem_map.mp hy
    rfl
  · obtain ⟨i, _, rfl⟩ := List.mem_map.mp hx
    exact fun e => nomatch e
theorem ints_depth : ∀ ns : List Int, PyData.depthAll (ns.map PyData.int) ≤ 1
  | [] => by decide
  | n :: ns => by
    have := ints_depth ns
    rw [List.map_cons]
    simp only [PyData.depthAll, PyData.depth]
    omega
theorem cr_maxDf {X : Cx} (hc : X.calm = true) (hu : X.A.units + 64 < cLine) : CallRK X (.builtin "max") [Str.ofString "default"] (rMaxDf X.K) := by
  intro pins s σ H xs zs us ws Q I r rz h
  obtain ⟨a, ns, d, rfl, rfl, hs, q⟩ := h
  obtain ⟨its, rv, hl, _⟩ := I.list hs
  rw [Vals.ref1 r]
  obtain ⟨w1, rfl, t, rfl⟩ := vals1 rz
  have hd := ints_depth ns
  refine PySem.W.max_list_default (I.ok.hd hc) hl.isList (rv.ints.reads s.heap) (ints_alike ns) (by omega) (fun e h' tk hk => ?_) (fun y ys i v h' tk bs e hi hr hk => ?_)
  · have e : ns = [] := List.map_eq_nil_iff.mp e
    rw [if_pos e] at q
    exact ⟨.int d, H, I.kept hk, ⟨_, rfl⟩, q⟩
  · cases ns with
    | nil => cases e
    | cons n ns =>
      rw [List.map_cons] at e
      injection e with e1 e2
      subst e1 e2
      rw [if_neg (List.cons_ne_nil _ _)] at q
      rw [PySem.W.maxD_ints] at hr
      cases hr
      exact ⟨.int (ns.foldl max n), H, I.kept hk, ⟨_, rfl⟩, q⟩
theorem kMaxDf {X : Cx} {K : PySem.W.Frag} (hc : X.calm = true) (hu : X.A.units + 64 < cLine) (h : X.K = K := by rfl) : CallRK X (.builtin "max") [Str.ofString "default"] (rMaxDf K) := by subst h; exact cr_maxDf hc hu
def maxDf (d : Int) (ns : List Int) : Int := if ns = [] then d else maxL ns
theorem ex_maxDf {w : Bool} {c : Cn} {env : Sy} {os : List SO} {te td : TE} {ns : List Int} {d : Int} (h : EvI c env os te ((ns.map PyData.int).map SV.i)) (hd : EvX true c env os td (.int d)) : EvX w c env os (tCKw (rMaxDf c.K) (tCons te tNil) (tCons td tNil)) (.int (maxDf d ns)) := fun ad σ H ok Q q =>
  h ad σ H ok _ fun p vs H1 e1 hs pv => hd ad σ H1 (ok.ext e1) _ fun v H2 e2 r2 => by
    have h1 := ints_of pv
    subst h1
    exact ⟨p, ns, d, rfl, by rw [dn_int r2], e2.sql hs, q _ H2 (e1.trans e2) (.int _)⟩
/-! ### every k-th -/
def evk {α : Type} (k : Nat) : Nat → List α → List α
  | _, [] => []
  | 0, x :: r => x :: evk k (k - 1) r
  | j + 1, _ :: r => evk k j r
theorem evk_len {α : Type} (k : Nat) : ∀ (l : List α) (j : Nat), (evk k j l).length ≤ l.length
  | [], j => by cases j <;> exact Nat.le_refl _
  | x :: r, 0 => by show (evk k (k - 1) r).length + 1 ≤ r.length + 1; exact Nat.succ_le_succ (evk_len k r _)
  | _ :: r, j + 1 => Nat.le_succ_of_le (evk_len k r j)
theorem evk_map {α β : Type} (f : α → β) (k : Nat) : ∀ (l : List α) (j : Nat), evk k j (l.map f) = (evk k j l).map f
  | [], j => by cases j <;> rfl
  | x :: r, 0 => by show f x :: evk k (k - 1) (r.map f) = f x :: (evk k (k - 1) r).map f; rw [evk_map f k r]
  | _ :: r, j + 1 => evk_map f k r j
theorem evk_drop {α : Type} (k : Nat) : ∀ (j : Nat) (l : List α), evk k j l = evk k 0 (l.drop j)
  | 0, l => by rw [List.drop_zero]
  | j + 1, [] => rfl
  | j + 1, _ :: r => by
    show evk k j r = evk k 0 (r.drop j)
    exact evk_drop k j r
/-- by places -/
theorem evk_at {α : Type} {k : Nat} (hk : 0 < k) : ∀ (n : Nat) (l : List α), l.length ≤ n → evk k 0 l = (List.range ((l.length + k - 1) / k)).filterMap fun m => l[k * m]?
  | n, [], _ => by
    have : (([] : List α).length + k - 1) / k = 0 := Nat.div_eq_of_lt (by simp; omega)
    rw [this]
    rfl
  | 0, x :: r, h => by simp at h
  | n + 1, x :: r, h => by
    show x :: evk k (k - 1) r = _
    rw [evk_drop k (k - 1) r, evk_at hk n (r.drop (k - 1)) (by rw [List.length_drop]; simp at h; omega)]
    have e : ((x :: r).length + k - 1) / k = ((r.drop (k - 1)).length + k - 1) / k + 1 := by
      rw [List.length_drop, List.length_cons]
      by_cases hr : k - 1 ≤ r.length
      · have : r.length + 1 + k - 1 = (r.length - (k - 1) + k - 1) + k := by omega
        rw [this, Nat.add_div_right _ hk]
      · have h1 : r.length - (k - 1) = 0 := by omega
        rw [h1, Nat.div_eq_of_lt (show 0 + k - 1 < k by omega)]
        have h2 : r.length + 1 + k - 1 = r.length + k := by omega
        rw [h2, Nat.add_div_right _ hk, Nat.div_eq_of_lt (by omega)]
    rw [e, List.range_succ_eq_map, List.filterMap_cons]
    show x :: _ = x :: _
    congr 1
    rw [List.filterMap_map]
    refine L2.fm_congr _ fun m _ => ?_
    show (r.drop (k - 1))[k * m]? = (x :: r)[k * (m + 1)]?
    rw [List.getElem?_drop]
    have : k * (m + 1) = (k - 1 + k * m) + 1 := by rw [Nat.mul_succ]; omega
    rw [this, List.getElem?_cons_succ]
theorem pick_step (its : List Value) (a k : Nat) (hk : 0 < k) : slicePick its.toArray (some (a : Int)) none (some (k : Int)) = (evk k a its).toArray := by
  unfold slicePick
  have hb : sliceBounds (some (a : Int)) none (some (k : Int)) its.toArray.size = (((min a its.length : Nat) : Int), (its.length : Int), (k : Int)) := by
    unfold sliceBounds
    have h1 : (k : Int) > 0 := by omega
    have h2 : ¬ (a : Int) < 0 := by omega
    simp only [Option.getD_some, h1, if_true, h2, if_false, List.size_toArray]
    congr 1
    omega
  rw [hb]
  unfold sliceRange
  have h1 : (k : Int) > 0 := by omega
  simp only [h1, if_true]
  rw [evk_drop, evk_at hk _ _ (Nat.le_refl _), List.filterMap_map]
  by_cases ha : a < its.length
  · have h3 : ((min a its.length : Nat) : Int) < (its.length : Int) := by omega
    rw [if_pos h3]
    have h4 : (((its.length : Int) - ((min a its.length : Nat) : Int) + (k : Int) - 1) / (k : Int)).toNat = ((its.drop a).length + k - 1) / k := by
      rw [List.length_drop]
      have : (its.length : Int) - ((min a its.length : Nat) : Int) + (k : Int) - 1 = ((its.length - a + k - 1 : Nat) : Int) := by omega
      rw [this]
      rfl
    rw [h4]
    congr 1
    refine L2.fm_congr _ fun m _ => ?_
    show its.toArray[(((min a its.length : Nat) : Int) + (k : Int) * (m : Int)).toNat]? = (its.drop a)[k * m]?
    rw [List.getElem?_drop]
    have : (((min a its.length : Nat) : Int) + (k : Int) * (m : Int)).toNat = a + k * m := by
      rw [Nat.min_eq_left (Nat.le_of_lt ha)]
      have : ((k : Int) * (m : Int)) = ((k * m : Nat) : Int) := by push_cast; rfl
      omega
    rw [this]
    simp
  · have h3 : ¬ ((min a its.length : Nat) : Int) < (its.length : Int) := by omega
    rw [if_neg h3]
    have : (its.drop a).length = 0 := by rw [List.length_drop]; omega
    rw [this, Nat.div_eq_of_lt (show 0 + k - 1 < k by omega)]
    rfl
end DL
namespace L2
open PySem PySem.Spec PyProof.Rows HT
section
variable {X : Cx}
/-- xs[a::k] -/
def tStpL (K : PySem.W.Frag) (te : TE) (ta tk : TO) : TE := fun σ H Q => te σ H fun x H1 => ta σ H1 fun u H2 => tk σ H2 fun v H3 => ∃ (p : Addr) (xs : List V) (a k : Nat), x = .ref p ∧ u = some (a : Int) ∧ v = some (k : Int) ∧ 0 < k ∧ SqL K H3 p xs ∧ ∀ l, H3 l = none → Q (.ref l) (upd H3 l (.lst (DL.evk k a xs)))
theorem Vals.evk {k : Nat} : ∀ {xs : List V} {us : List Value} (j : Nat), Vals xs us → Vals (DL.evk k j xs) (DL.evk k j us)
  | _, _, j, .nil => by cases j <;> exact .nil
  | _, _, 0, .cons r t => .cons r (Vals.evk (k - 1) t)
  | _, _, j + 1, .cons _ t => Vals.evk j t
theorem pe_stpL {e ea ek : Expr} {te : TE} {ta tk : TO} {p3 pos : Pos} (he : PE X e te) (hpa : PO X (some ea) ta) (hpk : PO X (some ek) tk) : PE X (.Subscript e (.Slice (some ea) none (some ek) p3) pos) (tStpL X.K te ta tk) := by
  refine ⟨fun pins s σ H Q I h => ?_⟩
  refine Subscript_ (thn (he.run pins s σ H _ I h) fun v s1 ⟨x, H1, I1, r1, q1⟩ => ?_)
  refine wpAny_Slice (thn (hpa.run pins s1 σ H1 _ I1 q1) fun vl s2 ⟨o, H2, I2, pl, q2⟩ => ?_)
  refine thn (po_none.run pins s2 σ H2 (fun o' H3 => o' = none ∧ H3 = H2) I2 ⟨rfl, rfl⟩) fun vu s3 ⟨u, H3, I3, pu, eu, e3⟩ => ?_
  subst eu e3
  refine thn (hpk.run pins s3 σ H3 _ I3 q2) fun vs s4 ⟨o4, H4, I4, ps, q4⟩ => ?_
  obtain ⟨p, xs, a, k, ex, eo, e4, hk, hx, q⟩ := q4
  subst ex eo e4
  cases r1
  have I5 : Inv X pins σ H4 { s4 with heap := s4.heap.push { cls := .type "slice", data := .fields #[vl, vu, vs] } } := I4.kept (t' := s4.toks) fun b ob q => Heap.get?_push_of_some _ q
  obtain ⟨its, r, ht, hz⟩ := I5.list hx
  have hlen := r.length
  show wpAny (model X.prog X.w) X.A (subscriptTail e (.Slice (some ea) none (some ek) p3) (.ref p) (.ref s4.heap.objs.size)) (EP X pins σ Q) X.xe { s4 with heap := s4.heap.push { cls := .type "slice", data := .fields #[vl, vu, vs] } }
  refine tail_any (ops := [.ref p, .ref s4.heap.objs.size]) ht.isList.typeIs (PySem.slot_list_getitem.lookup) ?_ (by with_unfolding_all rfl)
  refine wpAny_getItem_list_slice ht.isList (Heap.IsSliceOf.new _ vl vu vs) pl pu ps (fun z => by injection z with z; omega) ?_ (by rw [List.size_toArray]; omega)
  rw [DL.pick_step its a k hk]
  refine ⟨.ref _, _, I5.laid (t' := s4.toks) (o := .lst (DL.evk k a xs)) (fun b ob q => Heap.get?_push_of_some _ q) (Nat.le_refl _) ?_, rfl, q _ (I5.hok.fresh (Nat.le_refl _))⟩
  exact ⟨Nat.le_trans (DL.evk_len k xs a) hz, _, 0, r.evk a, Heap.get?_push_size _ rfl⟩
end
end L2
namespace DL
open PySem PySem.Spec PyProof.Rows L2
open Evl (Ex Ex.refl Ex.trans Ex.new)
theorem kStpL {X : Cx} {K : PySem.W.Frag} {e ea ek : Expr} {te : TE} {ta tk : TO} {p3 pos : Pos} (he : PE X e te) (hpa : PO X (some ea) ta) (hpk : PO X (some ek) tk) (h : X.K = K := by rfl) : PE X (.Subscript e (.Slice (some ea) none (some ek) p3) pos) (tStpL K te ta tk) := by subst h; exact pe_stpL he hpa hpk
theorem paired_evk {α β : Type} {F : α → β → Prop} {k : Nat} : ∀ {l : List α} {m : List β} (j : Nat), Paired F l m → Paired F (evk k j l) (evk k j m)
  | _, _, j, .nil => by cases j <;> exact .nil
  | _, _, 0, .cons r t => .cons r (paired_evk (k - 1) t)
  | _, _, j + 1, .cons _ t => paired_evk j t
/-- xs[a::k] -/
theorem ef_stp {c : Cn} {env : Sy} {os : List SO} {te : TE} {ta tk : TO} {ss : List SV} {a k : Nat} (h : EvI c env os te ss) (ha : EvO c env os ta (some (a : Int))) (hk : EvO c env os tk (some (k : Int))) (h0 : 0 < k) : EvF c env os (tStpL c.K te ta tk) (.lst (evk k a ss)) := fun ad σ H ok Q q =>
  h ad σ H ok _ fun p vs H1 e1 hs pv => ha ad σ H1 (ok.ext e1) _ fun H2 e2 => hk ad σ H2 ((ok.ext e1).ext e2) _ fun H3 e3 =>
    ⟨p, vs, a, k, rfl, rfl, rfl, h0, (e2.trans e3).sql hs, fun l hl => q l _ ((e1.trans (e2.trans e3)).free hl) (((e1.trans e2).trans e3).trans (Ex.new hl)) ⟨_, upd_same, Paired.imp (paired_evk a pv) fun _ _ z => (z.ext (e2.trans e3)).fresh hl⟩⟩
end DL

set_option Elab.async false
set_option linter.all false
set_option maxRecDepth 100000
set_option maxHeartbeats 8000000
/-! The data layer: sorted(set(xs)) of texts, any number of them. -/
namespace DL
open PySem PySem.Spec PyProof.Rows L2
open Evl (Ex Ex.refl Ex.trans Ex.new)
def GdS (P : Program) (w : World) (e : Int × Value) : Prop := ∃ (x : Str) (tk : Tok), e.2 = .str x tk ∧ e.1 = (strKind P w).hash x
def kS (e : Int × Value) : Str := match e.2 with | .str x _ => x | _ => Str.empty
/-- a set that holds these texts -/
def StS (P : Program) (w : World) (h : Heap) (a : Addr) (ks : List Str) : Prop := ∃ o es ep t, h.get? a = some o ∧ o.ExactSet ∧ o.data = .set es ep t ∧ (∀ e ∈ es.toList, GdS P w e) ∧ (es.toList.map kS).Perm ks ∧ ks.Nodup ∧ es.size < scanBound ∧ t.fits es.size = true ∧ Ris t.place.toList ∧ (w.params.followText "set-order" = true ∨ t.led = true)
section
variable {P : Program} {w : World} {A : Around} {E : Value → Shared → Prop} {s : Shared} {a : Addr} {ks : List Str}
theorem StS.at {h h' : Heap} (R : StS P w h a ks) (k : ∀ o, h.get? a = some o → h'.get? a = some o) : StS P w h' a ks := by
  obtain ⟨o, es, ep, t, ho, r⟩ := R
  exact ⟨o, es, ep, t, k o ho, r⟩
theorem gdS_elems {l : List (Int × Value)} (g : ∀ e ∈ l, GdS P w e) : ElemsOf (strKind P w) l := fun e he => by
  obtain ⟨x, tk, h1, h2⟩ := g e he
  exact ⟨⟨x, by rw [h1]; exact strKind_is P w x tk, h2⟩, by rw [h1]; rfl⟩
theorem gdS_is {e : Int × Value} (g : GdS P w e) (k : Str) : (strKind P w).is k e.2 = true ↔ kS e = k := by
  obtain ⟨x, tk, h1, _⟩ := g
  have hk : kS e = x := by unfold kS; rw [h1]
  rw [hk, h1]
  exact ⟨fun h => (strKind P w).inj _ _ _ (strKind_is P w x tk) h, fun h => h ▸ strKind_is P w x tk⟩
theorem addS_tail {g : Bool → Sem Unit} (hg : ∀ (b : Bool) (r : Shared) (K : Unit → Shared → Prop), K () r → wpAny (model P w) A (g b) K E r) {o : Obj} {es : Array (Int × Value)} {ep : Nat} {t : SetTable}
    (q1 : s.heap.get? a = some o) (q2 : o.ExactSet) (q3 : o.data = .set es ep t) {fs : Array (Int × Value)} {u : SetTable} {zs : List Str} (c1 : ∀ e ∈ fs.toList, GdS P w e) (c2 : (fs.toList.map kS).Perm zs) (c3 : zs.Nodup)
    (c4 : fs.size < scanBound) (c5 : u.fits fs.size = true) (c6 : Ris u.place.toList) (c7 : w.params.followText "set-order" = true ∨ u.led = true) {wd : Bool} {R : Option Bool → Shared → Prop}
    (hR : ∀ h', Heap.SameBut a s.heap h' → StS P w h' a zs → R (some true) { s with heap := h' }) :
    wpAny (model P w) A (do storeSet a fs u; if (!wd && u.tooFull) = true then do { g (relayAll u fs (SetTable.grown fs.size)).2.2; storeSet a (relayAll u fs (SetTable.grown fs.size)).1 (relayAll u fs (SetTable.grown fs.size)).2.1; pure (some true) } else pure (some true)) R E s := by
  refine wpAny_bind (wpAny_storeSet_of q1 q3 ?_ (fits_of_scanBound c4))
  have p1 := store_at (es' := fs) (t' := u) q1 q3
  have p2 := Heap.SameBut.update s.heap a (Obj.putSet fs u)
  split
  · have m1 := relayAll_perm u fs (SetTable.grown fs.size)
    have m2 := relayAll_fits u fs (SetTable.grown fs.size)
    have m3 := relayAll_ris u fs (SetTable.grown fs.size)
    have m4 := relayAll_led u fs (SetTable.grown fs.size)
    generalize relayAll u fs (SetTable.grown fs.size) = Y at m1 m2 m3 m4 ⊢
    obtain ⟨gs, v, z⟩ := Y
    dsimp only at m1 m2 m3 m4 ⊢
    have len : gs.size = fs.size := by rw [← Array.length_toList, m1.length_eq, Array.length_toList]
    have c8 : gs.size < scanBound := len ▸ c4
    refine wpAny_bind (hg _ _ _ (wpAny_bind (wpAny_storeSet_of p1 rfl ?_ (fits_of_scanBound c8))))
    have p3 := store_at (es' := gs) (t' := v) p1 rfl
    exact wpAny_pure (hR _ (p2.trans (Heap.SameBut.update _ a _)) ⟨_, gs, _, v, p3, q2, rfl, fun e he => c1 e (m1.mem_iff.mp he), (m1.map kS).trans c2, c3, c8, m2, m3, c7.imp id fun y => by rw [m4]; exact y⟩)
  · exact wpAny_pure (hR _ p2 ⟨_, fs, _, u, p1, q2, rfl, c1, c2, c3, c4, c5, c6, c7⟩)
def addSt (ks : List Str) (x : Str) : List Str := if x ∈ ks then ks else ks ++ [x]
theorem addS_hashed {x : Str} {tk : Tok} {Q : Bool → Shared → Prop} (R : StS P w s.heap a ks) (room : ks.length + 1 < scanBound)
    (hQ : ∀ b h', Heap.SameBut a s.heap h' → StS P w h' a (addSt ks x) → Q b { s with heap := h' }) : wpAny (model P w) A (setAddHashed a (.str x tk) ((strKind P w).hash x)) Q E s := by
  obtain ⟨o, es, ep, t, q1, q2, q3, c1, c2, c3, c4, c5, c6, c7⟩ := R
  have hkey : (strKind P w).is x (.str x tk) = true := strKind_is P w x tk
  have sc : (Value.str x tk).scannable = true := rfl
  have el : ElemsOf (strKind P w) es.toList := gdS_elems c1
  have len0 : es.size = ks.length := by rw [← c2.length_eq, List.length_map, Array.length_toList]
  unfold setAddHashed setAddHashedIn
  refine wpAny_holding (wpAny_bind (wpAny_setState_of q1 q3 c5 ?_))
  dsimp only
  rw [byScan_of sc c4 el, if_pos rfl]
  unfold setAddByScan
  refine wpAny_bind (wpAny_bind (wpAny_rule (wpAny_bind (wpAny_setScan_of hkey q1 q3 c5 el ?_))))
  cases hfi : List.findIdx? (fun e => (strKind P w).is x e.2) es.toList with
  | some j =>
    dsimp only
    obtain ⟨hj, pj, _⟩ := List.findIdx?_eq_some_iff_getElem.mp hfi
    have hm : x ∈ ks := c2.mem_iff.mp (List.mem_map.mpr ⟨es.toList[j], List.getElem_mem hj, (gdS_is (c1 _ (List.getElem_mem hj)) x).mp pj⟩)
    refine wpAny_pure (wpAny_pure (hQ _ s.heap (Heap.SameBut.refl a s.heap) ?_))
    unfold addSt
    rw [if_pos hm]
    exact ⟨o, es, ep, t, q1, q2, q3, c1, c2, c3, c4, c5, c6, c7⟩
  | none =>
    dsimp only
    have hm : x ∉ ks := fun z => by
      obtain ⟨e, he, hk⟩ := List.mem_map.mp (c2.mem_iff.mpr z)
      have := List.findIdx?_eq_none_iff.mp hfi e he
      rw [(gdS_is (c1 e he) x).mpr hk] at this
      cases this
    have gw : ∀ (b : Bool) {r : Shared} {K : Unit → Shared → Prop}, K () r → wpAny (model P w) A (match b with | true => rule "set.scan.the-table-gave-way" | false => pure ()) K E r := fun b r K q => by
      cases b
      · exact wpAny_pure q
      · exact wpAny_rule q
    have m1 := layNew_perm t es ((strKind P w).hash x) (.str x tk)
    have m2 := layNew_fits t es ((strKind P w).hash x) (.str x tk)
    have m3 := layNew_ris t es ((strKind P w).hash x) (.str x tk) c6
    have m4 := layNew_led t es ((strKind P w).hash x) (.str x tk)
    generalize layNew t es ((strKind P w).hash x) (.str x tk) = Y at m1 m2 m3 m4 ⊢
    obtain ⟨fs, u, wd, gave⟩ := Y
    dsimp only at m1 m2 m3 m4 ⊢
    rw [Array.toList_push] at m1
    have d1 : ∀ e ∈ fs.toList, GdS P w e := fun e he => by
      rcases List.mem_append.mp (m1.mem_iff.mp he) with z | z
      · exact c1 e z
      · rw [List.mem_singleton.mp z]; exact ⟨x, tk, rfl, rfl⟩
    have d2 : (fs.toList.map kS).Perm (ks ++ [x]) := by
      refine (m1.map kS).trans ?_
      rw [List.map_append]
      exact c2.append_right _
    have d3 : (ks ++ [x]).Nodup := by
      rw [List.nodup_append]
      exact ⟨c3, by simp, fun y hy z hz e => hm (by rw [← List.mem_singleton.mp hz, ← e]; exact hy)⟩
    have d4 : fs.size < scanBound := by
      have : fs.size = ks.length + 1 := by rw [← Array.length_toList, m1.length_eq, List.length_append, Array.length_toList, len0]; rfl
      omega
    have d7 : w.params.followText "set-order" = true ∨ u.led = true := c7.imp id fun y => by rw [m4]; exact y
    have fin : ∀ h', Heap.SameBut a s.heap h' → StS P w h' a (ks ++ [x]) → Q true { s with heap := h' } := fun h' sb r => hQ true h' sb (by unfold addSt; rw [if_neg hm]; exact r)
    refine wpAny_bind (gw _ ?_)
    split
    · refine wpAny_bind ?_
      rw [hashByValue_scannable 8 sc]
      refine wpAny_pure (addS_tail ?_ q1 q2 q3 d1 d2 d3 d4 ?_ ?_ ?_ ?_)
      · intro b r K q; cases b <;> first | exact wpAny_pure q | exact wpAny_rule q
      · first | (split <;> first | exact m2 | exact SetTable.fits_plain_off m2) | exact m2
      · first | (split <;> exact m3) | exact m3
      · first | (split <;> exact d7) | exact d7
      · intro h' sb r; dsimp only; exact wpAny_pure (fin h' sb r)
    · refine wpAny_bind (wpAny_pure ?_)
      rw [if_pos rfl]
      refine addS_tail ?_ q1 q2 q3 d1 d2 d3 d4 m2 m3 d7 ?_
      · intro b r K q; cases b <;> first | exact wpAny_pure q | exact wpAny_rule q
      · intro h' sb r; dsimp only; exact wpAny_pure (fin h' sb r)
end

/-! ### set(xs) -/
section
variable {P : Program} {w : World} {A : Around} {E : Value → Shared → Prop} {s : Shared}
theorem StS.new {h : Heap} {a : Addr} {o : Obj} (h0 : h.get? a = some o) (e : o = { cls := .type "set", dict := none, data := .set #[] 0 (.fresh 0 0 (!w.params.followText "set-order")) }) : StS P w h a [] := by
  subst e
  refine ⟨_, #[], 0, _, h0, ⟨rfl, rfl, rfl⟩, rfl, (fun e he => by simp at he), .nil, .nil, by decide, rfl, .nil, ?_⟩
  show _ ∨ (!w.params.followText "set-order") = true
  cases w.params.followText "set-order" <;> simp
theorem new_set1 (a : Value) {Q₁ : Value → Shared → Prop} (h : Q₁ (.ref s.heap.objs.size) { s with heap := s.heap.push { cls := .type "set", dict := none, data := .set #[] 0 (.fresh 0 0 (!w.params.followText "set-order")) } }) :
    codeAny (model P w) A (.call (.builtin "set.__new__") ⟨[.type "set", a], []⟩) (wants Q₁ E) s := by
  refine codeAny_of_tree (show wpAny _ A.in1 (do checkBuiltinCall "set.__new__" ⟨[.type "set", a], []⟩; again (.builtin "set.__new__" ⟨[.type "set", a], []⟩)) _ _ s from wpAny_bind (wpAny_of_eq (F.newCall_set_1 a) (wpAny_pure ⟨plainId_quiet F.plain_set_new _, codeAny_builtin F.entry_set_new ?_⟩)))
  rw [Around.under_plainId F.plain_set_new _]
  unfold Builtin.«set.__new__» Builtin.Frozenset.newClass
  have hsub := sub_set_self
  obtain ⟨hp, g, d, tk, os⟩ := s
  dsimp only
  wp_walk
  refine wpAny_askSetting (wpAny_pure ?_)
  dsimp only
  simp only [newObj]
  exact wpAny_bind (wpAny_alloc (wpAny_pure (wpAny_pure h)))
end
def setL (xs : List Str) : List Str := xs.foldl addSt []
theorem addSt_len (ks : List Str) (x : Str) : (addSt ks x).length ≤ ks.length + 1 := by unfold addSt; split <;> simp
theorem foldl_len : ∀ (xs ks : List Str), (xs.foldl addSt ks).length ≤ ks.length + xs.length
  | [], ks => Nat.le_refl _
  | x :: xs, ks => by
    have h1 := foldl_len xs (addSt ks x)
    have h2 := addSt_len ks x
    rw [List.foldl_cons, List.length_cons]
    omega
theorem setL_snoc (xs : List Str) (x : Str) : setL (xs ++ [x]) = addSt (setL xs) x := List.foldl_append ..
section
variable {P : Program} {w : World} {A : Around} {R : Result → Shared → Prop} {I S : Addr} {fp wr : List Addr} {G : Array GenState → Array GenState → Prop} {n : Nat} {V : Nat → Value → Prop} {St : Nat → Shared → Prop} {xs : List Str}
/-- the loop of an update by texts; what the set holds is told -/
theorem sts_update (W : WalksS P w A.in1 I fp wr G n V St) (hSf : S ∉ fp) (hsz : xs.length = n) (hn : n ≤ 4000) (hval : ∀ i v, V i v → ∃ t, v = .str (xs.getD i Str.empty) t) :
    ∀ (k i : Nat) (s : Shared), n - i = k → i ≤ n → St i s → StS P w s.heap S (setL (xs.take i)) → (∀ s', Moved (S :: wr) G s s' → StS P w s'.heap S (setL (xs.take n)) → R (.ok (.ret .none)) s') →
      codeAny (model P w) A (.builtin "set.update.loop" ⟨[.ref S, .ref I], []⟩) R s := by
  have up : ∀ b ∈ wr, b ∈ S :: wr := fun b hb => List.mem_cons_of_mem _ hb
  have hSw : S ∉ wr := fun z => hSf (W.sub _ z)
  intro k
  induction k with
  | zero =>
    intro i s hk hi st hS done
    obtain rfl : i = n := by omega
    refine codeAny_builtin PyProof.Rows.F.entry_set_update_loop ?_
    rw [Around.under_plainId PyProof.Rows.F.plain_set_update_loop _]
    refine wpAny_bind (W.done s _ _ st fun s' hm => (show wpAny _ A.in1 (ret Value.none) _ _ s' from wpAny_pure (done s' (hm.mono up) (hS.at fun o e => hm.heap S _ hSw e))))
  | succ k ih =>
    intro i s hk hi st hS done
    have hlt : i < n := by omega
    refine codeAny_builtin PyProof.Rows.F.entry_set_update_loop ?_
    rw [Around.under_plainId PyProof.Rows.F.plain_set_update_loop _]
    refine wpAny_bind (W.item i s _ _ hlt st fun v s' hP st' hm => ?_)
    obtain ⟨t, rfl⟩ := hval i v hP
    have hS1 := hS.at fun o e => hm.heap S _ hSw e
    show wpAny _ A.in1 (holding [Value.str (xs.getD i Str.empty) t] (setAdd S (.str (xs.getD i Str.empty) t)) >>= _) _ _ s'
    refine wpAny_bind (wpAny_holding ?_)
    unfold setAdd
    refine wpAny_holding (wpAny_bind ((strKind P w).pyHash (k := xs.getD i Str.empty) (strKind_is _ _ _ _) ?_))
    have room : (setL (xs.take i)).length + 1 < scanBound := by
      have h1 := foldl_len (xs.take i) []
      have h2 : (xs.take i).length ≤ i := by simp; omega
      unfold setL scanBound
      simp only [List.length_nil] at h1
      omega
    refine addS_hashed (s := { s' with toks := s'.toks + 1 }) hS1 room fun b h' sb hS2 => ?_
    have e1 : xs.take (i + 1) = xs.take i ++ [xs.getD i Str.empty] := by rw [List.take_add_one, List.getD_eq_getElem?_getD, List.getElem?_eq_getElem (by omega)]; rfl
    have hS3 : StS P w h' S (setL (xs.take (i + 1))) := by rw [e1, setL_snoc]; exact hS2
    refine wpAny_pure ⟨plainId_quiet PyProof.Rows.F.plain_set_update_loop _, ih (i + 1) _ (by omega) hlt (W.frame _ s' _ _ st' (Nat.le_succ _) fun b hb o e => ?_) hS3 fun s'' hm'' hS'' => ?_⟩
    · rw [sb.2 b (fun z : b = S => hSf (z ▸ hb))]; exact e
    · exact done s'' (Moved.trans W.gtrans ((hm.mono up).then_heap (Nat.le_succ _) fun b o hb e => (sb.2 b (fun z : b = S => hb (by rw [z]; exact List.mem_cons_self))).trans e) hm'') hS''
end

section
variable {P : Program} {w : World} {A : Around} {E : Value → Shared → Prop} {s : Shared}
set_option maxHeartbeats 3200000 in
theorem call_stL {l : Addr} {items : Array Value} {xs : List Str} {Q : Value → Shared → Prop} (hh : A.handled = none) (hl : s.heap.IsList l items) (hi : StrsAre items.toList xs) (hn : xs.length ≤ 4000)
    (h : ∀ (h' : Heap) (tk : Nat), StS P w h' s.heap.objs.size (setL xs) → (∀ b o, b < s.heap.objs.size → s.heap.get? b = some o → h'.get? b = some o) → s.heap.objs.size < h'.objs.size → Q (.ref s.heap.objs.size) { s with heap := h', toks := tk }) :
    wpAny (model P w) A (call (.type "set") [.ref l]) Q E s := by
  have hsz : xs.length = items.size := by rw [← StrsAre.len_eq hi, Array.length_toList]
  obtain ⟨c, tl, hmro⟩ := F.called_set.mro
  have hmade := F.called_set.made
  have hsub := F.called_set.sub
  have hnt := F.called_set.notType
  have hcan := F.called_set.canCreate
  have hct := F.typeCall_set_1 (.ref l)
  refine wpAny_call (codeAny_of_tree (show wpAny _ _ (callAny (.type "set") _) _ _ _ from wpAny_pure ⟨Code.quiet_builtin _ (by decide +kernel), codeAny_builtin F.entry_type_call ?_⟩))
  rw [Around.under_plain (weight_type_call_type "set" [.ref l] []) rfl]
  repeat (any_goals (first | assumption | wp_step))
  refine codeAny_mono (new_set1 (.ref l) (E := E) (Q₁ := fun obj s₁ => obj = .ref s.heap.objs.size ∧ s₁ = { s with heap := s.heap.push { cls := .type "set", dict := none, data := .set #[] 0 (.fresh 0 0 (!w.params.followText "set-order")) } }) ⟨rfl, rfl⟩) fun r s₁ hr => ?_
  cases r with
  | error e => exact hr
  | ok fl =>
    cases fl with
    | ret obj =>
      obtain ⟨rfl, rfl⟩ := hr
      generalize hb : (!w.params.followText "set-order") = b
      have hS : (s.heap.push { cls := .type "set", dict := none, data := .set #[] 0 (.fresh 0 0 b) }).get? s.heap.objs.size = some { cls := .type "set", dict := none, data := .set #[] 0 (.fresh 0 0 b) } := Heap.get?_push_size _ rfl
      have hT : Shared.TypeIs { s with heap := s.heap.push { cls := .type "set", dict := none, data := .set #[] 0 (.fresh 0 0 b) } } (.ref s.heap.objs.size) "set" := ⟨_, hS, rfl⟩
      have hli := F.called_set.init.lookup
      have hbi := F.called_set.init.bind (.ref s.heap.objs.size)
      repeat (any_goals (first | assumption | wp_step))
      refine codeAny_mono (codeAny_call_builtin (R := wants (fun r s₂ => r = .none ∧ ∃ h' tk, s₂ = { s with heap := h', toks := tk } ∧ StS P w h' s.heap.objs.size (setL xs) ∧ (∀ b o, b < s.heap.objs.size → s.heap.get? b = some o → h'.get? b = some o) ∧ s.heap.objs.size < h'.objs.size) E) F.called_set.init.plain F.entry_set_init (check_set_init_1 hT ?_)) fun r₂ s₂ hr₂ => ?_
      · obtain ⟨ol, hol, hcl, nl, hdl⟩ := hl
        obtain ⟨oc, od, dt, sl⟩ := ol
        simp only at hcl hdl
        subst hcl hdl
        have hol' : (s.heap.push { cls := .type "set", dict := none, data := .set #[] 0 (.fresh 0 0 b) }).get? l = some { cls := .type "list", dict := od, data := .seq items nl, slots := sl } := Heap.get?_push_of_some _ hol
        have hsls := F.sub_list_set
        have hslf := F.sub_list_frozenset
        have hne : (Value.type "list" == Value.type "dict") = false := by decide
        have hl1 : (s.heap.push { cls := .type "set", dict := none, data := .set #[] 0 (.fresh 0 0 b) }).IsList l items := ⟨_, hol', rfl, nl, rfl⟩
        unfold Builtin.«set.__init__» noKeywords Builtin.Frozenset.updateFrom
        generalize hPI : pyIter = PI
        wp_walk
        subst hPI
        refine wpAny_pyIter_list hl1 ?_
        refine wpAny_bind (wpAny_runValue ?_)
        have hlS : l < s.heap.objs.size := Heap.lt_size hol
        have hh3 : A.in1.in1.in1.handled = none := by simp [hh]
        have hsz1 : (s.heap.push { cls := .type "set", dict := none, data := .set #[] 0 (.fresh 0 0 b) }).objs.size = s.heap.objs.size + 1 := Heap.size_push ..
        have hneI : l ≠ (s.heap.push { cls := .type "set", dict := none, data := .set #[] 0 (.fresh 0 0 b) }).objs.size := by rw [hsz1]; exact Nat.ne_of_lt (Nat.lt_succ_of_lt hlS)
        have hSf : s.heap.objs.size ∉ [(s.heap.push { cls := .type "set", dict := none, data := .set #[] 0 (.fresh 0 0 b) }).objs.size, l] := by
          rw [hsz1]
          intro z
          rcases List.mem_cons.mp z with z | z
          · exact absurd z (Nat.ne_of_lt (Nat.lt_succ_self _))
          · exact absurd (List.mem_singleton.mp z) (Nat.ne_of_gt hlS)
        refine sts_update (P := P) (xs := xs) ((Walks.list hh3 _ l hneI items).toS) hSf hsz (by omega) (fun i v hv => SS.strs_at hi i v (by rw [Array.getElem?_toList]; exact hv)) (items.size - 0) 0 _ (by omega) (Nat.zero_le _) ⟨⟨_, Heap.get?_push_size _ rfl, rfl, rfl⟩, ((fun z => z.push _) hl1)⟩ (StS.new (Heap.get?_push_of_some _ hS) (by rw [hb])) ?hR
        case hR =>
          intro s' hm hS'
          obtain ⟨h', g', d', tk', os'⟩ := s'
          have eg : g' = s.gens := hm.gens
          have ed : d' = s.drawn := hm.drawn
          have eo : os' = s.os := hm.os
          subst eg ed eo
          rw [← hsz, List.take_length] at hS'
          refine (show wpAny _ _ _ _ _ _ from wpAny_pure (show wpAny _ _ (ret Value.none) _ _ _ from wpAny_pure ⟨rfl, h', tk', rfl, hS', fun b2 o hb e => hm.heap b2 o (fun z => ?_) (Heap.get?_push_of_some _ (Heap.get?_push_of_some _ e)), by obtain ⟨o, _, _, _, ho, _⟩ := hS'; exact Heap.lt_size ho⟩))
          rw [hsz1] at z
          rcases List.mem_cons.mp z with z | z
          · exact absurd z (Nat.ne_of_lt hb)
          · exact absurd (List.mem_singleton.mp z) (Nat.ne_of_lt (Nat.lt_succ_of_lt hb))
      · cases r₂ with
        | error e => exact hr₂
        | ok fl₂ =>
          cases fl₂ with
          | ret r =>
            obtain ⟨rfl, h', tk, rfl, hS', hk', hsz'⟩ := hr₂
            repeat (any_goals (first | assumption | wp_step))
            exact h _ _ hS' hk' hsz'
          | _ => exact hr₂.elim
    | _ => exact hr.elim
end

section
variable {P : Program} {w : World} {A : Around} {E : Value → Shared → Prop} {s : Shared}
set_option maxHeartbeats 3200000 in
theorem call_stT {l : Addr} {items : Array Value} {xs : List Str} {Q : Value → Shared → Prop} (hh : A.handled = none) (hl : s.heap.IsTuple l items) (hi : StrsAre items.toList xs) (hn : xs.length ≤ 4000)
    (h : ∀ (h' : Heap) (tk : Nat), StS P w h' s.heap.objs.size (setL xs) → (∀ b o, b < s.heap.objs.size → s.heap.get? b = some o → h'.get? b = some o) → s.heap.objs.size < h'.objs.size → Q (.ref s.heap.objs.size) { s with heap := h', toks := tk }) :
    wpAny (model P w) A (call (.type "set") [.ref l]) Q E s := by
  have hsz : xs.length = items.size := by rw [← StrsAre.len_eq hi, Array.length_toList]
  obtain ⟨c, tl, hmro⟩ := F.called_set.mro
  have hmade := F.called_set.made
  have hsub := F.called_set.sub
  have hnt := F.called_set.notType
  have hcan := F.called_set.canCreate
  have hct := F.typeCall_set_1 (.ref l)
  refine wpAny_call (codeAny_of_tree (show wpAny _ _ (callAny (.type "set") _) _ _ _ from wpAny_pure ⟨Code.quiet_builtin _ (by decide +kernel), codeAny_builtin F.entry_type_call ?_⟩))
  rw [Around.under_plain (weight_type_call_type "set" [.ref l] []) rfl]
  repeat (any_goals (first | assumption | wp_step))
  refine codeAny_mono (new_set1 (.ref l) (E := E) (Q₁ := fun obj s₁ => obj = .ref s.heap.objs.size ∧ s₁ = { s with heap := s.heap.push { cls := .type "set", dict := none, data := .set #[] 0 (.fresh 0 0 (!w.params.followText "set-order")) } }) ⟨rfl, rfl⟩) fun r s₁ hr => ?_
  cases r with
  | error e => exact hr
  | ok fl =>
    cases fl with
    | ret obj =>
      obtain ⟨rfl, rfl⟩ := hr
      generalize hb : (!w.params.followText "set-order") = b
      have hS : (s.heap.push { cls := .type "set", dict := none, data := .set #[] 0 (.fresh 0 0 b) }).get? s.heap.objs.size = some { cls := .type "set", dict := none, data := .set #[] 0 (.fresh 0 0 b) } := Heap.get?_push_size _ rfl
      have hT : Shared.TypeIs { s with heap := s.heap.push { cls := .type "set", dict := none, data := .set #[] 0 (.fresh 0 0 b) } } (.ref s.heap.objs.size) "set" := ⟨_, hS, rfl⟩
      have hli := F.called_set.init.lookup
      have hbi := F.called_set.init.bind (.ref s.heap.objs.size)
      repeat (any_goals (first | assumption | wp_step))
      refine codeAny_mono (codeAny_call_builtin (R := wants (fun r s₂ => r = .none ∧ ∃ h' tk, s₂ = { s with heap := h', toks := tk } ∧ StS P w h' s.heap.objs.size (setL xs) ∧ (∀ b o, b < s.heap.objs.size → s.heap.get? b = some o → h'.get? b = some o) ∧ s.heap.objs.size < h'.objs.size) E) F.called_set.init.plain F.entry_set_init (check_set_init_1 hT ?_)) fun r₂ s₂ hr₂ => ?_
      · obtain ⟨ol, hol, hcl, nl, hdl⟩ := hl
        obtain ⟨oc, od, dt, sl⟩ := ol
        simp only at hcl hdl
        subst hcl hdl
        have hol' : (s.heap.push { cls := .type "set", dict := none, data := .set #[] 0 (.fresh 0 0 b) }).get? l = some { cls := .type "tuple", dict := od, data := .seq items nl, slots := sl } := Heap.get?_push_of_some _ hol
        have hsls := PySem.F.sub_tuple_set
        have hslf := PySem.F.sub_tuple_frozenset
        have hne : (Value.type "tuple" == Value.type "dict") = false := by decide
        have hl1 : (s.heap.push { cls := .type "set", dict := none, data := .set #[] 0 (.fresh 0 0 b) }).IsTuple l items := ⟨_, hol', rfl, nl, rfl⟩
        unfold Builtin.«set.__init__» noKeywords Builtin.Frozenset.updateFrom
        generalize hPI : pyIter = PI
        wp_walk
        subst hPI
        refine wpAny_pyIter_tuple hl1 ?_
        refine wpAny_bind (wpAny_runValue ?_)
        have hlS : l < s.heap.objs.size := Heap.lt_size hol
        have hh3 : A.in1.in1.in1.handled = none := by simp [hh]
        have hsz1 : (s.heap.push { cls := .type "set", dict := none, data := .set #[] 0 (.fresh 0 0 b) }).objs.size = s.heap.objs.size + 1 := Heap.size_push ..
        have hneI : l ≠ (s.heap.push { cls := .type "set", dict := none, data := .set #[] 0 (.fresh 0 0 b) }).objs.size := by rw [hsz1]; exact Nat.ne_of_lt (Nat.lt_succ_of_lt hlS)
        have hSf : s.heap.objs.size ∉ [(s.heap.push { cls := .type "set", dict := none, data := .set #[] 0 (.fresh 0 0 b) }).objs.size, l] := by
          rw [hsz1]
          intro z
          rcases List.mem_cons.mp z with z | z
          · exact absurd z (Nat.ne_of_lt (Nat.lt_succ_self _))
          · exact absurd (List.mem_singleton.mp z) (Nat.ne_of_gt hlS)
        refine sts_update (P := P) (xs := xs) ((Walks.tuple hh3 _ l hneI items).toS) hSf hsz (by omega) (fun i v hv => SS.strs_at hi i v (by rw [Array.getElem?_toList]; exact hv)) (items.size - 0) 0 _ (by omega) (Nat.zero_le _) ⟨⟨_, Heap.get?_push_size _ rfl, rfl, rfl⟩, ((fun z => z.push _) hl1)⟩ (StS.new (Heap.get?_push_of_some _ hS) (by rw [hb])) ?hR
        case hR =>
          intro s' hm hS'
          obtain ⟨h', g', d', tk', os'⟩ := s'
          have eg : g' = s.gens := hm.gens
          have ed : d' = s.drawn := hm.drawn
          have eo : os' = s.os := hm.os
          subst eg ed eo
          rw [← hsz, List.take_length] at hS'
          refine (show wpAny _ _ _ _ _ _ from wpAny_pure (show wpAny _ _ (ret Value.none) _ _ _ from wpAny_pure ⟨rfl, h', tk', rfl, hS', fun b2 o hb e => hm.heap b2 o (fun z => ?_) (Heap.get?_push_of_some _ (Heap.get?_push_of_some _ e)), by obtain ⟨o, _, _, _, ho, _⟩ := hS'; exact Heap.lt_size ho⟩))
          rw [hsz1] at z
          rcases List.mem_cons.mp z with z | z
          · exact absurd z (Nat.ne_of_lt hb)
          · exact absurd (List.mem_singleton.mp z) (Nat.ne_of_lt (Nat.lt_succ_of_lt hb))
      · cases r₂ with
        | error e => exact hr₂
        | ok fl₂ =>
          cases fl₂ with
          | ret r =>
            obtain ⟨rfl, h', tk, rfl, hS', hk', hsz'⟩ := hr₂
            repeat (any_goals (first | assumption | wp_step))
            exact h _ _ hS' hk' hsz'
          | _ => exact hr₂.elim
    | _ => exact hr.elim
end
end DL

set_option Elab.async false
set_option linter.all false
set_option maxRecDepth 100000
set_option maxHeartbeats 8000000
/-! The data layer: sorted(set(xs)), xs a list or a tuple of texts. -/
namespace DL
open PySem PySem.Spec PyProof.Rows L2
open Evl (Ex Ex.refl Ex.trans Ex.new)
abbrev leS : Str → Str → Bool := PySem.W.dataLe false PyData.str
section
variable {P : Program} {w : World} {A : Around} {E : Value → Shared → Prop} {s : Shared}
theorem strs_each : ∀ {l : List Value}, (∀ v ∈ l, ∃ x t, v = Value.str x t) → PySem.W.EachIs (fun v x => ∃ t, v = Value.str x t) l (l.map fun v => kS (0, v))
  | [], _ => .nil
  | v :: l, h => by
    obtain ⟨x, t, e⟩ := h v (List.mem_cons_self ..)
    exact .cons ⟨t, by rw [e]; rfl⟩ (strs_each fun u hu => h u (List.mem_cons_of_mem _ hu))
theorem sort_StS {a : Addr} {ks : List Str} {Q : Value → Shared → Prop} (R : StS P w s.heap a ks) (hh : A.handled = none) (hu : A.units + 64 < cLine)
    (hQ : ∀ (s2 : Shared) (p : Addr) (res : List Value) (ep : Nat) (zs : List Str), (∀ b o, s.heap.get? b = some o → s2.heap.get? b = some o) → s2.gens = s.gens → s2.os = s.os → s.heap.objs.size ≤ p →
      s2.heap.get? p = some (seqObj "list" res.toArray ep) → Vals ((zs.mergeSort leS).map V.str) res → zs.Perm ks → Q (.ref p) s2) :
    wpAny (model P w) A (call (.builtin "sorted") [.ref a]) Q E s := by
  have ⟨o, es, ep, t, ho, hex, hd, g, pm0, nd, hb, hf, hr, hl⟩ := R
  have lim : es.size ≤ sizeLine := Nat.le_trans (Nat.le_of_lt hb) (by decide)
  refine Calls.call_function_entry kind_sorted plain_sorted entry_sorted (args_sorted1 _) ?_
  unfold Builtin.«sorted»
  refine wpAny_bind (m := checkCount "sorted" 1 1 _) (wpAny_pure ?_)
  refine wpAny_bind (collect_set (A := A.in1) hh ⟨o, ho, hex.1, hd⟩ hf hb hr hl fun s1 vs keep sz gs oss pm => ?_)
  have len : vs.length = es.size := by rw [pm.length_eq, List.length_map, Array.length_toList]
  have allS : ∀ v ∈ vs, ∃ x t, v = Value.str x t := fun v hv => by
    obtain ⟨e, he, rfl⟩ := List.mem_map.mp (pm.mem_iff.mp hv)
    obtain ⟨x, tk, h1, _⟩ := g e he
    exact ⟨x, tk, h1⟩
  have each := strs_each allS
  have pz : (vs.map fun v => kS (0, v)).Perm ks := by
    refine (pm.map fun v => kS (0, v)).trans ?_
    rw [List.map_map]
    refine (List.Perm.of_eq (List.map_congr_left fun e he => ?_)).trans pm0
    obtain ⟨x, tk, h1, _⟩ := g e he
    show kS (0, e.2) = kS e
    unfold kS
    rw [h1]
  generalize (vs.map fun v => kS (0, v)) = zs at each pz
  refine wpAny_bind (wpAny_newList ?_ (by rw [len]; exact lim))
  have at0 : (s1.heap.push (seqObj "list" vs.toArray 0)).get? s1.heap.objs.size = some (seqObj "list" vs.toArray 0) := Heap.get?_push_size _ rfl
  have er : ∀ {l : List Value} {m : List Str} {hh : Heap} {b : Addr}, PySem.W.EachIs (fun v x => ∃ t, v = Value.str x t) l m → PySem.W.EachIs (fun v x => ∃ as, Reads hh v (PyData.str x) as ∧ b ∉ as) l m := by
    intro l m hh b h
    induction h with
    | nil => exact .nil
    | cons r t ih => obtain ⟨t, rfl⟩ := r; exact .cons ⟨[], .str _ _, by simp⟩ ih
  have zl : zs.length = es.size := by rw [pz.length_eq, ← pm0.length_eq, List.length_map, Array.length_toList]
  refine wpAny_bind (wpAny_holding (PySem.W.list_sort_data (R := fun v x => ∃ t, v = Value.str x t) (bs := zs) (enc := PyData.str) at0 each (er each) (fun d hd d' hd' => ?_) (Or.inr fun d hd => ?_) (by rw [zl]; exact lim) (fun b hb => ?_) fun out lo eo => ?_))
  · obtain ⟨x, _, rfl⟩ := List.mem_map.mp hd
    obtain ⟨y, _, rfl⟩ := List.mem_map.mp hd'
    rfl
  · obtain ⟨x, _, rfl⟩ := List.mem_map.mp hd
    exact ⟨(fun z => by cases z), fun xs z => (by cases z)⟩
  · have hu1 : A.in1.units ≤ A.units + 1 := Nat.le_refl _
    have : (PyData.str b).depth = 0 := rfl
    omega
  · obtain ⟨ep2, at2⟩ := sortedHeap_at (vs := vs) (out := out.toArray) at0
    refine wpAny_pure ⟨_, rfl, hQ _ s1.heap.objs.size out ep2 zs (fun b u e => ?_) gs oss sz at2 (each_str eo) pz⟩
    have q := keep b u e
    have lt := Heap.lt_size q
    show (sortedHeap (s1.heap.push (seqObj "list" vs.toArray 0)) s1.heap.objs.size vs out.toArray).get? b = some u
    rw [sortedHeap_old (Nat.ne_of_lt lt) (by rw [size_push']; exact Nat.lt_succ_of_lt lt)]
    exact Heap.get?_push_of_some _ q
end
/-- sorted(set(xs)), xs a list or a tuple of texts -/
def tSortSt (K : PySem.W.Frag) (ta : TE) : TE := fun σ H Q => ta σ H fun x H1 => ∃ (l : Addr) (xs : List Str), x = .ref l ∧ (SqL K H1 l (xs.map V.str) ∨ SqT K H1 l (xs.map V.str)) ∧ xs.length ≤ 4000 ∧
  ∀ (zs : List Str) (p : Addr), zs.Perm (setL xs) → H1 p = none → Q (.ref p) (upd H1 p (.lst ((zs.mergeSort leS).map V.str)))
theorem pe_sortSt {X : Cx} {K : PySem.W.Frag} {a : Expr} {ta : TE} {p p2 q pos : Pos} (hg : Gl X "sorted") (hm : X.mg "sorted" = none) (hg2 : Gl X "set") (hm2 : X.mg "set" = none) (ha : PE X a ta) (hu : X.A.units + 64 < cLine) (hc : X.calm = true := by rfl) (hk : X.K = K := by rfl)
    (na : starEach [a] X.env = (false, eval a X.env) :: starEach [] X.env := by rfl) : PE X (.Call (.Name "sorted" p) [.Call (.Name "set" p2) [a] [] q] [] pos) (tSortSt K ta) := by
  subst hk
  refine ⟨fun pins s σ H Q I h => ?_⟩
  refine Call_ (ld_blt I hg hm boot_sorted ?_)
  refine PyProof.Rows.callWith_builtin1 (PyProof.Rows.args_cons ?_ rfl) rfl rfl
  refine Call_ (ld_blt I hg2 hm2 boot_set ?_)
  refine PyProof.Rows.callWith_type1 (PyProof.Rows.args_cons (thn (ha.run pins s σ H _ I h) fun v s1 ⟨x, H1, I1, r1, q1⟩ => PyProof.Rows.args_nil ?_) na) na rfl
  obtain ⟨l, xs, rfl, hq, hn, q1⟩ := q1
  cases r1
  have fin : ∀ (h' : Heap) (tk : Nat), StS X.prog X.w h' s1.heap.objs.size (setL xs) → (∀ b o, b < s1.heap.objs.size → s1.heap.get? b = some o → h'.get? b = some o) → s1.heap.objs.size < h'.objs.size →
      wpAny (model X.prog X.w) X.A (call (.builtin "sorted") [.ref s1.heap.objs.size]) (EP X pins σ Q) X.xe { s1 with heap := h', toks := tk } := fun h' tk hS hk hsz => by
    have I2 : Inv X pins σ H1 { s1 with heap := h', toks := tk } := I1.kept fun b o e => hk b o (Heap.lt_size e) e
    refine sort_StS hS (I2.ok.hd hc) hu fun s2 p res ep zs keep gs oss sz at2 ev pm => ?_
    have lz : (setL xs).length ≤ xs.length := by
      have := foldl_len xs []
      rwa [List.length_nil, Nat.zero_add] at this
    have len : ((zs.mergeSort leS).map V.str).length ≤ sizeLine := by
      rw [List.length_map, (List.mergeSort_perm _ _).length_eq, pm.length_eq]
      exact Nat.le_trans lz (Nat.le_trans hn (by decide))
    have free : H1 p = none := I2.hok.fresh sz
    have J : Inv X pins σ (upd H1 p (.lst ((zs.mergeSort leS).map V.str))) { { s1 with heap := h', toks := tk } with heap := s2.heap, gens := s2.gens, drawn := s2.drawn, toks := s2.toks } :=
      I2.call (ch := []) (Un.laid keep sz free) (I2.hok.laid keep sz ⟨len, res, ep, ev, at2⟩) (by rw [gs]; exact I2.bare) (fun _ z => nomatch z)
    have same : s2 = { s1 with heap := s2.heap, gens := s2.gens, drawn := s2.drawn, toks := s2.toks } := by
      cases s2; cases s1; cases oss; rfl
    rw [same]
    exact ⟨.ref p, _, J, rfl, q1 zs p pm free⟩
  rcases hq with hq | hq
  · obtain ⟨its, r, pl, hz⟩ := I1.list hq
    exact call_stL (I1.ok.hd hc) pl.isList (by simpa using L2.strsAre_of r) hn fun h' tk hS hk hsz => PyProof.Rows.args_nil (fin h' tk hS hk hsz)
  · obtain ⟨its, r, pl, hz⟩ := I1.tuple hq
    exact call_stT (I1.ok.hd hc) (show s1.heap.IsTuple l its.toArray from pl) (by simpa using L2.strsAre_of r) hn fun h' tk hS hk hsz => PyProof.Rows.args_nil (fin h' tk hS hk hsz)
theorem kSortSt {X : Cx} {K : PySem.W.Frag} {e : Expr} {ta : TE} (h : PE X e (tSortSt X.K ta)) (hk : X.K = K := by rfl) : PE X e (tSortSt K ta) := by subst hk; exact h
/-! the texts, as code points -/
theorem sT_back (x : Str) : sT x.cps.toList = x := by
  obtain ⟨⟨l⟩⟩ := x
  rfl
theorem leS_def (x y : Str) : leS x y = !decide (y.cps.toList < x.cps.toList) := by
  rw [← PySem.W.dataLt_str]; rfl
def leT (a b : List Nat) : Bool := decide (a ≤ b)
def addTx (ks : List (List Nat)) (x : List Nat) : List (List Nat) := if x ∈ ks then ks else ks ++ [x]
/-- different texts, in the order of their first place -/
def distT (ms : List (List Nat)) : List (List Nat) := ms.foldl addTx []
/-- sorted(set(ms)) -/
def sortT (ms : List (List Nat)) : List (List Nat) := (distT ms).mergeSort leT
theorem addSt_map (ks : List (List Nat)) (x : List Nat) : addSt (ks.map sT) (sT x) = (addTx ks x).map sT := by
  have e : sT x ∈ ks.map sT ↔ x ∈ ks := ⟨fun h => by
    obtain ⟨y, hy, q⟩ := List.mem_map.mp h
    exact sT_inj q ▸ hy, fun h => List.mem_map.mpr ⟨x, h, rfl⟩⟩
  unfold addSt addTx
  by_cases h : x ∈ ks
  · rw [if_pos h, if_pos (e.mpr h)]
  · rw [if_neg h, if_neg (fun z => h (e.mp z)), List.map_append]; rfl
theorem setL_map (ms : List (List Nat)) : setL (ms.map sT) = (distT ms).map sT := by
  have : ∀ (ms ks : List (List Nat)), (ms.map sT).foldl addSt (ks.map sT) = (ms.foldl addTx ks).map sT := by
    intro ms
    induction ms with
    | nil => intro ks; rfl
    | cons m ms ih => intro ks; rw [List.map_cons, List.foldl_cons, List.foldl_cons, addSt_map, ih]
  exact this ms []
theorem leT_trans (a b c : List Nat) (h1 : leT a b = true) (h2 : leT b c = true) : leT a c = true := decide_eq_true (List.le_trans (of_decide_eq_true h1) (of_decide_eq_true h2))
theorem leT_total (a b : List Nat) : (leT a b || leT b a) = true := by
  rcases List.le_total a b with h | h
  · rw [show leT a b = true from decide_eq_true h]; rfl
  · rw [show leT b a = true from decide_eq_true h, Bool.or_true]
theorem leS_T (x y : Str) : leS x y = leT x.cps.toList y.cps.toList := by
  rw [leS_def]
  unfold leT
  by_cases h : y.cps.toList < x.cps.toList
  · rw [decide_eq_true h, decide_eq_false (fun z => z h)]; rfl
  · rw [decide_eq_false h, decide_eq_true (show x.cps.toList ≤ y.cps.toList from h)]; rfl
theorem sortT_pw (ms : List (List Nat)) : (sortT ms).Pairwise fun a b => leT a b = true := List.pairwise_mergeSort leT_trans leT_total _
theorem sortT_perm (ms : List (List Nat)) : (sortT ms).Perm (distT ms) := List.mergeSort_perm _ _
theorem sort_zs {ms : List (List Nat)} {zs : List Str} (h : zs.Perm (setL (ms.map sT))) : zs.mergeSort leS = (sortT ms).map sT := by
  have p1 : ((zs.mergeSort leS).map fun x => x.cps.toList).Perm (sortT ms) := by
    refine (((List.mergeSort_perm zs leS).trans h).map _).trans ?_
    rw [setL_map, List.map_map, show ((fun x : Str => x.cps.toList) ∘ sT) = id from rfl, List.map_id]
    exact (sortT_perm ms).symm
  have p2 : ((zs.mergeSort leS).map fun x => x.cps.toList).Pairwise fun a b => leT a b = true := by
    refine List.pairwise_map.mpr ((List.pairwise_mergeSort (le := leS) (fun a b c h1 h2 => ?_) (fun a b => ?_) zs).imp fun {a b} z => by rw [← leS_T]; exact z)
    · rw [leS_T] at h1 h2 ⊢; exact leT_trans _ _ _ h1 h2
    · rw [leS_T, leS_T]; exact leT_total _ _
  have e := List.Perm.eq_of_pairwise (fun a b _ _ h1 h2 => List.le_antisymm (of_decide_eq_true h1) (of_decide_eq_true h2)) p2 (sortT_pw ms) p1
  rw [← e, List.map_map, show (sT ∘ fun x : Str => x.cps.toList) = id from funext fun x => sT_back x, List.map_id]
section
variable {w : Bool} {c : Cn} {env : Sy} {os : List SO} {te : TE}
theorem dnA_strs {K : PySem.W.Frag} {N : Addr → Prop} {H : Hp} : ∀ {ms : List (List Nat)} {vs : List V}, DnAll K N H vs (ms.map dT) → vs = (ms.map sT).map V.str
  | [], _, h => by cases h; rfl
  | m :: ms, _, h => by
    cases h with
    | cons a b => rw [dnA_strs b, dn_str a]; rfl
theorem dn_strsA {K : PySem.W.Frag} {N : Addr → Prop} {H : Hp} : ∀ (ms : List (List Nat)), DnAll K N H ((ms.map sT).map V.str) (ms.map dT)
  | [] => .nil
  | m :: ms => .cons (.str _) (dn_strsA ms)
theorem sortSt_out {ad : Nat → Addr} {H : Hp} {p : Addr} (ms : List (List Nat)) (hp : H p = some (.lst (((sortT ms).map sT).map V.str))) : SoOk c.K (fun a => Nof c ad os a ∨ a = p) ad os.length H p (.lst (((sortT ms).map dT).map SV.i)) :=
  ⟨_, hp, dn_paired (dn_strsA _)⟩
theorem ef_sortStT {ms : List (List Nat)} (h : EvX false c env os te (.tuple (ms.map dT))) (hl : ms.length ≤ 4000) : EvF c env os (tSortSt c.K te) (.lst (((sortT ms).map dT).map SV.i)) := fun ad σ H ok Q q =>
  h ad σ H ok _ fun v H1 e1 r1 => by
    obtain ⟨a, xs, rfl, hs, ha⟩ := dn_tup_ref r1
    rw [dnA_strs ha] at hs
    refine ⟨a, ms.map sT, rfl, Or.inr hs, by rw [List.length_map]; exact hl, fun zs p pm hp => ?_⟩
    rw [sort_zs pm]
    exact q p _ (e1.free hp) (e1.trans (Ex.new hp)) (sortSt_out ms upd_same)
/-- isinstance(x, (T, U)) -/
theorem ex_isiT {T U : String} {b1 b2 : Bool} {d : PyData} (h : EvX true c env os te d) (h1 : kitD (tyN d) T = some b1) (h2 : kitD (tyN d) U = some b2) : EvX w c env os (tCB (rIsiT c.K) (tCons te (tCons (tTup (tCons (tC (.ty T)) (tCons (tC (.ty U)) tNil))) tNil))) (.bool (b1 || b2)) := fun ad σ H ok Q q =>
  h ad σ H ok _ fun v H2 e r => ⟨Nat.le_of_ble_eq_true rfl, fun p hp => ⟨v, p, [.ty T, .ty U], .type (tyN d), [.type T, .type U], b1 || b2, rfl, upd_same, .cons (.ty T) (.cons (.ty U) .nil), tyx_of (r.ext (Ex.new hp)) (kitD_ins h1),
    kitAny_cons (kit_ty (kitD_b h1)) (fun z => kitAny_cons (kit_ty (kitD_b h2)) (fun y => by rw [z, y]; exact kitAny_nil) (fun y => by rw [z, y]; rfl)) (fun z => by rw [z]; rfl), q _ _ (e.trans (Ex.new hp)) (.bl _)⟩⟩
theorem kIsiT {X : Cx} {K : PySem.W.Frag} (h : X.K = K := by rfl) : CallR X (.builtin "isinstance") (rIsiT K) := by subst h; exact call_isiT
end
end DL

set_option Elab.async false
set_option linter.all false
set_option maxRecDepth 100000
set_option maxHeartbeats 8000000
/-! The data layer: methods with keyword-only parameters. -/
namespace DL
open PySem PySem.Spec PyProof.Rows L2
open Evl (Ex Ex.refl Ex.trans Ex.new)
/-- a call of a method: n values by place behind the object, the names ks, gV fills up -/
def tMethN (C : Addr) (m : Str) (n j : Nat) (sp : Sp) (gV : List V → List V → List V) (E : XK) (te : TE) (t tk : TA) : TE := fun σ H Q => te σ H fun x H1 => ∃ (a dx : Addr) (fs : List (Str × V)), x = .ref a ∧ H1 a = some (.ins C dx fs) ∧ fs.lookup m = none ∧
  t σ H1 fun vs H2 => tk σ H2 fun zs H3 => vs.length = n ∧ zs.length = j ∧ sp (gV (.ref a :: vs) zs) H3 Q E
section
variable {X : Cx} {CX : CXT} {k n : Nat} {f C : Addr} {fd : FuncData} {ps ks : List Str} {sp : Sp} {E : XK} {m : Str} {pos apos : Pos} {o e : Expr} {es : List Expr} {kws : List Keyword} {ta : TE} {t tk : TA} {g : List Value → List Value → List Value} {gV : List V → List V → List V}
theorem pe_methN {pl : Sem Bool} (he : PE X o ta) (c : Cls X.K C) (hm : Meth X.K C m f) (F : FnOk X.prog X.w X.K X.mg X.base CX k f fd ps sp) (hr : Room k X.A) (hb : KBn X.K fd ps (n + 1) ks g gV) (hx : Passes CX X E) (ha : PA X (e :: es) t) (hkw : PK X kws tk)
    (hall : (backToKw pos (keywordEach kws X.env)).all (·.1.isSome) = true := by rfl) (hks : (backToKw pos (keywordEach kws X.env)).filterMap (·.1) = ks := by rfl) (hst : starEach (e :: es) X.env = (false, eval e X.env) :: starEach es X.env := by rfl)
    (hpl : ((backTo pos (starEach (e :: es) X.env)).any (·.1) || (backToKw pos (keywordEach kws X.env)).any (·.1.isNone)) = false := by rfl)
    (ht : eval (.Call (.Attribute o m apos) (e :: es) kws pos) X.env = (do
      let ov ← eval o X.env
      standAt apos.atName
      let (f, first) ← holding [ov] (getMethod ov m pl)
      callWith pos f first (backTo pos (starEach (e :: es) X.env)) (backToKw pos (keywordEach kws X.env))) := by rfl) :
    PE X (.Call (.Attribute o m apos) (e :: es) kws pos) (tMethN C m n ks.length sp gV E ta t tk) := by
  refine ⟨fun pins s σ H Q I h => PySem.W.methodCall_KW (pl := pl) (thn (he.run pins s σ H _ I h) fun u s1 ⟨x, H1, I1, rx, a, dx, fs, ex, ea, l, q⟩ => ?_) ht⟩
  subst ex
  obtain rfl : u = Value.ref a := rx
  refine getmeth_ok I1 ea c hm l (PySem.W.callWith_KW (first := [.ref a]) (h₀ := X.base) I.ok.mod.kin hm.kp hall (thn (ha.run pos pins s1 σ H1 _ I1 q) fun us s2 ⟨vs, H2, I2, r, q2⟩ => ?_) hpl hst)
  refine thn (hkw.run pos pins s2 σ H2 _ I2 q2) fun ws s3 ⟨zs, H3, I3, rz, l1, l2, q3⟩ => ⟨I3.kIn, ?_⟩
  rw [hks]
  exact run_fnN (us := .ref a :: us) (vs := .ref a :: vs) F hr hb hx I3 (.cons rfl r) rz (by rw [List.length_cons, l1]) l2 q3
end
def MetQ (P : Program) (w : World) (K : PySem.W.Frag) (mg : Str → Option Value) (base : Heap) (k : Nat) (C : Addr) (m : Str) (ps : List Str) (sp : Sp) (fs : List CForm) : Prop :=
  ∃ f fd, Cls K C ∧ Meth K C m f ∧ FnOk P w K mg base CX0 k f fd ps sp ∧ ∀ F ∈ fs, FormOk K fd ps F
theorem metQ_mk {P : Program} {w : World} {K : PySem.W.Frag} {mg : Str → Option Value} {base : Heap} {x qual : Str} {st : Stmt} {f : Addr} {fd : FuncData} {N ps : List Str} {k : Nat} {sp : Sp} {C : Addr} {kws : List (Str × V)} {fs : List CForm} (F : FnM K x qual st kws f fd) (S : FnScope N ps (defScope st)) (c : Cls K C) (me : Meth K C x f) (len : ∀ vs H Q E, sp vs H Q E → vs.length = ps.length)
    (hf : ∀ F ∈ fs, FormOk K fd ps F)
    (hbody : ∀ (cdv : Value) (A : Around) (outer : List Env) (s : Shared) (H : Hp) (vs : List V) (Q : VK) (E : XK), Room k (A.deeper (envOfC qual (defScope st) s.heap.objs.size f cdv)) → sp vs H Q E →
      ∃ t, PSs (cxOf CX0 P w K mg base N qual (defScope st) f cdv A outer s H E).nox (defBody st) t ∧ t (De Q) (L2.start N vs) H) : MetQ P w K mg base (k + 1) C x ps sp fs :=
  ⟨f, fd, c, me, F.ok S len fun cdv A outer s H vs Q E hr h => let ⟨t, a, b⟩ := hbody cdv A outer s H vs Q E hr h; ⟨t, a.nox, b⟩, hf⟩
theorem pe_metQ {X : Cx} {k j n : Nat} {ps ks : List Str} {sp : Sp} {m : Str} {pos apos : Pos} {o e : Expr} {es : List Expr} {kws : List Keyword} {ta : TE} {t tk : TA} {C : Addr} {fs : List CForm} {ms : List (Str × V)} {pl : Sem Bool} (h : MetQ X.prog X.w X.K X.mg X.base k C m ps sp fs) (hF : (n + 1, ks, ms) ∈ fs) (hr : Room j X.A) (hj : k ≤ j) (hx : Passes CX0 X E0) (he : PE X o ta) (ha : PA X (e :: es) t) (hkw : PK X kws tk)
    (hall : (backToKw pos (keywordEach kws X.env)).all (·.1.isSome) = true := by rfl) (hks : (backToKw pos (keywordEach kws X.env)).filterMap (·.1) = ks := by rfl) (hst : starEach (e :: es) X.env = (false, eval e X.env) :: starEach es X.env := by rfl)
    (hpl : ((backTo pos (starEach (e :: es) X.env)).any (·.1) || (backToKw pos (keywordEach kws X.env)).any (·.1.isNone)) = false := by rfl)
    (ht : eval (.Call (.Attribute o m apos) (e :: es) kws pos) X.env = (do
      let ov ← eval o X.env
      standAt apos.atName
      let (f, first) ← holding [ov] (getMethod ov m pl)
      callWith pos f first (backTo pos (starEach (e :: es) X.env)) (backToKw pos (keywordEach kws X.env))) := by rfl) :
    PE X (.Call (.Attribute o m apos) (e :: es) kws pos) (tMethN C m n ks.length sp (fun vs zs => vs ++ (zs ++ ms.map (·.2))) E0 ta t tk) := by
  obtain ⟨f, fd, c, me, G, b⟩ := h
  obtain ⟨ds, hb⟩ := b _ hF
  exact pe_methN he c me G (hr.mono hj) hb hx ha hkw hall hks hst hpl ht
section
variable {α : Type} {n0 : Nat} {shape : α → List SO} {R : α → List SV → α → PyData → Prop} {x : α} {f : Nat → Nat} {c : Cn} {env : Sy} {ds es : List SV} {dd : List PyData} {te : TE} {tr tk : TA} {dv : List V}
/-- a method with keyword-only parameters, on an object of the store -/
theorem en_methQ {G : α → List SO} {E : XK} {C : Addr} {mn : Str} {k n j : Nat} {fs : List (Str × SV)} (S : SegAt f n0 shape G) (ho : EvR c env (G x) te (f k)) (hk : (G x)[f k]? = some (.ob C fs)) (hm : fs.lookup mn = none) (hkn : k < n0) (hl : ∀ s ∈ ds ++ es, SvLt n0 s)
    (ha : EvAS c env (G x) tr (ds.map (reV f))) (hz : EvAS c env (G x) tk (es.map (reV f))) (hd : ∀ N H, DnAll c.K N H dv dd) (l1 : ds.length = n) (l2 : es.length = j) (hR : ∃ x' d, R x (.r k :: (ds ++ (es ++ dd.map SV.i))) x' d) :
    EvN c env (G x) (tMethN C mn n j (spS c.K n0 shape R) (fun vs zs => vs ++ (zs ++ dv)) E te tr tk) (fun os' d => ∃ x', R x (.r k :: (ds ++ (es ++ dd.map SV.i))) x' d ∧ os' = G x') := fun ad σ H ok Q q => ho.2 ad σ H ok _ fun H1 e1 => by
  have ok1 := ok.ext e1
  obtain ⟨_, dx, vs0, h0, pv⟩ := ok1.obj (f k) _ hk rfl
  have hlk : vs0.lookup mn = none := lookup_paired pv hm
  refine ⟨ad (f k), dx, vs0, rfl, h0, hlk, ha ad σ H1 ok1 _ fun vs H2 e r => hz ad σ H2 (ok1.ext e) _ fun zs H3 e3 rz => ⟨?_, ?_, ?_⟩⟩
  · rw [r.length, List.length_map, l1]
  · rw [rz.length, List.length_map, l2]
  have r3 := Paired.imp r fun _ _ z => SvOk.ext e3 z
  have hdd : dd.map SV.i = (dd.map SV.i).map (reV f) := by rw [List.map_map]; rfl
  refine seg_call (ds := .r k :: (ds ++ (es ++ dd.map SV.i))) S ((ok1.ext e).ext e3) (fun s hs => ?_) (show Paired _ (.ref (ad (f k)) :: (vs ++ (zs ++ dv))) (.r (f k) :: (ds ++ (es ++ dd.map SV.i)).map (reV f)) from .cons ⟨rfl, (List.getElem?_eq_some_iff.mp hk).1⟩ ?_) hR fun v H3 x' d hd ok3 r3 => q v H3 _ d ⟨x', hd, rfl⟩ ok3 r3
  · rcases List.mem_cons.mp hs with e | hs
    · exact e ▸ hkn
    · rw [← List.append_assoc] at hs
      rcases List.mem_append.mp hs with hs | hs
      · exact hl s hs
      · obtain ⟨d, _, rfl⟩ := List.mem_map.mp hs
        exact True.intro
  · rw [List.map_append, List.map_append, ← hdd]
    exact paired_app r3 (paired_app rz (dn_paired (hd _ _)))
end
end DL
namespace DL
open PySem PySem.Spec PyProof.Rows L2
theorem emB_ok {K : PySem.W.Frag} {a : Addr} (h : emB K a = true) (N : Addr → Prop) (H : Hp) : Dn K N H (.ref a) (.tuple []) := by
  unfold emB at h
  cases q : K.lookup a with
  | none =>
    rw [q] at h
    cases h
  | some o =>
    obtain ⟨oc, od, dt, osl⟩ := o
    rw [q] at h
    cases oc with
    | type c =>
      cases dt with
      | seq its n =>
        have h1 : (decide (c = "tuple") && decide (its.toList = [])) = true := h
        rw [Bool.and_eq_true] at h1
        have h2 := of_decide_eq_true h1.2
        have h3 : its.size = 0 := by rw [← Array.length_toList, h2]; rfl
        exact .tup (.inr ⟨_, its, n, q, congrArg Value.type (of_decide_eq_true h1.1), rfl, by rw [h3]; exact Nat.zero_le _, by rw [h2]; exact .nil⟩) .nil
      | _ => cases h
    | _ => cases dt <;> cases h
end DL
namespace DL
open PySem PySem.Spec PyProof.Rows L2
open Evl (Ex Ex.refl Ex.trans Ex.new)
/-- list(t), t a tuple of data -/
theorem ef_listTu {c : Cn} {env : Sy} {os : List SO} {te : TE} {ds : List PyData} (h : EvX false c env os te (.tuple ds)) : EvF c env os (tCB (rListK c.K) (tCons te tNil)) (.lst (ds.map SV.i)) := fun ad σ H ok Q q =>
  h ad σ H ok _ fun v H2 e r => by
    obtain ⟨a, xs, rfl, hs, ha⟩ := dn_tup_ref r
    rw [Nw_false] at ha
    exact ⟨a, xs, rfl, Or.inr hs, fun p hp => q p _ (e.free hp) (e.trans (Ex.new hp)) ⟨xs, upd_same, dn_paired ((DnAll.add hp ha).ext (Ex.new hp))⟩⟩
end DL
namespace DL
open PySem PySem.Spec PyProof.Rows L2
/-- the promise of a method that is never called -/
theorem met_voidS {α : Type} {P : Program} {w : World} {K : PySem.W.Frag} {mg : Str → Option Value} {base : Heap} {x qual : Str} {st : Stmt} {f : Addr} {fd : FuncData} {N ps : List Str} {k n : Nat} {C : Addr} {shape : α → List SO} {R : α → List SV → α → PyData → Prop} (F : FnM K x qual st [] f fd) (S : FnScope N ps (defScope st)) (c : Cls K C) (me : Meth K C x f) (len : ∀ vs H Q E, spS K n shape R vs H Q E → vs.length = ps.length)
    (hb : ∀ (kV doc pm : Value) (an : Option Addr) (cdv ct : Value) (us : List Value), us.length = ps.length → bindArgs (PySem.W.fnOf x qual (defArgs st) (defBody st) (defScope st) .none kV doc pm an cdv ct) ⟨us, []⟩ = pure (ps.zip us))
    (h0 : ∀ x ds x' d, ¬ R x ds x' d) : MetP P w K mg base (k + 1) C x ps (spS K n shape R) :=
  met_mk F S c me len hb fun cdv A outer s H vs Q E hr h => by
    exfalso
    obtain ⟨_, _, x, ds, _, _, _, _, ⟨x', d, r⟩, _⟩ := h
    exact h0 x ds x' d r
end DL
namespace DL
open PySem PySem.Spec PyProof.Rows L2
/-- a segment, with more behind it -/
theorem segAt_post {α : Type} {n : Nat} {shape : α → List SO} (post : List SO) (h : ∀ x, ShOk n (shape x)) : SegAt (fun i => i) n shape (fun x => shape x ++ post) := ⟨fun _ _ _ _ e => e, h, fun x i o e => by
  rw [reS_id, List.getElem?_append_left (List.getElem?_eq_some_iff.mp e).1]; exact e, fun x y => by simp [(h x).len, (h y).len], fun x y j hj => by
  have : n ≤ j := by
    by_cases q : j < n
    · exact absurd rfl (hj j q)
    · omega
  rw [List.getElem?_append_right (by rw [(h x).len]; exact this), List.getElem?_append_right (by rw [(h y).len]; exact this), (h x).len, (h y).len]⟩
end DL
namespace DL
open PySem PySem.Spec PyProof.Rows L2
open Evl (Ex Ex.refl Ex.trans Ex.new)
section
variable {c : Cn} {env : Sy} {os : List SO} {te tb : TE} {P : List SO → PyData → Prop}
/-- f(e), e changes the store -/
theorem en_callD1 {R : List PyData → PyData → Prop} {E : XK} (h : EvN c env os te P) (hR : ∀ os' d, P os' d → ∃ e, R [d] e) : EvN c env os (tCall (spD c.K R) [] E (tCons te tNil)) (fun os' e => ∃ d, P os' d ∧ R [d] e) := fun ad σ H ok Q q =>
  h ad σ H ok _ fun v H2 os' d p ok2 r => by
    obtain ⟨e, hr⟩ := hR os' d p
    exact ⟨Nof c ad os', [d], e, fun a z => ok2.nof z, .cons r .nil, hr, fun u H3 e3 r3 => q u H3 os' e ⟨d, p, hr⟩ (ok2.ext e3) r3⟩
theorem en_callD2 {R : List PyData → PyData → Prop} {E : XK} {d2 : PyData} (h : EvN c env os te P) (h2 : ∀ os' d, P os' d → EvX false c env os' tb d2) (hR : ∀ os' d, P os' d → ∃ e, R [d, d2] e) : EvN c env os (tCall (spD c.K R) [] E (tCons te (tCons tb tNil))) (fun os' e => ∃ d, P os' d ∧ R [d, d2] e) := fun ad σ H ok Q q =>
  h ad σ H ok _ fun v H2 os' d p ok2 r => h2 os' d p ad σ H2 ok2 _ fun v2 H3 e3 r3 => by
    obtain ⟨e, hr⟩ := hR os' d p
    rw [Nw_false] at r3
    exact ⟨Nof c ad os', [d, d2], e, fun a z => (ok2.ext e3).nof z, .cons (r.ext e3) (.cons r3 .nil), hr, fun u H4 e4 r4 => q u H4 os' e ⟨d, p, hr⟩ ((ok2.ext e3).ext e4) r4⟩
end
end DL
namespace DL
open PySem PySem.Spec PyProof.Rows L2
open Evl (Ex Ex.refl Ex.trans Ex.new)
/-- d[k] = e, e changes the store -/
theorem gs_dputN {c : Cn} {env : Sy} {os : List SO} {tv td ty : TE} {u : TS} {D : Ends} {P : List SO → PyData → Prop} (h : EvN c env os tv P)
    (g : ∀ os' d, P os' d → ∃ k kvs kk, EvR c env os' td k ∧ os'[k]? = some (.dK kvs) ∧ EvX true c env os' ty (kdat kk) ∧ kvs.length < 100000 ∧ Go c env (os'.set k (.dK (setA kvs kk (.i d)))) u D) : Go c env os (tSeq (sDPut td ty tv) u) D := fun ad σ H ok =>
  h ad σ H ok _ fun v H1 os' d p ok1 r => by
    obtain ⟨k, kvs, kk, hl, hk, hi, hz, g⟩ := g os' d p
    refine hl.2 ad σ H1 ok1 _ fun H2 e2 => hi ad σ H2 (ok1.ext e2) _ fun y H3 e3 r3 => ?_
    have ok3 := (ok1.ext e2).ext e3
    obtain ⟨_, ws, hws, pw⟩ := ok3.obj k _ hk rfl
    have hN : Nof c ad os' (ad k) := Or.inr ⟨k, ⟨_, hk, rfl⟩, rfl⟩
    refine ⟨ad k, _, rfl, ?_, g ad σ _ (ok3.mut hk rfl rfl ⟨putK ws kk v, upd_same, ?_⟩)⟩
    · rw [dn_key r3]
      exact DPut.k hws (by rw [Paired.length pw]; exact Nat.lt_of_lt_of_le hz (by decide))
    · exact put_set (Paired.imp pw fun _ _ z => ⟨z.1, z.2.mut hws rfl hN⟩) ((show SvOk c.K (Nof c ad os') ad os'.length H1 v (.i d) from r).ext (e2.trans e3) |>.mut hws rfl hN)
end DL

set_option Elab.async false
set_option linter.all false
set_option maxRecDepth 100000
set_option maxHeartbeats 2000000
/-! The data layer: a display whose values are new objects; an object within a dict becomes data. -/
namespace DL
open PySem PySem.Spec PyProof.Rows L2
open Evl (Ex Ex.refl Ex.trans Ex.new)
section
variable {c : Cn} {env : Sy} {os os2 : List SO} {ta tb : TE} {u : TS} {D : Ends}
def EvPG (c : Cn) (env : Sy) (os : List SO) (trs : List (TE × TE)) (kvs : List (Key × SV)) (os2 : List SO) : Prop := ∀ ad σ H, Ok c ad env os σ H → ∀ Q : List (V × V) → Hp → Prop,
  (∀ ad' (vs : List (Key × V)) H2, Ok c ad' env os2 σ H2 → Paired (fun (x : Key × V) (y : Key × SV) => x.1 = y.1 ∧ SvOk c.K (Nof c ad' os2) ad' os2.length H2 x.2 y.2) vs kvs → Q (vs.map fun kv => (kV kv.1, kv.2)) H2) → tPairs trs σ H Q
theorem epg_nil : EvPG c env os [] [] os := fun ad σ H ok Q q => q ad [] H ok .nil
theorem epg_f {trs : List (TE × TE)} {kvs : List (Key × SV)} {kk : Key} {o : SO} (hk : EvX true c env os ta (kdat kk)) (hv : EvF c env os tb o) (hr : ∀ v, EvPG (c.w ((v, .r os.length) :: c.fr) (os ++ [o]).length) env (os ++ [o]) trs kvs os2) : EvPG c env os ((ta, tb) :: trs) ((kk, .r os.length) :: kvs) os2 := fun ad σ H ok Q q =>
  hk ad σ H ok _ fun v H1 e1 r1 => (eg_F hv).2 ad σ H1 (ok.ext e1) _ fun ad1 H2 ok2 => by
    refine hr _ ad1 σ H2 (ok2.pin (v := .ref (ad1 os.length)) (s := .r os.length) ⟨rfl, by simp⟩) _ fun ad' vs H3 ok3 p => ?_
    have := q ad' ((kk, .ref (ad1 os.length)) :: vs) H3 (up_pin (v := .ref (ad1 os.length)) (s := .r os.length) ok2 _ _ _ _ _ ok3) (.cons ⟨rfl, (ok3.frm (_, .r os.length) (List.mem_cons_self ..)).lift ok3.low⟩ p)
    rw [List.map_cons] at this
    rw [dn_key r1]
    exact this
/-- a display whose values are new objects -/
theorem eg_dispG {trs : List (TE × TE)} {kvs : List (Key × SV)} (h : ∀ v, EvPG (c.w ((v, .r os.length) :: c.fr) (os ++ [SO.dK []]).length) env (os ++ [.dK []]) trs kvs os2) (h2 : os2[os.length]? = some (.dK [])) (hn : (kvs.map (·.1)).Nodup) (hl : kvs.length ≤ 15) : EvG c env os (tDisp trs) os.length (os2.set os.length (.dK kvs)) := ⟨by rw [List.length_set]; exact (List.getElem?_eq_some_iff.mp h2).1, fun ad σ H ok Q q p hp => by
  have ok1 := ok.new (o := .dK []) hp (Ex.new hp) (ok.free0 hp) ⟨[], upd_same, .nil⟩
  refine h (.ref p) _ σ _ (ok1.pin (v := .ref p) (s := .r os.length) ⟨congrArg V.ref adN_same.symm, by simp⟩) _ fun ad' vs H2 ok2 pv => ?_
  obtain ⟨e, _⟩ := ok2.frm (.ref p, .r os.length) (List.mem_cons_self ..)
  injection e with e
  have ok3 := up_pin (v := .ref p) (s := .r os.length) ok1 _ _ _ _ _ ok2
  obtain ⟨_, ws0, hp2, pw0⟩ := ok3.obj os.length _ h2 rfl
  cases pw0
  rw [← e] at hp2
  have hkeys : vs.map (·.1) = kvs.map (·.1) := by
    clear h hn hl q
    induction pv with
    | nil => rfl
    | cons r t ih => rw [List.map_cons, List.map_cons, r.1, ih]
  refine ⟨hp2, vs, rfl, by have := congrArg List.length hkeys; simp at this; omega, ?_⟩
  rw [mergeK_app vs [] (by simpa [hkeys] using hn), List.nil_append]
  have hN : Nof c ad' os2 (ad' os.length) := Or.inr ⟨os.length, ⟨_, h2, rfl⟩, rfl⟩
  have ok4 := ok3.mut (u' := .dK vs) h2 rfl (o' := .dK kvs) rfl ⟨vs, upd_same, Paired.imp pv fun _ _ z => ⟨z.1, z.2.mut (by rw [← e]; exact hp2) rfl hN⟩⟩
  have := q ad' _ ok4
  rw [← e] at this
  exact this⟩
/-- an object within a dict is data from now on -/
theorem Ok.ownDX {ad : Nat → Addr} {σ : L2.St} {H : Hp} {k j i0 : Nat} {kk : Key} {kvs : List (Key × SV)} {o0 : SO} {d : PyData} (ok : Ok c ad env os σ H) (hk : os[k]? = some (.dK kvs)) (hj : os[j]? = some o0) (lo : o0.live = true) (hi : kvs[i0]? = some (kk, .r j)) (kj : k ≠ j)
    (hd : ∀ N' : Addr → Prop, (∀ a, N' a → Nof c ad os a ∧ a ≠ ad j) → Dn c.K N' H (.ref (ad j)) d) :
    Ok c ad env ((os.set k (.dK (kvs.set i0 (kk, .i d)))).set j .x) σ H := by
  have lj : Lv os j := ⟨_, hj, lo⟩
  have lk : Lv os k := ⟨_, hk, rfl⟩
  have kl := (List.getElem?_eq_some_iff.mp hk).1
  have jl := (List.getElem?_eq_some_iff.mp hj).1
  have hl : ∀ i, Lv ((os.set k (.dK (kvs.set i0 (kk, .i d)))).set j .x) i → Lv os i ∧ i ≠ j := fun i h => by
    obtain ⟨u, e, hu⟩ := h
    by_cases q : j = i
    · subst q
      rw [List.getElem?_set_self (by rw [List.length_set]; exact jl)] at e
      cases e; cases hu
    · rw [List.getElem?_set_ne q] at e
      by_cases q2 : k = i
      · subst q2; exact ⟨lk, fun z => q z.symm⟩
      · rw [List.getElem?_set_ne q2] at e
        exact ⟨⟨u, e, hu⟩, fun z => q z.symm⟩
  have len : ((os.set k (.dK (kvs.set i0 (kk, .i d)))).set j .x).length = os.length := by simp
  have hN : ∀ a, Nof c ad ((os.set k (.dK (kvs.set i0 (kk, .i d)))).set j .x) a → Nof c ad os a ∧ a ≠ ad j := fun a h => by
    rcases h with h | ⟨i, l, e⟩
    · exact ⟨Or.inl h, fun z => ok.nn j lj (z ▸ h)⟩
    · obtain ⟨l', ne⟩ := hl i l
      exact ⟨Or.inr ⟨i, l', e⟩, fun z => ne (ok.inj i j l' lj (e.symm.trans z))⟩
  have hv : ∀ v s, SvOk c.K (Nof c ad os) ad os.length H v s → SvOk c.K (Nof c ad ((os.set k (.dK (kvs.set i0 (kk, .i d)))).set j .x)) ad ((os.set k (.dK (kvs.set i0 (kk, .i d)))).set j .x).length H v s := fun v s h => by
    rw [len]
    exact h.sub fun a q => (hN a q).1
  have hd := hd _ hN
  refine ⟨ok.len, ok.ex, ok.n0, fun i s h => ?_, fun i o h l => ?_, fun a b la lb => ok.inj a b (hl a la).1 (hl b lb).1, fun a la => ok.nn a (hl a la).1, fun p hp => (ok.frm p hp).sub fun a q => (hN a q).1, by rw [len]; exact ok.low⟩
  · obtain ⟨v, h1, h2⟩ := ok.val i s h
    exact ⟨v, h1, hv v s h2⟩
  · by_cases q : j = i
    · subst q
      rw [List.getElem?_set_self (by rw [List.length_set]; exact jl)] at h
      cases h; cases l
    · rw [List.getElem?_set_ne q] at h
      by_cases q2 : k = i
      · subst q2
        rw [List.getElem?_set_self kl] at h
        cases h
        obtain ⟨h1, ws, hws, pw⟩ := ok.obj k _ hk rfl
        refine ⟨h1, ws, hws, paired_setR pw (fun a b z => ⟨z.1, hv _ _ z.2⟩) fun a b e z => ?_⟩
        rw [hi] at e
        cases e
        obtain ⟨z1, z2, _⟩ := z
        refine ⟨z1, ?_⟩
        show Dn _ _ _ _ _
        rw [z2]
        exact hd
      · rw [List.getElem?_set_ne q2] at h
        obtain ⟨h1, h2⟩ := ok.obj i o h l
        exact ⟨h1, h2.map hv fun u e => e⟩
/-- a dict within a dict -/
theorem gs_ownDK {k j i0 : Nat} {kk : Key} {kvs : List (Key × SV)} {m : List (Key × PyData)} (hk : os[k]? = some (.dK kvs)) (hj : os[j]? = some (.dK (m.map fun p => (p.1, SV.i p.2)))) (hi : kvs[i0]? = some (kk, .r j)) (kj : k ≠ j) (g : Go c env ((os.set k (.dK (kvs.set i0 (kk, .i (dK0 m))))).set j .x) u D) : Go c env os u D := fun ad σ H ok => g ad σ H (ok.ownDX hk hj rfl hi kj fun N' hN => by
  obtain ⟨_, vs, hvs, pv⟩ := ok.obj j _ hj rfl
  exact dK_dn (Or.inl hvs) (fun z => (hN _ z).2 rfl) (Paired.imp (paired_mapR pv) fun x y z => ⟨z.1, (show Dn _ _ _ _ _ from z.2).sub fun a q => (hN a q).1⟩))
/-- all of the store becomes data -/
def EnD (os : List SO) : Sy → Sy → Prop
  | [], [] => True
  | s :: e, t :: e' => (t = none ∨ ∃ a d, s = some a ∧ t = some (.i d) ∧ DatO os a d) ∧ EnD os e e'
  | _, _ => False
end
end DL

set_option Elab.async false
set_option linter.all false
set_option maxRecDepth 100000
set_option maxHeartbeats 2000000
/-! The data layer: dicts that no one writes any more, as data; objects of the store that become data together. -/
namespace DL
open PySem PySem.Spec PyProof.Rows L2
open Evl (Ex Ex.refl Ex.trans Ex.new)
/-- a dict that no one writes any more, as data -/
def frD {α β : Type} (ek : α → Key) (ev : β → PyData) (m : List (α × β)) : PyData := .dict ((.bool false, .none) :: m.map fun p => (kdat (ek p.1), ev p.2))
section
variable {α β : Type} {K : PySem.W.Frag} {N : Addr → Prop} {H : Hp} {ek : α → Key} {ev : β → PyData}
theorem frD_dn {m : List (α × β)} {a : Addr} {od : Obj} {ws : List (Key × V)} (r : H a = some (.frz od (.dK ws))) (n : ¬ N a) (p : Paired (fun (p : Key × V) (q : α × β) => p.1 = ek q.1 ∧ Dn K N H p.2 (ev q.2)) ws m) : Dn K N H (.ref a) (frD ek ev m) := by
  refine .dkz r n (.cons .non ?_)
  clear r
  induction p with
  | nil => exact .nil
  | cons r t ih =>
    rw [List.map_cons, List.map_cons, r.1]
    exact .cons r.2 ih
theorem dn_frD {m : List (α × β)} {v : V} (h : Dn K N H v (frD ek ev m)) : ∃ a od ws, v = .ref a ∧ H a = some (.frz od (.dK ws)) ∧ ¬ N a ∧ Paired (fun (p : Key × V) (q : α × β) => p.1 = ek q.1 ∧ Dn K N H p.2 (ev q.2)) ws m := by
  unfold frD at h
  cases h with
  | @dkk a ws _ r n p =>
    cases ws with
    | nil => cases p
    | cons x ws =>
      rw [List.map_cons] at p
      generalize hk : kdat x.1 = kd at p
      cases p
      obtain ⟨k, y⟩ := x
      cases k <;> cases hk
  | dkt r n p => cases p
  | @dkz a od ws _ r n p =>
    refine ⟨_, _, _, rfl, r, n, ?_⟩
    cases p with
    | cons _ p =>
      clear r
      induction m generalizing ws with
      | nil =>
        cases ws with
        | nil => exact .nil
        | cons x ws => cases p
      | cons q m ih =>
        cases ws with
        | nil => cases p
        | cons x ws =>
          rw [List.map_cons, List.map_cons] at p
          generalize hk : kdat x.1 = kd at p
          generalize hk2 : kdat (ek q.1) = kd2 at p
          cases p with
          | cons a b => exact .cons ⟨kdat_inj (hk.trans hk2.symm), a⟩ (ih b)
  | ins r n p => cases p
theorem paired_mapI {α β γ : Type} {F : α → γ → Prop} {g : β → γ} : ∀ {l : List α} {m : List β}, Paired (fun a b => F a (g b)) l m → Paired F l (m.map g)
  | _, _, .nil => .nil
  | _, _, .cons r t => .cons r (paired_mapI t)
end
section
variable {w : Bool} {c : Cn} {env : Sy} {os : List SO} {te td ty tr : TE} {ta : TA} {u : TS} {D : Ends}
theorem EvX.z {α β : Type} {ek : α → Key} {ev : β → PyData} {m : List (α × β)} (h : EvX false c env os te (frD ek ev m)) : EvZ c env os te (m.map fun p => (ek p.1, ev p.2)) := fun ad σ H ok Q q => h ad σ H ok _ fun v H2 e r => by
  rw [Nw_false] at r
  obtain ⟨a, od, ws, rfl, h1, n1, pw⟩ := dn_frD r
  exact q _ H2 e ⟨a, od, ws, rfl, h1, n1, paired_mapI pw⟩
theorem ew_keysFr {α β : Type} {ek : α → Key} {ev : β → PyData} {m : List (α × β)} (h : EvX false c env os td (frD ek ev m)) : EvW c env os (iKeys td) m.length (itD (m.map fun p => kdat (ek p.1))) (fun _ => True) := by
  have h2 := ew_keysZ h.z
  rw [List.length_map, List.map_map] at h2
  exact h2
theorem ex_dgetFr {α β : Type} [DecidableEq α] {ek : α → Key} {ev : β → PyData} {m : List (α × β)} {a : α} {b : β} (hi : ∀ a b, ek a = ek b → a = b) (hd : EvX false c env os td (frD ek ev m)) (hk : EvX true c env os ty (kdat (ek a))) (hg : getA m a = some b) : EvX w c env os (tDGet td ty) (ev b) :=
  ex_dgetZ hd.z hk (by rw [getA_enc hi (ev := ev), hg]; rfl)
/-- a dict of the store that no one writes any more from now on -/
theorem en_frz {i k : Nat} {m : List (Key × PyData)} (hi : env[i]? = some (some (.r k))) (hk : os[k]? = some (.dK (m.map fun p => (p.1, SV.i p.2)))) : EvN c env os (tFrz (tVar i)) (fun os' d => os' = os.set k .x ∧ d = frD (fun k : Key => k) (fun d : PyData => d) m) := fun ad σ H ok Q q => by
  obtain ⟨v, hv, hr⟩ := ok.val i _ hi
  obtain ⟨rfl, _⟩ := (show v = .ref (ad k) ∧ k < os.length from hr)
  obtain ⟨_, ws, hws, pw⟩ := ok.obj k _ hk rfl
  have lk : Lv os k := ⟨_, hk, rfl⟩
  refine ⟨_, hv, ad k, _, rfl, hws, trivial, fun od => ?_⟩
  have ok3 := ok.kill (u' := .frz od (.dK ws)) hk rfl
  have hN : ∀ a, Nof c ad (os.set k .x) a → Nof c ad os a ∧ a ≠ ad k := fun a h => by
    rcases h with h | ⟨j, l, e⟩
    · exact ⟨Or.inl h, fun z => ok.nn k lk (z ▸ h)⟩
    · obtain ⟨u, e1, hu⟩ := l
      by_cases q : k = j
      · subst q
        rw [List.getElem?_set_self (List.getElem?_eq_some_iff.mp hk).1] at e1
        cases e1; cases hu
      · rw [List.getElem?_set_ne q] at e1
        exact ⟨Or.inr ⟨j, ⟨u, e1, hu⟩, e⟩, fun z => q (ok.inj k j lk ⟨u, e1, hu⟩ (z.symm.trans e))⟩
  refine q _ _ _ _ ⟨rfl, rfl⟩ ok3 (frD_dn upd_same (fun z => (hN _ z).2 rfl) (Paired.imp (paired_mapR pw) fun x y z => ⟨z.1, (Dn.mut hws rfl (Or.inr ⟨k, lk, rfl⟩) (show Dn _ _ _ _ _ from z.2)).sub fun a y => (hN a y).1⟩))
/-! ### a tuple whose parts change the store -/
def EvAN (c : Cn) (env : Sy) (os : List SO) (ta : TA) (P : List SO → List PyData → Prop) : Prop := ∀ ad σ H, Ok c ad env os σ H → ∀ Q : List V → Hp → Prop, (∀ vs H2 os' ds, P os' ds → Ok c ad env os' σ H2 → DnAll c.K (Nof c ad os') H2 vs ds → Q vs H2) → ta σ H Q
theorem ean_a {ds : List PyData} {P : List SO → List PyData → Prop} (h : EvA false c env os ta ds) (hP : P os ds) : EvAN c env os ta P := fun ad σ H ok Q q => h ad σ H ok _ fun vs H2 e r => q vs H2 os ds hP (ok.ext e) (by rw [Nw_false] at r; exact r)
theorem ean_cons {P1 : List SO → PyData → Prop} {P : List SO → List PyData → Prop} (h : EvN c env os te P1) (hr : ∀ v os' d, P1 os' d → EvAN (c.w ((v, .i d) :: c.fr) os'.length) env os' ta (fun os2 ds => P os2 (d :: ds))) : EvAN c env os (tCons te ta) P := fun ad σ H ok Q q => h ad σ H ok _ fun v H1 os1 d p ok1 r1 => by
  refine hr v os1 d p ad σ H1 (ok1.pin (v := v) (s := .i d) r1) _ fun vs H2 os2 ds p2 ok2 r2 => ?_
  exact q _ H2 os2 _ p2 (up_pin (v := v) (s := .i d) ok1 _ _ _ _ _ ok2) (.cons (show Dn _ _ _ _ _ from ok2.frm (v, .i d) (List.mem_cons_self ..)) r2)
theorem en_tup {P : List SO → PyData → Prop} (h : EvAN c env os ta (fun os' ds => ds.length ≤ 100000 ∧ P os' (.tuple ds))) : EvN c env os (tTup ta) P := fun ad σ H ok Q q => h ad σ H ok _ fun vs H2 os' ds p ok2 r => ⟨Nat.le_trans (by rw [r.length]; exact p.1) (by decide), fun a ha => q _ _ os' _ p.2 (ok2.ext (Ex.new ha)) (.tup (SqT.of upd_same) (r.ext (Ex.new ha)))⟩
/-! ### objects that become data together -/
mutual
inductive DatJ (J : Nat → Bool) (os : List SO) : SV → PyData → Prop
  | i (d : PyData) : DatJ J os (.i d) d
  | lst {k : Nat} {ss : List SV} {ds : List PyData} : J k = true → os[k]? = some (.lst ss) → DatJL J os ss ds → DatJ J os (.r k) (.list ds)
  | dK {k : Nat} {kvs : List (Key × SV)} {m : List (Key × PyData)} : J k = true → os[k]? = some (.dK kvs) → DatJK J os kvs m → DatJ J os (.r k) (dK0 m)
inductive DatJL (J : Nat → Bool) (os : List SO) : List SV → List PyData → Prop
  | nil : DatJL J os [] []
  | cons {s : SV} {d : PyData} {ss : List SV} {ds : List PyData} : DatJ J os s d → DatJL J os ss ds → DatJL J os (s :: ss) (d :: ds)
inductive DatJK (J : Nat → Bool) (os : List SO) : List (Key × SV) → List (Key × PyData) → Prop
  | nil : DatJK J os [] []
  | cons {k : Key} {s : SV} {d : PyData} {fs : List (Key × SV)} {m : List (Key × PyData)} : DatJ J os s d → DatJK J os fs m → DatJK J os ((k, s) :: fs) ((k, d) :: m)
end
theorem DatJL.i {J : Nat → Bool} {os : List SO} : ∀ ds : List PyData, DatJL J os (ds.map SV.i) ds
  | [] => .nil
  | d :: ds => .cons (.i d) (DatJL.i ds)
end
section
variable {c : Cn} {ad : Nat → Addr} {env : Sy} {os : List SO} {σ : L2.St} {H : Hp} {J : Nat → Bool} {N' : Addr → Prop}
mutual
theorem DatJ.dn (ok : Ok c ad env os σ H) (hN : ∀ a, N' a → Nof c ad os a ∧ ∀ k, J k = true → Lv os k → a ≠ ad k) : ∀ {s : SV} {d : PyData}, DatJ J os s d → ∀ v, SvOk c.K (Nof c ad os) ad os.length H v s → Dn c.K N' H v d
  | _, _, .i d, v, h => (show Dn _ _ _ _ _ from h).sub fun a z => (hN a z).1
  | _, _, .lst hj hk hl, v, ⟨e, _⟩ => by
    obtain ⟨_, vs, h1, h2⟩ := ok.obj _ _ hk rfl
    rw [e]
    exact .lst (Or.inl h1) (fun z => (hN _ z).2 _ hj ⟨_, hk, rfl⟩ rfl) (DatJL.dn ok hN hl vs h2)
  | _, _, .dK hj hk hl, v, ⟨e, _⟩ => by
    obtain ⟨_, vs, h1, h2⟩ := ok.obj _ _ hk rfl
    rw [e]
    exact dK_dn (Or.inl h1) (fun z => (hN _ z).2 _ hj ⟨_, hk, rfl⟩ rfl) (DatJK.dn ok hN hl vs h2)
theorem DatJL.dn (ok : Ok c ad env os σ H) (hN : ∀ a, N' a → Nof c ad os a ∧ ∀ k, J k = true → Lv os k → a ≠ ad k) : ∀ {fs : List SV} {m : List PyData}, DatJL J os fs m → ∀ vs, Paired (SvOk c.K (Nof c ad os) ad os.length H) vs fs → DnAll c.K N' H vs m
  | _, _, .nil, _, h => by cases h; exact .nil
  | _, _, .cons a b, _, h => by
    cases h with
    | cons x y => exact .cons (DatJ.dn ok hN a _ x) (DatJL.dn ok hN b _ y)
theorem DatJK.dn (ok : Ok c ad env os σ H) (hN : ∀ a, N' a → Nof c ad os a ∧ ∀ k, J k = true → Lv os k → a ≠ ad k) : ∀ {fs : List (Key × SV)} {m : List (Key × PyData)}, DatJK J os fs m → ∀ vs, Paired (fun (p : Key × V) (q : Key × SV) => p.1 = q.1 ∧ SvOk c.K (Nof c ad os) ad os.length H p.2 q.2) vs fs → Paired (fun (p : Key × V) (q : Key × PyData) => p.1 = q.1 ∧ Dn c.K N' H p.2 q.2) vs m
  | _, _, .nil, _, h => by cases h; exact .nil
  | _, _, .cons a b, _, h => by
    cases h with
    | cons x y => exact .cons ⟨x.1, DatJ.dn ok hN a _ x.2⟩ (DatJK.dn ok hN b _ y)
end
theorem Ok.ownJ {i k : Nat} {d : PyData} {os' : List SO} (ok : Ok c ad env os σ H) (hi : env[i]? = some (some (.r k))) (hd : DatJ J os (.r k) d) (hl : os'.length = os.length) (hx : ∀ j, J j = true → ¬ Lv os' j) (ho : ∀ j o, J j = false → os'[j]? = some o → o.live = true → os[j]? = some o) : Ok c ad (env.set i (some (.i d))) os' σ H := by
  have lv : ∀ j, Lv os' j → Lv os j ∧ J j = false := fun j l => by
    obtain ⟨o, e, hl⟩ := id l
    cases hj : J j with
    | true => exact absurd l (hx j hj)
    | false => exact ⟨⟨o, ho j o hj e hl, hl⟩, rfl⟩
  have hN : ∀ a, Nof c ad os' a → Nof c ad os a ∧ ∀ k, J k = true → Lv os k → a ≠ ad k := fun a h => by
    rcases h with h | ⟨j, l, e⟩
    · exact ⟨Or.inl h, fun k _ lk z => ok.nn k lk (z ▸ h)⟩
    · obtain ⟨l', ne⟩ := lv j l
      exact ⟨Or.inr ⟨j, l', e⟩, fun k hk lk z => by
        have := ok.inj j k l' lk (e.symm.trans z)
        rw [this, hk] at ne
        cases ne⟩
  have hv : ∀ v s, SvOk c.K (Nof c ad os) ad os.length H v s → SvOk c.K (Nof c ad os') ad os'.length H v s := fun v s h => by
    rw [hl]
    exact h.sub fun a q => (hN a q).1
  obtain ⟨v0, hv0, h0⟩ := ok.val i _ hi
  have hd0 : Dn c.K (Nof c ad os') H v0 d := DatJ.dn ok hN hd v0 h0
  refine ⟨by rw [List.length_set]; exact ok.len, ok.ex, ok.n0, fun j s h => ?_, fun j o h l => ?_, fun a b la lb => ok.inj a b (lv a la).1 (lv b lb).1, fun a la => ok.nn a (lv a la).1, fun p hp => (ok.frm p hp).sub fun a q => (hN a q).1, by rw [hl]; exact ok.low⟩
  · by_cases q : i = j
    · subst q
      rw [List.getElem?_set_self (List.getElem?_eq_some_iff.mp hi).1] at h
      cases h
      exact ⟨v0, hv0, hd0⟩
    · rw [List.getElem?_set_ne q] at h
      obtain ⟨v, h1, h2⟩ := ok.val j s h
      exact ⟨v, h1, hv v s h2⟩
  · obtain ⟨l', ne⟩ := lv j ⟨o, h, l⟩
    obtain ⟨h1, h2⟩ := ok.obj j o (ho j o ne h l) l
    exact ⟨h1, h2.map hv fun u e => e⟩
end
theorem gs_ownJ {c : Cn} {env : Sy} {os os' : List SO} {u : TS} {D : Ends} {i k : Nat} {d : PyData} (J : Nat → Bool) (hi : env[i]? = some (some (.r k))) (hd : DatJ J os (.r k) d) (hl : os'.length = os.length) (hx : ∀ j, J j = true → ¬ Lv os' j) (ho : ∀ j o, J j = false → os'[j]? = some o → o.live = true → os[j]? = some o) (g : Go c (env.set i (some (.i d))) os' u D) : Go c env os u D := fun ad σ H ok => g ad σ H (ok.ownJ hi hd hl hx ho)
/-- a dict that no one writes any more is none of the store's own -/
theorem EvX.strongZ {α β : Type} {w : Bool} {c : Cn} {env : Sy} {os : List SO} {te : TE} {ek : α → Key} {ev : β → PyData} {m : List (α × β)} (hv : ∀ p ∈ m, noList (ev p.2) = true) (h : EvX true c env os te (frD ek ev m)) : EvX w c env os te (frD ek ev m) := fun ad σ H ok Q q => h ad σ H ok _ fun v H2 e r => by
  have ok2 := ok.ext e
  obtain ⟨a, od, ws, rfl, h1, n1, pw⟩ := dn_frD r
  have hn : ¬ Nw w c ad os a := fun z => by
    rcases z with z | ⟨_, k, ⟨o, e1, l⟩, z⟩
    · exact n1 (Or.inl z)
    · obtain ⟨_, h2⟩ := ok2.obj k o e1 l
      rw [← z] at h2
      cases o with
      | x => cases l
      | lst xs => obtain ⟨_, h3, _⟩ := h2; rw [h1] at h3; cases h3
      | dK kvs => obtain ⟨_, h3, _⟩ := h2; rw [h1] at h3; cases h3
      | dT kvs => obtain ⟨_, h3, _⟩ := h2; rw [h1] at h3; cases h3
      | ho f =>
        obtain ⟨h3, h4⟩ := (show H2 a = some (f a) ∧ Wr (f a) = true from h2)
        rw [h1] at h3
        rw [← Option.some.inj h3] at h4
        cases h4
      | nums => obtain ⟨_, h3⟩ := h2; rw [h1] at h3; cases h3
      | stt k => obtain ⟨_, _, _, h3, _⟩ := h2; rw [h1] at h3; cases h3
      | ob C fs => obtain ⟨_, _, h3, _⟩ := h2; rw [h1] at h3; cases h3
  refine q _ H2 e (frD_dn h1 hn ?_)
  clear h1 n1 hn r h q
  induction pw with
  | nil => exact .nil
  | cons z t ih => exact .cons ⟨z.1, Dn.goF (fun _ _ r => r) _ _ (hv _ (List.mem_cons_self ..)) z.2⟩ (ih fun p hp => hv p (List.mem_cons_of_mem _ hp))
end DL

set_option Elab.async false
set_option linter.all false
set_option maxRecDepth 100000
set_option maxHeartbeats 4000000
open PySem PySem.Spec PyProof.Rows L2 DL
namespace Q
open QH
abbrev T4 (x y w h : Int) : PyData := .tuple [.int x, .int y, .int w, .int h]
local macro_rules | `(tactic| walk_at "cc") => `(tactic| first
  | assumption | decide | omega
  | exact Or.inr ⟨by decide, by decide⟩ | exact Or.inl ⟨by decide, by decide⟩
  | (refine Or.inr ⟨?_, ?_⟩ <;> omega) | (refine Or.inl ⟨?_, ?_⟩ <;> omega)
  | (refine ⟨?_, ?_⟩ <;> omega) | (refine wide_div (b := 64) ?_ ?_ (by decide) (by decide) <;> omega) | (dsimp only; omega) | (simp only [CDiv, CMul, CPow]; omega))
local macro_rules | `(tactic| walk_at "at") => `(tactic| first | rfl | exact atI_nat rfl)
local macro_rules | `(tactic| walk_at "v") => `(tactic| first
  | exact ex_int | exact ex_bl | exact ex_non | exact ex_str
  | exact ex_var rfl
  | exact ex_const (by assumption)
  | (refine' ex_i2 ?va ?vb; (case va => walk_at "v"); (case vb => walk_at "v"))
  | (refine' ex_b2 ?va ?vb; (case va => walk_at "v"); (case vb => walk_at "v"))
  | (refine' ex_i2c ?va ?vb ?vc; (case va => walk_at "v"); (case vb => walk_at "v"); (case vc => walk_at "cc"))
  | (refine' ex_u ?va; (case va => walk_at "v"))
  | (refine' ex_tup ?va ?vb; (case va => walk_at "a"); (case vb => exact Nat.le_of_ble_eq_true rfl))
  | (refine' ex_int1 rfl ?va; (case va => walk_at "v"))
  | (refine' ex_and ?va ?vb; (case va => walk_at "v"); (case vb => intro _; walk_at "v"))
  | (refine' ex_or ?va ?vb; (case va => walk_at "v"); (case vb => intro _; walk_at "v"))
  | (refine' ex_not ?va; (case va => walk_at "v"))
  | (refine' ex_chain rfl rfl ?va ?vb ?vc; (case va => walk_at "v"); (case vb => walk_at "v"); (case vc => walk_at "v"))
  | (refine' ex_ixT ?va ?vb ?vc; (case va => walk_at "v"); (case vb => walk_at "v"); (case vc => walk_at "at"))
  | (refine' ex_eqI ?va ?vb; (case va => walk_at "v"); (case vb => walk_at "v"))
  | (refine' ex_neI ?va ?vb; (case va => walk_at "v"); (case vb => walk_at "v"))
  | (refine' ex_eqB ?va ?vb; (case va => walk_at "v"); (case vb => walk_at "v"))
  | (refine' ex_neB ?va ?vb; (case va => walk_at "v"); (case vb => walk_at "v"))
  | (refine' ex_eqD ?va ?vb ?vc ?vd; (case va => walk_at "v"); (case vb => walk_at "v"); (case vc => walk_at "sh"); (case vd => walk_at "sh"))
  | (refine' ex_neD ?va ?vb ?vc ?vd; (case va => walk_at "v"); (case vb => walk_at "v"); (case vc => walk_at "sh"); (case vd => walk_at "sh"))
  | (refine' ex_isi ?va ?vb; (case va => walk_at "v"); (case vb => walk_at "kit"))
  | (refine' ex_lenK ?va; (case va => walk_at "i"))
  | (refine' ex_lenTK ?va; (case va => walk_at "v"))
  | (refine' ex_max2 rfl ?va ?vb; (case va => walk_at "v"); (case vb => walk_at "v"))
  | (refine' ex_min2 rfl ?va ?vb; (case va => walk_at "v"); (case vb => walk_at "v"))
  | (refine' ex_call ?va ?vb; (case va => walk_at "a"); (case vb => walk_at "r"))
  | (refine' EvF.ev ?va; (case va => walk_at "f")))
local macro_rules | `(tactic| walk_at "a") => `(tactic| first
  | exact ea_nil
  | (refine' ea_cons ?va ?vb; (case va => walk_at "v"); (case vb => walk_at "a")))
local macro_rules | `(tactic| walk_at "f") => `(tactic| first
  | (refine' ef_lst (EvA.ss (ds := _) ?va) ?vb; (case va => walk_at "a"); (case vb => exact Nat.le_of_ble_eq_true rfl))
  | (refine' ef_listK ?va; (case va => walk_at "i")))
local macro_rules | `(tactic| walk_at "i") => `(tactic| first
  | (refine' EvX.it ?va; (case va => walk_at "v"))
  | (refine' EvR.it (er_var rfl ?va) rfl; (case va => decide)))
local macro_rules | `(tactic| walk_at "t") => `(tactic| first
  | (refine' et_test ?va; (case va => walk_at "v"))
  | (refine' et_B ?va; (case va => walk_at "v"))
  | (refine' et_and ?va ?vb; (case va => walk_at "t"); (case vb => intro _; walk_at "t"))
  | (refine' et_or ?va ?vb; (case va => walk_at "t"); (case vb => intro _; walk_at "t"))
  | (refine' et_not ?va; (case va => walk_at "t")))
local macro_rules | `(tactic| walk_at "r") => `(tactic| first | assumption | walk_at "r2")
local macro_rules | `(tactic| walk_at "set") => `(tactic| (refine' gs_asg ?va ?_; (case va => walk_at "v")))
local macro_rules | `(tactic| walk_at "env") => `(tactic| simp only [env0, List.map, List.length, List.replicate, List.append, List.cons_append, List.nil_append, Nat.reduceAdd, Nat.reduceSub, Nat.sub_self])
local macro_rules | `(tactic| walk_at "ret") => `(tactic| (refine' gs_ret (EvX.is ?va ?vb) (by assumption); (case va => walk_at "v"); (try (case vb => rfl))))
local macro_rules | `(tactic| walk_at "asg4") => `(tactic| (refine' gs_asgT ?va (tg_tup (tgs_cons tg_name (tgs_cons tg_name (tgs_cons tg_name (tgs_cons tg_name tgs_nil)))) rfl) ?_; (case va => walk_at "v")))
local macro_rules | `(tactic| walk_at "asg3") => `(tactic| (refine' gs_asgT ?va (tg_tup (tgs_cons tg_name (tgs_cons tg_name (tgs_cons tg_name tgs_nil))) rfl) ?_; (case va => walk_at "v")))
local macro_rules | `(tactic| walk_at "nf") => `(tactic| simp only [List.set_cons_zero, List.set_cons_succ])
local macro_rules | `(tactic| walk_at "wk") => `(tactic| (refine g_next ?_; intro ad σ H ok; exact (show OkE _ _ _ _ _ from ⟨ad, ok.weak (by simp [WkE]) (by simp [WkO]) (by simp [EnLt, SvLt]) (by walk_at "osl") (by simp)⟩)))
local macro_rules | `(tactic| walk_at "kit") => `(tactic| first | exact kit_int_int | exact kit_int_bool | exact kit_int_str | exact kit_int_tuple | exact kit_int_list | exact kit_int_dict | exact kit_bool_int | exact kit_bool_bool | exact kit_bool_str | exact kit_bool_tuple | exact kit_bool_list | exact kit_bool_dict | exact kit_str_int | exact kit_str_bool | exact kit_str_str | exact kit_str_tuple | exact kit_str_list | exact kit_str_dict | exact kit_tuple_int | exact kit_tuple_bool | exact kit_tuple_str | exact kit_tuple_tuple | exact kit_tuple_list | exact kit_tuple_dict | exact kit_list_int | exact kit_list_bool | exact kit_list_str | exact kit_list_tuple | exact kit_list_list | exact kit_list_dict | exact kit_NoneType_int | exact kit_NoneType_bool | exact kit_NoneType_str | exact kit_NoneType_tuple | exact kit_NoneType_list | exact kit_NoneType_dict | exact kit_dict_int | exact kit_dict_bool | exact kit_dict_str | exact kit_dict_tuple | exact kit_dict_list | exact kit_dict_dict)
local macro_rules | `(tactic| walk_at "sh") => `(tactic| first | exact shaped_T4 _ _ _ _ | assumption | rfl)
local macro_rules | `(tactic| walk_at "f") => `(tactic| (refine' ef_call ?va ?vb; (case va => walk_at "a"); (case vb => walk_at "r")))
local macro_rules | `(tactic| walk_at "f") => `(tactic| (refine' ef_cat ?va ?vb ?vc; (case va => walk_at "f"); (case vb => walk_at "f"); (case vc => first | exact Nat.le_of_ble_eq_true rfl | assumption)))
local macro_rules | `(tactic| walk_at "skip") => `(tactic| (refine' gs_if (b := false) (EvT.is ?va ?vb) (fun hb => nomatch hb) (fun _ => g_nextU ?_); (case va => walk_at "t"); (case vb => first | rfl | (simp; done))))
local macro_rules | `(tactic| walk_at "t") => `(tactic| (refine' et_truK ?va; (case va => walk_at "i")))
local macro_rules | `(tactic| walk_at "t") => `(tactic| exact et_yes)
local macro_rules | `(tactic| walk_at "js") => `(tactic| (intro j hj; first | (simpa using hj) | (simp at hj; simp [hj])))
local macro_rules | `(tactic| walk_at "we") => `(tactic| simp only [wipeE, List.set_cons_zero, List.set_cons_succ, List.map_cons, List.map_nil])
local macro_rules | `(tactic| walk_at "tg4") => `(tactic| exact tg_tup (tgs_cons tg_name (tgs_cons tg_name (tgs_cons tg_name (tgs_cons tg_name tgs_nil)))) rfl)
local macro_rules | `(tactic| walk_at "osl1") => `(tactic| first | exact soLt_data | exact True.intro | exact soLt_dK | exact soLt_dT)
local macro_rules | `(tactic| walk_at "osl") => `(tactic| first | exact True.intro | (refine ⟨?_, ?_⟩; (walk_at "osl1"); (walk_at "osl")) | simp [OsLt, SoLt, SvLt])
local macro_rules | `(tactic| walk_at "wkP") => `(tactic| (refine g_next ?_; intro ad σ H ok; refine ⟨?_, (show OkE _ _ _ _ _ from ⟨ad, ok.weak (by simp [WkE]) (by simp [WkO]) (by simp [EnLt, SvLt]) (by walk_at "osl") (by simp)⟩)⟩))

local macro_rules | `(tactic| walk_at "lt") => `(tactic| first | exact Nat.le_of_ble_eq_true rfl | (simp; done) | omega)
local macro_rules | `(tactic| walk_at "o") => `(tactic| first
  | (refine' er_var rfl ?va; (case va => walk_at "lt"))
  | (refine' er_fldO ?va ?hk ?vb ?vc ?hf ?vd; (case va => walk_at "o"); (case hk => rfl); (case vb => assumption); (case vc => assumption); (case hf => rfl); (case vd => walk_at "lt")))
local macro_rules | `(tactic| walk_at "v") => `(tactic| first
  | (refine' ex_fldD ?va ?vb ?vc ?vd; (case va => walk_at "v"); (case vb => assumption); (case vc => assumption); (case vd => rfl))
  | (refine' ex_fldO ?va ?hk ?vb ?vc ?hf; (case va => walk_at "o"); (case hk => rfl); (case vb => assumption); (case vc => assumption); (case hf => rfl))
  | (refine' ex_eqT ?va ?vb; (case va => walk_at "v"); (case vb => walk_at "v"))
  | (refine' ex_neT ?va ?vb; (case va => walk_at "v"); (case vb => walk_at "v"))
  | (refine' ex_eqS ?va ?vb; (case va => walk_at "v"); (case vb => walk_at "v"))
  | (refine' ex_neS ?va ?vb; (case va => walk_at "v"); (case vb => walk_at "v"))
  | (refine' ex_methD ?va ?hx ?vb ?vc; (case va => walk_at "v"); (case hx => rfl); (case vb => walk_at "a"); (case vc => walk_at "r")))

theorem sc_advance : FnScope ["char", "size"] ["char", "size"] (defScope s_advance) := ⟨rfl, rfl, rfl, by decide +kernel, rfl, by decide +kernel, by decide +kernel⟩
def NARL : List Nat := [32, 46, 44, 39, 58, 59, 33, 124, 105, 106, 108]
def WIDL : List Nat := [109, 119, 77, 87, 64]
def adv (s : Int) (c : Nat) : Int := if c = 10 then 0 else if c ∈ NARL then s else if c ∈ WIDL then 3 * s else 2 * s
theorem txt_nl : (Str.ofString "\n") = sT [10] := by decide +kernel
theorem txt_nar : (Str.ofString " .,':;!|ijl") = sT NARL := by decide +kernel
theorem txt_wid : (Str.ofString "mwMW@") = sT WIDL := by decide +kernel
theorem one_eq (c d : Nat) : decide (([c] : List Nat) = [d]) = decide (c = d) := by simp
def wid (s : Int) (l : List Nat) : Int := (l.map (adv s)).sum
theorem wid_app (s : Int) (a b : List Nat) : wid s (a ++ b) = wid s a + wid s b := by unfold wid; rw [List.map_append, List.sum_append]
def offs (s : Int) (l : List Nat) : List Int := (List.range (l.length + 1)).map fun k => wid s (l.take k)
theorem offs_len (s : Int) (l : List Nat) : (offs s l).length = l.length + 1 := by unfold offs; rw [List.length_map, List.length_range]
theorem offs_snoc (s : Int) (l : List Nat) (x : Nat) : offs s (l ++ [x]) = offs s l ++ [wid s (l ++ [x])] := by
  unfold offs
  rw [show (l ++ [x]).length + 1 = (l.length + 1) + 1 by simp, List.range_succ, List.map_append]
  congr 1
  · refine List.map_congr_left fun k hk => ?_
    have hk : k < l.length + 1 := List.mem_range.mp hk
    rw [List.take_append_of_le_length (by omega)]
  · simp
    rw [List.take_of_length_le (by simp)]
theorem offs_last (s : Int) (l : List Nat) : (offs s l)[l.length]? = some (wid s l) := by
  unfold offs
  rw [List.getElem?_map, List.getElem?_range (by omega)]
  simp
theorem offs_at (s : Int) (l : List Nat) (k : Nat) (h : k ≤ l.length) : (offs s l)[k]? = some (wid s (l.take k)) := by
  unfold offs
  rw [List.getElem?_map, List.getElem?_range (by omega)]
  rfl
/-- the width of a part -/
theorem wid_part (s : Int) (l : List Nat) (a b : Nat) (h : a ≤ b) : wid s ((l.drop a).take (b - a)) = wid s (l.take b) - wid s (l.take a) := by
  have e : l.take b = l.take a ++ (l.drop a).take (b - a) := by
    conv => lhs; rw [show b = a + (b - a) by omega]
    rw [List.take_add]
  rw [e, wid_app]
  omega
theorem adv_nn (s : Int) (hs : 0 ≤ s) (c : Nat) : 0 ≤ adv s c ∧ adv s c ≤ 3 * s := by
  unfold adv
  split
  · omega
  · split
    · omega
    · split <;> omega
theorem wid_nn (s : Int) (hs : 0 ≤ s) : ∀ l : List Nat, 0 ≤ wid s l ∧ wid s l ≤ 3 * s * l.length
  | [] => by simp [wid]
  | c :: l => by
    have h1 := wid_nn s hs l
    have h2 := adv_nn s hs c
    have e : wid s (c :: l) = adv s c + wid s l := by unfold wid; rw [List.map_cons, List.sum_cons]
    rw [e, List.length_cons]
    push_cast
    rw [Int.mul_add]
    omega
def R_advance : List PyData → PyData → Prop := fun ds d => ∃ (c : Nat) (s : Int), 1 ≤ s ∧ s ≤ 1000000 ∧ ds = [dT [c], .int s] ∧ d = .int (adv s c)
theorem R_advance_i {c : Nat} {s : Int} (h1 : 1 ≤ s) (h2 : s ≤ 1000000) : R_advance [dT [c], .int s] (.int (adv s c)) := ⟨c, s, h1, h2, rfl, rfl⟩
local macro_rules | `(tactic| walk_at "r2") => `(tactic| exact R_advance_i (by assumption) (by assumption))
theorem R_advance_len : ∀ ds d, R_advance ds d → ds.length = 2 := by
  intro ds d hh
  unfold R_advance at hh
  repeat (obtain ⟨_, hh⟩ := hh)
  subst_eqs
  rfl
theorem ok_advance {P : Program} {w : World} {K : PySem.W.Frag} {mg : Str → Option Value} {base : Heap} {f : Addr} {fd : FuncData} (F : FnP K "advance" s_advance f fd) (g0 : mg "advance" = some (.ref f)) (c_NARROW : ∃ t, mg "NARROW" = some (.str " .,':;!|ijl" t)) (c_WIDE : ∃ t, mg "WIDE" = some (.str "mwMW@" t)) : Cal P w K mg base 1 "advance" ["char", "size"] (spD K  R_advance) := by
  refine cal_mk F sc_advance g0 (spD_len R_advance_len) (fun _ _ _ _ _ _ us hl => match us, hl with | [_, _], _ => rfl) (fun cdv A outer s H vs Q E hr h => ⟨_,
    (pss_cons (ps_if (pt_cmpR op_eq (pv 0) pe_str (nomark _))
     (pss_cons (ps_ret pe_int)
     pss_nil)
     pss_nil)
     (pss_cons (ps_if (pt_cmpR op_in_sign (pv 0) (C8.pe_gc (v := .str " .,':;!|ijl") (by rfl) (DL.gcs c_NARROW)) (by rfl))
     (pss_cons (ps_ret (pv 1))
     pss_nil)
     pss_nil)
     (pss_cons (ps_if (pt_cmpR op_in_sign (pv 0) (C8.pe_gc (v := .str "mwMW@") (by rfl) (DL.gcs c_WIDE)) (by rfl))
     (pss_cons (ps_ret (pe_op op_mul pe_int (pv 1)))
     pss_nil)
     pss_nil)
     (pss_cons (ps_ret (pe_op op_mul pe_int (pv 1)))
     pss_nil)))), ?_⟩)
  refine run_spD h fun N ds d hR hq => ?_
  obtain ⟨c, s, h1, h2, rfl, rfl⟩ := hR
  walk_at "env"
  have m2 : ∀ k : Int, 0 ≤ k → k ≤ 3 → CMul k s := fun k h3 h4 => Or.inl ⟨by omega, by omega⟩
  refine gs_if (EvT.is (et_test (ex_eqT (ex_var rfl) (ex_txt txt_nl))) (one_eq c 10)) (fun hb => ?_) (fun hb => ?_)
  · have hb : c = 10 := by simpa using hb
    refine gs_ret (EvX.is ex_int ?_) hq
    unfold adv
    rw [if_pos hb]
  · have hb : ¬ c = 10 := by simpa using hb
    refine g_nextU (gs_if (et_test (ex_inS rfl (ex_var rfl) (ex_txt txt_nar))) (fun hc => ?_) (fun hc => ?_))
    · have hc : c ∈ NARL := by simpa using hc
      refine gs_ret (EvX.is (ex_var rfl) ?_) hq
      unfold adv
      rw [if_neg hb, if_pos hc]
    · have hc : ¬ c ∈ NARL := by simpa using hc
      refine g_nextU (gs_if (et_test (ex_inS rfl (ex_var rfl) (ex_txt txt_wid))) (fun hd => ?_) (fun hd => ?_))
      · have hd : c ∈ WIDL := by simpa using hd
        refine gs_ret (EvX.is (ex_i2c ex_int (ex_var rfl) (m2 3 (by decide) (by decide))) ?_) hq
        unfold adv
        rw [if_neg hb, if_neg hc, if_pos hd]
      · have hd : ¬ c ∈ WIDL := by simpa using hd
        refine g_nextU (gs_ret (EvX.is (ex_i2c ex_int (ex_var rfl) (m2 2 (by decide) (by decide))) ?_) hq)
        unfold adv
        rw [if_neg hb, if_neg hc, if_neg hd]
-- END advance
theorem sc_offsets : FnScope ["string", "size", "found", "char"] ["string", "size"] (defScope s_offsets) := ⟨rfl, rfl, rfl, by decide +kernel, rfl, by decide +kernel, by decide +kernel⟩
def R_offsets : List PyData → List PyData → Prop := fun ds out => ∃ (l : List Nat) (s : Int), 1 ≤ s ∧ s ≤ 1000000 ∧ l.length ≤ 40000 ∧ ds = [dT l, .int s] ∧ out = (offs s l).map PyData.int
theorem R_offsets_i {l : List Nat} {s : Int} (h1 : 1 ≤ s) (h2 : s ≤ 1000000) (h3 : l.length ≤ 40000) : R_offsets [dT l, .int s] ((offs s l).map PyData.int) := ⟨l, s, h1, h2, h3, rfl, rfl⟩
local macro_rules | `(tactic| walk_at "r2") => `(tactic| exact R_offsets_i (by assumption) (by assumption) (by assumption))
theorem R_offsets_len : ∀ ds d, R_offsets ds d → ds.length = 2 := by
  intro ds d hh
  unfold R_offsets at hh
  repeat (obtain ⟨_, hh⟩ := hh)
  subst_eqs
  rfl
theorem ok_offsets {P : Program} {w : World} {K : PySem.W.Frag} {mg : Str → Option Value} {base : Heap} {f : Addr} {fd : FuncData} (F : FnP K "offsets" s_offsets f fd) (g0 : mg "offsets" = some (.ref f)) (h_advance : Cal P w K mg base 1 "advance" ["char", "size"] (spD K  R_advance)) : Cal P w K mg base 2 "offsets" ["string", "size"] (spF K  R_offsets) := by
  refine cal_mk F sc_offsets g0 (spF_len R_offsets_len) (fun _ _ _ _ _ _ us hl => match us, hl with | [_, _], _ => rfl) (fun cdv A outer s H vs Q E hr h => ⟨_,
    (pss_cons (ps_set (i := 2) sc_offsets.nd rfl (by first | exact Or.inl rfl | exact Or.inr rfl) (pe_lst (pa_cons pe_int pa_nil)))
     (pss_cons (ps_for PassesOwn.never rfl (pi_str (pv 0)) (pg_name (i := 3) sc_offsets.nd rfl (by first | exact Or.inl rfl | exact Or.inr rfl))
     (pss_cons (ps_expr (DL.kBm (K := K) (pe_bm PySem.F.plainAttrs_list PySem.F.slot_list_append PySem.F.type_list_append mt_append (pv 2) (pa_cons (pe_op op_add (pe_ix (DL.kIxL (K := K)) (pv 2) (pe_un un_neg pe_int) (fun _ _ => rfl)) (DL.pe_cal h_advance hr (by decide) (by rfl) pass0 (pa_cons (pv 3) (pa_cons (pv 1) pa_nil)))) pa_nil))))
     pss_nil))
     (pss_cons (ps_ret (pv 2))
     pss_nil))), ?_⟩)
  refine run_spF h fun N ds d hR hq => ?_
  obtain ⟨l, s, h1, h2, h3, rfl, rfl⟩ := hR
  walk_at "env"
  refine' gs_asgF (o := .lst (([PyData.int 0]).map SV.i)) (ef_lst (EvA.ss (ea_cons ex_int ea_nil)) (Nat.le_of_ble_eq_true rfl)) ?_
  walk_at "nf"
  refine' gs_forS (xs := l) (fun _ => [some (.i (dT l)), some (.i (.int s)), some (.r 0), none]) (fun pre => [.lst (((offs s pre).map PyData.int).map SV.i)]) (ex_var rfl) (fun c' _ ad σ H ok => ok) (fun fr up pre x post hx => ⟨_, _, tg_name, ?a1⟩) (gs_retO (er_var rfl (Nat.lt_succ_self 0)) rfl (fun _ => id) hq)
  case a1 =>
  walk_at "nf"
  have hpl : pre.length ≤ 40000 := by
    have := congrArg List.length hx
    rw [List.length_append, List.length_cons] at this
    omega
  have el := offs_len s pre
  refine' gs_app (er_var rfl (Nat.lt_succ_self 0)) rfl (s := .i (.int (wid s pre + adv s x))) ?b1 (by simp [offs_len]; omega) ?_
  case b1 =>
    refine' (show EvX false _ _ _ _ _ from ex_i2 (ex_ixL (i := -1) (EvR.it (er_var rfl (Nat.lt_succ_self 0)) rfl) (ex_u ex_int) ?b2) (ex_call (ea_cons (ex_var rfl) (ea_cons (ex_var rfl) ea_nil)) (R_advance_i h1 h2)))
    case b2 =>
      have hl := offs_last s pre
      have h0 : ¬ (0 : Int) ≤ -1 := by decide
      unfold atI ixN
      rw [if_neg h0, if_pos (by simp [offs_len]; omega)]
      have e : ((-1 : Int) + ((((offs s pre).map PyData.int).map SV.i).length : Nat)).toNat = pre.length := by simp [offs_len]; omega
      rw [e]
      show (((offs s pre).map PyData.int).map SV.i)[pre.length]? = _
      rw [List.getElem?_map, List.getElem?_map, hl]
      rfl
  refine gs_is (os' := [.lst (((offs s (pre ++ [x])).map PyData.int).map SV.i)]) rfl ?c1 ?_
  case c1 => rw [offs_snoc, wid_app]; simp [wid]
  walk_at "wk"
-- END offsets
theorem sc_paragraphs : FnScope ["string", "found", "start", "part"] ["string"] (defScope s_paragraphs) := ⟨rfl, rfl, rfl, by decide +kernel, rfl, by decide +kernel, by decide +kernel⟩
/-- a pair of indexes -/
abbrev NN := Nat × Nat
def dNN (p : NN) : PyData := .tuple [.int (p.1 : Int), .int (p.2 : Int)]
/-! paragraphs -/
def parP : Nat → List (List Nat) → List NN
  | _, [] => []
  | st, p :: ps => (st, st + p.length) :: parP (st + p.length + 1) ps
def tot (ps : List (List Nat)) : Nat := (ps.map fun p => p.length + 1).sum
theorem tot_snoc (ps : List (List Nat)) (p : List Nat) : tot (ps ++ [p]) = tot ps + p.length + 1 := by unfold tot; rw [List.map_append, List.sum_append]; simp; omega
theorem parP_snoc : ∀ (ps : List (List Nat)) (p : List Nat) (st : Nat), parP st (ps ++ [p]) = parP st ps ++ [(st + tot ps, st + tot ps + p.length)]
  | [], p, st => by simp [parP, tot]
  | q :: ps, p, st => by
    rw [List.cons_append]
    unfold parP
    rw [parP_snoc ps p]
    rw [List.cons_append]
    have e : st + q.length + 1 + tot ps = st + tot (q :: ps) := by unfold tot; rw [List.map_cons, List.sum_cons]; omega
    rw [e]
theorem parP_len : ∀ (ps : List (List Nat)) (st : Nat), (parP st ps).length = ps.length
  | [], _ => rfl
  | p :: ps, st => by unfold parP; rw [List.length_cons, parP_len ps, List.length_cons]
theorem tot_split : ∀ l : List Nat, tot (splitC 10 l) = l.length + 1
  | [] => rfl
  | c :: r => by
    have ih := tot_split r
    obtain ⟨p, ps, e⟩ := splitC_ex 10 r
    by_cases h : c = 10
    · subst h
      rw [splitC_hit]
      unfold tot at *
      rw [List.map_cons, List.sum_cons, ih, List.length_cons]
      simp; omega
    · rw [splitC_miss h e]
      rw [e] at ih
      unfold tot at *
      rw [List.map_cons, List.sum_cons] at *
      rw [List.length_cons, List.length_cons]
      omega
def paras (l : List Nat) : List NN := parP 0 (splitC 10 l)
/-- where the paragraph behind these begins -/
def parAt (pre : List NN) : Nat := match pre.getLast? with
  | some p => p.2 + 1
  | none => 0
theorem parAt_snoc (pre : List NN) (p : NN) : parAt (pre ++ [p]) = p.2 + 1 := by unfold parAt; rw [List.getLast?_append, List.getLast?_singleton]; rfl
theorem split_free (d : Nat) : ∀ l : List Nat, ∀ p ∈ splitC d l, d ∉ p
  | [], p, hp => by simp [splitC] at hp; subst hp; simp
  | c :: r, p, hp => by
    have ih := split_free d r
    obtain ⟨q, qs, e⟩ := splitC_ex d r
    by_cases h : c = d
    · subst h
      rw [splitC_hit] at hp
      rcases List.mem_cons.mp hp with z | z
      · subst z; simp
      · exact ih p z
    · rw [splitC_miss h e] at hp
      rw [e] at ih
      rcases List.mem_cons.mp hp with z | z
      · subst z
        intro y
        rcases List.mem_cons.mp y with y | y
        · exact h y.symm
        · exact ih q (List.mem_cons_self ..) y
      · exact ih p (List.mem_cons_of_mem _ z)
/-- a text from its parts -/
def glueC (d : Nat) : List (List Nat) → List Nat
  | [] => []
  | [p] => p
  | p :: ps => p ++ d :: glueC d ps
theorem glue_cons (d : Nat) (p q : List Nat) (ps : List (List Nat)) : glueC d (p :: q :: ps) = p ++ d :: glueC d (q :: ps) := rfl
theorem glue_split (d : Nat) : ∀ l : List Nat, glueC d (splitC d l) = l
  | [] => rfl
  | c :: r => by
    have ih := glue_split d r
    obtain ⟨p, ps, e⟩ := splitC_ex d r
    rw [e] at ih
    by_cases h : c = d
    · subst h
      rw [splitC_hit, e, glue_cons, ih]
      rfl
    · rw [splitC_miss h e]
      cases ps with
      | nil =>
        show c :: p = c :: r
        rw [show p = r from ih]
      | cons q qs =>
        rw [glue_cons] at ih ⊢
        rw [List.cons_append, ih]
theorem glue_app (d : Nat) : ∀ (ps qs : List (List Nat)), qs ≠ [] → glueC d (ps ++ qs) = (ps.flatMap fun p => p ++ [d]) ++ glueC d qs
  | [], qs, _ => rfl
  | p :: ps, qs, h => by
    have ih := glue_app d ps qs h
    obtain ⟨q, r, e⟩ : ∃ q r, ps ++ qs = q :: r := by
      cases ps with
      | nil =>
        cases qs with
        | nil => exact absurd rfl h
        | cons q r => exact ⟨q, r, rfl⟩
      | cons q r => exact ⟨q, r ++ qs, rfl⟩
    rw [List.cons_append, e, glue_cons, ← e, ih, List.flatMap_cons]
    simp
theorem tot_flat (d : Nat) (ps : List (List Nat)) : (ps.flatMap fun p => p ++ [d]).length = tot ps := by
  induction ps with
  | nil => rfl
  | cons p ps ih => rw [List.flatMap_cons, List.length_append, ih]; unfold tot; rw [List.map_cons, List.sum_cons]; simp
theorem parP_split : ∀ (ps : List (List Nat)) (st : Nat) (pre : List NN) (x : NN) (post : List NN), parP st ps = pre ++ x :: post → ∃ p1 q p2, ps = p1 ++ q :: p2 ∧ pre = parP st p1 ∧ x = (st + tot p1, st + tot p1 + q.length) ∧ post.length = p2.length
  | [], st, pre, x, post, h => by simp [parP] at h
  | p :: ps, st, [], x, post, h => by
    unfold parP at h
    injection h with h1 h2
    exact ⟨[], p, ps, rfl, rfl, by rw [← h1]; rfl, by rw [← h2, parP_len]⟩
  | p :: ps, st, y :: pre, x, post, h => by
    unfold parP at h
    injection h with h1 h2
    obtain ⟨p1, q, p2, e1, e2, e3, e4⟩ := parP_split ps _ pre x post h2
    refine ⟨p :: p1, q, p2, by rw [e1]; rfl, ?_, ?_, e4⟩
    · rw [e2, ← h1]; rfl
    · have e : st + p.length + 1 + tot p1 = st + tot (p :: p1) := by unfold tot; rw [List.map_cons, List.sum_cons]; omega
      rw [e3, e]
theorem parAt_parP (ps : List (List Nat)) : parAt (parP 0 ps) = tot ps := by
  rcases List.eq_nil_or_concat ps with h | ⟨q, p, h⟩
  · rw [h]; rfl
  · rw [h, List.concat_eq_append, parP_snoc, parAt_snoc, tot_snoc]
    simp only; omega
/-- what is known of a paragraph by its place -/
theorem paras_at {l : List Nat} {pre : List NN} {x : NN} {post : List NN} (h : paras l = pre ++ x :: post) : x.1 = parAt pre ∧ x.1 ≤ x.2 ∧ x.2 ≤ l.length ∧ 10 ∉ (l.drop x.1).take (x.2 - x.1) ∧ (x.2 < l.length → l[x.2]? = some 10) ∧ (post = [] ↔ x.2 = l.length) := by
  obtain ⟨p1, q, p2, e1, e2, e3, e4⟩ := parP_split _ 0 pre x post h
  have hg := glue_split 10 l
  have ht := tot_split l
  rw [e1] at hg ht
  rw [glue_app 10 p1 (q :: p2) (by simp)] at hg
  have hx1 : x.1 = tot p1 := by rw [e3]; simp
  have hx2 : x.2 = tot p1 + q.length := by rw [e3]; simp
  have hf := tot_flat 10 p1
  have hqf := split_free 10 l q (by rw [e1]; simp)
  have hlen : tot (p1 ++ q :: p2) = tot p1 + (q.length + 1) + tot p2 := by unfold tot; rw [List.map_append, List.sum_append, List.map_cons, List.sum_cons]; omega
  have hd : l.drop x.1 = glueC 10 (q :: p2) := by rw [← hg, hx1, ← hf, List.drop_left]
  have htk : (l.drop x.1).take (x.2 - x.1) = q := by
    rw [hd, hx1, hx2, show tot p1 + q.length - tot p1 = q.length by omega]
    cases p2 with
    | nil => show q.take q.length = q; exact List.take_length
    | cons a b => rw [glue_cons]; exact List.take_left
  have hp2 : p2 = [] ↔ tot p2 = 0 := by
    cases p2 with
    | nil => exact ⟨fun _ => rfl, fun _ => rfl⟩
    | cons a b => exact ⟨(fun z => by cases z), fun z => by unfold tot at z; rw [List.map_cons, List.sum_cons] at z; omega⟩
  refine ⟨by rw [hx1, e2, parAt_parP], by omega, by omega, by rw [htk]; exact hqf, fun hlt => ?_, ?_⟩
  · have hne : p2 ≠ [] := fun z => by
      have := hp2.mp z
      omega
    obtain ⟨a, b, rfl⟩ := List.exists_cons_of_ne_nil hne
    have h5 : (l.drop x.1)[q.length]? = some 10 := by
      rw [hd, glue_cons, List.getElem?_append_right (Nat.le_refl _)]
      simp
    rw [List.getElem?_drop] at h5
    rw [hx2, ← hx1]
    exact h5
  · constructor
    · intro z
      have : p2 = [] := List.eq_nil_of_length_eq_zero (by rw [← e4, z]; rfl)
      have := hp2.mp this
      omega
    · intro z
      have : p2 = [] := hp2.mpr (by omega)
      exact List.eq_nil_of_length_eq_zero (by rw [e4, this]; rfl)
/-! words -/
/-- a sign that is neither a space nor a newline -/
def ltB (l : List Nat) (k : Nat) : Bool := match l[k]? with
  | some c => !decide (c = 32) && !decide (c = 10)
  | none => false
theorem ltB_at {l : List Nat} {k c : Nat} (h : l[k]? = some c) : ltB l k = (!decide (c = 32) && !decide (c = 10)) := by unfold ltB; rw [h]
abbrev WS := List NN × Option Nat
def wstep (l : List Nat) (st : WS) (i : Nat) : WS := match st.2, ltB l i with
  | none, true => (st.1, some i)
  | none, false => (st.1, none)
  | some b, true => (st.1, some b)
  | some b, false => (st.1 ++ [(b, i)], none)
def wst (l : List Nat) (lo : Nat) : Nat → WS
  | 0 => ([], none)
  | k + 1 => wstep l (wst l lo k) (lo + k)
def wfin (hi : Nat) (st : WS) : List NN := match st.2 with
  | some b => st.1 ++ [(b, hi)]
  | none => st.1
def wordsM (l : List Nat) (lo hi : Nat) : List NN := wfin hi (wst l lo (hi - lo))
def lastE (lo : Nat) (pre : List NN) : Nat := match pre.getLast? with
  | some p => p.2
  | none => lo
theorem lastE_nil (lo : Nat) : lastE lo [] = lo := rfl
theorem lastE_snoc (lo : Nat) (pre : List NN) (p : NN) : lastE lo (pre ++ [p]) = p.2 := by unfold lastE; rw [List.getLast?_append, List.getLast?_singleton]; rfl
def Gap (l : List Nat) (a b : Nat) : Prop := ∀ k, a ≤ k → k < b → ltB l k = false
def Run (l : List Nat) (a b : Nat) : Prop := ∀ k, a ≤ k → k < b → ltB l k = true
/-- the words of the part from lo to hi -/
structure WOk (l : List Nat) (lo hi : Nat) (rows : List NN) : Prop where
  each : ∀ pre s e post, rows = pre ++ (s, e) :: post → lastE lo pre ≤ s ∧ s < e ∧ e ≤ hi ∧ Gap l (lastE lo pre) s ∧ Run l s e ∧ (s = lo ∨ ltB l (s - 1) = false) ∧ (e = hi ∨ ltB l e = false)
  rest : lastE lo rows ≤ hi ∨ rows = []
  gap : Gap l (lastE lo rows) hi
structure WInv (l : List Nat) (lo i : Nat) (st : WS) : Prop where
  each : ∀ pre s e post, st.1 = pre ++ (s, e) :: post → lastE lo pre ≤ s ∧ s < e ∧ e ≤ i ∧ Gap l (lastE lo pre) s ∧ Run l s e ∧ (s = lo ∨ ltB l (s - 1) = false) ∧ ltB l e = false
  cn : st.2 = none → lastE lo st.1 ≤ i ∧ Gap l (lastE lo st.1) i
  cs : ∀ b, st.2 = some b → lastE lo st.1 ≤ b ∧ b < i ∧ Gap l (lastE lo st.1) b ∧ Run l b i ∧ (b = lo ∨ ltB l (b - 1) = false)
theorem snoc_split {α : Type} {f pre post : List α} {x y : α} (h : f ++ [y] = pre ++ x :: post) : (∃ p, post = p ++ [y] ∧ f = pre ++ x :: p) ∨ (post = [] ∧ x = y ∧ f = pre) := by
  rcases List.eq_nil_or_concat post with rfl | ⟨p, z, rfl⟩
  · refine Or.inr ⟨rfl, ?_⟩
    have h2 : f ++ [y] = pre ++ [x] := h
    obtain ⟨h3, h4⟩ := List.append_inj' h2 rfl
    injection h4 with h4
    exact ⟨h4.symm, h3⟩
  · refine Or.inl ⟨p, ?_⟩
    rw [List.concat_eq_append] at h ⊢
    have h2 : f ++ [y] = (pre ++ x :: p) ++ [z] := by rw [h]; simp
    obtain ⟨h3, h4⟩ := List.append_inj' h2 rfl
    injection h4 with h4
    exact ⟨by rw [h4], h3⟩
theorem winv (l : List Nat) (lo : Nat) : ∀ k, WInv l lo (lo + k) (wst l lo k)
  | 0 => ⟨fun pre s e post h => absurd h (by simp [wst]), fun _ => ⟨Nat.le_refl _, fun k h1 h2 => absurd h2 (by simp [wst, lastE] at h1; omega)⟩, fun b h => by simp [wst] at h⟩
  | k + 1 => by
    have ih := winv l lo k
    have step : ∀ st : WS, WInv l lo (lo + k) st → WInv l lo (lo + k + 1) (wstep l st (lo + k)) := by
      intro st ih
      obtain ⟨f, b⟩ := st
      generalize lo + k = i at *
      have each' : ∀ pre s e post, f = pre ++ (s, e) :: post → lastE lo pre ≤ s ∧ s < e ∧ e ≤ i + 1 ∧ Gap l (lastE lo pre) s ∧ Run l s e ∧ (s = lo ∨ ltB l (s - 1) = false) ∧ ltB l e = false := fun pre s e post h => by
        obtain ⟨a1, a2, a3, a4⟩ := ih.each pre s e post h
        exact ⟨a1, a2, by omega, a4⟩
      cases b with
      | none =>
        obtain ⟨c1, c2⟩ := ih.cn rfl
        cases hb : ltB l i with
        | true =>
          have ew : wstep l (f, none) i = (f, some i) := by unfold wstep; simp only [hb]
          rw [ew]
          refine ⟨each', fun z => (by cases z), fun b z => ?_⟩
          injection z with z
          subst z
          refine ⟨c1, Nat.lt_succ_self _, c2, fun k h1 h2 => ?_, ?_⟩
          · have : k = i := by omega
            subst this; exact hb
          · by_cases hz : lastE lo f = i
            · rcases List.eq_nil_or_concat f with h | ⟨g, p, h⟩
              · rw [h, lastE_nil] at hz
                exact Or.inl hz.symm
              · exfalso
                rw [List.concat_eq_append] at h
                obtain ⟨s, e⟩ := p
                have h3 := (ih.each g s e [] h).2.2.2.2.2.2
                rw [h, lastE_snoc] at hz
                have hz : e = i := hz
                rw [hz, hb] at h3
                cases h3
            · have hlt : lastE lo f < i := Nat.lt_of_le_of_ne c1 hz
              exact Or.inr (c2 (i - 1) (Nat.le_sub_one_of_lt hlt) (Nat.sub_lt (Nat.lt_of_le_of_lt (Nat.zero_le _) hlt) Nat.one_pos))
        | false =>
          have ew : wstep l (f, none) i = (f, none) := by unfold wstep; simp only [hb]
          rw [ew]
          refine ⟨each', fun _ => ⟨by have : lastE lo f ≤ i := c1; show lastE lo f ≤ i + 1; omega, fun k h1 h2 => ?_⟩, fun b z => (by cases z)⟩
          by_cases hk : k = i
          · subst hk; exact hb
          · exact c2 k h1 (by omega)
      | some b =>
        obtain ⟨c1, c2, c3, c4, c5⟩ := ih.cs b rfl
        cases hb : ltB l i with
        | true =>
          have ew : wstep l (f, some b) i = (f, some b) := by unfold wstep; simp only [hb]
          rw [ew]
          refine ⟨each', fun z => (by cases z), fun b' z => ?_⟩
          injection z with z
          subst z
          refine ⟨c1, by omega, c3, fun k h1 h2 => ?_, c5⟩
          by_cases hk : k = i
          · subst hk; exact hb
          · exact c4 k h1 (by omega)
        | false =>
          have ew : wstep l (f, some b) i = (f ++ [(b, i)], none) := by unfold wstep; simp only [hb]
          rw [ew]
          refine ⟨fun pre s e post h => ?_, fun _ => ?_, fun b z => (by cases z)⟩
          · rcases snoc_split h with ⟨p, _, h2⟩ | ⟨_, h3, h4⟩
            · exact each' pre s e p h2
            · injection h3 with h5 h6
              subst h5 h6 h4
              exact ⟨c1, c2, by omega, c3, c4, c5, hb⟩
          · show lastE lo (f ++ [(b, i)]) ≤ i + 1 ∧ Gap l (lastE lo (f ++ [(b, i)])) (i + 1)
            rw [lastE_snoc]
            refine ⟨by simp, fun k h1 h2 => ?_⟩
            have : k = i := by simp at h1; omega
            subst this; exact hb
    exact step _ ih
theorem words_ok (l : List Nat) (lo hi : Nat) : WOk l lo hi (wordsM l lo hi) := by
  have h := winv l lo (hi - lo)
  unfold wordsM
  by_cases hlt : lo ≤ hi
  · have e : lo + (hi - lo) = hi := by omega
    rw [e] at h
    generalize wst l lo (hi - lo) = st at h
    obtain ⟨f, b⟩ := st
    cases b with
    | none =>
      have c := h.cn rfl
      exact ⟨fun pre s e post z => let ⟨a1, a2, a3, a4, a5, a6, a7⟩ := h.each pre s e post z; ⟨a1, a2, a3, a4, a5, a6, Or.inr a7⟩, Or.inl c.1, c.2⟩
    | some b =>
      obtain ⟨c1, c2, c3, c4, c5⟩ := h.cs b rfl
      show WOk l lo hi (f ++ [(b, hi)])
      refine ⟨fun pre s e post z => ?_, Or.inl (by rw [lastE_snoc]; exact Nat.le_refl _), by rw [lastE_snoc]; exact fun k h1 h2 => absurd h2 (by simp at h1; omega)⟩
      rcases snoc_split z with ⟨p, _, h2⟩ | ⟨_, h3, h4⟩
      · obtain ⟨a1, a2, a3, a4, a5, a6, a7⟩ := h.each pre s e p h2
        exact ⟨a1, a2, a3, a4, a5, a6, Or.inr a7⟩
      · injection h3 with h5 h6
        subst h5 h6 h4
        exact ⟨c1, c2, Nat.le_refl _, c3, c4, c5, Or.inl rfl⟩
  · rw [show hi - lo = 0 by omega]
    exact ⟨fun pre s e post z => absurd z (by simp [wfin, wst]), Or.inr rfl, fun k h1 h2 => absurd h2 (by simp [wfin, wst, lastE] at h1; omega)⟩
theorem wst_len (l : List Nat) (lo : Nat) : ∀ k, (wst l lo k).1.length ≤ k
  | 0 => Nat.le_refl _
  | k + 1 => by
    have h := wst_len l lo k
    show (wstep l (wst l lo k) (lo + k)).1.length ≤ k + 1
    generalize wst l lo k = st at *
    obtain ⟨f, b⟩ := st
    have h : f.length ≤ k := h
    unfold wstep
    cases b <;> cases ltB l (lo + k) <;> simp <;> omega
def R_paragraphs : List PyData → List PyData → Prop := fun ds out => ∃ l : List Nat, l.length ≤ 40000 ∧ ds = [dT l] ∧ out = (paras l).map dNN
theorem R_paragraphs_i {l : List Nat} (h : l.length ≤ 40000) : R_paragraphs [dT l] ((paras l).map dNN) := ⟨l, h, rfl, rfl⟩
local macro_rules | `(tactic| walk_at "r2") => `(tactic| exact R_paragraphs_i (by first | assumption | omega))
theorem R_paragraphs_len : ∀ ds d, R_paragraphs ds d → ds.length = 1 := by
  intro ds d hh
  unfold R_paragraphs at hh
  repeat (obtain ⟨_, hh⟩ := hh)
  subst_eqs
  rfl
theorem ok_paragraphs {P : Program} {w : World} {K : PySem.W.Frag} {mg : Str → Option Value} {base : Heap} {f : Addr} {fd : FuncData} (F : FnP K "paragraphs" s_paragraphs f fd) (g0 : mg "paragraphs" = some (.ref f)) (z_len : mg "len" = none) : Cal P w K mg base 1 "paragraphs" ["string"] (spF K  R_paragraphs) := by
  refine cal_mk F sc_paragraphs g0 (spF_len R_paragraphs_len) (fun _ _ _ _ _ _ us hl => match us, hl with | [_], _ => rfl) (fun cdv A outer s H vs Q E hr h => ⟨_,
    (pss_cons (ps_set (i := 1) sc_paragraphs.nd rfl (by first | exact Or.inl rfl | exact Or.inr rfl) (pe_lst pa_nil))
     (pss_cons (ps_set (i := 2) sc_paragraphs.nd rfl (by first | exact Or.inl rfl | exact Or.inr rfl) pe_int)
     (pss_cons (ps_for PassesOwn.never rfl (DL.kPiL (K := K) (pe_split (pv 0) pe_str)) (pg_name (i := 3) sc_paragraphs.nd rfl (by first | exact Or.inl rfl | exact Or.inr rfl))
     (pss_cons (ps_expr (DL.kBm (K := K) (pe_bm PySem.F.plainAttrs_list PySem.F.slot_list_append PySem.F.type_list_append mt_append (pv 1) (pa_cons (pe_tup (pa_cons (pv 2) (pa_cons (pe_op op_add (pv 2) (pe_callB call_len_str (by rfl) z_len (by decide +kernel) (pa_cons (pv 3) pa_nil))) pa_nil))) pa_nil))))
     (pss_cons (ps_aug (i := 2) sc_paragraphs.nd rfl (by first | exact Or.inl rfl | exact Or.inr rfl) (pe_op op_add (pe_callB call_len_str (by rfl) z_len (by decide +kernel) (pa_cons (pv 3) pa_nil)) pe_int) ip_add)
     pss_nil)))
     (pss_cons (ps_ret (pv 1))
     pss_nil)))), ?_⟩)
  refine run_spF h fun N ds d hR hq => ?_
  obtain ⟨l, h1, rfl, rfl⟩ := hR
  walk_at "env"
  refine' gs_asgF (o := .lst []) (ef_lst eas_nil (Nat.zero_le _)) ?_
  walk_at "nf"
  refine' gs_asg (d := .int ((0 : Nat) : Int)) ex_int ?_
  walk_at "nf"
  have hcnt : l.count 10 ≤ l.length := List.count_le_length
  refine' gs_forD (xs := splitC 10 l) (f := dT) (fun pre => [some (.i (dT l)), some (.r 0), some (.i (.int ((tot pre : Nat) : Int))), none]) (fun pre => [.lst (((parP 0 pre).map dNN).map SV.i)]) (EvF.ev (ef_split (x := 10) rfl (ex_var rfl) (ex_txt (by decide +kernel)) (by decide) (by omega))) (fun c' _ ad σ H ok => ok) (fun fr up pre p post hx => ⟨_, _, tg_name, ?a1⟩) (gs_retO (er_var rfl (Nat.lt_succ_self 0)) rfl (fun _ => id) hq)
  case a1 =>
  walk_at "nf"
  have hlen : pre.length + 1 + post.length = 1 + l.count 10 := by
    rw [← splitC_len, hx]; simp; omega
  have htot : tot (pre ++ p :: post) = l.length + 1 := by rw [← hx, tot_split]
  have htot2 : tot (pre ++ p :: post) = tot pre + (p.length + 1) + tot post := by unfold tot; rw [List.map_append, List.sum_append, List.map_cons, List.sum_cons]; omega
  have hpl : p.length ≤ 40000 := by omega
  refine' gs_app (er_var rfl (Nat.lt_succ_self 0)) rfl (s := .i (dNN (tot pre, tot pre + p.length))) ?b1 (by simp [parP_len]; omega) ?_
  case b1 =>
    refine' (show EvX false _ _ _ _ _ from EvX.is (ex_tup (ea_cons (ex_var rfl) (ea_cons (ex_i2 (ex_var rfl) (ex_lenS rfl (ex_var rfl) (by omega))) ea_nil)) (Nat.le_of_ble_eq_true rfl)) ?b2)
    case b2 => unfold dNN; simp
  walk_at "nf"
  refine' gs_aug (a := ((tot pre : Nat) : Int)) (b := ((p.length : Nat) : Int) + 1) rfl (ex_i2 (ex_lenS rfl (ex_var rfl) (by omega)) ex_int) ?_
  walk_at "nf"
  refine gs_is (env' := [some (.i (dT l)), some (.r 0), some (.i (.int ((tot (pre ++ [p]) : Nat) : Int))), some (.i (dT p))]) (os' := [.lst (((parP 0 (pre ++ [p])).map dNN).map SV.i)]) ?c1 ?c2 ?_
  case c1 => rw [tot_snoc]; simp; omega
  case c2 => rw [parP_snoc]; simp
  walk_at "wk"
-- END paragraphs
theorem sc_words : FnScope ["string", "start", "end", "found", "begin", "high", "index"] ["string", "start", "end"] (defScope s_words) := ⟨rfl, rfl, rfl, by decide +kernel, rfl, by decide +kernel, by decide +kernel⟩
def R_words : List PyData → List PyData → Prop := fun ds out => ∃ (l : List Nat) (a b : Nat), l.length ≤ 40000 ∧ a ≤ 1000000 ∧ b ≤ 1000000 ∧ ds = [dT l, .int (a : Int), .int (b : Int)] ∧ out = (wordsM l a (min b l.length)).map dNN
def dOp : Option Nat → PyData
  | none => .none
  | some b => .int (b : Int)
theorem R_words_i {l : List Nat} (a b : Nat) (h : l.length ≤ 40000) (ha : a ≤ 1000000) (hb : b ≤ 1000000) : R_words [dT l, .int (a : Int), .int (b : Int)] ((wordsM l a (min b l.length)).map dNN) := ⟨l, a, b, h, ha, hb, rfl, rfl⟩
local macro_rules | `(tactic| walk_at "r2") => `(tactic| exact R_words_i _ _ (by first | assumption | omega) (by first | assumption | omega) (by first | assumption | omega))
theorem R_words_len : ∀ ds d, R_words ds d → ds.length = 3 := by
  intro ds d hh
  unfold R_words at hh
  repeat (obtain ⟨_, hh⟩ := hh)
  subst_eqs
  rfl
theorem ok_words {P : Program} {w : World} {K : PySem.W.Frag} {mg : Str → Option Value} {base : Heap} {f : Addr} {fd : FuncData} (F : FnP K "words" s_words f fd) (g0 : mg "words" = some (.ref f)) (z_min : mg "min" = none) (z_len : mg "len" = none) (z_range : mg "range" = none) (z_max : mg "max" = none) : Cal P w K mg base 1 "words" ["string", "start", "end"] (spF K  R_words) := by
  refine cal_mk F sc_words g0 (spF_len R_words_len) (fun _ _ _ _ _ _ us hl => match us, hl with | [_, _, _], _ => rfl) (fun cdv A outer s H vs Q E hr h => ⟨_,
    (pss_cons (ps_set (i := 3) sc_words.nd rfl (by first | exact Or.inl rfl | exact Or.inr rfl) (pe_lst pa_nil))
     (pss_cons (ps_set (i := 4) sc_words.nd rfl (by first | exact Or.inl rfl | exact Or.inr rfl) pe_non)
     (pss_cons (ps_set (i := 5) sc_words.nd rfl (by first | exact Or.inl rfl | exact Or.inr rfl) (pe_callB (call_min2 rfl) (by rfl) z_min (by decide +kernel) (pa_cons (pv 2) (pa_cons (pe_callB call_len_str (by rfl) z_len (by decide +kernel) (pa_cons (pv 0) pa_nil)) pa_nil))))
     (pss_cons (ps_for PassesOwn.never rfl (pi_range2 (by rfl) z_range (pa_cons (pe_callB (call_max2 rfl) (by rfl) z_max (by decide +kernel) (pa_cons (pv 1) (pa_cons pe_int pa_nil))) (pa_cons (pv 5) pa_nil))) (pg_name (i := 6) sc_words.nd rfl (by first | exact Or.inl rfl | exact Or.inr rfl))
     (pss_cons (ps_if (pt_cmpR (DL.kInSeq (K := K)) (pe_ix ix_str (pv 0) (pv 6) (fun _ _ => rfl)) (pe_tup (pa_cons pe_str (pa_cons pe_str pa_nil))) (by rfl))
     (pss_cons (ps_if (pt_cmpR op_notN (pv 4) pe_non (nomark _))
     (pss_cons (ps_expr (DL.kBm (K := K) (pe_bm PySem.F.plainAttrs_list PySem.F.slot_list_append PySem.F.type_list_append mt_append (pv 3) (pa_cons (pe_tup (pa_cons (pv 4) (pa_cons (pv 6) pa_nil))) pa_nil))))
     pss_nil)
     pss_nil)
     (pss_cons (ps_set (i := 4) sc_words.nd rfl (by first | exact Or.inl rfl | exact Or.inr rfl) pe_non)
     pss_nil))
     (pss_cons (ps_if (pt_cmpR op_isN (pv 4) pe_non (nomark _))
     (pss_cons (ps_set (i := 4) sc_words.nd rfl (by first | exact Or.inl rfl | exact Or.inr rfl) (pv 6))
     pss_nil)
     pss_nil)
     pss_nil))
     pss_nil))
     (pss_cons (ps_if (pt_cmpR op_notN (pv 4) pe_non (nomark _))
     (pss_cons (ps_expr (DL.kBm (K := K) (pe_bm PySem.F.plainAttrs_list PySem.F.slot_list_append PySem.F.type_list_append mt_append (pv 3) (pa_cons (pe_tup (pa_cons (pv 4) (pa_cons (pv 5) pa_nil))) pa_nil))))
     pss_nil)
     pss_nil)
     (pss_cons (ps_ret (pv 3))
     pss_nil)))))), ?_⟩)
  refine run_spF h fun N ds d hR hq => ?_
  obtain ⟨l, a, b, h1, h2, h3, rfl, rfl⟩ := hR
  walk_at "env"
  refine' gs_asgF (o := .lst []) (ef_lst eas_nil (Nat.zero_le _)) ?_
  walk_at "nf"
  refine gs_asg (d := .none) ex_non ?_
  walk_at "nf"
  generalize hhi : min b l.length = hi at *
  have hhl : hi ≤ l.length := by omega
  refine' gs_asg (d := .int (hi : Int)) (EvX.is (ex_min2 rfl (ex_var rfl) (ex_lenS rfl (ex_var rfl) (by omega))) ?a1) ?_
  case a1 => congr 1; rw [← hhi]; omega
  walk_at "nf"
  refine' gs_for (n := hi - a) (fun k => [some (.i (dT l)), some (.i (.int (a : Int))), some (.i (.int (b : Int))), some (.r 0), some (.i (dOp (wst l a k).2)), some (.i (.int (hi : Int))), none]) (fun k => [.lst (((wst l a k).1.map dNN).map SV.i)]) (EvW.is (ew_range2 (lo := (a : Int)) (hi := (hi : Int)) ?b1 (by omega) (by omega)) (by omega)) (fun c' _ ad σ H ok => ok) (fun _ _ => True.intro) (fun fr up k hk => ⟨_, _, tg_name, ?b2⟩) ?b3
  case b1 =>
    refine' ea_cons (EvX.is (ex_max2 rfl (ex_var rfl) ex_int) ?b4) (ea_cons (ex_var rfl) ea_nil)
    case b4 => congr 1; omega
  case b2 =>
    walk_at "nf"
    have hlen := wst_len l a k
    have ek : wst l a (k + 1) = wstep l (wst l a k) (a + k) := rfl
    rw [ek]
    generalize wst l a k = st at *
    obtain ⟨f, bo⟩ := st
    have hlen : f.length ≤ k := hlen
    obtain ⟨x, hx⟩ : ∃ x, l[a + k]? = some x := ⟨l[a + k]'(by omega), List.getElem?_eq_getElem (by omega)⟩
    have hlt := ltB_at hx
    have gx : ∀ (c : Cn) (os : List SO) (w : Bool) (e1 e2 e3 e4 e5 : Option SV), EvX w c [some (.i (dT l)), e1, e2, e3, e4, e5, some (.i (.int ((a : Int) + (k : Int))))] os (tOp rIxS (tVar 0) (tVar 6)) (dT [x]) := fun c os w e1 e2 e3 e4 e5 =>
      ex_ixS (ex_var rfl) (ex_var rfl) (by omega) (by rw [show (a : Int) + (k : Int) = ((a + k : Nat) : Int) by omega]; exact atI_nat hx)
    refine gs_if (b := !ltB l (a + k)) (EvT.is (et_test (ex_inTt (ls := [[32], [10]]) (gx _ _ _ _ _ _ _ _) (EvX.is (ex_tup (ea_cons (ex_txt (l := [32]) (by decide +kernel)) (ea_cons (ex_txt (l := [10]) (by decide +kernel)) ea_nil)) (Nat.le_of_ble_eq_true rfl)) rfl))) ?c1) (fun hb => ?c2) (fun hb => ?c3)
    case c1 =>
      rw [hlt]
      by_cases q1 : x = 32 <;> by_cases q2 : x = 10 <;> simp [q1, q2]
    case c2 =>
      have hb : ltB l (a + k) = false := by simpa using hb
      cases bo with
      | none =>
        refine gs_if (b := false) (EvT.is (et_test (ex_notN rfl (ex_var rfl))) rfl) (fun z => nomatch z) fun _ => ?_
        refine g_nextU (gs_asg (d := .none) ex_non ?_)
        walk_at "nf"
        refine g_nextU (gs_is (env' := [some (.i (dT l)), some (.i (.int (a : Int))), some (.i (.int (b : Int))), some (.r 0), some (.i (dOp (wstep l (f, none) (a + k)).2)), some (.i (.int (hi : Int))), some (.i (.int ((a : Int) + (k : Int))))]) (os' := [.lst (((wstep l (f, none) (a + k)).1.map dNN).map SV.i)]) ?d1 ?d2 ?_)
        case d1 => unfold wstep; simp only [hb]; rfl
        case d2 => unfold wstep; simp only [hb]
        walk_at "wk"
      | some s =>
        refine gs_if (b := true) (EvT.is (et_test (ex_notN rfl (ex_var rfl))) rfl) (fun _ => ?_) (fun z => nomatch z)
        refine' gs_app (er_var rfl (Nat.lt_succ_self 0)) rfl (s := .i (dNN (s, a + k))) ?d3 (by simp; omega) ?_
        case d3 =>
          refine' (show EvX false _ _ _ _ _ from EvX.is (ex_tup (ea_cons (ex_var (d := .int (s : Int)) rfl) (ea_cons (ex_var rfl) ea_nil)) (Nat.le_of_ble_eq_true rfl)) ?d4)
          case d4 => unfold dNN; simp
        walk_at "nf"
        refine g_nextU (gs_asg (d := .none) ex_non ?_)
        walk_at "nf"
        refine g_nextU (gs_is (env' := [some (.i (dT l)), some (.i (.int (a : Int))), some (.i (.int (b : Int))), some (.r 0), some (.i (dOp (wstep l (f, some s) (a + k)).2)), some (.i (.int (hi : Int))), some (.i (.int ((a : Int) + (k : Int))))]) (os' := [.lst (((wstep l (f, some s) (a + k)).1.map dNN).map SV.i)]) ?d1 ?d2 ?_)
        case d1 => unfold wstep; simp only [hb]; rfl
        case d2 => unfold wstep; simp only [hb]; simp
        walk_at "wk"
    case c3 =>
      have hb : ltB l (a + k) = true := by simpa using hb
      cases bo with
      | none =>
        refine gs_if (b := true) (EvT.is (et_test (ex_isN rfl (ex_var rfl))) rfl) (fun _ => ?_) (fun z => nomatch z)
        refine gs_asg (d := .int ((a + k : Nat) : Int)) (EvX.is (ex_var rfl) (by simp)) ?_
        walk_at "nf"
        refine g_nextU (g_nextU (gs_is (env' := [some (.i (dT l)), some (.i (.int (a : Int))), some (.i (.int (b : Int))), some (.r 0), some (.i (dOp (wstep l (f, none) (a + k)).2)), some (.i (.int (hi : Int))), some (.i (.int ((a : Int) + (k : Int))))]) (os' := [.lst (((wstep l (f, none) (a + k)).1.map dNN).map SV.i)]) ?d1 ?d2 ?_))
        case d1 => unfold wstep; simp only [hb]; rfl
        case d2 => unfold wstep; simp only [hb]
        walk_at "wk"
      | some s =>
        refine gs_if (b := false) (EvT.is (et_test (ex_isN rfl (ex_var rfl))) rfl) (fun z => nomatch z) fun _ => ?_
        refine g_nextU (g_nextU (gs_is (env' := [some (.i (dT l)), some (.i (.int (a : Int))), some (.i (.int (b : Int))), some (.r 0), some (.i (dOp (wstep l (f, some s) (a + k)).2)), some (.i (.int (hi : Int))), some (.i (.int ((a : Int) + (k : Int))))]) (os' := [.lst (((wstep l (f, some s) (a + k)).1.map dNN).map SV.i)]) ?d1 ?d2 ?_))
        case d1 => unfold wstep; simp only [hb]
        case d2 => unfold wstep; simp only [hb]
        walk_at "wk"
  case b3 =>
  have hwl := wst_len l a (hi - a)
  have ew : wordsM l a hi = wfin hi (wst l a (hi - a)) := rfl
  rw [ew] at hq
  generalize wst l a (hi - a) = st at *
  obtain ⟨f, bo⟩ := st
  have hwl : f.length ≤ hi - a := hwl
  cases bo with
  | none =>
    refine gs_if (b := false) (EvT.is (et_test (ex_notN rfl (ex_var rfl))) rfl) (fun z => nomatch z) fun _ => ?_
    exact g_nextU (gs_retO (er_var rfl (Nat.lt_succ_self 0)) rfl (fun _ => id) hq)
  | some s =>
    refine gs_if (b := true) (EvT.is (et_test (ex_notN rfl (ex_var rfl))) rfl) (fun _ => ?_) (fun z => nomatch z)
    refine' gs_app (er_var rfl (Nat.lt_succ_self 0)) rfl (s := .i (dNN (s, hi))) ?e1 (by simp; omega) ?_
    case e1 => exact (show EvX false _ _ _ _ _ from ex_tup (ea_cons (ex_var (d := .int (s : Int)) rfl) (ea_cons (ex_var rfl) ea_nil)) (Nat.le_of_ble_eq_true rfl))
    walk_at "nf"
    refine g_nextU (gs_is (os' := [.lst (((wfin hi (f, some s)).map dNN).map SV.i)]) rfl (by simp [wfin]) ?_)
    exact gs_retO (er_var rfl (Nat.lt_succ_self 0)) rfl (fun _ => id) hq
-- END words
theorem sc_frame : FnScope ["style"] ["style"] (defScope s_frame) := ⟨rfl, rfl, rfl, by decide +kernel, rfl, by decide +kernel, by decide +kernel⟩
abbrev Tb := List (Str × PyData)
def ekS (x : Str) : Key := .inr x
def evS (d : PyData) : PyData := d
theorem ekS_inj : ∀ a b : Str, ekS a = ekS b → a = b := fun a b h => Sum.inr.inj h
abbrev eS (m : Tb) : List (Key × SV) := m.map fun p => (ekS p.1, SV.i (evS p.2))
theorem setA_eS (m : Tb) (k : Str) (d : PyData) : setA (eS m) (ekS k) (SV.i d) = eS (setA m k d) := setA_enc (ek := ekS) (ev := fun d : PyData => SV.i (evS d)) ekS_inj m k d
abbrev dS (m : Tb) : PyData := dKd ekS evS m
def puts (m : Tb) (ks : List Str) (d : PyData) : Tb := ks.foldl (fun m k => setA m k d) m
theorem puts_snoc (m : Tb) (ks : List Str) (k : Str) (d : PyData) : puts m (ks ++ [k]) d = setA (puts m ks d) k d := by unfold puts; rw [List.foldl_append]; rfl
structure TbOk (m : Tb) (n : Nat) : Prop where
  nd : (m.map (·.1)).Nodup
  len : m.length ≤ n
  sm : ∀ p ∈ m, Same1 p.2
theorem TbOk.set {m : Tb} {n : Nat} (h : TbOk m n) (k : Str) {d : PyData} (hd : Same1 d) : TbOk (setA m k d) (n + 1) := by
  refine ⟨setA_nodup k d h.nd, Nat.le_trans (setA_len m k d) (Nat.succ_le_succ h.len), fun p hp => ?_⟩
  unfold setA at hp
  split at hp
  · obtain ⟨q, hq, rfl⟩ := List.mem_map.mp hp
    show Same1 (if q.1 = k then d else q.2)
    split
    · exact hd
    · exact h.sm q hq
  · rcases List.mem_append.mp hp with z | z
    · exact h.sm p z
    · rw [List.mem_singleton.mp z]; exact hd
theorem TbOk.puts {d : PyData} (hd : Same1 d) : ∀ (ks : List Str) {m : Tb} {n : Nat}, TbOk m n → TbOk (puts m ks d) (n + ks.length)
  | [], m, n, h => h
  | k :: ks, m, n, h => by
    have h2 := TbOk.puts hd ks (h.set k hd)
    rw [List.length_cons, show n + (ks.length + 1) = n + 1 + ks.length by omega]
    exact h2
theorem same_int (i : Int) : Same1 (.int i) := ⟨rfl, by simp [PyData.eqv], by show 0 ≤ 8; decide⟩
theorem same_str (x : Str) : Same1 (.str x) := ⟨rfl, by simp [PyData.eqv], by show 0 ≤ 8; decide⟩
theorem same_part (x : Str) (i : Int) : Same1 (.tuple [.str x, .int i]) := ⟨rfl, by simp [PyData.eqv, PyData.eqvAll], by show 1 ≤ 8; decide⟩
def plain0 : Tb := [("display", .str "block"), ("place", .str "flow"), ("left", .int 0), ("top", .int 0), ("width", .str "auto"), ("height", .str "auto")]
def nm1 : List Str := ["margin_left", "margin_right", "margin_top", "margin_bottom", "padding", "border", "background"]
def nm2 : List Str := ["lead", "grow", "gap", "level"]
def nm3 : List Str := ["border_color", "color", "shrink"]
def plainA : Tb := puts (puts (puts (setA (setA plain0 "least_width" (.int 0)) "most_width" (.int 1000)) nm1 (.int 0)) nm2 (.int 0)) nm3 (.int 1)
def plainS (s : Int) : Tb := setA (setA (setA (setA plainA "size" (.int s)) "align" (.str "left")) "columns" (.int 2)) "clip" (.str "open")
theorem plain0_ok : TbOk plain0 6 := by
  refine ⟨by decide +kernel, by decide, fun p hp => ?_⟩
  unfold plain0 at hp
  simp only [List.mem_cons, List.not_mem_nil, or_false] at hp
  rcases hp with rfl | rfl | rfl | rfl | rfl | rfl
  · exact same_str _
  · exact same_str _
  · exact same_int _
  · exact same_int _
  · exact same_str _
  · exact same_str _
theorem plainS_ok (s : Int) : TbOk (plainS s) 26 := ((((TbOk.puts (same_int 1) nm3 (TbOk.puts (same_int 0) nm2 (TbOk.puts (same_int 0) nm1 ((plain0_ok.set "least_width" (same_int 0)).set "most_width" (same_int 1000))))).set "size" (same_int s)).set "align" (same_str _)).set "columns" (same_int _)).set "clip" (same_str _)
def boxT (s : Int) (vd vp vw : PyData) (le mo ml mr pa bo ga co : Int) : Tb :=
  setA (setA (setA (setA (setA (setA (setA (setA (setA (setA (setA (setA (plainS s) "display" vd) "place" vp) "width" vw) "least_width" (.int le)) "most_width" (.int mo)) "margin_left" (.int ml)) "margin_right" (.int mr)) "padding" (.int pa)) "border" (.int bo)) "margin_top" (.int 5)) "gap" (.int ga)) "columns" (.int co)
/-! the drawn style -/
def vdT : List PyData := [.str "block", .str "row", .str "grid", .str "block", .str "row", .str "grid", .str "none"]
def vpT : List PyData := [.str "flow", .str "flow", .str "flow", .str "shifted", .str "free"]
def vwT (n : Int) : List PyData := [.str "auto", .str "auto", .str "auto", .int (n / 5 % 1001), .tuple [.str "part", .int (n / 5 % 101)]]
def tabI (is : List Int) (i : Int) : Int := is.getD i.toNat 0
theorem tabI_at {is : List Int} {i : Int} (h0 : 0 ≤ i) (h1 : i < (is.length : Int)) : (is.map PyData.int).getD i.toNat .none = .int (tabI is i) := by
  unfold tabI
  rw [List.getD_eq_getElem?_getD, List.getD_eq_getElem?_getD, List.getElem?_map, List.getElem?_eq_getElem (show i.toNat < is.length by omega)]
  rfl
theorem same_all {ds : List PyData} (h : ∀ d ∈ ds, Same1 d) {i : Int} (h0 : 0 ≤ i) (h1 : i < (ds.length : Int)) : Same1 (ds.getD i.toNat .none) := by
  rw [List.getD_eq_getElem?_getD, List.getElem?_eq_getElem (show i.toNat < ds.length by omega)]
  exact h _ (List.getElem_mem _)
theorem vdT_same : ∀ d ∈ vdT, Same1 d := by
  intro d hd
  unfold vdT at hd
  simp only [List.mem_cons, List.not_mem_nil, or_false] at hd
  rcases hd with rfl | rfl | rfl | rfl | rfl | rfl | rfl <;> exact same_str _
theorem vpT_same : ∀ d ∈ vpT, Same1 d := by
  intro d hd
  unfold vpT at hd
  simp only [List.mem_cons, List.not_mem_nil, or_false] at hd
  rcases hd with rfl | rfl | rfl | rfl | rfl <;> exact same_str _
theorem vwT_same (n : Int) : ∀ d ∈ vwT n, Same1 d := by
  intro d hd
  unfold vwT at hd
  simp only [List.mem_cons, List.not_mem_nil, or_false] at hd
  rcases hd with rfl | rfl | rfl | rfl | rfl
  · exact same_str _
  · exact same_str _
  · exact same_str _
  · exact same_int _
  · exact same_part _ _
def lwT (n : Int) : List Int := [0, 0, n / 4 % 1001, n / 4 % 30]
def mwT (n : Int) : List Int := [1000, 1000, n / 16 % 1001, n / 16 % 60]
def m1T (n : Int) : List Int := [0, n / 3 % 9, n / 3 % 101]
def m2T (n : Int) : List Int := [0, n / 909 % 9, n / 909 % 101]
def nA (n : Int) : Int := n / 35
def nB (n : Int) : Int := nA n / 5005
def R_frame : List PyData → PyData → Prop := fun ds d => ∃ (m : Tb) (bo pa : Int), getA m "border" = some (.int bo) ∧ getA m "padding" = some (.int pa) ∧ ds = [dS m] ∧ d = .int (bo + pa)
theorem R_frame_i {m : Tb} {bo pa : Int} (h1 : getA m "border" = some (.int bo)) (h2 : getA m "padding" = some (.int pa)) : R_frame [dS m] (.int (bo + pa)) := ⟨m, bo, pa, h1, h2, rfl, rfl⟩
local macro_rules | `(tactic| walk_at "r2") => `(tactic| exact R_frame_i (by assumption) (by assumption))
theorem R_frame_len : ∀ ds d, R_frame ds d → ds.length = 1 := by
  intro ds d hh
  unfold R_frame at hh
  repeat (obtain ⟨_, hh⟩ := hh)
  subst_eqs
  rfl
theorem ok_frame {P : Program} {w : World} {K : PySem.W.Frag} {mg : Str → Option Value} {base : Heap} {f : Addr} {fd : FuncData} (F : FnP K "frame" s_frame f fd) (g0 : mg "frame" = some (.ref f)) : Cal P w K mg base 1 "frame" ["style"] (spD K  R_frame) := by
  refine cal_mk F sc_frame g0 (spD_len R_frame_len) (fun _ _ _ _ _ _ us hl => match us, hl with | [_], _ => rfl) (fun cdv A outer s H vs Q E hr h => ⟨_,
    (pss_cons (ps_ret (pe_op op_add (pe_dget2 (DL.u1 hr.units) (pv 0) pe_str pe_int ⟨rfl, rfl, rfl, rfl⟩) (pe_dget2 (DL.u1 hr.units) (pv 0) pe_str pe_int ⟨rfl, rfl, rfl, rfl⟩)))
     pss_nil), ?_⟩)
  refine run_spD h fun N ds d hR hq => ?_
  obtain ⟨m, bo, pa, h1, h2, rfl, rfl⟩ := hR
  walk_at "env"
  refine gs_ret (ex_i2 (ex_dget2D (ek := ekS) (ev := evS) (a := "border") ekS_inj (ex_var rfl) ex_str ex_int (by rw [h1]; rfl)) (ex_dget2D (ek := ekS) (ev := evS) (a := "padding") ekS_inj (ex_var rfl) ex_str ex_int (by rw [h2]; rfl))) hq
-- END frame
theorem sc_side_margins : FnScope ["style"] ["style"] (defScope s_side_margins) := ⟨rfl, rfl, rfl, by decide +kernel, rfl, by decide +kernel, by decide +kernel⟩
/-! The page: what its history holds. -/
structure Hs where
  cells : List (Key × PyData)
  done : List PyData
abbrev dkO (m : List (Key × PyData)) : SO := .dK (m.map fun p => (p.1, SV.i p.2))
def shapeH (CH : Addr) (h : Hs) : List SO := [.ob CH [("cells", .r 1), ("_done", .r 2), ("_undone", .i (.list []))], dkO h.cells, .lst (h.done.map SV.i)]
theorem dkO_lt (n : Nat) (m : List (Key × PyData)) : SoLt n (dkO m) := fun p hp => by
  obtain ⟨q, _, rfl⟩ := List.mem_map.mp hp
  exact True.intro
theorem shapeH_ok (CH : Addr) (h : Hs) : ShOk 3 (shapeH CH h) := ⟨rfl, fun i o e => by
  match i, e with
  | 0, e => cases e; rfl
  | 1, e => cases e; rfl
  | 2, e => cases e; rfl, ⟨by simp [SoLt, SvLt], dkO_lt _ _, soLt_data, True.intro⟩⟩
/-- the cells with the changes put in -/
def putM (m : List (Key × PyData)) : List (Key × PyData) → List (Key × PyData)
  | [] => m
  | p :: r => putM (setA m p.1 p.2) r
def preH (CH : Addr) (m : List (Key × PyData)) : List SO := [.ob CH [], dkO m]
theorem preH_ok (CH : Addr) (m : List (Key × PyData)) : ShOk 2 (preH CH m) := ⟨rfl, fun i o e => by
  match i, e with
  | 0, e => cases e; rfl
  | 1, e => cases e; rfl, ⟨by simp [SoLt], dkO_lt _ _, True.intro⟩⟩
structure Pg where
  w : Int
  h : Int
  last : Int
  mom : Int
  marked : List (Key × PyData)
  hs : Hs
def shapeP (CP CH : Addr) (p : Pg) : List SO := [.ob CP [("width", .i (.int p.w)), ("height", .i (.int p.h)), ("_last_id", .i (.int p.last)), ("_moment", .i (.int p.mom)), ("_marked", .r 1), ("_history", .r 3)], dkO p.marked, dkO p.hs.cells, .ob CH [("cells", .r 2), ("_done", .r 4), ("_undone", .i (.list []))], .lst (p.hs.done.map SV.i)]
theorem shapeP_ok (CP CH : Addr) (p : Pg) : ShOk 5 (shapeP CP CH p) := ⟨rfl, fun i o e => by
  match i, e with
  | 0, e => cases e; rfl
  | 1, e => cases e; rfl
  | 2, e => cases e; rfl
  | 3, e => cases e; rfl
  | 4, e => cases e; rfl, ⟨by simp [SoLt, SvLt], dkO_lt _ _, dkO_lt _ _, by simp [SoLt, SvLt], soLt_data, True.intro⟩⟩
/-- where the history stands within a page -/
def fHP : Nat → Nat := fun i => if i = 0 then 3 else if i = 1 then 2 else 4
theorem preP_ok (CP : Addr) (u : Unit) : ShOk 1 ((fun _ : Unit => [SO.ob CP []]) u) := ⟨rfl, fun i o e => by
  match i, e with
  | 0, e => cases e; rfl, ⟨by simp [SoLt], True.intro⟩⟩
theorem getA_dkO {k : Key} : ∀ {m : List (Key × PyData)}, getA (m.map fun p => (p.1, SV.i p.2)) k = (getA m k).map SV.i
  | [] => rfl
  | p :: r => by
    show getA ((p.1, SV.i p.2) :: r.map fun p => (p.1, SV.i p.2)) k = _
    unfold getA
    by_cases h : p.1 = k
    · rw [if_pos h, if_pos h]; rfl
    · rw [if_neg h, if_neg h]; exact getA_dkO
theorem setA_dkO {k : Key} {d : PyData} {m : List (Key × PyData)} : setA (m.map fun p => (p.1, SV.i p.2)) k (SV.i d) = (setA m k d).map fun p => (p.1, SV.i p.2) := by
  unfold setA
  rw [getA_dkO, Option.isSome_map]
  by_cases h : (getA m k).isSome = true
  · rw [if_pos h, if_pos h, List.map_map, List.map_map]
    refine List.map_congr_left fun p _ => ?_
    show (p.1, if p.1 = k then SV.i d else SV.i p.2) = (p.1, SV.i (if p.1 = k then d else p.2))
    by_cases hk : p.1 = k
    · rw [if_pos hk, if_pos hk]
    · rw [if_neg hk, if_neg hk]
  · rw [if_neg h, if_neg h, List.map_append]; rfl
theorem setA_lenQ {k : Key} {d : PyData} (m : List (Key × PyData)) : (setA m k d).length ≤ m.length + 1 := by
  unfold setA
  split <;> simp
theorem putM_len : ∀ (c m : List (Key × PyData)), (putM m c).length ≤ m.length + c.length
  | [], m => Nat.le_refl _
  | p :: r, m => by
    have h1 := putM_len r (setA m p.1 p.2)
    have h2 := setA_lenQ (k := p.1) (d := p.2) m
    show (putM (setA m p.1 p.2) r).length ≤ _
    rw [List.length_cons]; omega
theorem putM_snoc : ∀ (a : List (Key × PyData)) (m : List (Key × PyData)) (p : Key × PyData), putM m (a ++ [p]) = setA (putM m a) p.1 p.2
  | [], _, _ => rfl
  | q :: a, m, p => putM_snoc a (setA m q.1 q.2) p
theorem getA_mid {p : Key × PyData} : ∀ {a b : List (Key × PyData)}, ((a ++ p :: b).map (·.1)).Nodup → getA (a ++ p :: b) p.1 = some p.2
  | [], b, _ => by unfold getA; show (if p.1 = p.1 then _ else _) = _; rw [if_pos rfl]
  | q :: a, b, h => by
    rw [List.cons_append, List.map_cons, List.nodup_cons] at h
    have hne : ¬ q.1 = p.1 := fun e => h.1 (by rw [e]; exact List.mem_map.mpr ⟨p, List.mem_append_right _ (List.mem_cons_self ..), rfl⟩)
    show (if q.1 = p.1 then _ else getA (a ++ p :: b) p.1) = _
    rw [if_neg hne]
    exact getA_mid h.2
/-! The tree of a page. -/
structure Rw where
  par : Int
  box : Bool
  con : PyData
  marks : PyData
  own : PyData
  scr : PyData
  kids : List Int
def kdS (b : Bool) : Str := if b then "box" else "text"
def Rw.l (r : Rw) : List PyData := [.int r.par, .str (kdS r.box), r.con, r.marks, r.own, r.scr, .tuple (r.kids.map PyData.int)]
def Rw.d (r : Rw) : PyData := .tuple r.l
def intsOf : List PyData → Option (List Int)
  | [] => some []
  | .int i :: r => (intsOf r).map (i :: ·)
  | _ => none
theorem intsOf_map : ∀ l : List Int, intsOf (l.map PyData.int) = some l
  | [] => rfl
  | i :: l => by show (intsOf (l.map PyData.int)).map (i :: ·) = _; rw [intsOf_map l]; rfl
def kdOf (k : Str) : Option Bool := if k = kdS true then some true else if k = kdS false then some false else none
theorem kdOf_kdS (b : Bool) : kdOf (kdS b) = some b := by cases b <;> decide +kernel
def decR : PyData → Option Rw
  | .tuple [.int p, .str k, c, m, o, s, .tuple ks] => (intsOf ks).bind fun l => (kdOf k).map fun b => ⟨p, b, c, m, o, s, l⟩
  | _ => none
theorem decR_d (r : Rw) : decR r.d = some r := by
  show (intsOf (r.kids.map PyData.int)).bind (fun l => (kdOf (kdS r.box)).map fun b => (⟨r.par, b, r.con, r.marks, r.own, r.scr, l⟩ : Rw)) = _
  rw [intsOf_map, kdOf_kdS]
  rfl
theorem Rw.d_inj {r s : Rw} (h : r.d = s.d) : r = s := Option.some.inj ((decR_d r).symm.trans ((congrArg decR h).trans (decR_d s)))
/-- the tree of the cells -/
def tr (m : List (Key × PyData)) (n : Int) : Option Rw := (getA m (.inl n)).bind decR
/-- what stands under a number is a row -/
def Rows (m : List (Key × PyData)) : Prop := ∀ n d, getA m (.inl n) = some d → ∃ r : Rw, d = r.d ∧ noList r.d = true
theorem tr_get {m : List (Key × PyData)} (h : Rows m) {n : Int} {r : Rw} : tr m n = some r ↔ getA m (.inl n) = some r.d := by
  unfold tr
  constructor
  · intro e
    cases hg : getA m (.inl n) with
    | none => rw [hg] at e; cases e
    | some d =>
      rw [hg] at e
      obtain ⟨r2, rfl, _⟩ := h n d hg
      have e : decR r2.d = some r := e
      rw [decR_d] at e
      cases e
      rfl
  · intro e
    rw [e]
    exact decR_d r
theorem tr_nl {m : List (Key × PyData)} (h : Rows m) {n : Int} {r : Rw} (hr : tr m n = some r) : noList r.d = true := by
  obtain ⟨r2, e, h2⟩ := h n _ ((tr_get h).mp hr)
  rwa [e]
theorem noLists_int : ∀ l : List Int, noLists (l.map PyData.int) = true
  | [] => rfl
  | _ :: l => by rw [List.map_cons]; show (true && noLists (l.map PyData.int)) = true; rw [noLists_int l]; rfl
theorem noList_kids {r : Rw} {l : List Int} (h : noList r.d = true) : noList ({ r with kids := l } : Rw).d = true := by
  simp only [Rw.d, Rw.l, noList, noLists, noLists_int] at h ⊢
  exact h
abbrev Tree := Int → Option Rw
/-- the nodes below n, in document order -/
def pre (t : Tree) : Nat → Int → List Int
  | 0, _ => []
  | f + 1, n => match t n with
    | none => []
    | some r => n :: (r.kids.map (pre t f)).flatten
def sub (t : Tree) (n : Int) : List Int := pre t 31 n
def dp (t : Tree) : Nat → Int → Nat
  | 0, _ => 0
  | f + 1, n => match t n with
    | none => 0
    | some r => if r.par = 0 then 1 else dp t f r.par + 1
def depth (t : Tree) (n : Int) : Nat := dp t 31 n
structure WF (t : Tree) (last : Int) (dep : Int → Nat) : Prop where
  root : ∃ r, t 1 = some r ∧ r.par = 0 ∧ r.box = true
  d1 : dep 1 = 1
  kid : ∀ n r c, t n = some r → c ∈ r.kids → ∃ rc, t c = some rc ∧ rc.par = n ∧ dep c = dep n + 1
  par : ∀ n r, t n = some r → n ≠ 1 → ∃ rp, t r.par = some rp ∧ rp.box = true ∧ n ∈ rp.kids
  nd : ∀ n r, t n = some r → r.kids.Nodup
  dep30 : ∀ n r, t n = some r → 1 ≤ dep n ∧ dep n ≤ 30
  id : ∀ n r, t n = some r → 1 ≤ n ∧ n ≤ last
  txt : ∀ n r, t n = some r → r.box = false → r.kids = []
section
variable {t : Tree} {last : Int} {dep : Int → Nat}
theorem pre_eq (W : WF t last dep) : ∀ (f g : Nat) (n : Int) (r : Rw), t n = some r → 31 - dep n ≤ f → 31 - dep n ≤ g → pre t f n = pre t g n
  | 0, g, n, r, h, h1, h2 => by have := W.dep30 n r h; omega
  | f + 1, 0, n, r, h, h1, h2 => by have := W.dep30 n r h; omega
  | f + 1, g + 1, n, r, h, h1, h2 => by
    show (match t n with | none => [] | some r => n :: (r.kids.map (pre t f)).flatten) = (match t n with | none => [] | some r => n :: (r.kids.map (pre t g)).flatten)
    rw [h]
    show n :: (r.kids.map (pre t f)).flatten = n :: (r.kids.map (pre t g)).flatten
    rw [List.map_congr_left (fun c hc => by
      obtain ⟨rc, e1, _, e3⟩ := W.kid n r c h hc
      exact pre_eq W f g c rc e1 (by omega) (by omega))]
theorem sub_eq (W : WF t last dep) {n : Int} {r : Rw} (h : t n = some r) : sub t n = n :: (r.kids.map (sub t)).flatten := by
  have e : sub t n = pre t 32 n := pre_eq W 31 32 n r h (by omega) (by omega)
  rw [e]
  show (match t n with | none => [] | some r => n :: (r.kids.map (pre t 31)).flatten) = _
  rw [h]
  rfl
theorem sub_self (W : WF t last dep) {n : Int} {r : Rw} (h : t n = some r) : n ∈ sub t n := by rw [sub_eq W h]; exact List.mem_cons_self ..
/-- below n: n itself, or below a child of it -/
theorem mem_sub (W : WF t last dep) {n x : Int} {r : Rw} (h : t n = some r) : x ∈ sub t n ↔ x = n ∨ ∃ c ∈ r.kids, x ∈ sub t c := by
  rw [sub_eq W h, List.mem_cons, List.mem_flatten]
  constructor
  · rintro (e | ⟨l, hl, hx⟩)
    · exact Or.inl e
    · obtain ⟨c, hc, rfl⟩ := List.mem_map.mp hl
      exact Or.inr ⟨c, hc, hx⟩
  · rintro (e | ⟨c, hc, hx⟩)
    · exact Or.inl e
    · exact Or.inr ⟨_, List.mem_map.mpr ⟨c, hc, rfl⟩, hx⟩
theorem sub_in (W : WF t last dep) : ∀ (k : Nat) {n x : Int} {r : Rw}, 31 - dep n ≤ k → t n = some r → x ∈ sub t n → ∃ rx, t x = some rx ∧ dep n ≤ dep x
  | 0, n, x, r, hk, h, hx => by have := W.dep30 n r h; omega
  | k + 1, n, x, r, hk, h, hx => by
    rcases (mem_sub W h).mp hx with e | ⟨c, hc, hx⟩
    · subst e; exact ⟨r, h, Nat.le_refl _⟩
    · obtain ⟨rc, e1, _, e3⟩ := W.kid n r c h hc
      obtain ⟨rx, z1, z2⟩ := sub_in W k (n := c) (by omega) e1 hx
      exact ⟨rx, z1, by omega⟩
theorem sub_some (W : WF t last dep) {n x : Int} {r : Rw} (h : t n = some r) (hx : x ∈ sub t n) : ∃ rx, t x = some rx ∧ dep n ≤ dep x := sub_in W _ (Nat.le_refl _) h hx
/-- .. then its parent is below n, too -/
theorem sub_par (W : WF t last dep) : ∀ (k : Nat) {n x : Int} {r rx : Rw}, 31 - dep n ≤ k → t n = some r → t x = some rx → x ∈ sub t n → x = n ∨ rx.par ∈ sub t n
  | 0, n, x, r, rx, hk, h, _, hx => by have := W.dep30 n r h; omega
  | k + 1, n, x, r, rx, hk, h, hr, hx => by
    rcases (mem_sub W h).mp hx with e | ⟨c, hc, hx⟩
    · exact Or.inl e
    · obtain ⟨rc, e1, e2, e3⟩ := W.kid n r c h hc
      rcases sub_par W k (n := c) (by omega) e1 hr hx with e | z
      · subst e
        rw [hr] at e1
        cases e1
        rw [e2]
        exact Or.inr (sub_self W h)
      · exact Or.inr ((mem_sub W h).mpr (Or.inr ⟨c, hc, z⟩))
theorem sub_dep (W : WF t last dep) {n x : Int} {r : Rw} (h : t n = some r) (hx : x ∈ sub t n) (hd : dep x = dep n) : x = n := by
  rcases (mem_sub W h).mp hx with e | ⟨c, hc, hx⟩
  · exact e
  · obtain ⟨rc, e1, e2, e3⟩ := W.kid n r c h hc
    obtain ⟨rx, z1, z2⟩ := sub_some W e1 hx
    omega
/-- two nodes of one depth have nothing in common below -/
theorem sub_disj (W : WF t last dep) {a b : Int} {ra rb : Rw} (ha : t a = some ra) (hb : t b = some rb) (hd : dep a = dep b) : ∀ (k : Nat) (x : Int), dep x ≤ k → x ∈ sub t a → x ∈ sub t b → a = b
  | k, x, hk, xa, xb => by
    obtain ⟨rx, hx, h1⟩ := sub_some W ha xa
    rcases sub_par W _ (Nat.le_refl _) ha hx xa with e | pa
    · exact sub_dep W hb (e ▸ xb) (e ▸ hd)
    · rcases sub_par W _ (Nat.le_refl _) hb hx xb with e | pb
      · exact (sub_dep W ha (e ▸ xa) (e ▸ hd.symm)).symm
      · obtain ⟨rp, hp, h2⟩ := sub_some W ha pa
        have h3 := (W.dep30 _ _ hp).1
        have hx1 : x ≠ 1 := fun e => by
          obtain ⟨r1, g1, g2, _⟩ := W.root
          subst e
          rw [hx] at g1
          cases g1
          rw [g2] at hp
          have := (W.id _ _ hp).1
          omega
        obtain ⟨rq, e1, _, e3⟩ := W.par x rx hx hx1
        obtain ⟨_, _, _, e4⟩ := W.kid _ rq x e1 e3
        match k, hk with
        | 0, hk => omega
        | k + 1, hk => exact sub_disj W ha hb hd k rx.par (by omega) pa pb
theorem sub_nodup (W : WF t last dep) : ∀ (k : Nat) {n : Int} {r : Rw}, 31 - dep n ≤ k → t n = some r → (sub t n).Nodup
  | 0, n, r, hk, h => by have := W.dep30 n r h; omega
  | k + 1, n, r, hk, h => by
    rw [sub_eq W h, List.nodup_cons]
    constructor
    · rw [List.mem_flatten]
      rintro ⟨l, hl, hx⟩
      obtain ⟨c, hc, rfl⟩ := List.mem_map.mp hl
      obtain ⟨rc, e1, e2, e3⟩ := W.kid n r c h hc
      obtain ⟨_, _, z⟩ := sub_some W e1 hx
      omega
    · refine List.pairwise_flatten.mpr ⟨fun l hl => ?_, ?_⟩
      · obtain ⟨c, hc, rfl⟩ := List.mem_map.mp hl
        obtain ⟨rc, e1, e2, e3⟩ := W.kid n r c h hc
        exact sub_nodup W k (n := c) (by omega) e1
      · rw [List.pairwise_map]
        refine List.Pairwise.imp_of_mem ?_ (W.nd n r h)
        intro a b ha hb hab x hx y hy hxy
        obtain ⟨ra, e1, _, e3⟩ := W.kid n r a h ha
        obtain ⟨rb, g1, _, g3⟩ := W.kid n r b h hb
        subst hxy
        exact hab (sub_disj W e1 g1 (by omega) _ x (Nat.le_refl _) hx hy)
theorem sub_nd (W : WF t last dep) {n : Int} {r : Rw} (h : t n = some r) : (sub t n).Nodup := sub_nodup W _ (Nat.le_refl _) h
theorem kid_sub (W : WF t last dep) : ∀ (k : Nat) {n x c : Int} {r rx : Rw}, 31 - dep n ≤ k → t n = some r → x ∈ sub t n → t x = some rx → c ∈ rx.kids → c ∈ sub t n
  | 0, n, _, _, r, _, hk, h, _, _, _ => by have := W.dep30 n r h; omega
  | k + 1, n, x, c, r, rx, hk, h, hx, hrx, hc => by
    rcases (mem_sub W h).mp hx with e | ⟨a, ha, hx⟩
    · subst e
      rw [hrx] at h
      cases h
      obtain ⟨rc, e1, _, _⟩ := W.kid x _ c hrx hc
      exact (mem_sub W hrx).mpr (Or.inr ⟨c, hc, sub_self W e1⟩)
    · obtain ⟨ra, e1, _, e3⟩ := W.kid n r a h ha
      exact (mem_sub W h).mpr (Or.inr ⟨a, ha, kid_sub W k (n := a) (by omega) e1 hx hrx hc⟩)
theorem all_sub (W : WF t last dep) : ∀ (k : Nat) {n : Int} {r : Rw}, dep n ≤ k → t n = some r → n ∈ sub t 1
  | 0, n, r, hk, h => by have := (W.dep30 n r h).1; omega
  | k + 1, n, r, hk, h => by
    obtain ⟨r1, g1, g2, _⟩ := W.root
    by_cases e : n = 1
    · subst e; exact sub_self W h
    · obtain ⟨rp, e1, _, e3⟩ := W.par n r h e
      obtain ⟨_, _, _, e4⟩ := W.kid _ rp n e1 e3
      exact kid_sub W _ (Nat.le_refl _) g1 (all_sub W k (n := r.par) (by omega) e1) e1 e3
theorem mem_all (W : WF t last dep) {n : Int} : n ∈ sub t 1 ↔ (t n).isSome = true := by
  obtain ⟨r1, g1, _, _⟩ := W.root
  constructor
  · intro h
    obtain ⟨rx, e, _⟩ := sub_some W g1 h
    rw [e]; rfl
  · intro h
    obtain ⟨r, e⟩ := Option.isSome_iff_exists.mp h
    exact all_sub W _ (Nat.le_refl _) e
theorem sub_le (W : WF t last dep) {n : Int} {r : Rw} (h : t n = some r) : (sub t n).length ≤ (sub t 1).length :=
  List.Nodup.length_le_of_subset (sub_nd W h) fun x hx => by
    obtain ⟨rx, e, _⟩ := sub_some W h hx
    exact (mem_all W).mpr (by rw [e]; rfl)
theorem dp_eq (W : WF t last dep) : ∀ (f : Nat) {n : Int} {r : Rw}, t n = some r → dep n ≤ f → dp t f n = dep n
  | 0, n, r, h, hf => by have := (W.dep30 n r h).1; omega
  | f + 1, n, r, h, hf => by
    show (match t n with | none => 0 | some r => if r.par = 0 then 1 else dp t f r.par + 1) = _
    rw [h]
    show (if r.par = 0 then 1 else dp t f r.par + 1) = _
    by_cases e : n = 1
    · obtain ⟨r1, g1, g2, _⟩ := W.root
      subst e
      rw [h] at g1
      cases g1
      rw [if_pos g2, W.d1]
    · obtain ⟨rp, e1, _, e3⟩ := W.par n r h e
      obtain ⟨_, _, _, e4⟩ := W.kid _ rp n e1 e3
      have := (W.id _ _ e1).1
      rw [if_neg (by omega), dp_eq W f e1 (by omega)]
      omega
theorem depth_eq (W : WF t last dep) {n : Int} {r : Rw} (h : t n = some r) : depth t n = dep n := dp_eq W 31 h (by have := W.dep30 n r h; omega)
end
/-! ### a new node -/
def setT (t : Tree) (n : Int) (r : Option Rw) : Tree := fun k => if k = n then r else t k
def insL (l : List Int) (i : Nat) (c : Int) : List Int := l.take i ++ [c] ++ l.drop i
theorem mem_insL {l : List Int} {i : Nat} {c x : Int} : x ∈ insL l i c ↔ x = c ∨ x ∈ l := by
  unfold insL
  constructor
  · intro h
    simp only [List.mem_append, List.mem_singleton] at h
    rcases h with (h | h) | h
    · exact Or.inr (List.mem_of_mem_take h)
    · exact Or.inl h
    · exact Or.inr (List.mem_of_mem_drop h)
  · intro h
    simp only [List.mem_append, List.mem_singleton]
    rcases h with h | h
    · exact Or.inl (Or.inr h)
    · rw [← List.take_append_drop i l] at h
      rcases List.mem_append.mp h with h | h
      · exact Or.inl (Or.inl h)
      · exact Or.inr h
theorem nodup_insL {l : List Int} {i : Nat} {c : Int} (h : l.Nodup) (hc : c ∉ l) : (insL l i c).Nodup := by
  unfold insL
  have h2 := h
  rw [← List.take_append_drop i l, List.nodup_append] at h2
  obtain ⟨a1, a2, a3⟩ := h2
  rw [List.append_assoc, List.nodup_append]
  refine ⟨a1, ?_, fun a ha b hb => ?_⟩
  · rw [List.singleton_append, List.nodup_cons]
    exact ⟨fun z => hc (List.mem_of_mem_drop z), a2⟩
  · rw [List.singleton_append] at hb
    rcases List.mem_cons.mp hb with e | hb
    · subst e; exact fun e => hc (e ▸ List.mem_of_mem_take ha)
    · exact a3 a ha b hb
def insT (t : Tree) (p : Int) (rp : Rw) (i : Nat) (n : Int) (r : Rw) : Tree := setT (setT t p (some { rp with kids := insL rp.kids i n })) n (some r)
theorem wf_ins {t : Tree} {last : Int} {dep : Int → Nat} (W : WF t last dep) {p : Int} {rp r : Rw} {i : Nat} (hp : t p = some rp) (hb : rp.box = true) (hd : dep p + 1 ≤ 30) (hr : r.par = p) (hk : r.kids = []) : WF (insT t p rp i (last + 1) r) (last + 1) (fun k => if k = last + 1 then dep p + 1 else dep k) := by
  obtain ⟨r1, g1, g2, g3⟩ := W.root
  have hpl := W.id p rp hp
  have hfree : t (last + 1) = none := by
    cases h : t (last + 1) with
    | none => rfl
    | some q => have := (W.id _ _ h).2; omega
  have gN : insT t p rp i (last + 1) r (last + 1) = some r := by unfold insT setT; rw [if_pos rfl]
  have gP : insT t p rp i (last + 1) r p = some { rp with kids := insL rp.kids i (last + 1) } := by unfold insT setT; rw [if_neg (by omega), if_pos rfl]
  have gO : ∀ k, k ≠ last + 1 → k ≠ p → insT t p rp i (last + 1) r k = t k := fun k h1 h2 => by unfold insT setT; rw [if_neg h1, if_neg h2]
  have h1l := W.id 1 r1 g1
  have dN : ∀ k q, t k = some q → (if k = last + 1 then dep p + 1 else dep k) = dep k := fun k q h => by
    have := (W.id k q h).2
    rw [if_neg (by omega)]
  -- what stands in the new tree
  have cs : ∀ k q, insT t p rp i (last + 1) r k = some q → (k = last + 1 ∧ q = r) ∨ (k ≠ last + 1 ∧ ∃ q0, t k = some q0 ∧ q.par = q0.par ∧ q.box = q0.box ∧ ((k ≠ p ∧ q = q0) ∨ (k = p ∧ q0 = rp ∧ q.kids = insL rp.kids i (last + 1)))) := fun k q h => by
    by_cases e1 : k = last + 1
    · subst e1; rw [gN] at h; cases h; exact Or.inl ⟨rfl, rfl⟩
    · by_cases e2 : k = p
      · subst e2; rw [gP] at h; cases h; exact Or.inr ⟨e1, rp, hp, rfl, rfl, Or.inr ⟨rfl, rfl, rfl⟩⟩
      · rw [gO k e1 e2] at h; exact Or.inr ⟨e1, q, h, rfl, rfl, Or.inl ⟨e2, rfl⟩⟩
  -- what stood stands
  have up : ∀ k q0, t k = some q0 → ∃ q, insT t p rp i (last + 1) r k = some q ∧ q.par = q0.par ∧ q.box = q0.box ∧ ∀ c ∈ q0.kids, c ∈ q.kids := fun k q0 h => by
    have e1 : k ≠ last + 1 := by have := (W.id k q0 h).2; omega
    by_cases e2 : k = p
    · subst e2
      rw [hp] at h
      cases h
      exact ⟨_, gP, rfl, rfl, fun c hc => mem_insL.mpr (Or.inr hc)⟩
    · exact ⟨q0, (gO k e1 e2).trans h, rfl, rfl, fun c hc => hc⟩
  refine ⟨?_, ?_, ?_, ?_, ?_, ?_, ?_, ?_⟩
  · obtain ⟨q, a, b, c, _⟩ := up 1 r1 g1
    exact ⟨q, a, b.trans g2, c.trans g3⟩
  · show (if (1 : Int) = last + 1 then _ else _) = 1
    rw [dN 1 r1 g1]
    exact W.d1
  · intro n q c hn hc
    rcases cs n q hn with ⟨e, rfl⟩ | ⟨e, q0, h0, _, _, ⟨e2, rfl⟩ | ⟨rfl, rfl, e3⟩⟩
    · rw [hk] at hc; cases hc
    · obtain ⟨rc, z1, z2, z3⟩ := W.kid n q c h0 hc
      obtain ⟨q2, y1, y2, _⟩ := up c rc z1
      refine ⟨q2, y1, y2.trans z2, ?_⟩
      show (if c = last + 1 then _ else _) = (if n = last + 1 then _ else _) + 1
      rw [dN c rc z1, dN n q h0, z3]
    · rw [e3] at hc
      rcases mem_insL.mp hc with rfl | hc
      · refine ⟨r, gN, hr, ?_⟩
        show (if last + 1 = last + 1 then _ else _) = (if n = last + 1 then _ else _) + 1
        rw [if_pos rfl, if_neg e]
      · obtain ⟨rc, z1, z2, z3⟩ := W.kid n q0 c h0 hc
        obtain ⟨q2, y1, y2, _⟩ := up c rc z1
        refine ⟨q2, y1, y2.trans z2, ?_⟩
        show (if c = last + 1 then _ else _) = (if n = last + 1 then _ else _) + 1
        rw [dN c rc z1, dN n q0 h0, z3]
  · intro n q hn h1
    rcases cs n q hn with ⟨rfl, rfl⟩ | ⟨e, q0, h0, e4, _, _⟩
    · rw [hr]
      exact ⟨_, gP, hb, mem_insL.mpr (Or.inl rfl)⟩
    · obtain ⟨rq, z1, z2, z3⟩ := W.par n q0 h0 h1
      obtain ⟨q2, y1, _, y3, y4⟩ := up _ rq z1
      rw [e4]
      exact ⟨q2, y1, y3.trans z2, y4 _ z3⟩
  · intro n q hn
    rcases cs n q hn with ⟨rfl, rfl⟩ | ⟨e, q0, h0, e4, _, ⟨e2, rfl⟩ | ⟨rfl, rfl, e3⟩⟩
    · rw [hk]; exact List.nodup_nil
    · exact W.nd n q h0
    · rw [e3]
      refine nodup_insL (W.nd n q0 h0) fun z => ?_
      obtain ⟨rc, z1, _⟩ := W.kid n q0 _ h0 z
      rw [hfree] at z1
      cases z1
  · intro n q hn
    show 1 ≤ (if n = last + 1 then _ else _) ∧ (if n = last + 1 then _ else _) ≤ 30
    rcases cs n q hn with ⟨rfl, rfl⟩ | ⟨e, q0, h0, _⟩
    · rw [if_pos rfl]; omega
    · rw [if_neg e]; exact W.dep30 n q0 h0
  · intro n q hn
    rcases cs n q hn with ⟨rfl, rfl⟩ | ⟨e, q0, h0, _⟩
    · omega
    · have := W.id n q0 h0; omega
  · intro n q hn h1
    rcases cs n q hn with ⟨rfl, rfl⟩ | ⟨e, q0, h0, _, e5, ⟨e2, rfl⟩ | ⟨rfl, rfl, e3⟩⟩
    · exact hk
    · exact W.txt n q h0 h1
    · rw [e5, hb] at h1; cases h1
theorem count_ins {t : Tree} {last : Int} {dep : Int → Nat} (W : WF t last dep) {p : Int} {rp r : Rw} {i : Nat} (hp : t p = some rp) (hb : rp.box = true) (hd : dep p + 1 ≤ 30) (hr : r.par = p) (hk : r.kids = []) : (sub (insT t p rp i (last + 1) r) 1).length = (sub t 1).length + 1 := by
  have W2 := wf_ins W (i := i) hp hb hd hr hk
  obtain ⟨r1, g1, _⟩ := W.root
  obtain ⟨r2, g2, _⟩ := W2.root
  have hfree : t (last + 1) = none := by
    cases h : t (last + 1) with
    | none => rfl
    | some q => have := (W.id _ _ h).2; omega
  have key : ∀ x, x ∈ sub (insT t p rp i (last + 1) r) 1 ↔ x ∈ (last + 1) :: sub t 1 := fun x => by
    rw [mem_all W2, List.mem_cons, mem_all W]
    unfold insT setT
    by_cases e : x = last + 1
    · simp [e]
    · by_cases e2 : x = p
      · have := (W.id p rp hp).2
        have e3 : ¬ p = last + 1 := by omega
        simp [e2, hp, e3]
      · simp [e, e2]
  have nd : ((last + 1) :: sub t 1).Nodup := by
    rw [List.nodup_cons]
    refine ⟨fun z => ?_, sub_nd W g1⟩
    rw [mem_all W, hfree] at z
    cases z
  have h1 := List.Nodup.length_le_of_subset (sub_nd W2 g2) fun x hx => (key x).mp hx
  have h2 := List.Nodup.length_le_of_subset nd fun x hx => (key x).mpr hx
  rw [List.length_cons] at h1 h2
  omega
/-! A page as data, and what holds of it. -/
abbrev hsM (h : Hs) : List (Str × PyData) := [("cells", dK0 h.cells), ("_done", .list h.done), ("_undone", .list [])]
abbrev pgM (CH : Addr) (p : Pg) : List (Str × PyData) := [("width", .int p.w), ("height", .int p.h), ("_last_id", .int p.last), ("_moment", .int p.mom), ("_marked", dK0 p.marked), ("_history", insD CH (hsM p.hs))]
abbrev pgD (CP CH : Addr) (p : Pg) : PyData := insD CP (pgM CH p)
/-- a page in the store, read as data -/
theorem pg_dat {CP CH : Addr} {p : Pg} {os : List SO} {b m k cl dn : Nat} (h0 : os[b]? = some (.ob CP [("width", .i (.int p.w)), ("height", .i (.int p.h)), ("_last_id", .i (.int p.last)), ("_moment", .i (.int p.mom)), ("_marked", .r m), ("_history", .r k)])) (h1 : os[m]? = some (dkO p.marked)) (h2 : os[cl]? = some (dkO p.hs.cells)) (h3 : os[k]? = some (.ob CH [("cells", .r cl), ("_done", .r dn), ("_undone", .i (.list []))])) (h4 : os[dn]? = some (.lst (p.hs.done.map SV.i))) : DatO os (.r b) (pgD CP CH p) :=
  .ob h0 (.cons (.i _) (.cons (.i _) (.cons (.i _) (.cons (.i _) (.cons (.dK h1 (DatK.i _)) (.cons (.ob h3 (.cons (.dK h2 (DatK.i _)) (.cons (.lst h4 (DatL.i _)) (.cons (.i _) .nil)))) .nil))))))
theorem pg_datS (CP CH : Addr) (p : Pg) : DatO (shapeP CP CH p) (.r 0) (pgD CP CH p) := pg_dat (m := 1) (k := 3) (cl := 2) (dn := 4) rfl rfl rfl rfl rfl
/-- the tree of a page -/
abbrev Pg.t (p : Pg) : Tree := tr p.hs.cells
/-- what holds of a page -/
structure PgOk (p : Pg) : Prop where
  rows : Rows p.hs.cells
  wf : ∃ dep, WF p.t p.last dep
  win : getA p.hs.cells (.inr "window") = some (.tuple [.int p.w, .int p.h])
  n300 : (sub p.t 1).length ≤ 300
  cl : p.hs.cells.length ≤ p.hs.done.length + 3
  dn : p.hs.done.length ≤ 4000
  mkd : (p.marked.map (·.1)).Nodup ∧ (∀ q ∈ p.marked, ∃ n : Int, q.1 = .inl n ∧ 1 ≤ n ∧ n ≤ p.last)
  ls : p.last ≤ p.hs.done.length + 1
theorem nodup_ints : ∀ {l : List Int} {m : Nat}, l.Nodup → (∀ n ∈ l, 1 ≤ n ∧ n ≤ (m : Int)) → l.length ≤ m := fun {l m} h hb => by
  have h2 : ((List.range m).map fun i => ((i + 1 : Nat) : Int)).length = m := by simp
  have := List.Nodup.length_le_of_subset (l₂ := (List.range m).map fun i => ((i + 1 : Nat) : Int)) h fun x hx => by
    obtain ⟨a, b⟩ := hb x hx
    refine List.mem_map.mpr ⟨x.toNat - 1, List.mem_range.mpr (by omega), by omega⟩
  omega
theorem PgOk.mkl {p : Pg} (h : PgOk p) : p.marked.length ≤ 4001 := by
  have h2 := h.ls
  have h3 := h.dn
  obtain ⟨a, b⟩ := h.mkd
  have hl : ∃ l : List Int, p.marked.map (·.1) = l.map Sum.inl ∧ ∀ n ∈ l, 1 ≤ n ∧ n ≤ p.last := by
    clear a
    generalize p.marked = mm at b
    induction mm with
    | nil => exact ⟨[], rfl, fun _ h => absurd h List.not_mem_nil⟩
    | cons q mm ih =>
      obtain ⟨l, e, hl⟩ := ih fun q hq => b q (List.mem_cons_of_mem _ hq)
      obtain ⟨n, e1, e2⟩ := b q (List.mem_cons_self ..)
      refine ⟨n :: l, by rw [List.map_cons, e, e1]; rfl, fun k hk => ?_⟩
      rcases List.mem_cons.mp hk with z | z
      · rw [z]; exact e2
      · exact hl k z
  obtain ⟨l, e, hl⟩ := hl
  have hn : l.Nodup := by
    rw [e] at a
    exact List.Pairwise.of_map _ (fun x y hxy e => hxy (congrArg Sum.inl e)) a
  have := nodup_ints (m := 4001) hn fun n hn => by have := hl n hn; omega
  have e2 := congrArg List.length e
  rw [List.length_map, List.length_map] at e2
  omega
/-! What a step does to a page. -/
def winOf (m : List (Key × PyData)) : Int × Int := match getA m (.inr "window") with | some (.tuple [.int w, .int h]) => (w, h) | _ => (0, 0)
def below (m : List (Key × PyData)) (n : Int) : List Int := if (getA m (.inl n)).isSome then sub (tr m) n else []
def markM (m : List (Key × PyData)) (l : List Int) (t : Int) : List (Key × PyData) := putM m (l.map fun k => ((.inl k : Key), PyData.int t))
def follow (p : Pg) (n : Int) : Pg := { p with w := (winOf p.hs.cells).1, h := (winOf p.hs.cells).2, mom := p.mom + 1, marked := markM p.marked (below p.hs.cells n) (p.mom + 1) }
structure FolOk (p : Pg) (n : Int) : Prop where
  win : getA p.hs.cells (.inr "window") = some (.tuple [.int (winOf p.hs.cells).1, .int (winOf p.hs.cells).2])
  br : getA p.hs.cells (.inl n) = none ∨ ∃ last dep r, Rows p.hs.cells ∧ WF (tr p.hs.cells) last dep ∧ (sub (tr p.hs.cells) 1).length ≤ 300 ∧ tr p.hs.cells n = some r
  mkl : p.marked.length ≤ 90000
theorem markM_snoc (m : List (Key × PyData)) (l : List Int) (k t : Int) : markM m (l ++ [k]) t = setA (markM m l t) (.inl k) (.int t) := by
  unfold markM
  rw [List.map_append]
  exact putM_snoc _ m _
theorem markM_len (m : List (Key × PyData)) (l : List Int) (t : Int) : (markM m l t).length ≤ m.length + l.length := by
  have := putM_len (l.map fun k => ((.inl k : Key), PyData.int t)) m
  rw [List.length_map] at this
  exact this
/-- what the cells held before -/
def befM (m c : List (Key × PyData)) : List (Key × PyData) := dcM (fun p : Key × PyData => p.1) (fun p : Key × PyData => (getA m p.1).getD .none) c
def wroteH (h : Hs) (c : List (Key × PyData)) (nt : PyData) : Hs := ⟨putM h.cells c, h.done ++ [.tuple [dK0 (befM h.cells c), dK0 c, nt]]⟩
def wrote (p : Pg) (c : List (Key × PyData)) (nt : Int) : Pg := { p with hs := wroteH p.hs c (.int nt) }
structure WrOk (h : Hs) (c : List (Key × PyData)) : Prop where
  nd : (c.map (·.1)).Nodup
  nn : ∀ q ∈ c, q.2 ≠ .none
  cl : c.length ≤ 5000
  hl : h.cells.length ≤ 5000
  dl : h.done.length < 90000
/-- where the history stands within a page -/
theorem segHP (CP CH : Addr) (p : Pg) : SegAt fHP 3 (shapeH CH) (fun hs => shapeP CP CH { p with hs := hs }) := ⟨fun i j hi hj e => by
  match i, j, hi, hj, e with
  | 0, 0, _, _, _ => rfl
  | 0, 1, _, _, e => cases e
  | 0, 2, _, _, e => cases e
  | 1, 0, _, _, e => cases e
  | 1, 1, _, _, _ => rfl
  | 1, 2, _, _, e => cases e
  | 2, 0, _, _, e => cases e
  | 2, 1, _, _, e => cases e
  | 2, 2, _, _, _ => rfl, shapeH_ok CH, fun x i o e => by
  match i, e with
  | 0, e => cases e; rfl
  | 1, e => cases e; exact congrArg some (reS_dk _ _).symm
  | 2, e => cases e; exact congrArg some (reS_ls _ _).symm, fun x y => rfl, fun x y j hj => by
  match j, hj with
  | 0, _ => rfl
  | 1, _ => rfl
  | 2, hj => exact absurd rfl (hj 1 (by decide))
  | 3, hj => exact absurd rfl (hj 0 (by decide))
  | 4, hj => exact absurd rfl (hj 2 (by decide))
  | _ + 5, _ => rfl⟩
theorem getA_putM : ∀ (c m : List (Key × PyData)) (k : Key), (c.map (·.1)).Nodup → getA (putM m c) k = (getA c k).or (getA m k)
  | [], m, k, _ => rfl
  | p :: c, m, k, h => by
    rw [List.map_cons, List.nodup_cons] at h
    show getA (putM (setA m p.1 p.2) c) k = _
    rw [getA_putM c _ k h.2, getA_set, getA_cons]
    by_cases e : k = p.1
    · subst e
      rw [if_pos rfl, if_pos rfl]
      have : getA c p.1 = none := getA_none.mpr fun q hq e => h.1 (List.mem_map.mpr ⟨q, hq, e⟩)
      rw [this]
      rfl
    · rw [if_neg e, if_neg (fun z => e z.symm)]
/-- the keys of a table that is written to -/
theorem putM_keys : ∀ (c m : List (Key × PyData)), (∀ k, k ∈ (putM m c).map (·.1) → k ∈ m.map (·.1) ∨ k ∈ c.map (·.1)) ∧ ((m.map (·.1)).Nodup → ((putM m c).map (·.1)).Nodup)
  | [], m => ⟨fun k h => Or.inl h, id⟩
  | p :: c, m => by
    obtain ⟨h1, h2⟩ := putM_keys c (setA m p.1 p.2)
    refine ⟨fun k h => ?_, fun h => h2 (setA_nodup _ _ h)⟩
    rcases h1 k h with z | z
    · rw [setA_keys] at z
      split at z
      · exact Or.inl z
      · rcases List.mem_append.mp z with y | y
        · exact Or.inl y
        · exact Or.inr (by rw [List.map_cons, List.mem_singleton.mp y]; exact List.mem_cons_self ..)
    · exact Or.inr (by rw [List.map_cons]; exact List.mem_cons_of_mem _ z)
/-- a node is put in -/
def insC (p : Pg) (i : Nat) (r : Rw) : List (Key × PyData) := match p.t r.par with
  | some rp => [(.inl r.par, ({ rp with kids := insL rp.kids i (p.last + 1) } : Rw).d), (.inl (p.last + 1), r.d)]
  | none => []
def insW (p : Pg) (i : Nat) (r : Rw) : Pg := wrote { p with last := p.last + 1 } (insC p i r) (p.last + 1)
def insP (p : Pg) (i : Nat) (r : Rw) : Pg := follow (insW p i r) (p.last + 1)
structure InsOk (p : Pg) (i : Nat) (r : Rw) (rp : Rw) : Prop where
  ok : PgOk p
  par : p.t r.par = some rp
  box : rp.box = true
  ix : i ≤ rp.kids.length
  dep : depth p.t r.par + 1 ≤ 30
  many : (sub p.t 1).length + 1 ≤ 300
  dn : p.hs.done.length < 4000
  kids : r.kids = []
  nl : noList r.d = true
theorem insC_eq {p : Pg} {i : Nat} {r rp : Rw} (h : p.t r.par = some rp) : insC p i r = [(.inl r.par, ({ rp with kids := insL rp.kids i (p.last + 1) } : Rw).d), (.inl (p.last + 1), r.d)] := by unfold insC; rw [h]
section
variable {p : Pg} {i : Nat} {r rp : Rw}
theorem InsOk.ne (h : InsOk p i r rp) : r.par ≠ p.last + 1 := by
  obtain ⟨dep, W⟩ := h.ok.wf
  have := (W.id _ _ h.par).2
  omega
theorem InsOk.nd (h : InsOk p i r rp) : ((insC p i r).map (·.1)).Nodup := by
  rw [insC_eq h.par]
  simp only [List.map_cons, List.map_nil, List.nodup_cons, List.mem_singleton, List.not_mem_nil, not_false_eq_true, List.nodup_nil, and_true]
  intro e
  injection e with e
  exact h.ne e
theorem InsOk.get (h : InsOk p i r rp) (k : Key) : getA (insW p i r).hs.cells k = if k = .inl (p.last + 1) then some r.d else if k = .inl r.par then some ({ rp with kids := insL rp.kids i (p.last + 1) } : Rw).d else getA p.hs.cells k := by
  show getA (putM p.hs.cells (insC p i r)) k = _
  rw [getA_putM _ _ _ h.nd, insC_eq h.par, getA_cons, getA_cons]
  have hne := h.ne
  by_cases e1 : k = .inl (p.last + 1)
  · subst e1
    rw [if_neg (fun e => by injection e with e; exact hne e), if_pos rfl, if_pos rfl]
    rfl
  · by_cases e2 : k = .inl r.par
    · subst e2
      rw [if_pos rfl, if_neg e1, if_pos rfl]
      rfl
    · rw [if_neg (fun e => e2 e.symm), if_neg (fun e => e1 e.symm), if_neg e1, if_neg e2]
      rfl
theorem InsOk.rows (h : InsOk p i r rp) : Rows (insW p i r).hs.cells := fun n d hd => by
  rw [h.get] at hd
  split at hd
  · cases hd; exact ⟨_, rfl, h.nl⟩
  · split at hd
    · cases hd; exact ⟨_, rfl, noList_kids (tr_nl h.ok.rows h.par)⟩
    · exact h.ok.rows n d hd
theorem InsOk.tree (h : InsOk p i r rp) : (insW p i r).t = insT p.t r.par rp i (p.last + 1) r := by
  funext n
  show (getA (insW p i r).hs.cells (.inl n)).bind decR = _
  rw [h.get]
  unfold insT setT
  by_cases e1 : n = p.last + 1
  · rw [if_pos (by rw [e1]), if_pos e1]
    exact decR_d _
  · rw [if_neg (fun e => e1 (by injection e)), if_neg e1]
    by_cases e2 : n = r.par
    · rw [if_pos (by rw [e2]), if_pos e2]
      exact decR_d _
    · rw [if_neg (fun e => e2 (by injection e)), if_neg e2]
      rfl
theorem InsOk.wf (h : InsOk p i r rp) : ∃ dep, WF (insW p i r).t (p.last + 1) dep := by
  obtain ⟨dep, W⟩ := h.ok.wf
  rw [h.tree]
  exact ⟨_, wf_ins W h.par h.box (by rw [← depth_eq W h.par]; exact h.dep) rfl h.kids⟩
theorem InsOk.count (h : InsOk p i r rp) : (sub (insW p i r).t 1).length = (sub p.t 1).length + 1 := by
  obtain ⟨dep, W⟩ := h.ok.wf
  rw [h.tree]
  exact count_ins W h.par h.box (by rw [← depth_eq W h.par]; exact h.dep) rfl h.kids
theorem InsOk.new (h : InsOk p i r rp) : (insW p i r).t (p.last + 1) = some r := by
  rw [h.tree]
  unfold insT setT
  rw [if_pos rfl]
theorem InsOk.win (h : InsOk p i r rp) : getA (insW p i r).hs.cells (.inr "window") = some (.tuple [.int p.w, .int p.h]) := by
  rw [h.get, if_neg (fun e => nomatch e), if_neg (fun e => nomatch e)]
  exact h.ok.win
theorem InsOk.winOf (h : InsOk p i r rp) : winOf (insW p i r).hs.cells = (p.w, p.h) := by
  unfold Q.winOf
  rw [h.win]
theorem InsOk.fol (h : InsOk p i r rp) : FolOk (insW p i r) (p.last + 1) := by
  refine ⟨?_, Or.inr ?_, ?_⟩
  · rw [h.winOf]; exact h.win
  · obtain ⟨dep, W⟩ := h.wf
    exact ⟨_, dep, r, h.rows, W, by have := h.count; have := h.many; show (sub (insW p i r).t 1).length ≤ 300; omega, h.new⟩
  · exact Nat.le_trans h.ok.mkl (by decide)
theorem InsOk.wr (h : InsOk p i r rp) : WrOk p.hs (insC p i r) := by
  have h1 := h.ok.cl
  have h2 := h.dn
  refine ⟨h.nd, ?_, by rw [insC_eq h.par]; exact Nat.le_of_ble_eq_true rfl, by omega, by omega⟩
  rw [insC_eq h.par]
  intro q hq
  rcases List.mem_cons.mp hq with e | hq
  · rw [e]; exact fun z => nomatch z
  · rw [List.mem_singleton.mp hq]; exact fun z => nomatch z
theorem InsOk.below (h : InsOk p i r rp) : below (insW p i r).hs.cells (p.last + 1) = [p.last + 1] := by
  unfold Q.below
  have e : getA (insW p i r).hs.cells (.inl (p.last + 1)) = some r.d := by rw [h.get, if_pos rfl]
  rw [e]
  obtain ⟨dep, W⟩ := h.wf
  show sub (insW p i r).t (p.last + 1) = _
  rw [sub_eq W h.new, h.kids]
  rfl
theorem InsOk.t (h : InsOk p i r rp) : (insP p i r).t = insT p.t r.par rp i (p.last + 1) r := h.tree
theorem InsOk.pg (h : InsOk p i r rp) : PgOk (insP p i r) := by
  obtain ⟨dep, W⟩ := h.wf
  have hdl : (insW p i r).hs.done.length = p.hs.done.length + 1 := by
    show (p.hs.done ++ [_]).length = _
    rw [List.length_append]; rfl
  have h1 := h.ok.cl
  have h2 := h.dn
  have h3 := h.ok.ls
  refine ⟨h.rows, ⟨dep, W⟩, ?_, ?_, ?_, ?_, ?_, ?_⟩
  · show getA (insW p i r).hs.cells _ = some (.tuple [.int (Q.winOf _).1, .int (Q.winOf _).2])
    rw [h.winOf]
    exact h.win
  · have := h.count; have := h.many; show (sub (insW p i r).t 1).length ≤ 300; omega
  · show (putM p.hs.cells (insC p i r)).length ≤ (insW p i r).hs.done.length + 3
    have h4 : (putM p.hs.cells (insC p i r)).length ≤ p.hs.cells.length + 1 := by
      rw [insC_eq h.par]
      have e0 : putM p.hs.cells [((.inl r.par : Key), ({ rp with kids := insL rp.kids i (p.last + 1) } : Rw).d), ((.inl (p.last + 1) : Key), r.d)] = setA (setA p.hs.cells (.inl r.par) ({ rp with kids := insL rp.kids i (p.last + 1) } : Rw).d) (.inl (p.last + 1)) r.d := rfl
      rw [e0]
      have e1 : (setA p.hs.cells (.inl r.par) ({ rp with kids := insL rp.kids i (p.last + 1) } : Rw).d).length = p.hs.cells.length := by
        unfold setA
        rw [if_pos (by rw [(tr_get h.ok.rows).mp h.par]; rfl), List.length_map]
      have e2 := DL.setA_len (setA p.hs.cells (.inl r.par) ({ rp with kids := insL rp.kids i (p.last + 1) } : Rw).d) (.inl (p.last + 1)) r.d
      omega
    omega
  · show (insW p i r).hs.done.length ≤ 4000
    omega
  · show ((markM p.marked (Q.below _ _) _).map (·.1)).Nodup ∧ _
    obtain ⟨a, b⟩ := h.ok.mkd
    have hk := putM_keys ((Q.below (insW p i r).hs.cells (p.last + 1)).map fun k => ((.inl k : Key), PyData.int (p.mom + 1))) p.marked
    refine ⟨hk.2 a, fun q hq => ?_⟩
    rcases hk.1 q.1 (List.mem_map.mpr ⟨q, hq, rfl⟩) with z | z
    · obtain ⟨q2, hq2, e⟩ := List.mem_map.mp z
      obtain ⟨n, e1, e2, e3⟩ := b q2 hq2
      exact ⟨n, e.symm.trans e1, e2, by show n ≤ p.last + 1; omega⟩
    · rw [h.below] at z
      have e : q.1 = .inl (p.last + 1) := by simpa using z
      exact ⟨_, e, (W.id _ _ h.new).1, Int.le_refl _⟩
  · show p.last + 1 ≤ ((insW p i r).hs.done.length : Int) + 1
    omega
end
/-- the row of a new text -/
def txR (n : Int) (l : List Nat) : Rw := ⟨n, false, dT l, .tuple [], .tuple [], .tuple [.int 0, .int 0], []⟩
def bxR (n : Int) (l : List Nat) (m : PyData) : Rw := ⟨n, true, dT l, m, .tuple [], .tuple [.int 0, .int 0], []⟩
/-- a new page -/
def rootR : Rw := ⟨0, true, .str "page", .tuple [], .tuple [], .tuple [.int 0, .int 0], []⟩
def pgN (w h : Int) : Pg := ⟨w, h, 1, 0, [], ⟨[(.inr "window", .tuple [.int w, .int h]), (.inr "rules", .tuple []), (.inl 1, rootR.d)], []⟩⟩
theorem pgN_get (w h : Int) (n : Int) : getA (pgN w h).hs.cells (.inl n) = if n = 1 then some rootR.d else none := by
  show getA [((.inr "window" : Key), PyData.tuple [.int w, .int h]), (.inr "rules", .tuple []), (.inl 1, rootR.d)] (.inl n) = _
  rw [getA_cons, if_neg (fun e => nomatch e), getA_cons, if_neg (fun e => nomatch e), getA_cons]
  by_cases e : n = 1
  · subst e; rw [if_pos rfl, if_pos rfl]
  · rw [if_neg (fun z => e (by injection z with z; exact z.symm)), if_neg e]; rfl
theorem pgN_t (w h : Int) : (pgN w h).t = fun n => if n = 1 then some rootR else none := by
  funext n
  show (getA (pgN w h).hs.cells (.inl n)).bind decR = _
  rw [pgN_get]
  by_cases e : n = 1
  · rw [if_pos e, if_pos e]
    show decR rootR.d = some rootR
    exact decR_d _
  · rw [if_neg e, if_neg e]; rfl
theorem pgN_ok (w h : Int) : PgOk (pgN w h) := by
  have ht := pgN_t w h
  have h1 : (pgN w h).t 1 = some rootR := by rw [ht]; rfl
  have hs : ∀ n r, (pgN w h).t n = some r → n = 1 ∧ r = rootR := fun n r e => by
    rw [ht] at e
    by_cases z : n = 1
    · simp only [z, if_true] at e; cases e; exact ⟨z, rfl⟩
    · simp only [z, if_false] at e; cases e
  have W : WF (pgN w h).t 1 (fun _ => 1) := by
    refine ⟨⟨rootR, h1, rfl, rfl⟩, rfl, fun n r c e hc => ?_, fun n r e z => absurd (hs n r e).1 z, fun n r e => ?_, fun n r e => ⟨Nat.le_refl _, by decide⟩, fun n r e => ?_, fun n r e z => ?_⟩
    · obtain ⟨_, rfl⟩ := hs n r e
      cases hc
    · obtain ⟨_, rfl⟩ := hs n r e
      exact List.nodup_nil
    · obtain ⟨rfl, _⟩ := hs n r e
      exact ⟨Int.le_refl _, Int.le_refl _⟩
    · obtain ⟨_, rfl⟩ := hs n r e
      rfl
  refine ⟨fun n d hd => ?_, ⟨_, W⟩, rfl, ?_, Nat.le_refl _, Nat.zero_le _, ⟨List.nodup_nil, fun q hq => absurd hq List.not_mem_nil⟩, Int.le_refl _⟩
  · rw [pgN_get] at hd
    split at hd
    · cases hd; exact ⟨rootR, rfl, rfl⟩
    · cases hd
  · rw [sub_eq W h1]
    exact Nat.le_of_ble_eq_true rfl
theorem pgN_depth (w h : Int) : depth (pgN w h).t 1 = 1 := by
  obtain ⟨dep, W⟩ := (pgN_ok w h).wf
  rw [depth_eq W (r := rootR) (by rw [pgN_t]; rfl)]
  exact W.d1
theorem pgN_count (w h : Int) : (sub (pgN w h).t 1).length = 1 := by
  obtain ⟨dep, W⟩ := (pgN_ok w h).wf
  rw [sub_eq W (r := rootR) (by rw [pgN_t]; rfl)]
  rfl
/-- where the new page stands -/
theorem segPgN (CP CH : Addr) : SegAtK (fun i => i) 1 5 (fun _ : Unit => [SO.ob CP []]) (shapeP CP CH) () ([] ++ [.ob CP []]) (shapeP CP CH) := ⟨by decide, fun i j _ _ e => e, preP_ok CP (), fun i o e => by
  match i, e with
  | 0, e => cases e; rfl, fun y => rfl, fun y i o e => by
  have hf : gAt (fun i => i) 1 1 = fun i => i := by funext j; show (if j < 1 then j else 1 + (j - 1)) = j; split <;> omega
  show (shapeP CP CH y)[gAt (fun i => i) 1 1 i]? = some (reS (gAt (fun i => i) 1 1) o)
  rw [hf, reS_id]
  exact e, fun y j hj hn => by
  match j, hj, hn with
  | 0, _, hn => exact absurd rfl (hn 0 (by decide))⟩
/-! lines -/
def brk1 (S : Nat → Int) (w : Int) (f : List NN) (p : NN) : List NN := match f.getLast? with
  | some q => if S p.2 - S q.1 ≤ w then f.dropLast ++ [(q.1, p.2)] else f ++ [p]
  | none => [p]
def brk (S : Nat → Int) (w : Int) (ps : List NN) : List NN := ps.foldl (brk1 S w) []
def lineOf (g : List NN) : NN := ((g.head?.getD (0, 0)).1, (g.getLast?.getD (0, 0)).2)
structure Grp (S : Nat → Int) (w : Int) (ws : List NN) (gs : List (List NN)) (rows : List NN) : Prop where
  flat : gs.flatten = ws
  ne : ∀ g ∈ gs, g ≠ []
  rows : rows = gs.map lineOf
  fit : ∀ g ∈ gs, g.length = 1 ∨ S (lineOf g).2 - S (lineOf g).1 ≤ w
  full : ∀ a g h b, gs = a ++ g :: h :: b → ∃ f, h.head? = some f ∧ w < S f.2 - S (lineOf g).1
theorem wok_mono {l : List Nat} {lo hi : Nat} {rows : List NN} (hw : WOk l lo hi rows) : ∀ (m pre : List NN) (x : NN), rows = pre ++ x :: m → ∀ y ∈ m, x.2 ≤ y.1 ∧ y.1 < y.2 := by
  intro m
  induction m with
  | nil => intro pre x h y hy; cases hy
  | cons z m ih =>
    intro pre x h y hy
    obtain ⟨s, e⟩ := z
    have h2 : rows = (pre ++ [x]) ++ (s, e) :: m := by rw [h]; simp
    obtain ⟨a1, a2, _⟩ := hw.each _ s e m h2
    rw [lastE_snoc] at a1
    rcases List.mem_cons.mp hy with q | q
    · subst q; exact ⟨a1, a2⟩
    · obtain ⟨b1, b2⟩ := ih (pre ++ [x]) (s, e) h2 y q
      exact ⟨by simp only at b1; omega, b2⟩
/-- the lines of a paragraph with words -/
structure LOk (l : List Nat) (S : Nat → Int) (w : Int) (lo hi : Nat) (L : List NN) : Prop where
  each : ∀ a s e b, L = a ++ (s, e) :: b → lastE lo a ≤ s ∧ s < e ∧ e ≤ hi ∧ Gap l (lastE lo a) s ∧ ltB l s = true ∧ ltB l (e - 1) = true ∧ (s = lo ∨ ltB l (s - 1) = false) ∧ (e = hi ∨ ltB l e = false) ∧ (Run l s e ∨ S e - S s ≤ w)
  next : ∀ a s e s' e' b, L = a ++ (s, e) :: (s', e') :: b → ∃ m, s' < m ∧ m ≤ e' ∧ Run l s' m ∧ (m = hi ∨ ltB l m = false) ∧ w < S m - S s
  gap : Gap l (lastE lo L) hi
  low : ∀ a s e b, L = a ++ (s, e) :: b → lo ≤ lastE lo a
/-- the lines of a paragraph, of a text -/
def plines (l : List Nat) (S : Nat → Int) (w : Int) (p : NN) : List NN := if brk S w (wordsM l p.1 p.2) = [] then [(p.1, p.1)] else brk S w (wordsM l p.1 p.2)
def sumsOf (s : Int) (l : List Nat) (k : Nat) : Int := wid s (l.take k)
def lines (l : List Nat) (s w : Int) : List NN := (paras l).flatMap (plines l (sumsOf s l) w)
/-! lines by their place in the text -/
/-! what stands between the lines -/
def isBl (l : List Nat) : Bool := l.all fun c => decide (c = 32) || decide (c = 10)
/-- a line and what stands ahead of it -/
structure LnOk (l : List Nat) (pre : List NN) (a b : Nat) : Prop where
  asc : lastE 0 pre ≤ a
  gap : Gap l (lastE 0 pre) a
  cnt : ((l.drop (lastE 0 pre)).take (a - lastE 0 pre)).count 10 ≤ if pre = [] then 0 else 1
  sep : ∀ q x y, pre = q ++ [(x, y)] → (a = b ∨ x = y) → ((l.drop (lastE 0 pre)).take (a - lastE 0 pre)).count 10 ≠ 0
  le : a ≤ b ∧ b ≤ l.length
  emp : a = b → (a = 0 ∨ l[a - 1]? = some 10) ∧ isBl (upC 10 (l.drop a)) = true
  ful : a < b → 10 ∉ (l.drop a).take (b - a) ∧ (0 < a → ltB l (a - 1) = false) ∧ (b < l.length → ltB l b = false) ∧ ltB l a = true ∧ ltB l (b - 1) = true
/-! few lines -/
abbrev wordsP (l : List Nat) (p : NN) : List NN := wordsM l p.1 p.2
def wAll (l : List Nat) : List NN := (paras l).flatMap (wordsP l)
/-! greedy lines stay ahead -/
abbrev Asc (ws : List NN) : Prop := ws.Pairwise fun p q => p.1 ≤ q.1 ∧ p.2 ≤ q.2
theorem lineOf_end {i : List NN} {t : NN} : (lineOf (i ++ [t])).2 = t.2 := by
  unfold lineOf
  rw [List.getLast?_append, List.getLast?_singleton]; rfl
/-! the words of a paragraph ascend -/
theorem wok_asc {l : List Nat} {lo hi : Nat} {rows : List NN} (hw : WOk l lo hi rows) : Asc rows := by
  refine List.pairwise_iff_getElem.mpr fun i j hi hj hij => ?_
  have e : rows = rows.take i ++ rows[i] :: rows.drop (i + 1) := by rw [List.getElem_cons_drop]; exact (List.take_append_drop i rows).symm
  have hm : rows[j] ∈ rows.drop (i + 1) := by
    refine List.mem_iff_getElem.mpr ⟨j - (i + 1), by rw [List.length_drop]; omega, ?_⟩
    rw [List.getElem_drop]
    congr 1; omega
  obtain ⟨b1, b2⟩ := wok_mono hw _ _ _ e _ hm
  obtain ⟨a1, a2, _⟩ := hw.each (rows.take i) rows[i].1 rows[i].2 _ e
  omega
theorem sums_mono {s : Int} (h : 0 ≤ s) (l : List Nat) (a b : Nat) (hab : a ≤ b) : sumsOf s l a ≤ sumsOf s l b := by
  have h1 := wid_part s l a b hab
  have h2 := (wid_nn s h ((l.drop a).take (b - a))).1
  unfold sumsOf
  omega
/-- any way to part the words into lines that fit -/
structure Oth (S : Nat → Int) (w : Int) (ws : List NN) (gs : List (List NN)) : Prop where
  flat : gs.flatten = ws
  ne : ∀ g ∈ gs, g ≠ []
  fit : ∀ g ∈ gs, g.length = 1 ∨ S (lineOf g).2 - S (lineOf g).1 ≤ w
def endsG (gs : List (List NN)) : List Nat := gs.map fun g => (lineOf g).2
/-- few and far -/
def Dom (us ts : List Nat) : Prop := us.length ≤ ts.length ∧ (∀ (i x y : Nat), us[i]? = some x → ts[i]? = some y → y ≤ x) ∧ (ts ≠ [] → us ≠ [])
/-! The measures of a text. -/
def spanW (S : Nat → Int) (ws : List NN) : Int := S (lineOf ws).2 - S (lineOf ws).1
def naW (S : Nat → Int) (m : Int) (ws : List NN) : Int := ws.foldl (fun m q => max m (S q.2 - S q.1)) m
def naT (l : List Nat) (s : Int) : Int := naW (sumsOf s l) 0 (wAll l)
def wiF (l : List Nat) (S : Nat → Int) (m : Int) (ps : List NN) : Int := ps.foldl (fun m p => if wordsP l p = [] then m else max m (spanW S (wordsP l p))) m
def wiT (l : List Nat) (s : Int) : Int := wiF l (sumsOf s l) 0 (paras l)
theorem naW_app (S : Nat → Int) (m : Int) (a b : List NN) : naW S m (a ++ b) = naW S (naW S m a) b := List.foldl_append
theorem naW_spec (S : Nat → Int) : ∀ (ws : List NN) (m : Int), m ≤ naW S m ws ∧ (∀ q ∈ ws, S q.2 - S q.1 ≤ naW S m ws) ∧ (naW S m ws = m ∨ ∃ q ∈ ws, naW S m ws = S q.2 - S q.1)
  | [], m => ⟨Int.le_refl _, fun _ h => absurd h List.not_mem_nil, Or.inl rfl⟩
  | q :: ws, m => by
    obtain ⟨h1, h2, h3⟩ := naW_spec S ws (max m (S q.2 - S q.1))
    show m ≤ naW S (max m (S q.2 - S q.1)) ws ∧ (∀ x ∈ q :: ws, _ ≤ naW S (max m (S q.2 - S q.1)) ws) ∧ (naW S (max m (S q.2 - S q.1)) ws = m ∨ _)
    refine ⟨by omega, fun x hx => ?_, ?_⟩
    · rcases List.mem_cons.mp hx with e | hx
      · subst e; omega
      · exact h2 x hx
    · rcases h3 with e | ⟨x, hx, e⟩
      · by_cases hm : S q.2 - S q.1 ≤ m
        · exact Or.inl (by omega)
        · exact Or.inr ⟨q, List.mem_cons_self .., by show naW S (max m (S q.2 - S q.1)) ws = _; omega⟩
      · exact Or.inr ⟨x, List.mem_cons_of_mem _ hx, e⟩
theorem wiF_snoc (l : List Nat) (S : Nat → Int) (m : Int) (ps : List NN) (p : NN) : wiF l S m (ps ++ [p]) = if wordsP l p = [] then wiF l S m ps else max (wiF l S m ps) (spanW S (wordsP l p)) := by
  unfold wiF
  rw [List.foldl_append]
  rfl
theorem wiF_spec (l : List Nat) (S : Nat → Int) : ∀ (ps : List NN) (m : Int), m ≤ wiF l S m ps ∧ (∀ p ∈ ps, wordsP l p ≠ [] → spanW S (wordsP l p) ≤ wiF l S m ps) ∧ (wiF l S m ps = m ∨ ∃ p ∈ ps, wordsP l p ≠ [] ∧ wiF l S m ps = spanW S (wordsP l p))
  | [], m => ⟨Int.le_refl _, fun _ h => absurd h List.not_mem_nil, Or.inl rfl⟩
  | q :: ps, m => by
    by_cases hq : wordsP l q = []
    · have e : wiF l S m (q :: ps) = wiF l S m ps := by show wiF l S (if wordsP l q = [] then m else _) ps = _; rw [if_pos hq]
      obtain ⟨h1, h2, h3⟩ := wiF_spec l S ps m
      rw [e]
      refine ⟨h1, fun x hx hn => ?_, h3.imp id fun ⟨x, hx, y⟩ => ⟨x, List.mem_cons_of_mem _ hx, y⟩⟩
      rcases List.mem_cons.mp hx with z | hx
      · subst z; exact absurd hq hn
      · exact h2 x hx hn
    · have e : wiF l S m (q :: ps) = wiF l S (max m (spanW S (wordsP l q))) ps := by show wiF l S (if wordsP l q = [] then m else _) ps = _; rw [if_neg hq]
      obtain ⟨h1, h2, h3⟩ := wiF_spec l S ps (max m (spanW S (wordsP l q)))
      rw [e]
      refine ⟨by omega, fun x hx hn => ?_, ?_⟩
      · rcases List.mem_cons.mp hx with z | hx
        · subst z; omega
        · exact h2 x hx hn
      · rcases h3 with z | ⟨x, hx, y⟩
        · by_cases hm : spanW S (wordsP l q) ≤ m
          · exact Or.inl (by omega)
          · exact Or.inr ⟨q, List.mem_cons_self .., hq, by omega⟩
        · exact Or.inr ⟨x, List.mem_cons_of_mem _ hx, y⟩
/-! Styles of nodes; an object that measures. -/
abbrev St := List (Int × Tb)
def ekI (i : Int) : Key := .inl i
theorem ekI_inj : ∀ a b : Int, ekI a = ekI b → a = b := fun _ _ h => by injection h
abbrev dSt (m : St) : PyData := dKd ekI dS m
structure Ms where
  p : Pg
  st : St
  known : List (Key × PyData)
abbrev msM (CP CH : Addr) (x : Ms) : List (Str × PyData) := [("_page", pgD CP CH x.p), ("_styles", dSt x.st), ("known", dK0 x.known)]
def shapeM (CM CP CH : Addr) (x : Ms) : List SO := [.ob CM [("_page", .i (pgD CP CH x.p)), ("_styles", .i (dSt x.st)), ("known", .r 1)], dkO x.known]
theorem shapeM_ok (CM CP CH : Addr) (x : Ms) : ShOk 2 (shapeM CM CP CH x) := ⟨rfl, fun i o e => by
  match i, e with
  | 0, e => cases e; rfl
  | 1, e => cases e; rfl, by
  refine ⟨?_, dkO_lt _ _, True.intro⟩
  intro q hq
  simp at hq
  rcases hq with rfl | rfl | rfl
  · exact True.intro
  · exact True.intro
  · exact Nat.lt_succ_self 1⟩
def preM (CM : Addr) (m : List (Key × PyData)) : List SO := [.ob CM [], dkO m]
theorem preM_ok (CM : Addr) (m : List (Key × PyData)) : ShOk 2 (preM CM m) := ⟨rfl, fun i o e => by
  match i, e with
  | 0, e => cases e; rfl
  | 1, e => cases e; rfl, ⟨fun _ h => absurd h List.not_mem_nil, dkO_lt _ _, True.intro⟩⟩
/-- the new dict stands ahead of the instance -/
def fMs : Nat → Nat := fun i => if i = 0 then 1 else 0
def gMs (CM CP CH : Addr) (x : Ms) : List SO := [dkO x.known, .ob CM [("_page", .i (pgD CP CH x.p)), ("_styles", .i (dSt x.st)), ("known", .r 0)]]
theorem segMs0 (CM CP CH : Addr) (m : List (Key × PyData)) : SegAtK fMs 2 2 (preM CM) (shapeM CM CP CH) m ([dkO m] ++ [.ob CM []]) (gMs CM CP CH) := ⟨Nat.le_refl _, fun i j hi hj e => by
  match i, j, hi, hj, e with
  | 0, 0, _, _, _ => rfl
  | 0, 1, _, _, e => cases e
  | 1, 0, _, _, e => cases e
  | 1, 1, _, _, _ => rfl, preM_ok CM m, fun i o e => by
  match i, e with
  | 0, e => cases e; rfl
  | 1, e => cases e; exact congrArg some (reS_dk _ m).symm, fun y => rfl, fun y i o e => by
  match i, e with
  | 0, e => cases e; rfl
  | 1, e => cases e; exact congrArg some (reS_dk _ _).symm, fun y j hj hn => by
  match j, hj, hn with
  | 0, _, hn => exact absurd rfl (hn 1 (by decide))
  | 1, _, hn => exact absurd rfl (hn 0 (by decide))⟩
theorem segMs (CM CP CH : Addr) : SegAt fMs 2 (shapeM CM CP CH) (gMs CM CP CH) := ⟨fun i j hi hj e => by
  match i, j, hi, hj, e with
  | 0, 0, _, _, _ => rfl
  | 0, 1, _, _, e => cases e
  | 1, 0, _, _, e => cases e
  | 1, 1, _, _, _ => rfl, shapeM_ok CM CP CH, fun x i o e => by
  match i, e with
  | 0, e => cases e; rfl
  | 1, e => cases e; exact congrArg some (reS_dk _ _).symm, fun x y => rfl, fun x y j hj => by
  match j, hj with
  | 0, hj => exact absurd rfl (hj 1 (by decide))
  | 1, hj => exact absurd rfl (hj 0 (by decide))
  | _ + 2, _ => rfl⟩
/-- the string and the size of a text -/
def txtOf (p : Pg) (n : Int) : List Nat := match p.t n with | some r => (match r.con with | .str t => t.cps.toList | _ => []) | none => []
def sizOf (st : St) (n : Int) : Int := match getA st n with | some m => (match getA m "size" with | some (.int s) => s | _ => 0) | none => 0
structure IsTx (p : Pg) (st : St) (n : Int) (r : Rw) (l : List Nat) (m : Tb) (s : Int) : Prop where
  rows : Rows p.hs.cells
  row : p.t n = some r
  bx : r.box = false
  con : r.con = dT l
  sty : getA st n = some m
  sz : getA m "size" = some (.int s)
  s1 : 1 ≤ s
  s2 : s ≤ 1000000
  ll : l.length ≤ 40000
theorem IsTx.txt {p : Pg} {st : St} {n : Int} {r : Rw} {l : List Nat} {m : Tb} {s : Int} (h : IsTx p st n r l m s) : txtOf p n = l := by
  unfold txtOf
  rw [h.row]
  show (match r.con with | .str t => t.cps.toList | _ => []) = l
  rw [h.con]
theorem IsTx.siz {p : Pg} {st : St} {n : Int} {r : Rw} {l : List Nat} {m : Tb} {s : Int} (h : IsTx p st n r l m s) : sizOf st n = s := by
  unfold sizOf
  rw [h.sty]
  show (match getA m "size" with | some (.int s) => s | _ => 0) = s
  rw [h.sz]
def texM (p : Pg) (st : St) (n : Int) : PyData := .tuple [.int (naT (txtOf p n) (sizOf st n)), .int (wiT (txtOf p n) (sizOf st n))]
/-! The measures of a tree of nodes, by height. -/
def nmI (m : Tb) (x : Str) : Int := match getA m x with
  | some (.int i) => i
  | _ => 0
def IntN (m : Tb) (x : Str) : Prop := getA m x = none ∨ ∃ i, getA m x = some (.int i)
theorem IntN.get {m : Tb} {x : Str} (h : IntN m x) : ((getA m x).map evS).getD (.int 0) = .int (nmI m x) := by
  unfold nmI
  rcases h with h | ⟨i, h⟩ <;> rw [h] <;> rfl
def sideM (m : Tb) : Int := nmI m "margin_left" + nmI m "margin_right"
def isS (m : Tb) (x : Str) (y : Str) : Bool := match getA m x with
  | some (.str z) => z == y
  | _ => false
/-- is the node in the flow of its parent -/
def inFl (st : St) (n : Int) (r : Rw) : Bool := if r.box then (match getA st n with
  | some m => !isS m "display" "none" && !isS m "place" "free"
  | none => false) else true
/-- what is asked of a style -/
def FlOk (st : St) (n : Int) (r : Rw) : Prop := r.box = true → ∃ m x y, getA st n = some m ∧ getA m "display" = some (.str x) ∧ getA m "place" = some (.str y)
/-- the children in the flow -/
def flK (p : Pg) (st : St) (r : Rw) : List Int := r.kids.filter fun k => match p.t k with
  | some r2 => inFl st k r2
  | none => false
def dII (q : Int × Int) : PyData := .tuple [.int q.1, .int q.2]
def grt (qs : List (Int × Int)) : Int × Int := (maxDf 0 (qs.map (·.1)), maxDf 0 (qs.map (·.2)))
def rowM (qs : List (Int × Int)) (g : Int) : Int × Int := ((qs.map (·.1)).sum + g * max 0 ((qs.length : Int) - 1), (qs.map (·.2)).sum + g * max 0 ((qs.length : Int) - 1))
/-- a width, bounded for a box -/
def bdW (m : Tb) (x : Int) : Int := max (max (min x (nmI m "most_width")) (nmI m "least_width")) (2 * (nmI m "border" + nmI m "padding"))
/-- the columns of a grid -/
def colM (qs : List (Int × Int)) (many : Nat) : List (Int × Int) := (List.range many).map fun j => grt (evk many j qs)
def stOf (st : St) (n : Int) : Tb := (getA st n).getD []
/-- what is inside a box, before it is bounded -/
def insM (m : Tb) (qs : List (Int × Int)) : Int × Int := if isS m "display" "row" then rowM qs (nmI m "gap") else if isS m "display" "grid" then rowM (colM qs (nmI m "columns").toNat) (nmI m "gap") else grt qs
def boxM (m : Tb) (qs : List (Int × Int)) : Int × Int := match getA m "width" with
  | some (.int w) => (bdW m w, bdW m w)
  | _ => (bdW m ((insM m qs).1 + 2 * (nmI m "border" + nmI m "padding")), bdW m ((insM m qs).2 + 2 * (nmI m "border" + nmI m "padding")))
/-- a node's measures, from the outer measures of what is in it -/
def ownM (p : Pg) (st : St) (n : Int) (r : Rw) (qs : List (Int × Int)) : Int × Int :=
  if r.box then boxM (stOf st n) qs else (naT (txtOf p n) (sizOf st n), wiT (txtOf p n) (sizOf st n))
/-- by fuel -/
def msr (p : Pg) (st : St) : Nat → Int → Int × Int
  | 0, _ => (0, 0)
  | f + 1, n => match p.t n with
    | none => (0, 0)
    | some r => ownM p st n r ((flK p st r).map fun k => let q := msr p st f k; (q.1 + sideM (stOf st k), q.2 + sideM (stOf st k)))
/-- the outer measures of what is in a node -/
def outs (p : Pg) (st : St) (f : Nat) (r : Rw) : List (Int × Int) := (flK p st r).map fun k => ((msr p st f k).1 + sideM (stOf st k), (msr p st f k).2 + sideM (stOf st k))
theorem msr_succ {p : Pg} {st : St} {f : Nat} {n : Int} {r : Rw} (h : p.t n = some r) : msr p st (f + 1) n = ownM p st n r (outs p st f r) := by
  show (match p.t n with
    | none => (0, 0)
    | some r => ownM p st n r ((flK p st r).map fun k => let q := msr p st f k; (q.1 + sideM (stOf st k), q.2 + sideM (stOf st k)))) = _
  rw [h]
  rfl
/-- what is asked of a box's style -/
structure BxOk (m : Tb) : Prop where
  le : ∃ i, getA m "least_width" = some (.int i)
  mo : ∃ i, getA m "most_width" = some (.int i)
  pa : ∃ i, getA m "padding" = some (.int i)
  bo : ∃ i, getA m "border" = some (.int i)
  di : ∃ x, getA m "display" = some (.str x)
  pl : ∃ x, getA m "place" = some (.str x)
  ga : ∃ i : Nat, getA m "gap" = some (.int (i : Int)) ∧ i ≤ 1000000
  co : ∃ i : Nat, getA m "columns" = some (.int (i : Int)) ∧ 1 ≤ i ∧ i ≤ 1000
  ml : ∃ i, getA m "margin_left" = some (.int i)
  mr : ∃ i, getA m "margin_right" = some (.int i)
  wi : (∃ w, getA m "width" = some (.int w)) ∨ (∃ x, getA m "width" = some (.str x)) ∨ (∃ l, getA m "width" = some (.tuple l))
structure TxOk (p : Pg) (st : St) (n : Int) (r : Rw) (m : Tb) : Prop where
  is : ∃ l s, IsTx p st n r l m s
  ml : getA m "margin_left" = none
  mr : getA m "margin_right" = none
/-- a node whose tree is no higher than h -/
def MOk (p : Pg) (st : St) : Nat → Int → Prop
  | 0, _ => False
  | h + 1, n => ∃ r m, p.t n = some r ∧ getA st n = some m ∧ ((r.box = false ∧ TxOk p st n r m) ∨ (r.box = true ∧ BxOk m)) ∧ r.kids.length ≤ 1000 ∧ ∀ k ∈ r.kids, MOk p st h k
theorem MOk.up {p : Pg} {st : St} : ∀ {h : Nat} {n : Int}, MOk p st h n → ∀ {h2 : Nat}, h ≤ h2 → MOk p st h2 n
  | 0, _, a, _, _ => a.elim
  | h + 1, n, ⟨r, m, h1, h2, h3, h4, h5⟩, 0, l => absurd l (by omega)
  | h + 1, n, ⟨r, m, h1, h2, h3, h4, h5⟩, k + 1, l => ⟨r, m, h1, h2, h3, h4, fun c hc => (h5 c hc).up (by omega)⟩
theorem flK_sub {p : Pg} {st : St} {r : Rw} {k : Int} (h : k ∈ flK p st r) : k ∈ r.kids := (List.mem_filter.mp h).1
theorem msr_fuel {p : Pg} {st : St} : ∀ {h : Nat} {n : Int}, MOk p st h n → ∀ {a b : Nat}, h ≤ a → h ≤ b → msr p st a n = msr p st b n
  | 0, _, z, _, _, _, _ => z.elim
  | h + 1, n, ⟨r, m, h1, _, _, _, h5⟩, a, b, la, lb => by
    obtain ⟨a, rfl⟩ : ∃ x, a = x + 1 := ⟨a - 1, by omega⟩
    obtain ⟨b, rfl⟩ : ∃ x, b = x + 1 := ⟨b - 1, by omega⟩
    rw [msr_succ h1, msr_succ h1]
    congr 1
    unfold outs
    refine List.map_congr_left fun k hk => ?_
    rw [msr_fuel (h5 k (flK_sub hk)) (show h ≤ a by omega) (show h ≤ b by omega)]
/-- what is known so far is right -/
def KOk (p : Pg) (st : St) (known : List (Key × PyData)) : Prop := ∀ n d, getA known (.inl n) = some d → d = dII (msr p st 31 n)
theorem dII_inj {a b : Int × Int} (h : dII a = dII b) : a = b := by
  injection h with h
  injection h with h1 h
  injection h with h2 _
  injection h1 with h1
  injection h2 with h2
  exact Prod.ext h1 h2
theorem dIIs_inj : ∀ {a b : List (Int × Int)}, a.map dII = b.map dII → a = b
  | [], [], _ => rfl
  | [], _ :: _, h => nomatch h
  | _ :: _, [], h => nomatch h
  | x :: a, y :: b, h => by
    injection h with h1 h2
    rw [dII_inj h1, dIIs_inj h2]
theorem nmI_of {m : Tb} {x : Str} {i : Int} (h : getA m x = some (.int i)) : nmI m x = i := by unfold nmI; rw [h]
theorem outs_len {p : Pg} {st : St} {f : Nat} {r : Rw} : (outs p st f r).length ≤ r.kids.length := by
  unfold outs
  rw [List.length_map]
  exact List.length_filter_le ..
theorem outs_fuel {p : Pg} {st : St} {r : Rw} {h : Nat} (hk : ∀ k ∈ r.kids, MOk p st h k) {a b : Nat} (la : h ≤ a) (lb : h ≤ b) : outs p st a r = outs p st b r := by
  unfold outs
  refine List.map_congr_left fun k hk2 => ?_
  rw [msr_fuel (hk k (flK_sub hk2)) la lb]
theorem MOk.kids {p : Pg} {st : St} {h : Nat} {n : Int} {r : Rw} (a : MOk p st (h + 1) n) (hr : p.t n = some r) : r.kids.length ≤ 1000 ∧ ∀ k ∈ r.kids, MOk p st h k := by
  obtain ⟨r2, m, h1, _, _, h4, h5⟩ := a
  rw [hr] at h1
  cases h1
  exact ⟨h4, h5⟩
theorem MOk.own {p : Pg} {st : St} {h : Nat} {n : Int} {r : Rw} (a : MOk p st (h + 1) n) (hr : p.t n = some r) (h30 : h + 1 ≤ 31) : msr p st 31 n = ownM p st n r (outs p st 31 r) := by
  rw [msr_succ (f := 30) hr, outs_fuel (a.kids hr).2 (show h ≤ 30 by omega) (show h ≤ 31 by omega)]
structure MsOk (x : Ms) : Prop where
  pg : PgOk x.p
  kn : KOk x.p x.st x.known
  nd : (x.known.map (·.1)).Nodup
  ks : ∀ q ∈ x.known, ∃ n : Int, q.1 = .inl n ∧ (x.p.t n).isSome = true
theorem MsOk.len {x : Ms} (h : MsOk x) : x.known.length ≤ 300 := by
  obtain ⟨dep, W⟩ := h.pg.wf
  have h1 : ∃ l : List Int, x.known.map (·.1) = l.map Sum.inl ∧ ∀ n ∈ l, n ∈ sub x.p.t 1 := by
    have ks := h.ks
    generalize x.known = m at ks
    induction m with
    | nil => exact ⟨[], rfl, fun _ z => absurd z List.not_mem_nil⟩
    | cons q m ih =>
      obtain ⟨l, e, hl⟩ := ih fun q hq => ks q (List.mem_cons_of_mem _ hq)
      obtain ⟨n, e1, e2⟩ := ks q (List.mem_cons_self ..)
      refine ⟨n :: l, by rw [List.map_cons, List.map_cons, e1, e], fun c hc => ?_⟩
      rcases List.mem_cons.mp hc with z | z
      · rw [z]; exact (mem_all W).mpr e2
      · exact hl c z
  obtain ⟨l, e, hl⟩ := h1
  have nd : l.Nodup := by
    have := h.nd
    rw [e] at this
    exact List.Pairwise.of_map Sum.inl (fun a b h e => h (by rw [e])) this
  have h2 := List.Nodup.length_le_of_subset nd hl
  have h3 := congrArg List.length e
  rw [List.length_map, List.length_map] at h3
  have := h.pg.n300
  omega
theorem MsOk.put {x : Ms} (h : MsOk x) {n : Int} (ht : (x.p.t n).isSome = true) : MsOk { x with known := setA x.known (.inl n) (dII (msr x.p x.st 31 n)) } := by
  refine ⟨h.pg, fun k d hd => ?_, setA_nodup _ _ h.nd, fun q hq => ?_⟩
  · have hd : getA (setA x.known (.inl n) (dII (msr x.p x.st 31 n))) (.inl k) = some d := hd
    rw [getA_set] at hd
    split at hd
    · rename_i e
      injection e with e
      rw [e]
      exact (Option.some.inj hd).symm
    · exact h.kn k d hd
  · have hk : q.1 ∈ (setA x.known (.inl n) (dII (msr x.p x.st 31 n))).map (·.1) := List.mem_map.mpr ⟨q, hq, rfl⟩
    rw [setA_keys] at hk
    have old : q.1 ∈ x.known.map (·.1) → ∃ m : Int, q.1 = .inl m ∧ (x.p.t m).isSome = true := fun z => by
      obtain ⟨q2, h2, e⟩ := List.mem_map.mp z
      rw [← e]
      exact h.ks q2 h2
    split at hk
    · exact old hk
    · rcases List.mem_append.mp hk with z | z
      · exact old z
      · exact ⟨n, List.mem_singleton.mp z, ht⟩
def R_side_margins : List PyData → PyData → Prop := fun ds d => ∃ m : Tb, IntN m "margin_left" ∧ IntN m "margin_right" ∧ ds = [dS m] ∧ d = .int (sideM m)
theorem R_side_margins_i {m : Tb} (h1 : IntN m "margin_left") (h2 : IntN m "margin_right") : R_side_margins [dS m] (.int (sideM m)) := ⟨m, h1, h2, rfl, rfl⟩
local macro_rules | `(tactic| walk_at "r2") => `(tactic| exact R_side_margins_i (by assumption) (by assumption))
theorem R_side_margins_len : ∀ ds d, R_side_margins ds d → ds.length = 1 := by
  intro ds d hh
  unfold R_side_margins at hh
  repeat (obtain ⟨_, hh⟩ := hh)
  subst_eqs
  rfl
theorem ok_side_margins {P : Program} {w : World} {K : PySem.W.Frag} {mg : Str → Option Value} {base : Heap} {f : Addr} {fd : FuncData} (F : FnP K "side_margins" s_side_margins f fd) (g0 : mg "side_margins" = some (.ref f)) : Cal P w K mg base 1 "side_margins" ["style"] (spD K  R_side_margins) := by
  refine cal_mk F sc_side_margins g0 (spD_len R_side_margins_len) (fun _ _ _ _ _ _ us hl => match us, hl with | [_], _ => rfl) (fun cdv A outer s H vs Q E hr h => ⟨_,
    (pss_cons (ps_ret (pe_op op_add (pe_dget2 (DL.u1 hr.units) (pv 0) pe_str pe_int ⟨rfl, rfl, rfl, rfl⟩) (pe_dget2 (DL.u1 hr.units) (pv 0) pe_str pe_int ⟨rfl, rfl, rfl, rfl⟩)))
     pss_nil), ?_⟩)
  refine run_spD h fun N ds d hR hq => ?_
  obtain ⟨m, h1, h2, rfl, rfl⟩ := hR
  walk_at "env"
  refine gs_ret (ex_i2 (ex_dget2D (ek := ekS) (ev := evS) (a := "margin_left") ekS_inj (ex_var rfl) ex_str ex_int h1.get) (ex_dget2D (ek := ekS) (ev := evS) (a := "margin_right") ekS_inj (ex_var rfl) ex_str ex_int h2.get)) hq
-- END side_margins
theorem sc_bounded : FnScope ["style", "width"] ["style", "width"] (defScope s_bounded) := ⟨rfl, rfl, rfl, by decide +kernel, rfl, by decide +kernel, by decide +kernel⟩
structure BoxM (m : Tb) (le mo pa bo : Int) : Prop where
  le : getA m "least_width" = some (.int le)
  mo : getA m "most_width" = some (.int mo)
  pa : getA m "padding" = some (.int pa)
  bo : getA m "border" = some (.int bo)
def R_bounded : List PyData → PyData → Prop := fun ds d => ∃ (m : Tb) (le mo pa bo x : Int), BoxM m le mo pa bo ∧ ds = [dS m, .int x] ∧ d = .int (max (max (min x mo) le) (2 * (bo + pa)))
theorem R_bounded_i {m : Tb} {le mo pa bo x : Int} (h : BoxM m le mo pa bo) : R_bounded [dS m, .int x] (.int (max (max (min x mo) le) (2 * (bo + pa)))) := ⟨m, le, mo, pa, bo, x, h, rfl, rfl⟩
local macro_rules | `(tactic| walk_at "r2") => `(tactic| exact R_bounded_i (by assumption))
theorem R_bounded_len : ∀ ds d, R_bounded ds d → ds.length = 2 := by
  intro ds d hh
  unfold R_bounded at hh
  repeat (obtain ⟨_, hh⟩ := hh)
  subst_eqs
  rfl
theorem ok_bounded {P : Program} {w : World} {K : PySem.W.Frag} {mg : Str → Option Value} {base : Heap} {f : Addr} {fd : FuncData} (F : FnP K "bounded" s_bounded f fd) (g0 : mg "bounded" = some (.ref f)) (h_frame : Cal P w K mg base 1 "frame" ["style"] (spD K  R_frame)) (z_max : mg "max" = none) (z_min : mg "min" = none) : Cal P w K mg base 2 "bounded" ["style", "width"] (spD K  R_bounded) := by
  refine cal_mk F sc_bounded g0 (spD_len R_bounded_len) (fun _ _ _ _ _ _ us hl => match us, hl with | [_, _], _ => rfl) (fun cdv A outer s H vs Q E hr h => ⟨_,
    (pss_cons (ps_ret (pe_callB (call_max3Nu rfl) (by rfl) z_max (by decide +kernel) (pa_cons (pe_callB (call_min2 rfl) (by rfl) z_min (by decide +kernel) (pa_cons (pv 1) (pa_cons (pe_dget (DL.u1 hr.units) (pv 0) pe_str (fun _ _ => rfl)) pa_nil))) (pa_cons (pe_dget (DL.u1 hr.units) (pv 0) pe_str (fun _ _ => rfl)) (pa_cons (pe_op op_mul pe_int (DL.pe_cal h_frame hr (by decide) (by rfl) pass0 (pa_cons (pv 0) pa_nil))) pa_nil)))))
     pss_nil), ?_⟩)
  refine run_spD h fun N ds d hR hq => ?_
  obtain ⟨m, le, mo, pa, bo, x, hb, rfl, rfl⟩ := hR
  obtain ⟨h1, h2, h3, h4⟩ := hb
  walk_at "env"
  refine gs_ret (ex_max3 rfl (ex_min2 rfl (ex_var rfl) (ex_dgetD (ek := ekS) (ev := evS) (a := "most_width") ekS_inj (ex_var rfl) ex_str h2)) (ex_dgetD (ek := ekS) (ev := evS) (a := "least_width") ekS_inj (ex_var rfl) ex_str h1) (ex_i2c ex_int (ex_call (ea_cons (ex_var rfl) ea_nil) (R_frame_i h4 h3)) (Or.inl ⟨by decide, by decide⟩))) hq
-- END bounded
theorem sc_is_number : FnScope ["value"] ["value"] (defScope s_is_number) := ⟨rfl, rfl, rfl, by decide +kernel, rfl, by decide +kernel, by decide +kernel⟩
def R_is_number : List PyData → PyData → Prop := fun ds d => ∃ i, ds = [.int i] ∧ d = .bool true
theorem R_is_number_i {i : Int} : R_is_number [.int i] (.bool true) := ⟨i, rfl, rfl⟩
local macro_rules | `(tactic| walk_at "r2") => `(tactic| exact R_is_number_i)
theorem R_is_number_len : ∀ ds d, R_is_number ds d → ds.length = 1 := by
  intro ds d hh
  unfold R_is_number at hh
  repeat (obtain ⟨_, hh⟩ := hh)
  subst_eqs
  rfl
theorem ok_is_number {P : Program} {w : World} {K : PySem.W.Frag} {mg : Str → Option Value} {base : Heap} {f : Addr} {fd : FuncData} (F : FnP K "is_number" s_is_number f fd) (g0 : mg "is_number" = some (.ref f)) (z_isinstance : mg "isinstance" = none) (z_int : mg "int" = none) (z_bool : mg "bool" = none) : Cal P w K mg base 1 "is_number" ["value"] (spD K  R_is_number) := by
  refine cal_mk F sc_is_number g0 (spD_len R_is_number_len) (fun _ _ _ _ _ _ us hl => match us, hl with | [_], _ => rfl) (fun cdv A outer s H vs Q E hr h => ⟨_,
    (pss_cons (ps_ret (pe_and (pe_callB (DL.kIsi (K := K)) (by rfl) z_isinstance (by decide +kernel) (pa_cons (pv 0) (pa_cons (pe_bltn (v := .ty "int") (u := .type "int") (by rfl) z_int (by decide +kernel) rfl) pa_nil))) (pe_one (pe_not (pe_callB (DL.kIsi (K := K)) (by rfl) z_isinstance (by decide +kernel) (pa_cons (pv 0) (pa_cons (pe_bltn (v := .ty "bool") (u := .type "bool") (by rfl) z_bool (by decide +kernel) rfl) pa_nil)))))))
     pss_nil), ?_⟩)
  refine run_spD h fun N ds d hR hq => ?_
  obtain ⟨i, rfl, rfl⟩ := hR
  walk_at "env"
  walk_at "ret"
-- END is_number
theorem sc_Page__row : FnScope ["self", "node"] ["self", "node"] (defScope s_Page__row) := ⟨rfl, rfl, rfl, by decide +kernel, rfl, by decide +kernel, by decide +kernel⟩
def R_Page__row : Addr → Addr → List PyData → PyData → Prop := fun CP CH ds d => ∃ (p : Pg) (n : Int), getA p.hs.cells (.inl n) = some d ∧ ds = [pgD CP CH p, .int n]
theorem R_Page__row_i {CP CH : Addr} {p : Pg} {n : Int} {d : PyData} (h : getA p.hs.cells (.inl n) = some d) : R_Page__row CP CH [pgD CP CH p, .int n] d := ⟨p, n, h, rfl⟩
local macro_rules | `(tactic| walk_at "r2") => `(tactic| exact R_Page__row_i (by assumption))
theorem R_Page__row_len : ∀ (C_Page C_History : Addr) ds d, R_Page__row C_Page C_History ds d → ds.length = 2 := by
  intro C_Page C_History ds d hh
  unfold R_Page__row at hh
  repeat (obtain ⟨_, hh⟩ := hh)
  subst_eqs
  rfl
theorem ok_Page__row {P : Program} {w : World} {K : PySem.W.Frag} {mg : Str → Option Value} {base : Heap} {f : Addr} {fd : FuncData} (F : DL.FnM K "_row" "Page._row" s_Page__row [] f fd) {C_History : Addr} (kC_History : Cls K C_History) (n_History_cells : NoAttr K C_History "cells") (n_History__done : NoAttr K C_History "_done") (n_History__undone : NoAttr K C_History "_undone") {C_Page : Addr} (kC_Page : Cls K C_Page) (n_Page_width : NoAttr K C_Page "width") (n_Page_height : NoAttr K C_Page "height") (n_Page__last_id : NoAttr K C_Page "_last_id") (n_Page__moment : NoAttr K C_Page "_moment") (n_Page__marked : NoAttr K C_Page "_marked") (n_Page__history : NoAttr K C_Page "_history") (h_is_number : Cal P w K mg base 1 "is_number" ["value"] (spD K  R_is_number)) (me : Meth K C_Page "_row" f) : DL.MetP P w K mg base 2 C_Page "_row" ["self", "node"] (spD K  (R_Page__row C_Page C_History)) := by
  refine DL.met_mk F sc_Page__row kC_Page me (spD_len (R_Page__row_len C_Page C_History)) (fun _ _ _ _ _ _ us hl => match us, hl with | [_, _], _ => rfl) (fun cdv A outer s H vs Q E hr h => ⟨_,
    (pss_cons (ps_if (PW.pt (pw_or (pt_not (pt_val (DL.pe_cal h_is_number hr (by decide) (by rfl) pass0 (pa_cons (pv 1) pa_nil)))) (pw_or1 (pt_cmp (pc_dnotin (DL.u1 hr.units) (pv 1) (DL.kFld (K := K) (DL.kFld (K := K) (pv 0))))))))
     (pss_cons DL.ps_never
     pss_nil)
     pss_nil)
     (pss_cons (ps_ret (pe_dget (DL.u1 hr.units) (DL.kFld (K := K) (DL.kFld (K := K) (pv 0))) (pv 1) (fun _ _ => rfl)))
     pss_nil)), ?_⟩)
  refine run_spD h fun N ds d hR hq => ?_
  obtain ⟨p, n, hg, rfl⟩ := hR
  walk_at "env"
  refine gs_if (b := false) (EvT.is (et_or (et_not (et_B (ex_call (ea_cons (ex_var rfl) ea_nil) R_is_number_i))) (fun _ => et_test (ex_notinD (ek := fun k : Key => k) (ev := fun d : PyData => d) (a := .inl n) (fun _ _ e => e) (ex_var rfl) (by walk_at "v")))) ?_) (fun z => nomatch z) fun _ => g_nextU ?_
  · rw [hg]; rfl
  refine gs_ret (ex_dgetD (ek := fun k : Key => k) (ev := fun d : PyData => d) (a := .inl n) (fun _ _ e => e) (by walk_at "v") (ex_var rfl) hg) hq
-- END Page__row
theorem sc_Page_children : FnScope ["self", "node"] ["self", "node"] (defScope s_Page_children) := ⟨rfl, rfl, rfl, by decide +kernel, rfl, by decide +kernel, by decide +kernel⟩
def R_Page_children : Addr → Addr → List PyData → List PyData → Prop := fun CP CH ds rs => ∃ (p : Pg) (n : Int) (r : Rw), getA p.hs.cells (.inl n) = some r.d ∧ ds = [pgD CP CH p, .int n] ∧ rs = r.kids.map PyData.int
theorem R_Page_children_i {CP CH : Addr} {p : Pg} {n : Int} {r : Rw} (h : getA p.hs.cells (.inl n) = some r.d) : R_Page_children CP CH [pgD CP CH p, .int n] (r.kids.map PyData.int) := ⟨p, n, r, h, rfl, rfl⟩
local macro_rules | `(tactic| walk_at "r2") => `(tactic| exact R_Page_children_i (by assumption))
theorem R_Page_children_len : ∀ (C_Page C_History : Addr) ds d, R_Page_children C_Page C_History ds d → ds.length = 2 := by
  intro C_Page C_History ds d hh
  unfold R_Page_children at hh
  repeat (obtain ⟨_, hh⟩ := hh)
  subst_eqs
  rfl
theorem ok_Page_children {P : Program} {w : World} {K : PySem.W.Frag} {mg : Str → Option Value} {base : Heap} {f : Addr} {fd : FuncData} (F : DL.FnM K "children" "Page.children" s_Page_children [] f fd) {C_History : Addr} (kC_History : Cls K C_History) (n_History_cells : NoAttr K C_History "cells") (n_History__done : NoAttr K C_History "_done") (n_History__undone : NoAttr K C_History "_undone") {C_Page : Addr} (kC_Page : Cls K C_Page) (n_Page_width : NoAttr K C_Page "width") (n_Page_height : NoAttr K C_Page "height") (n_Page__last_id : NoAttr K C_Page "_last_id") (n_Page__moment : NoAttr K C_Page "_moment") (n_Page__marked : NoAttr K C_Page "_marked") (n_Page__history : NoAttr K C_Page "_history") (h_Page__row : DL.MetP P w K mg base 2 C_Page "_row" ["self", "node"] (spD K  (R_Page__row C_Page C_History))) (z_list : mg "list" = none) (c_CHILDREN : ∃ t, mg "CHILDREN" = some (.int 6 t)) (me : Meth K C_Page "children" f) : DL.MetP P w K mg base 3 C_Page "children" ["self", "node"] (spF K  (R_Page_children C_Page C_History)) := by
  refine DL.met_mk F sc_Page_children kC_Page me (spF_len (R_Page_children_len C_Page C_History)) (fun _ _ _ _ _ _ us hl => match us, hl with | [_, _], _ => rfl) (fun cdv A outer s H vs Q E hr h => ⟨_,
    (pss_cons (ps_ret (pe_callTy (DL.kList (K := K)) (by rfl) z_list (by decide +kernel) (pa_cons (pe_ix (DL.kIxT (K := K)) (DL.pe_metP h_Page__row hr (by decide) pass0 (pv 0) (pa_cons (pv 1) pa_nil)) (C8.pe_gc (v := .int 6) (by rfl) (DL.gci c_CHILDREN)) (fun _ _ => rfl)) pa_nil)))
     pss_nil), ?_⟩)
  refine run_spF h fun N ds d hR hq => ?_
  obtain ⟨p, n, r, hg, rfl, rfl⟩ := hR
  walk_at "env"
  exact gs_retF (ef_listTu (ex_ixT (ds := r.l) (by walk_at "v") ex_int (atI_nat (j := 6) rfl))) (fun _ h => h) hq
-- END Page_children
theorem sc_Page_kind : FnScope ["self", "node"] ["self", "node"] (defScope s_Page_kind) := ⟨rfl, rfl, rfl, by decide +kernel, rfl, by decide +kernel, by decide +kernel⟩
def R_Page_kind : Addr → Addr → List PyData → PyData → Prop := fun CP CH ds d => ∃ (p : Pg) (n : Int) (r : Rw), getA p.hs.cells (.inl n) = some r.d ∧ ds = [pgD CP CH p, .int n] ∧ d = .str (kdS r.box)
theorem R_Page_kind_i {CP CH : Addr} {p : Pg} {n : Int} {r : Rw} (h : getA p.hs.cells (.inl n) = some r.d) : R_Page_kind CP CH [pgD CP CH p, .int n] (.str (kdS r.box)) := ⟨p, n, r, h, rfl, rfl⟩
local macro_rules | `(tactic| walk_at "r2") => `(tactic| exact R_Page_kind_i (by assumption))
theorem R_Page_kind_len : ∀ (C_Page C_History : Addr) ds d, R_Page_kind C_Page C_History ds d → ds.length = 2 := by
  intro C_Page C_History ds d hh
  unfold R_Page_kind at hh
  repeat (obtain ⟨_, hh⟩ := hh)
  subst_eqs
  rfl
theorem ok_Page_kind {P : Program} {w : World} {K : PySem.W.Frag} {mg : Str → Option Value} {base : Heap} {f : Addr} {fd : FuncData} (F : DL.FnM K "kind" "Page.kind" s_Page_kind [] f fd) {C_History : Addr} (kC_History : Cls K C_History) (n_History_cells : NoAttr K C_History "cells") (n_History__done : NoAttr K C_History "_done") (n_History__undone : NoAttr K C_History "_undone") {C_Page : Addr} (kC_Page : Cls K C_Page) (n_Page_width : NoAttr K C_Page "width") (n_Page_height : NoAttr K C_Page "height") (n_Page__last_id : NoAttr K C_Page "_last_id") (n_Page__moment : NoAttr K C_Page "_moment") (n_Page__marked : NoAttr K C_Page "_marked") (n_Page__history : NoAttr K C_Page "_history") (h_Page__row : DL.MetP P w K mg base 2 C_Page "_row" ["self", "node"] (spD K  (R_Page__row C_Page C_History))) (c_KIND : ∃ t, mg "KIND" = some (.int 1 t)) (me : Meth K C_Page "kind" f) : DL.MetP P w K mg base 3 C_Page "kind" ["self", "node"] (spD K  (R_Page_kind C_Page C_History)) := by
  refine DL.met_mk F sc_Page_kind kC_Page me (spD_len (R_Page_kind_len C_Page C_History)) (fun _ _ _ _ _ _ us hl => match us, hl with | [_, _], _ => rfl) (fun cdv A outer s H vs Q E hr h => ⟨_,
    (pss_cons (ps_ret (pe_ix (DL.kIxT (K := K)) (DL.pe_metP h_Page__row hr (by decide) pass0 (pv 0) (pa_cons (pv 1) pa_nil)) (C8.pe_gc (v := .int 1) (by rfl) (DL.gci c_KIND)) (fun _ _ => rfl)))
     pss_nil), ?_⟩)
  refine run_spD h fun N ds d hR hq => ?_
  obtain ⟨p, n, r, hg, rfl, rfl⟩ := hR
  walk_at "env"
  exact gs_ret (ex_ixT (ds := r.l) (by walk_at "v") ex_int (atI_nat (j := 1) rfl)) hq
-- END Page_kind
theorem sc__is_in_flow : FnScope ["page", "styles", "node"] ["page", "styles", "node"] (defScope s__is_in_flow) := ⟨rfl, rfl, rfl, by decide +kernel, rfl, by decide +kernel, by decide +kernel⟩
def R__is_in_flow : Addr → Addr → List PyData → PyData → Prop := fun CP CH ds d => ∃ (p : Pg) (st : St) (n : Int) (r : Rw), getA p.hs.cells (.inl n) = some r.d ∧ FlOk st n r ∧ ds = [pgD CP CH p, dSt st, .int n] ∧ d = .bool (inFl st n r)
theorem R__is_in_flow_i {CP CH : Addr} {p : Pg} {st : St} {n : Int} {r : Rw} (h : getA p.hs.cells (.inl n) = some r.d) (h2 : FlOk st n r) : R__is_in_flow CP CH [pgD CP CH p, dSt st, .int n] (.bool (inFl st n r)) := ⟨p, st, n, r, h, h2, rfl, rfl⟩
local macro_rules | `(tactic| walk_at "r2") => `(tactic| exact R__is_in_flow_i)
theorem R__is_in_flow_len : ∀ (C_Page C_History : Addr) ds d, R__is_in_flow C_Page C_History ds d → ds.length = 3 := by
  intro C_Page C_History ds d hh
  unfold R__is_in_flow at hh
  repeat (obtain ⟨_, hh⟩ := hh)
  subst_eqs
  rfl
theorem ok__is_in_flow {P : Program} {w : World} {K : PySem.W.Frag} {mg : Str → Option Value} {base : Heap} {f : Addr} {fd : FuncData} (F : FnP K "_is_in_flow" s__is_in_flow f fd) (g0 : mg "_is_in_flow" = some (.ref f)) {C_History : Addr} (kC_History : Cls K C_History) (n_History_cells : NoAttr K C_History "cells") (n_History__done : NoAttr K C_History "_done") (n_History__undone : NoAttr K C_History "_undone") {C_Page : Addr} (kC_Page : Cls K C_Page) (n_Page_width : NoAttr K C_Page "width") (n_Page_height : NoAttr K C_Page "height") (n_Page__last_id : NoAttr K C_Page "_last_id") (n_Page__moment : NoAttr K C_Page "_moment") (n_Page__marked : NoAttr K C_Page "_marked") (n_Page__history : NoAttr K C_Page "_history") (h_Page_kind : DL.MetP P w K mg base 3 C_Page "kind" ["self", "node"] (spD K  (R_Page_kind C_Page C_History))) : Cal P w K mg base 4 "_is_in_flow" ["page", "styles", "node"] (spD K  (R__is_in_flow C_Page C_History)) := by
  refine cal_mk F sc__is_in_flow g0 (spD_len (R__is_in_flow_len C_Page C_History)) (fun _ _ _ _ _ _ us hl => match us, hl with | [_, _, _], _ => rfl) (fun cdv A outer s H vs Q E hr h => ⟨_,
    (pss_cons (ps_if (pt_cmpR op_eq (DL.pe_metP h_Page_kind hr (by decide) pass0 (pv 0) (pa_cons (pv 2) pa_nil)) pe_str (nomark _))
     (pss_cons (ps_ret pe_bl)
     pss_nil)
     pss_nil)
     (pss_cons (ps_ret (pe_and (pe_cmpR op_ne (pe_dget (DL.u1 hr.units) (pe_dget (DL.u1 hr.units) (pv 1) (pv 2) (fun _ _ => rfl)) pe_str (fun _ _ => rfl)) pe_str (nomark _)) (pe_one (pe_cmpR op_ne (pe_dget (DL.u1 hr.units) (pe_dget (DL.u1 hr.units) (pv 1) (pv 2) (fun _ _ => rfl)) pe_str (fun _ _ => rfl)) pe_str (nomark _)))))
     pss_nil)), ?_⟩)
  refine run_spD h fun N ds d hR hq => ?_
  obtain ⟨p, st, n, r, hg, hf, rfl, rfl⟩ := hR
  walk_at "env"
  have hk : (kdS r.box == ("text" : Str)) = !r.box := by cases r.box <;> decide +kernel
  refine gs_if (b := !r.box) (EvT.is (et_test (ex_eqS (ex_methD (ex_var rfl) rfl (ea_cons (ex_var rfl) ea_nil) (R_Page_kind_i hg)) ex_str)) hk) (fun hb => ?_) (fun hb => g_nextU ?_)
  · have hb' : r.box = false := by simpa using hb
    refine gs_ret (EvX.is ex_bl ?_) hq
    unfold inFl
    rw [hb']; rfl
  · have hb' : r.box = true := by simpa using hb
    obtain ⟨m, x, y, h1, h2, h3⟩ := hf hb'
    have hm : ∀ {w : Bool} {c : Cn} {os : List SO}, EvX w c [some (.i (pgD C_Page C_History p)), some (.i (dSt st)), some (.i (.int n))] os (tDGet (tVar 1) (tVar 2)) (dS m) := ex_dgetD (ek := ekI) (ev := dS) (a := n) ekI_inj (ex_var rfl) (ex_var rfl) h1
    refine gs_ret (EvX.is (ex_and (ex_neS (ex_dgetD (ek := ekS) (ev := evS) (a := "display") ekS_inj hm ex_str h2) ex_str) (fun _ => ex_neS (ex_dgetD (ek := ekS) (ev := evS) (a := "place") ekS_inj hm ex_str h3) ex_str)) ?_) hq
    unfold inFl isS
    rw [if_pos hb', h1]
    show _ = PyData.bool (!(match getA m "display" with | some (.str z) => z == "none" | _ => false) && !(match getA m "place" with | some (.str z) => z == "free" | _ => false))
    rw [h2, h3]
-- END _is_in_flow
theorem sc_flow_children : FnScope ["page", "styles", "node", "child"] ["page", "styles", "node"] (defScope s_flow_children) := ⟨rfl, rfl, rfl, by decide +kernel, rfl, by decide +kernel, by decide +kernel⟩
def R_flow_children : Addr → Addr → List PyData → List PyData → Prop := fun CP CH ds rs => ∃ (p : Pg) (st : St) (n : Int) (r : Rw), Rows p.hs.cells ∧ p.t n = some r ∧ r.kids.length ≤ 40000 ∧ (∀ k ∈ r.kids, ∃ r2, p.t k = some r2 ∧ FlOk st k r2) ∧ ds = [pgD CP CH p, dSt st, .int n] ∧ rs = (flK p st r).map PyData.int
theorem R_flow_children_i {CP CH : Addr} {p : Pg} {st : St} {n : Int} {r : Rw} (h : Rows p.hs.cells) (h1 : p.t n = some r) (h2 : r.kids.length ≤ 40000) (h3 : ∀ k ∈ r.kids, ∃ r2, p.t k = some r2 ∧ FlOk st k r2) : R_flow_children CP CH [pgD CP CH p, dSt st, .int n] ((flK p st r).map PyData.int) := ⟨p, st, n, r, h, h1, h2, h3, rfl, rfl⟩
local macro_rules | `(tactic| walk_at "r2") => `(tactic| exact R_flow_children_i)
theorem R_flow_children_len : ∀ (C_Page C_History : Addr) ds d, R_flow_children C_Page C_History ds d → ds.length = 3 := by
  intro C_Page C_History ds d hh
  unfold R_flow_children at hh
  repeat (obtain ⟨_, hh⟩ := hh)
  subst_eqs
  rfl
theorem ok_flow_children {P : Program} {w : World} {K : PySem.W.Frag} {mg : Str → Option Value} {base : Heap} {f : Addr} {fd : FuncData} (F : FnP K "flow_children" s_flow_children f fd) (g0 : mg "flow_children" = some (.ref f)) {C_History : Addr} (kC_History : Cls K C_History) (n_History_cells : NoAttr K C_History "cells") (n_History__done : NoAttr K C_History "_done") (n_History__undone : NoAttr K C_History "_undone") {C_Page : Addr} (kC_Page : Cls K C_Page) (n_Page_width : NoAttr K C_Page "width") (n_Page_height : NoAttr K C_Page "height") (n_Page__last_id : NoAttr K C_Page "_last_id") (n_Page__moment : NoAttr K C_Page "_moment") (n_Page__marked : NoAttr K C_Page "_marked") (n_Page__history : NoAttr K C_Page "_history") (h_Page_children : DL.MetP P w K mg base 3 C_Page "children" ["self", "node"] (spF K  (R_Page_children C_Page C_History))) (h__is_in_flow : Cal P w K mg base 4 "_is_in_flow" ["page", "styles", "node"] (spD K  (R__is_in_flow C_Page C_History))) : Cal P w K mg base 5 "flow_children" ["page", "styles", "node"] (spF K  (R_flow_children C_Page C_History)) := by
  refine cal_mk F sc_flow_children g0 (spF_len (R_flow_children_len C_Page C_History)) (fun _ _ _ _ _ _ us hl => match us, hl with | [_, _, _], _ => rfl) (fun cdv A outer s H vs Q E hr h => ⟨_,
    (pss_cons (ps_ret (pe_lc (own := [("child", 3)]) (by rfl) sc_flow_children.nd (DL.kPiL (K := K) (DL.pe_metP h_Page_children hr (by decide) pass0 (pv 0) (pa_cons (pv 2) pa_nil))) (blkOk_by (own := [("child", 3)]) (N := ["page", "styles", "node", "child"]) (sc := defScope s_flow_children) (by decide +kernel)) (fun _ _ _ _ _ => (pg_name (i := 3) sc_flow_children.nd rfl (by first | exact Or.inl rfl | exact Or.inr rfl))) (fun _ _ _ _ _ => (pts_one (pt_val (DL.pe_cal h__is_in_flow hr (by decide) (by rfl) pass0 (pa_cons (pv 0) (pa_cons (pv 1) (pa_cons (pv 3) pa_nil))))))) (fun _ _ _ _ _ => (pv 3))))
     pss_nil), ?_⟩)
  refine run_spF h fun N ds d hR hq => ?_
  obtain ⟨p, st, n, r, hrw, hr, hl, hk, rfl, rfl⟩ := hR
  have hg : getA p.hs.cells (.inl n) = some r.d := (tr_get hrw).mp hr
  walk_at "env"
  refine gs_retF (EvF.is (ef_lcD (xs := r.kids) (e := PyData.int) (fun k => match p.t k with | some r2 => inFl st k r2 | none => false) PyData.int (EvF.ev (ef_methD (ex_var rfl) rfl (ea_cons (ex_var rfl) ea_nil) (R_Page_children_i hg))) hl (fun fr lo up acc k hk2 => ⟨_, _, fun j hj => hj, tg_name, ?g1, fun _ => ex_var rfl⟩)) ?g2) (fun _ h => h) hq
  case g1 =>
    obtain ⟨r2, h1, h2⟩ := hk k hk2
    refine EvT.is (et_B (ex_call (ea_cons (ex_var rfl) (ea_cons (ex_var rfl) (ea_cons (ex_var rfl) ea_nil))) (R__is_in_flow_i ((tr_get hrw).mp h1) h2))) ?_
    rw [h1]
  case g2 => rfl
-- END flow_children
theorem sc__text_pair : FnScope ["string", "size", "sums", "least", "most", "start", "end", "parts", "low", "high"] ["string", "size"] (defScope s__text_pair) := ⟨rfl, rfl, rfl, by decide +kernel, rfl, by decide +kernel, by decide +kernel⟩
def R__text_pair : List PyData → PyData → Prop := fun ds d => ∃ (l : List Nat) (s : Int), 1 ≤ s ∧ s ≤ 1000000 ∧ l.length ≤ 40000 ∧ ds = [dT l, .int s] ∧ d = .tuple [.int (naT l s), .int (wiT l s)]
theorem R__text_pair_i {l : List Nat} {s : Int} (h1 : 1 ≤ s) (h2 : s ≤ 1000000) (h3 : l.length ≤ 40000) : R__text_pair [dT l, .int s] (.tuple [.int (naT l s), .int (wiT l s)]) := ⟨l, s, h1, h2, h3, rfl, rfl⟩
local macro_rules | `(tactic| walk_at "r2") => `(tactic| exact R__text_pair_i (by assumption) (by assumption) (by omega))
theorem R__text_pair_len : ∀ ds d, R__text_pair ds d → ds.length = 2 := by
  intro ds d hh
  unfold R__text_pair at hh
  repeat (obtain ⟨_, hh⟩ := hh)
  subst_eqs
  rfl
theorem ok__text_pair {P : Program} {w : World} {K : PySem.W.Frag} {mg : Str → Option Value} {base : Heap} {f : Addr} {fd : FuncData} (F : FnP K "_text_pair" s__text_pair f fd) (g0 : mg "_text_pair" = some (.ref f)) (h_offsets : Cal P w K mg base 2 "offsets" ["string", "size"] (spF K  R_offsets)) (h_paragraphs : Cal P w K mg base 1 "paragraphs" ["string"] (spF K  R_paragraphs)) (h_words : Cal P w K mg base 1 "words" ["string", "start", "end"] (spF K  R_words)) (z_max : mg "max" = none) : Cal P w K mg base 3 "_text_pair" ["string", "size"] (spD K  R__text_pair) := by
  refine cal_mk F sc__text_pair g0 (spD_len R__text_pair_len) (fun _ _ _ _ _ _ us hl => match us, hl with | [_, _], _ => rfl) (fun cdv A outer s H vs Q E hr h => ⟨_,
    (pss_cons (ps_set (i := 2) sc__text_pair.nd rfl (by first | exact Or.inl rfl | exact Or.inr rfl) (DL.pe_cal h_offsets hr (by decide) (by rfl) pass0 (pa_cons (pv 0) (pa_cons (pv 1) pa_nil))))
     (pss_cons (ps_set (i := 3) sc__text_pair.nd rfl (by first | exact Or.inl rfl | exact Or.inr rfl) pe_int)
     (pss_cons (ps_set (i := 4) sc__text_pair.nd rfl (by first | exact Or.inl rfl | exact Or.inr rfl) pe_int)
     (pss_cons (ps_for PassesOwn.never rfl (DL.kPiL (K := K) (DL.pe_cal h_paragraphs hr (by decide) (by rfl) pass0 (pa_cons (pv 0) pa_nil))) (DL.kTup (K := K) (n := 2) rfl (pgs_cons (pg_name (i := 5) sc__text_pair.nd rfl (by first | exact Or.inl rfl | exact Or.inr rfl)) (pgs_cons (pg_name (i := 6) sc__text_pair.nd rfl (by first | exact Or.inl rfl | exact Or.inr rfl)) pgs_nil)))
     (pss_cons (ps_set (i := 7) sc__text_pair.nd rfl (by first | exact Or.inl rfl | exact Or.inr rfl) (DL.pe_cal h_words hr (by decide) (by rfl) pass0 (pa_cons (pv 0) (pa_cons (pv 5) (pa_cons (pv 6) pa_nil)))))
     (pss_cons (ps_if (DL.kTru (K := K) (pv 7) (by intro _; rfl))
     (pss_cons (ps_set (i := 4) sc__text_pair.nd rfl (by first | exact Or.inl rfl | exact Or.inr rfl) (pe_callB (call_max2 rfl) (by rfl) z_max (by decide +kernel) (pa_cons (pv 4) (pa_cons (pe_op op_sub (pe_ix (DL.kIxL (K := K)) (pv 2) (pe_ix (DL.kIxT (K := K)) (pe_ix (DL.kIxL (K := K)) (pv 7) (pe_un un_neg pe_int) (fun _ _ => rfl)) pe_int (fun _ _ => rfl)) (fun _ _ => rfl)) (pe_ix (DL.kIxL (K := K)) (pv 2) (pe_ix (DL.kIxT (K := K)) (pe_ix (DL.kIxL (K := K)) (pv 7) pe_int (fun _ _ => rfl)) pe_int (fun _ _ => rfl)) (fun _ _ => rfl))) pa_nil))))
     pss_nil)
     pss_nil)
     (pss_cons (ps_for PassesOwn.never rfl (DL.kPiL (K := K) (pv 7)) (DL.kTup (K := K) (n := 2) rfl (pgs_cons (pg_name (i := 8) sc__text_pair.nd rfl (by first | exact Or.inl rfl | exact Or.inr rfl)) (pgs_cons (pg_name (i := 9) sc__text_pair.nd rfl (by first | exact Or.inl rfl | exact Or.inr rfl)) pgs_nil)))
     (pss_cons (ps_set (i := 3) sc__text_pair.nd rfl (by first | exact Or.inl rfl | exact Or.inr rfl) (pe_callB (call_max2 rfl) (by rfl) z_max (by decide +kernel) (pa_cons (pv 3) (pa_cons (pe_op op_sub (pe_ix (DL.kIxL (K := K)) (pv 2) (pv 9) (fun _ _ => rfl)) (pe_ix (DL.kIxL (K := K)) (pv 2) (pv 8) (fun _ _ => rfl))) pa_nil))))
     pss_nil))
     pss_nil))))
     (pss_cons (ps_ret (pe_tup (pa_cons (pv 3) (pa_cons (pv 4) pa_nil))))
     pss_nil))))), ?_⟩)
  refine run_spD h fun N ds d hR hq => ?_
  obtain ⟨l, s, h1, h2, h3, rfl, rfl⟩ := hR
  walk_at "env"
  refine gs_asg (d := .list ((offs s l).map PyData.int)) (EvF.ev (ef_call (ea_cons (ex_var rfl) (ea_cons (ex_var rfl) ea_nil)) (R_offsets_i h1 h2 h3))) ?_
  walk_at "nf"
  refine gs_asg (d := .int 0) ex_int ?_
  walk_at "nf"
  refine gs_asg (d := .int 0) ex_int ?_
  walk_at "nf"
  have gx : ∀ (c : Cn) (wb : Bool) (v0 v1 v3 v4 v5 v6 v7 v8 v9 : Option SV) (te : TE) (k : Nat), k ≤ l.length → (∀ wb, EvX wb c [v0, v1, some (.i (.list ((offs s l).map PyData.int))), v3, v4, v5, v6, v7, v8, v9] [] te (.int (k : Int))) → EvX wb c [v0, v1, some (.i (.list ((offs s l).map PyData.int))), v3, v4, v5, v6, v7, v8, v9] [] (tOp (rIxL c.K) (tVar 2) te) (.int (sumsOf s l k)) := fun c wb v0 v1 v3 v4 v5 v6 v7 v8 v9 te k hk h => ex_ixLD (ex_var rfl) (h true) (atI_nat (by rw [List.getElem?_map, offs_at s l k hk]; rfl))
  have hS : sumsOf s l = fun k => wid s (l.take k) := rfl
  refine gs_forL (xs := paras l) (e := fun p => .i (dNN p)) (fun pre => [some (.i (dT l)), some (.i (.int s)), some (.i (.list ((offs s l).map PyData.int))), some (.i (.int (naW (sumsOf s l) 0 (pre.flatMap (wordsP l))))), some (.i (.int (wiF l (sumsOf s l) 0 pre))), none, none, none, none, none]) (fun _ => []) (ew_list (ds := (paras l).map dNN) (EvF.ev (ef_call (ea_cons (ex_var rfl) ea_nil) (R_paragraphs_i h3)))) (by simp) (fun i p hp => itD_map i p hp) (fun c' _ ad σ H ok => ok) (fun _ _ _ => True.intro) (fun fr up pre p post hx => ⟨_, _, tg_tup (ds := [.int (p.1 : Int), .int (p.2 : Int)]) (tgs_cons tg_name (tgs_cons tg_name tgs_nil)) rfl, ?b1⟩) (gs_ret (ex_tup (ea_cons (ex_var rfl) (ea_cons (ex_var rfl) ea_nil)) (Nat.le_of_ble_eq_true rfl)) hq)
  case b1 =>
  walk_at "nf"
  obtain ⟨_, p1, p2, _⟩ := paras_at hx
  have hw := words_ok l p.1 p.2
  have hwe : wordsM l p.1 (min p.2 l.length) = wordsP l p := by rw [Nat.min_eq_left p2]
  have hwl : ∀ q ∈ wordsP l p, q.1 ≤ l.length ∧ q.2 ≤ l.length := fun q hq => by
    obtain ⟨a, b, e⟩ := List.append_of_mem hq
    obtain ⟨_, z1, z2, _⟩ := hw.each a q.1 q.2 b e
    omega
  refine gs_asg (d := .list ((wordsP l p).map dNN)) (EvF.ev (EvF.is (ef_call (ea_cons (ex_var rfl) (ea_cons (ex_var rfl) (ea_cons (ex_var rfl) ea_nil))) (R_words_i p.1 p.2 h3 (by omega) (by omega))) (by rw [hwe]))) ?_
  walk_at "nf"
  have hfm : (pre ++ [p]).flatMap (wordsP l) = pre.flatMap (wordsP l) ++ wordsP l p := by rw [List.flatMap_append]; simp
  have hws := wiF_snoc l (sumsOf s l) 0 pre p
  generalize hW : wordsP l p = W at *
  generalize hwp : wiF l (sumsOf s l) 0 (pre ++ [p]) = wp at *
  refine gs_ifJ [some (.i (dT l)), some (.i (.int s)), some (.i (.list ((offs s l).map PyData.int))), some (.i (.int (naW (sumsOf s l) 0 (pre.flatMap (wordsP l))))), some (.i (.int wp)), some (.i (.int (p.1 : Int))), some (.i (.int (p.2 : Int))), some (.i (.list (W.map dNN))), none, none] [] (b := !W.isEmpty) (EvT.is (et_truK (EvX.it (ex_var rfl))) (by simp)) ?k1 (fun hb hk => ?y1) (fun hb hk => ?n1)
  case n1 =>
    have e : W = [] := by simpa using hb
    have e2 : wp = wiF l (sumsOf s l) 0 pre := hws.trans (if_pos e)
    exact g_nextU (gs_is (by rw [e2]) rfl hk)
  case y1 =>
    have e : W ≠ [] := by simpa using hb
    obtain ⟨x, r, hxr⟩ := List.exists_cons_of_ne_nil e
    obtain ⟨i, t, hit⟩ : ∃ i t, W = i ++ [t] := ⟨W.dropLast, W.getLast e, (List.dropLast_concat_getLast e).symm⟩
    have l1 : (lineOf W).1 = x.1 := by unfold lineOf; rw [hxr]; rfl
    have l2 : (lineOf W).2 = t.2 := by unfold lineOf; rw [hit]; simp
    obtain ⟨hx1, _⟩ := hwl x (by rw [hxr]; exact List.mem_cons_self ..)
    obtain ⟨_, ht2⟩ := hwl t (by rw [hit]; exact List.mem_append_right _ (List.mem_cons_self ..))
    have hlast : atI (W.map dNN) (-1) = some (dNN t) := by
      rw [hit, List.map_append]
      exact L2.atI_last _ _
    have hfirst : atI (W.map dNN) 0 = some (dNN x) := by rw [hxr]; exact atI_nat (j := 0) rfl
    refine gs_asg (d := .int wp) (EvX.is (ex_max2 rfl (ex_var rfl) (ex_i2 (gx _ _ _ _ _ _ _ _ _ _ _ _ t.2 ht2 (fun _ => ex_ixT (ds := [.int (t.1 : Int), .int (t.2 : Int)]) (ex_ixLD (ex_var rfl) (ex_u ex_int) hlast) ex_int (atI_nat rfl))) (gx _ _ _ _ _ _ _ _ _ _ _ _ x.1 hx1 (fun _ => ex_ixT (ds := [.int (x.1 : Int), .int (x.2 : Int)]) (ex_ixLD (ex_var rfl) ex_int hfirst) ex_int (atI_nat rfl))))) (by rw [hws, if_neg e]; unfold spanW; rw [l1, l2])) ?_
    walk_at "nf"
    exact g_nextU hk
  case k1 =>
  refine gs_forL (xs := W) (e := fun q => .i (dNN q)) (fun done => [some (.i (dT l)), some (.i (.int s)), some (.i (.list ((offs s l).map PyData.int))), some (.i (.int (naW (sumsOf s l) (naW (sumsOf s l) 0 (pre.flatMap (wordsP l))) done))), some (.i (.int wp)), some (.i (.int (p.1 : Int))), some (.i (.int (p.2 : Int))), some (.i (.list (W.map dNN))), none, none]) (fun _ => []) (ew_list (ex_var rfl)) (by simp) (fun i q hp => itD_map i q hp) (fun c' _ ad σ H ok => ok) (fun _ _ _ => True.intro) (fun fr2 up2 done q rest hx2 => ⟨_, _, tg_tup (ds := [.int (q.1 : Int), .int (q.2 : Int)]) (tgs_cons tg_name (tgs_cons tg_name tgs_nil)) rfl, ?b2⟩) ?d2
  case d2 =>
    refine g_next fun ad σ H ok => ⟨ad, ?_⟩
    rw [← naW_app, ← hfm] at ok
    exact ok.weak (by simp [WkE]) (WkO.refl _) (by simp [EnLt, SvLt]) True.intro (by simp)
  case b2 =>
  walk_at "nf"
  obtain ⟨q1, q2⟩ := hwl q (by rw [hx2]; simp)
  refine gs_asg (d := .int (naW (sumsOf s l) (naW (sumsOf s l) 0 (pre.flatMap (wordsP l))) (done ++ [q]))) (EvX.is (ex_max2 rfl (ex_var rfl) (ex_i2 (gx _ _ _ _ _ _ _ _ _ _ _ _ q.2 q2 (fun _ => ex_var rfl)) (gx _ _ _ _ _ _ _ _ _ _ _ _ q.1 q1 (fun _ => ex_var rfl)))) (by rw [naW_app]; rfl)) ?_
  walk_at "nf"
  exact g_next fun ad σ H ok => ⟨ad, ok.weak (by simp [WkE]) (WkO.refl _) (by simp [EnLt, SvLt]) True.intro (by simp)⟩
-- END _text_pair
theorem sc_Page_text : FnScope ["self", "node", "row"] ["self", "node"] (defScope s_Page_text) := ⟨rfl, rfl, rfl, by decide +kernel, rfl, by decide +kernel, by decide +kernel⟩
def R_Page_text : Addr → Addr → List PyData → PyData → Prop := fun CP CH ds d => ∃ (p : Pg) (n : Int) (r : Rw), getA p.hs.cells (.inl n) = some r.d ∧ ds = [pgD CP CH p, .int n] ∧ d = (if r.box then .str "" else r.con)
theorem R_Page_text_i {CP CH : Addr} {p : Pg} {n : Int} {r : Rw} (h : getA p.hs.cells (.inl n) = some r.d) : R_Page_text CP CH [pgD CP CH p, .int n] (if r.box then .str "" else r.con) := ⟨p, n, r, h, rfl, rfl⟩
local macro_rules | `(tactic| walk_at "r2") => `(tactic| exact R_Page_text_i (by assumption))
theorem R_Page_text_len : ∀ (C_Page C_History : Addr) ds d, R_Page_text C_Page C_History ds d → ds.length = 2 := by
  intro C_Page C_History ds d hh
  unfold R_Page_text at hh
  repeat (obtain ⟨_, hh⟩ := hh)
  subst_eqs
  rfl
theorem ok_Page_text {P : Program} {w : World} {K : PySem.W.Frag} {mg : Str → Option Value} {base : Heap} {f : Addr} {fd : FuncData} (F : DL.FnM K "text" "Page.text" s_Page_text [] f fd) {C_History : Addr} (kC_History : Cls K C_History) (n_History_cells : NoAttr K C_History "cells") (n_History__done : NoAttr K C_History "_done") (n_History__undone : NoAttr K C_History "_undone") {C_Page : Addr} (kC_Page : Cls K C_Page) (n_Page_width : NoAttr K C_Page "width") (n_Page_height : NoAttr K C_Page "height") (n_Page__last_id : NoAttr K C_Page "_last_id") (n_Page__moment : NoAttr K C_Page "_moment") (n_Page__marked : NoAttr K C_Page "_marked") (n_Page__history : NoAttr K C_Page "_history") (h_Page__row : DL.MetP P w K mg base 2 C_Page "_row" ["self", "node"] (spD K  (R_Page__row C_Page C_History))) (c_CONTENT : ∃ t, mg "CONTENT" = some (.int 2 t)) (c_KIND : ∃ t, mg "KIND" = some (.int 1 t)) (me : Meth K C_Page "text" f) : DL.MetP P w K mg base 3 C_Page "text" ["self", "node"] (spD K  (R_Page_text C_Page C_History)) := by
  refine DL.met_mk F sc_Page_text kC_Page me (spD_len (R_Page_text_len C_Page C_History)) (fun _ _ _ _ _ _ us hl => match us, hl with | [_, _], _ => rfl) (fun cdv A outer s H vs Q E hr h => ⟨_,
    (pss_cons (ps_set (i := 2) sc_Page_text.nd rfl (by first | exact Or.inl rfl | exact Or.inr rfl) (DL.pe_metP h_Page__row hr (by decide) pass0 (pv 0) (pa_cons (pv 1) pa_nil)))
     (pss_cons (ps_ret (pe_ifExp (pt_cmpR op_eq (pe_ix (DL.kIxT (K := K)) (pv 2) (C8.pe_gc (v := .int 1) (by rfl) (DL.gci c_KIND)) (fun _ _ => rfl)) pe_str (nomark _)) (pe_ix (DL.kIxT (K := K)) (pv 2) (C8.pe_gc (v := .int 2) (by rfl) (DL.gci c_CONTENT)) (fun _ _ => rfl)) pe_str))
     pss_nil)), ?_⟩)
  refine run_spD h fun N ds d hR hq => ?_
  obtain ⟨p, n, r, hg, rfl, rfl⟩ := hR
  walk_at "env"
  refine gs_asg (d := r.d) (by walk_at "v") ?_
  walk_at "nf"
  refine gs_ret (ex_if (b := !r.box) (EvT.is (et_test (ex_eqS (ex_ixT (ds := r.l) (ex_var rfl) ex_int (atI_nat (j := 1) rfl)) ex_str)) (by cases r.box <;> decide +kernel)) (fun hx => EvX.is (ex_ixT (ds := r.l) (ex_var rfl) ex_int (atI_nat (j := 2) rfl)) ?a1) (fun hx => EvX.is ex_str ?a2)) hq
  case a1 => rw [if_neg (by simpa using hx)]
  case a2 => rw [if_pos (by simpa using hx)]
-- END Page_text
theorem sc__in_a_row : FnScope ["pairs", "gap", "gaps", "least", "most"] ["pairs", "gap"] (defScope s__in_a_row) := ⟨rfl, rfl, rfl, by decide +kernel, rfl, by decide +kernel, by decide +kernel⟩
def R__in_a_row : List PyData → PyData → Prop := fun ds d => ∃ (qs : List (Int × Int)) (g : Int), qs.length ≤ 40000 ∧ 0 ≤ g ∧ g ≤ 1000000 ∧ ds = [.list (qs.map dII), .int g] ∧ d = dII (rowM qs g)
theorem R__in_a_row_i {qs : List (Int × Int)} {g : Int} (h : qs.length ≤ 40000) (h1 : 0 ≤ g) (h2 : g ≤ 1000000) : R__in_a_row [.list (qs.map dII), .int g] (dII (rowM qs g)) := ⟨qs, g, h, h1, h2, rfl, rfl⟩
local macro_rules | `(tactic| walk_at "r2") => `(tactic| exact R__in_a_row_i (by omega) (by omega) (by omega))
theorem R__in_a_row_len : ∀ ds d, R__in_a_row ds d → ds.length = 2 := by
  intro ds d hh
  unfold R__in_a_row at hh
  repeat (obtain ⟨_, hh⟩ := hh)
  subst_eqs
  rfl
theorem ok__in_a_row {P : Program} {w : World} {K : PySem.W.Frag} {mg : Str → Option Value} {base : Heap} {f : Addr} {fd : FuncData} (F : FnP K "_in_a_row" s__in_a_row f fd) (g0 : mg "_in_a_row" = some (.ref f)) (z_max : mg "max" = none) (z_len : mg "len" = none) (z_sum : mg "sum" = none) : Cal P w K mg base 1 "_in_a_row" ["pairs", "gap"] (spD K  R__in_a_row) := by
  refine cal_mk F sc__in_a_row g0 (spD_len R__in_a_row_len) (fun _ _ _ _ _ _ us hl => match us, hl with | [_, _], _ => rfl) (fun cdv A outer s H vs Q E hr h => ⟨_,
    (pss_cons (ps_set (i := 2) sc__in_a_row.nd rfl (by first | exact Or.inl rfl | exact Or.inr rfl) (pe_op op_mul (pv 1) (pe_callB (call_max2 rfl) (by rfl) z_max (by decide +kernel) (pa_cons pe_int (pa_cons (pe_op op_sub (pe_callB (DL.kLen (K := K)) (by rfl) z_len (by decide +kernel) (pa_cons (pv 0) pa_nil)) pe_int) pa_nil)))))
     (pss_cons (ps_ret (pe_tup (pa_cons (pe_op op_add (pe_callB (DL.kSum (K := K) rfl) (by rfl) z_sum (by decide +kernel) (pa_cons (pe_lc (own := [("least", 3), ("most", 4)]) (by rfl) sc__in_a_row.nd (DL.kPiL (K := K) (pv 0)) (blkOk_by (own := [("least", 3), ("most", 4)]) (N := ["pairs", "gap", "gaps", "least", "most"]) (sc := defScope s__in_a_row) (by decide +kernel)) (fun _ _ _ _ _ => (DL.kTup (K := K) (n := 2) rfl (pgs_cons (pg_name (i := 3) sc__in_a_row.nd rfl (by first | exact Or.inl rfl | exact Or.inr rfl)) (pgs_cons (pg_name (i := 4) sc__in_a_row.nd rfl (by first | exact Or.inl rfl | exact Or.inr rfl)) pgs_nil)))) (fun _ _ _ _ _ => pts_nil) (fun _ _ _ _ _ => (pv 3))) pa_nil)) (pv 2)) (pa_cons (pe_op op_add (pe_callB (DL.kSum (K := K) rfl) (by rfl) z_sum (by decide +kernel) (pa_cons (pe_lc (own := [("least", 3), ("most", 4)]) (by rfl) sc__in_a_row.nd (DL.kPiL (K := K) (pv 0)) (blkOk_by (own := [("least", 3), ("most", 4)]) (N := ["pairs", "gap", "gaps", "least", "most"]) (sc := defScope s__in_a_row) (by decide +kernel)) (fun _ _ _ _ _ => (DL.kTup (K := K) (n := 2) rfl (pgs_cons (pg_name (i := 3) sc__in_a_row.nd rfl (by first | exact Or.inl rfl | exact Or.inr rfl)) (pgs_cons (pg_name (i := 4) sc__in_a_row.nd rfl (by first | exact Or.inl rfl | exact Or.inr rfl)) pgs_nil)))) (fun _ _ _ _ _ => pts_nil) (fun _ _ _ _ _ => (pv 4))) pa_nil)) (pv 2)) pa_nil))))
     pss_nil)), ?_⟩)
  refine run_spD h fun N ds d hR hq => ?_
  obtain ⟨qs, g, hl, h1, h2, rfl, rfl⟩ := hR
  walk_at "env"
  refine gs_asg (d := .int (g * max 0 ((qs.length : Int) - 1))) (EvX.is (ex_i2c (ex_var rfl) (ex_max2 rfl ex_int (ex_i2 (ex_lenK (EvX.it (ex_var rfl))) ex_int)) ?c1) (by simp)) ?_
  case c1 => exact Or.inl ⟨by omega, by simp; omega⟩
  walk_at "nf"
  refine gs_ret (show EvX _ _ _ _ _ (dII (rowM qs g)) from ex_tup (ea_cons (ex_i2 (ex_sum (ns := qs.map (·.1)) (EvF.it (EvF.is2 (ef_lcD (xs := qs) (e := dII) (fun _ => true) (fun q => .int q.1) (ex_var rfl) hl (fun fr lo up acc q hq2 => ⟨_, _, ?a1, tg_tup (ds := [.int q.1, .int q.2]) (tgs_cons tg_name (tgs_cons tg_name tgs_nil)) rfl, et_yes, fun _ => ex_var rfl⟩)) ?a2))) (ex_var rfl)) (ea_cons (ex_i2 (ex_sum (ns := qs.map (·.2)) (EvF.it (EvF.is2 (ef_lcD (xs := qs) (e := dII) (fun _ => true) (fun q => .int q.2) (ex_var rfl) hl (fun fr lo up acc q hq2 => ⟨_, _, ?b1, tg_tup (ds := [.int q.1, .int q.2]) (tgs_cons tg_name (tgs_cons tg_name tgs_nil)) rfl, et_yes, fun _ => ex_var rfl⟩)) ?b2))) (ex_var rfl)) ea_nil)) (Nat.le_of_ble_eq_true rfl)) hq
  case a1 => intro j hj; simpa using hj
  case b1 => intro j hj; simpa using hj
  case a2 => simp only [filt_all, List.map_map]; rfl
  case b2 => simp only [filt_all, List.map_map]; rfl
-- END _in_a_row
theorem sc_Measures__outer_pairs : FnScope ["self", "node", "found", "child", "margins", "least", "most"] ["self", "node"] (defScope s_Measures__outer_pairs) := ⟨rfl, rfl, rfl, by decide +kernel, rfl, by decide +kernel, by decide +kernel⟩
/-- what holds in the loop over the children -/
inductive PO (CM CP CH : Addr) (x : Ms) (n : Int) (r : Rw) (i : Nat) : Sy → List SO → Prop
  | mk (k : List (Key × PyData)) (h : MsOk { x with known := k }) : PO CM CP CH x n r i [some (.r 0), some (.i (.int n)), some (.r 2), none, none, none, none] (shapeM CM CP CH { x with known := k } ++ [.lst ((((outs x.p x.st 31 r).take i).map dII).map SV.i)])
theorem MOk.sty {p : Pg} {st : St} {h : Nat} {n : Int} (a : MOk p st h n) : ∃ r m, p.t n = some r ∧ getA st n = some m ∧ FlOk st n r ∧ IntN m "margin_left" ∧ IntN m "margin_right" := by
  cases h with
  | zero => exact a.elim
  | succ h =>
    obtain ⟨r, m, h1, h2, h3, _⟩ := a
    rcases h3 with ⟨hb, t⟩ | ⟨hb, t⟩
    · have hF : FlOk st n r := fun z => by rw [hb] at z; cases z
      exact ⟨r, m, h1, h2, hF, Or.inl t.ml, Or.inl t.mr⟩
    · obtain ⟨y, hy⟩ := t.di
      obtain ⟨z, hz⟩ := t.pl
      have hF : FlOk st n r := fun _ => ⟨m, y, z, h2, hy, hz⟩
      exact ⟨r, m, h1, h2, hF, Or.inr t.ml, Or.inr t.mr⟩
def R_Measures_pair : Nat → Ms → List SV → Ms → PyData → Prop := fun h x ds x' d => ∃ n : Int, ds = [.r 0, .i (.int n)] ∧ MOk x.p x.st h n ∧ h ≤ 31 ∧ MsOk x ∧ (∃ k', x' = { x with known := k' } ∧ MsOk { x with known := k' }) ∧ d = dII (msr x.p x.st 31 n)
theorem R_Measures_pair_0 : ∀ x ds x' d, ¬ R_Measures_pair 0 x ds x' d := fun x ds x' d ⟨n, _, h, _⟩ => h
def R_Measures__outer_pairs : Nat → Ms → List SV → Ms → PyData → Prop := fun h x ds x' d => ∃ (n : Int) (r : Rw), ds = [.r 0, .i (.int n)] ∧ x.p.t n = some r ∧ MOk x.p x.st h n ∧ h ≤ 31 ∧ MsOk x ∧ (∃ k', x' = { x with known := k' } ∧ MsOk { x with known := k' }) ∧ d = .list ((outs x.p x.st 31 r).map dII)
theorem R_Measures__outer_pairs_len : ∀ (hgt : Nat), ∀ x ds x' d, R_Measures__outer_pairs hgt x ds x' d → ds.length = 2 := by
  intro hgt x ds x' d hh
  unfold R_Measures__outer_pairs at hh
  repeat (obtain ⟨_, hh⟩ := hh)
  subst_eqs
  rfl
theorem ok_Measures__outer_pairs {P : Program} {w : World} {K : PySem.W.Frag} {mg : Str → Option Value} {base : Heap} {f : Addr} {fd : FuncData} (F : DL.FnM K "_outer_pairs" "Measures._outer_pairs" s_Measures__outer_pairs [] f fd) (hgt : Nat) {C_History : Addr} (kC_History : Cls K C_History) (n_History_cells : NoAttr K C_History "cells") (n_History__done : NoAttr K C_History "_done") (n_History__undone : NoAttr K C_History "_undone") {C_Measures : Addr} (kC_Measures : Cls K C_Measures) (n_Measures__page : NoAttr K C_Measures "_page") (n_Measures__styles : NoAttr K C_Measures "_styles") (n_Measures_known : NoAttr K C_Measures "known") {C_Page : Addr} (kC_Page : Cls K C_Page) (n_Page_width : NoAttr K C_Page "width") (n_Page_height : NoAttr K C_Page "height") (n_Page__last_id : NoAttr K C_Page "_last_id") (n_Page__moment : NoAttr K C_Page "_moment") (n_Page__marked : NoAttr K C_Page "_marked") (n_Page__history : NoAttr K C_Page "_history") (h_flow_children : Cal P w K mg base 5 "flow_children" ["page", "styles", "node"] (spF K  (R_flow_children C_Page C_History))) (h_side_margins : Cal P w K mg base 1 "side_margins" ["style"] (spD K  R_side_margins)) (h_Measures_pair : DL.MetP P w K mg base (9 + 5 * hgt + 1) C_Measures "pair" ["self", "node"] (DL.spS K 2 (shapeM C_Measures C_Page C_History) (R_Measures_pair hgt))) (me : Meth K C_Measures "_outer_pairs" f) : DL.MetP P w K mg base (5 + 5 * (hgt + 1) + 1) C_Measures "_outer_pairs" ["self", "node"] (DL.spS K 2 (shapeM C_Measures C_Page C_History) (R_Measures__outer_pairs (hgt + 1))) := by
  refine DL.met_mk F sc_Measures__outer_pairs kC_Measures me (DL.spS_len (R_Measures__outer_pairs_len (hgt + 1))) (fun _ _ _ _ _ _ us hl => match us, hl with | [_, _], _ => rfl) (fun cdv A outer s H vs Q E hr h => ⟨_,
    (pss_cons (ps_set (i := 2) sc_Measures__outer_pairs.nd rfl (by first | exact Or.inl rfl | exact Or.inr rfl) (pe_lst pa_nil))
     (pss_cons (ps_for PassesOwn.never rfl (DL.kPiL (K := K) (DL.pe_cal h_flow_children hr (by omega) (by rfl) pass0 (pa_cons (DL.kFld (K := K) (pv 0)) (pa_cons (DL.kFld (K := K) (pv 0)) (pa_cons (pv 1) pa_nil))))) (pg_name (i := 3) sc_Measures__outer_pairs.nd rfl (by first | exact Or.inl rfl | exact Or.inr rfl))
     (pss_cons (ps_set (i := 4) sc_Measures__outer_pairs.nd rfl (by first | exact Or.inl rfl | exact Or.inr rfl) (DL.pe_cal h_side_margins hr (by omega) (by rfl) pass0 (pa_cons (pe_dget (DL.u1 hr.units) (DL.kFld (K := K) (pv 0)) (pv 3) (fun _ _ => rfl)) pa_nil)))
     (pss_cons (ps_asg (DL.pe_metP h_Measures_pair hr (by omega) pass0 (pv 0) (pa_cons (pv 3) pa_nil)) (DL.kTup (K := K) (n := 2) rfl (pgs_cons (pg_name (i := 5) sc_Measures__outer_pairs.nd rfl (by first | exact Or.inl rfl | exact Or.inr rfl)) (pgs_cons (pg_name (i := 6) sc_Measures__outer_pairs.nd rfl (by first | exact Or.inl rfl | exact Or.inr rfl)) pgs_nil))))
     (pss_cons (ps_expr (DL.kBm (K := K) (pe_bm PySem.F.plainAttrs_list PySem.F.slot_list_append PySem.F.type_list_append mt_append (pv 2) (pa_cons (pe_tup (pa_cons (pe_op op_add (pv 5) (pv 4)) (pa_cons (pe_op op_add (pv 6) (pv 4)) pa_nil))) pa_nil))))
     pss_nil))))
     (pss_cons (ps_ret (pv 2))
     pss_nil))), ?_⟩)
  refine DL.run_spS h (Nat.le_trans (Nat.le_of_eq (DL.spS_len (R_Measures__outer_pairs_len (hgt + 1)) _ _ _ _ h)) (by decide)) fun N ad x ds hsh hR hq => ?_
  obtain ⟨x', d, n, r, rfl, hr, hm, h31, hok, ⟨k1, rfl, hok1⟩, rfl⟩ := hR
  simp only [envG, List.map, List.length, List.replicate, List.cons_append, List.nil_append, Nat.reduceAdd, Nat.reduceSub, Nat.sub_self]
  obtain ⟨hl, hkids⟩ := hm.kids hr
  have rows := hok.pg.rows
  refine gs_asgF (o := .lst []) (ef_lst eas_nil (Nat.zero_le _)) ?_
  walk_at "nf"
  refine' gs_forN (fun m => m = (flK x.p x.st r).length) (PO C_Measures C_Page C_History x n r) (ewm (ew_list (ds := (flK x.p x.st r).map PyData.int) (EvF.ev (ef_call (ea_cons (ex_fldO (k := 0) (er_var rfl (by simp [shapeM])) rfl kC_Measures n_Measures__page rfl) (ea_cons (ex_fldO (k := 0) (er_var rfl (by simp [shapeM])) rfl kC_Measures n_Measures__styles rfl) (ea_cons (ex_var rfl) ea_nil))) (R_flow_children_i rows hr (by omega) (fun k hk => ?f1))))) (by simp)) (PO.mk x.known hok) (fun _ _ _ _ => True.intro) (fun fr up m i e o hn hi hI => ?b1) (fun m e o hn hI => ?b2)
  case f1 =>
    obtain ⟨r2, m, h1, _, h2, _⟩ := (hkids k hk).sty
    exact ⟨r2, h1, h2⟩
  case b2 =>
    subst hn
    cases hI with
    | mk k hk =>
      have e1 : (outs x.p x.st 31 r).take (flK x.p x.st r).length = outs x.p x.st 31 r := List.take_of_length_le (by unfold outs; rw [List.length_map]; exact Nat.le_refl _)
      rw [e1]
      refine gs_own (i := 2) (k := 2) (ds := (outs x.p x.st 31 r).map dII) rfl rfl ?_
      walk_at "nf"
      exact gs_retS (x' := { x with known := k }) (ex_var rfl) hq (fun i o e => by match i, e with
        | 0, e => exact e
        | 1, e => exact e) (shapeM_ok _ _ _ _) ⟨n, r, rfl, hr, hm, h31, hok, ⟨k, rfl, hk⟩, rfl⟩
  case b1 =>
    subst hn
    cases hI with
    | mk k hk =>
      obtain ⟨c, hc⟩ : ∃ c, (flK x.p x.st r)[i]? = some c := ⟨_, List.getElem?_eq_getElem hi⟩
      have hit : itD ((flK x.p x.st r).map PyData.int) i = .i (.int c) := itD_map _ _ hc
      rw [hit]
      have hcm := hkids c (flK_sub (List.mem_of_getElem? hc))
      obtain ⟨rc, mc, g1, g2, _, g3, g4⟩ := hcm.sty
      refine ⟨_, _, tg_name, ?_⟩
      walk_at "nf"
      refine gs_asg (d := .int (sideM mc)) (ex_call (ea_cons (ex_dgetD (ek := ekI) (ev := dS) (a := c) ekI_inj (ex_fldO (k := 0) (er_var rfl (by simp [shapeM])) rfl kC_Measures n_Measures__styles rfl) (ex_var rfl) g2) ea_nil) (R_side_margins_i g3 g4)) ?_
      walk_at "nf"
      refine gs_asgNT (en_meth (k := 0) (ds := [.i (.int c)]) (x := { x with known := k }) (segAt_post [.lst ((((outs x.p x.st 31 r).take i).map dII).map SV.i)] (shapeM_ok C_Measures C_Page C_History)) (er_var rfl (by simp [shapeM])) rfl rfl (by decide) (by intro s hs; simp at hs; rw [hs]; exact True.intro) (eas_cons (show EvX false _ _ _ _ _ from ex_var rfl) eas_nil) ⟨_, _, c, rfl, hcm, by omega, hk, ⟨k, rfl, hk⟩, rfl⟩) ?_
      rintro _ _ ⟨_, ⟨c2, e1, _, _, _, ⟨k2, rfl, hk2⟩, rfl⟩, rfl⟩
      cases e1
      refine ⟨_, _, tg_tup (ds := [.int (msr x.p x.st 31 c).1, .int (msr x.p x.st 31 c).2]) (tgs_cons tg_name (tgs_cons tg_name tgs_nil)) rfl, ?_⟩
      walk_at "nf"
      refine gs_app (k := 2) (er_var rfl (by simp [shapeM])) rfl (s := .i (dII ((msr x.p x.st 31 c).1 + sideM mc, (msr x.p x.st 31 c).2 + sideM mc))) (show EvX false _ _ _ _ _ from ex_tup (ea_cons (ex_i2 (ex_var rfl) (ex_var rfl)) (ea_cons (ex_i2 (ex_var rfl) (ex_var rfl)) ea_nil)) (Nat.le_of_ble_eq_true rfl)) ?c1 ?_
      case c1 =>
        have := List.length_filter_le (fun k => match x.p.t k with | some r2 => inFl x.st k r2 | none => false) r.kids
        simp only [List.length_map, List.length_take]
        have h7 : i < (r.kids.filter fun k => match x.p.t k with | some r2 => inFl x.st k r2 | none => false).length := hi
        omega
      refine gs_nxI (show PO C_Measures C_Page C_History x n r (i + 1) _ _ from PO.mk k2 hk2) fun ad σ H ok => ⟨ad, ?_⟩
      have hst : stOf x.st c = mc := by unfold stOf; rw [g2]; rfl
      have e2 : (outs x.p x.st 31 r).take (i + 1) = (outs x.p x.st 31 r).take i ++ [((msr x.p x.st 31 c).1 + sideM mc, (msr x.p x.st 31 c).2 + sideM mc)] := by
        rw [List.take_add_one]
        unfold outs
        rw [List.getElem?_map, hc, ← hst]
        rfl
      rw [e2, List.map_append, List.map_append]
      refine ok.weak (by simp [WkE]) (WkO.refl _) (by simp [EnLt, SvLt, shapeM]) ?o1 (by simp [shapeM])
      case o1 =>
        refine ⟨fun q hq2 => ?_, dkO_lt _ _, fun q hq2 => ?_, True.intro⟩
        · simp at hq2
          rcases hq2 with rfl | rfl | rfl
          · exact True.intro
          · exact True.intro
          · show 1 < _; simp [shapeM]
        · rcases List.mem_append.mp hq2 with z | z
          · obtain ⟨_, _, rfl⟩ := List.mem_map.mp z; exact True.intro
          · obtain ⟨_, _, rfl⟩ := List.mem_map.mp z; exact True.intro
-- END Measures__outer_pairs
theorem sc__greatest : FnScope ["pairs", "least", "most"] ["pairs"] (defScope s__greatest) := ⟨rfl, rfl, rfl, by decide +kernel, rfl, by decide +kernel, by decide +kernel⟩
def R__greatest : List PyData → PyData → Prop := fun ds d => ∃ qs : List (Int × Int), qs.length ≤ 40000 ∧ ds = [.list (qs.map dII)] ∧ d = dII (grt qs)
theorem R__greatest_i {qs : List (Int × Int)} (h : qs.length ≤ 40000) : R__greatest [.list (qs.map dII)] (dII (grt qs)) := ⟨qs, h, rfl, rfl⟩
local macro_rules | `(tactic| walk_at "r2") => `(tactic| exact R__greatest_i (by omega))
theorem R__greatest_len : ∀ ds d, R__greatest ds d → ds.length = 1 := by
  intro ds d hh
  unfold R__greatest at hh
  repeat (obtain ⟨_, hh⟩ := hh)
  subst_eqs
  rfl
theorem ok__greatest {P : Program} {w : World} {K : PySem.W.Frag} {mg : Str → Option Value} {base : Heap} {f : Addr} {fd : FuncData} (F : FnP K "_greatest" s__greatest f fd) (g0 : mg "_greatest" = some (.ref f)) (z_max : mg "max" = none) : Cal P w K mg base 1 "_greatest" ["pairs"] (spD K  R__greatest) := by
  refine cal_mk F sc__greatest g0 (spD_len R__greatest_len) (fun _ _ _ _ _ _ us hl => match us, hl with | [_], _ => rfl) (fun cdv A outer s H vs Q E hr h => ⟨_,
    (pss_cons (ps_ret (pe_tup (pa_cons (pe_callBK (DL.kMaxDf (K := K) rfl hr.units) (by rfl) z_max (by decide +kernel) (pa_cons (pe_lc (own := [("least", 1), ("most", 2)]) (by rfl) sc__greatest.nd (DL.kPiL (K := K) (pv 0)) (blkOk_by (own := [("least", 1), ("most", 2)]) (N := ["pairs", "least", "most"]) (sc := defScope s__greatest) (by decide +kernel)) (fun _ _ _ _ _ => (DL.kTup (K := K) (n := 2) rfl (pgs_cons (pg_name (i := 1) sc__greatest.nd rfl (by first | exact Or.inl rfl | exact Or.inr rfl)) (pgs_cons (pg_name (i := 2) sc__greatest.nd rfl (by first | exact Or.inl rfl | exact Or.inr rfl)) pgs_nil)))) (fun _ _ _ _ _ => pts_nil) (fun _ _ _ _ _ => (pv 1))) pa_nil) (pk_cons pe_int pk_nil)) (pa_cons (pe_callBK (DL.kMaxDf (K := K) rfl hr.units) (by rfl) z_max (by decide +kernel) (pa_cons (pe_lc (own := [("least", 1), ("most", 2)]) (by rfl) sc__greatest.nd (DL.kPiL (K := K) (pv 0)) (blkOk_by (own := [("least", 1), ("most", 2)]) (N := ["pairs", "least", "most"]) (sc := defScope s__greatest) (by decide +kernel)) (fun _ _ _ _ _ => (DL.kTup (K := K) (n := 2) rfl (pgs_cons (pg_name (i := 1) sc__greatest.nd rfl (by first | exact Or.inl rfl | exact Or.inr rfl)) (pgs_cons (pg_name (i := 2) sc__greatest.nd rfl (by first | exact Or.inl rfl | exact Or.inr rfl)) pgs_nil)))) (fun _ _ _ _ _ => pts_nil) (fun _ _ _ _ _ => (pv 2))) pa_nil) (pk_cons pe_int pk_nil)) pa_nil))))
     pss_nil), ?_⟩)
  refine run_spD h fun N ds d hR hq => ?_
  obtain ⟨qs, hl, rfl, rfl⟩ := hR
  walk_at "env"
  refine gs_ret (show EvX _ _ _ _ _ (dII (grt qs)) from ex_tup (ea_cons (ex_maxDf (ns := qs.map (·.1)) (EvF.it (EvF.is2 (ef_lcD (xs := qs) (e := dII) (fun _ => true) (fun q => .int q.1) (ex_var rfl) hl (fun fr lo up acc q hq2 => ⟨_, _, ?a1, tg_tup (ds := [.int q.1, .int q.2]) (tgs_cons tg_name (tgs_cons tg_name tgs_nil)) rfl, et_yes, fun _ => ex_var rfl⟩)) ?a2)) ex_int) (ea_cons (ex_maxDf (ns := qs.map (·.2)) (EvF.it (EvF.is2 (ef_lcD (xs := qs) (e := dII) (fun _ => true) (fun q => .int q.2) (ex_var rfl) hl (fun fr lo up acc q hq2 => ⟨_, _, ?b1, tg_tup (ds := [.int q.1, .int q.2]) (tgs_cons tg_name (tgs_cons tg_name tgs_nil)) rfl, et_yes, fun _ => ex_var rfl⟩)) ?b2)) ex_int) ea_nil)) (Nat.le_of_ble_eq_true rfl)) hq
  case a1 => intro j hj; simpa using hj
  case b1 => intro j hj; simpa using hj
  case a2 => simp only [filt_all, List.map_map]; rfl
  case b2 => simp only [filt_all, List.map_map]; rfl
-- END _greatest
theorem sc_Measures_columns : FnScope ["self", "node", "outer", "many", "first"] ["self", "node"] (defScope s_Measures_columns) := ⟨rfl, rfl, rfl, by decide +kernel, rfl, by decide +kernel, by decide +kernel⟩
def R_Measures_columns : Nat → Ms → List SV → Ms → PyData → Prop := fun h x ds x' d => ∃ (n : Int) (r : Rw) (m : Tb) (many : Nat), ds = [.r 0, .i (.int n)] ∧ x.p.t n = some r ∧ getA x.st n = some m ∧ getA m "columns" = some (.int (many : Int)) ∧ 1 ≤ many ∧ many ≤ 1000 ∧ MOk x.p x.st h n ∧ h ≤ 31 ∧ MsOk x ∧ (∃ k', x' = { x with known := k' } ∧ MsOk { x with known := k' }) ∧ d = .list ((colM (outs x.p x.st 31 r) many).map dII)
theorem R_Measures_columns_len : ∀ (hgt : Nat), ∀ x ds x' d, R_Measures_columns hgt x ds x' d → ds.length = 2 := by
  intro hgt x ds x' d hh
  unfold R_Measures_columns at hh
  repeat (obtain ⟨_, hh⟩ := hh)
  subst_eqs
  rfl
theorem ok_Measures_columns {P : Program} {w : World} {K : PySem.W.Frag} {mg : Str → Option Value} {base : Heap} {f : Addr} {fd : FuncData} (F : DL.FnM K "columns" "Measures.columns" s_Measures_columns [] f fd) (hgt : Nat) {C_History : Addr} (kC_History : Cls K C_History) (n_History_cells : NoAttr K C_History "cells") (n_History__done : NoAttr K C_History "_done") (n_History__undone : NoAttr K C_History "_undone") {C_Measures : Addr} (kC_Measures : Cls K C_Measures) (n_Measures__page : NoAttr K C_Measures "_page") (n_Measures__styles : NoAttr K C_Measures "_styles") (n_Measures_known : NoAttr K C_Measures "known") {C_Page : Addr} (kC_Page : Cls K C_Page) (n_Page_width : NoAttr K C_Page "width") (n_Page_height : NoAttr K C_Page "height") (n_Page__last_id : NoAttr K C_Page "_last_id") (n_Page__moment : NoAttr K C_Page "_moment") (n_Page__marked : NoAttr K C_Page "_marked") (n_Page__history : NoAttr K C_Page "_history") (h_Measures__outer_pairs : DL.MetP P w K mg base (5 + 5 * (hgt + 1) + 1) C_Measures "_outer_pairs" ["self", "node"] (DL.spS K 2 (shapeM C_Measures C_Page C_History) (R_Measures__outer_pairs (hgt + 1)))) (h__greatest : Cal P w K mg base 1 "_greatest" ["pairs"] (spD K  R__greatest)) (z_range : mg "range" = none) (me : Meth K C_Measures "columns" f) : DL.MetP P w K mg base (6 + 5 * (hgt + 1) + 1) C_Measures "columns" ["self", "node"] (DL.spS K 2 (shapeM C_Measures C_Page C_History) (R_Measures_columns (hgt + 1))) := by
  refine DL.met_mk F sc_Measures_columns kC_Measures me (DL.spS_len (R_Measures_columns_len (hgt + 1))) (fun _ _ _ _ _ _ us hl => match us, hl with | [_, _], _ => rfl) (fun cdv A outer s H vs Q E hr h => ⟨_,
    (pss_cons (ps_set (i := 2) sc_Measures_columns.nd rfl (by first | exact Or.inl rfl | exact Or.inr rfl) (DL.pe_metP h_Measures__outer_pairs hr (by omega) pass0 (pv 0) (pa_cons (pv 1) pa_nil)))
     (pss_cons (ps_set (i := 3) sc_Measures_columns.nd rfl (by first | exact Or.inl rfl | exact Or.inr rfl) (pe_dget (DL.u1 hr.units) (pe_dget (DL.u1 hr.units) (DL.kFld (K := K) (pv 0)) (pv 1) (fun _ _ => rfl)) pe_str (fun _ _ => rfl)))
     (pss_cons (ps_ret (pe_lc (own := [("first", 4)]) (by rfl) sc_Measures_columns.nd (pi_range1 (by rfl) z_range (pa_cons (pv 3) pa_nil)) (blkOk_by (own := [("first", 4)]) (N := ["self", "node", "outer", "many", "first"]) (sc := defScope s_Measures_columns) (by decide +kernel)) (fun _ _ _ _ _ => (pg_name (i := 4) sc_Measures_columns.nd rfl (by first | exact Or.inl rfl | exact Or.inr rfl))) (fun _ _ _ _ _ => pts_nil) (fun _ _ _ _ _ => (DL.pe_cal h__greatest hr (by omega) (by rfl) pass0 (pa_cons (DL.kStpL (K := K) (pv 2) (po_some (pv 4)) (po_some (pv 3))) pa_nil)))))
     pss_nil))), ?_⟩)
  refine DL.run_spS h (Nat.le_trans (Nat.le_of_eq (DL.spS_len (R_Measures_columns_len (hgt + 1)) _ _ _ _ h)) (by decide)) fun N ad x ds hsh hR hq => ?_
  obtain ⟨x', d, n, r, m, many, rfl, hr, hst, hco, c1, c2, hm, h31, hok, ⟨k1, rfl, hok1⟩, rfl⟩ := hR
  simp only [envG, List.map, List.length, List.replicate, List.cons_append, List.nil_append, Nat.reduceAdd, Nat.reduceSub, Nat.sub_self]
  obtain ⟨hl, hkids⟩ := hm.kids hr
  have hol : (outs x.p x.st 31 r).length ≤ 1000 := Nat.le_trans outs_len hl
  refine gs_asgN (en_meth (k := 0) (ds := [.i (.int n)]) (x := x) (segAt_self (shapeM_ok C_Measures C_Page C_History)) (er_var rfl (by simp [shapeM])) rfl rfl (by decide) (by intro s hs; simp at hs; rw [hs]; exact True.intro) (eas_cons (show EvX false _ _ _ _ _ from ex_var rfl) eas_nil) ⟨_, _, n, r, rfl, hr, hm, h31, hok, ⟨x.known, rfl, hok⟩, rfl⟩) ?_
  rintro _ _ ⟨_, ⟨n2, r2, e1, hr2, _, _, _, ⟨k2, rfl, hk2⟩, rfl⟩, rfl⟩
  cases e1
  rw [hr] at hr2
  cases hr2
  walk_at "nf"
  refine gs_asg (d := .int (many : Int)) (ex_dgetD (ek := ekS) (ev := evS) (a := "columns") ekS_inj (ex_dgetD (ek := ekI) (ev := dS) (a := n) ekI_inj (ex_fldO (k := 0) (er_var rfl (by simp [shapeM])) rfl kC_Measures n_Measures__styles rfl) (ex_var rfl) hst) ex_str hco) ?_
  walk_at "nf"
  refine gs_retS (x' := { x with known := k2 }) (EvF.ev (ds := (colM (outs x.p x.st 31 r) many).map dII) (EvF.is (ef_lcR (n := (many : Int)) (fun _ => true) (fun j => dII (grt (evk many j (outs x.p x.st 31 r)))) (ea_cons (ex_var rfl) ea_nil) (by omega) (fun fr lo up acc j hj => ⟨_, _, ?a1, tg_name, et_yes, fun _ => ex_call (ea_cons (EvF.ev (EvF.is (ef_stp (a := j) (k := many) (EvX.it (ex_var rfl)) (eo_some (ex_var rfl)) (eo_some (ex_var rfl)) (by omega)) ?a3)) ea_nil) (R__greatest_i ?a4)⟩)) ?a2)) hq (fun i o e => e) (shapeM_ok _ _ _ _) ⟨n, r, m, many, rfl, hr, hst, hco, c1, c2, hm, h31, hok, ⟨k2, rfl, hk2⟩, rfl⟩
  case a1 => intro j hj; simpa using hj
  case a2 => simp only [filt_all, Int.toNat_natCast]; unfold colM; simp only [List.map_map]; rfl
  case a3 => rw [evk_map, evk_map]
  case a4 => have := evk_len many (outs x.p x.st 31 r) j; omega
-- END Measures_columns
theorem sc_Measures__inside : FnScope ["self", "node", "style"] ["self", "node"] (defScope s_Measures__inside) := ⟨rfl, rfl, rfl, by decide +kernel, rfl, by decide +kernel, by decide +kernel⟩
def R_Measures__inside : Nat → Ms → List SV → Ms → PyData → Prop := fun h x ds x' d => ∃ (n : Int) (r : Rw) (m : Tb), ds = [.r 0, .i (.int n)] ∧ x.p.t n = some r ∧ getA x.st n = some m ∧ BxOk m ∧ MOk x.p x.st h n ∧ h ≤ 31 ∧ MsOk x ∧ (∃ k', x' = { x with known := k' } ∧ MsOk { x with known := k' }) ∧ d = dII (insM m (outs x.p x.st 31 r))
theorem R_Measures__inside_len : ∀ (hgt : Nat), ∀ x ds x' d, R_Measures__inside hgt x ds x' d → ds.length = 2 := by
  intro hgt x ds x' d hh
  unfold R_Measures__inside at hh
  repeat (obtain ⟨_, hh⟩ := hh)
  subst_eqs
  rfl
theorem ok_Measures__inside {P : Program} {w : World} {K : PySem.W.Frag} {mg : Str → Option Value} {base : Heap} {f : Addr} {fd : FuncData} (F : DL.FnM K "_inside" "Measures._inside" s_Measures__inside [] f fd) (hgt : Nat) {C_History : Addr} (kC_History : Cls K C_History) (n_History_cells : NoAttr K C_History "cells") (n_History__done : NoAttr K C_History "_done") (n_History__undone : NoAttr K C_History "_undone") {C_Measures : Addr} (kC_Measures : Cls K C_Measures) (n_Measures__page : NoAttr K C_Measures "_page") (n_Measures__styles : NoAttr K C_Measures "_styles") (n_Measures_known : NoAttr K C_Measures "known") {C_Page : Addr} (kC_Page : Cls K C_Page) (n_Page_width : NoAttr K C_Page "width") (n_Page_height : NoAttr K C_Page "height") (n_Page__last_id : NoAttr K C_Page "_last_id") (n_Page__moment : NoAttr K C_Page "_moment") (n_Page__marked : NoAttr K C_Page "_marked") (n_Page__history : NoAttr K C_Page "_history") (h__in_a_row : Cal P w K mg base 1 "_in_a_row" ["pairs", "gap"] (spD K  R__in_a_row)) (h_Measures__outer_pairs : DL.MetP P w K mg base (5 + 5 * (hgt + 1) + 1) C_Measures "_outer_pairs" ["self", "node"] (DL.spS K 2 (shapeM C_Measures C_Page C_History) (R_Measures__outer_pairs (hgt + 1)))) (h_Measures_columns : DL.MetP P w K mg base (6 + 5 * (hgt + 1) + 1) C_Measures "columns" ["self", "node"] (DL.spS K 2 (shapeM C_Measures C_Page C_History) (R_Measures_columns (hgt + 1)))) (h__greatest : Cal P w K mg base 1 "_greatest" ["pairs"] (spD K  R__greatest)) (me : Meth K C_Measures "_inside" f) : DL.MetP P w K mg base (7 + 5 * (hgt + 1) + 1) C_Measures "_inside" ["self", "node"] (DL.spS K 2 (shapeM C_Measures C_Page C_History) (R_Measures__inside (hgt + 1))) := by
  refine DL.met_mk F sc_Measures__inside kC_Measures me (DL.spS_len (R_Measures__inside_len (hgt + 1))) (fun _ _ _ _ _ _ us hl => match us, hl with | [_, _], _ => rfl) (fun cdv A outer s H vs Q E hr h => ⟨_,
    (pss_cons (ps_set (i := 2) sc_Measures__inside.nd rfl (by first | exact Or.inl rfl | exact Or.inr rfl) (pe_dget (DL.u1 hr.units) (DL.kFld (K := K) (pv 0)) (pv 1) (fun _ _ => rfl)))
     (pss_cons (ps_if (pt_cmpR op_eq (pe_dget (DL.u1 hr.units) (pv 2) pe_str (fun _ _ => rfl)) pe_str (nomark _))
     (pss_cons (ps_ret (DL.pe_cal h__in_a_row hr (by omega) (by rfl) pass0 (pa_cons (DL.pe_metP h_Measures__outer_pairs hr (by omega) pass0 (pv 0) (pa_cons (pv 1) pa_nil)) (pa_cons (pe_dget (DL.u1 hr.units) (pv 2) pe_str (fun _ _ => rfl)) pa_nil))))
     pss_nil)
     pss_nil)
     (pss_cons (ps_if (pt_cmpR op_eq (pe_dget (DL.u1 hr.units) (pv 2) pe_str (fun _ _ => rfl)) pe_str (nomark _))
     (pss_cons (ps_ret (DL.pe_cal h__in_a_row hr (by omega) (by rfl) pass0 (pa_cons (DL.pe_metP h_Measures_columns hr (by omega) pass0 (pv 0) (pa_cons (pv 1) pa_nil)) (pa_cons (pe_dget (DL.u1 hr.units) (pv 2) pe_str (fun _ _ => rfl)) pa_nil))))
     pss_nil)
     pss_nil)
     (pss_cons (ps_ret (DL.pe_cal h__greatest hr (by omega) (by rfl) pass0 (pa_cons (DL.pe_metP h_Measures__outer_pairs hr (by omega) pass0 (pv 0) (pa_cons (pv 1) pa_nil)) pa_nil)))
     pss_nil)))), ?_⟩)
  refine DL.run_spS h (Nat.le_trans (Nat.le_of_eq (DL.spS_len (R_Measures__inside_len (hgt + 1)) _ _ _ _ h)) (by decide)) fun N ad x ds hsh hR hq => ?_
  obtain ⟨x', d, n, r, m, rfl, hr, hst, hb, hm, h31, hok, ⟨k1, rfl, hok1⟩, rfl⟩ := hR
  simp only [envG, List.map, List.length, List.replicate, List.cons_append, List.nil_append, Nat.reduceAdd, Nat.reduceSub, Nat.sub_self]
  obtain ⟨hl, hkids⟩ := hm.kids hr
  have hol : (outs x.p x.st 31 r).length ≤ 1000 := Nat.le_trans outs_len hl
  obtain ⟨di, hdi⟩ := hb.di
  obtain ⟨g, hg, hg2⟩ := hb.ga
  obtain ⟨many, hco, c1, c2⟩ := hb.co
  have hcl : (colM (outs x.p x.st 31 r) many).length ≤ 1000 := by unfold colM; simp; omega
  have eg : nmI m "gap" = (g : Int) := nmI_of hg
  have ec : (nmI m "columns").toNat = many := by rw [nmI_of hco]; rfl
  have e1 : isS m "display" "row" = (di == ("row" : Str)) := by unfold isS; rw [hdi]
  have e2 : isS m "display" "grid" = (di == ("grid" : Str)) := by unfold isS; rw [hdi]
  refine gs_asg (d := dS m) (ex_dgetD (ek := ekI) (ev := dS) (a := n) ekI_inj (ex_fldO (k := 0) (er_var rfl (by simp [shapeM])) rfl kC_Measures n_Measures__styles rfl) (ex_var rfl) hst) ?_
  walk_at "nf"
  have fin : ∀ (qs : List (Int × Int)) (ins : Int × Int) (k2 : List (Key × PyData)), insM m (outs x.p x.st 31 r) = ins → MsOk { x with known := k2 } → ∃ x2, (∀ (i : Nat) (o : SO), (shapeM C_Measures C_Page C_History x2)[i]? = some o → (shapeM C_Measures C_Page C_History { x with known := k2 })[i]? = some o) ∧ ShOk 2 (shapeM C_Measures C_Page C_History x2) ∧ R_Measures__inside (hgt + 1) x [.r 0, .i (.int n)] x2 (dII ins) := fun qs ins k2 e hk2 => ⟨{ x with known := k2 }, fun i o z => z, shapeM_ok _ _ _ _, n, r, m, rfl, hr, hst, hb, hm, h31, hok, ⟨k2, rfl, hk2⟩, by rw [e]⟩
  have slt : ∀ s ∈ [SV.i (PyData.int n)], SvLt 2 s := by intro s hs; simp at hs; rw [hs]; exact True.intro
  refine gs_if (b := di == ("row" : Str)) (et_test (ex_eqS (ex_dgetD (ek := ekS) (ev := evS) (a := "display") ekS_inj (ex_var rfl) ex_str hdi) ex_str)) (fun hb1 => ?y1) (fun hb1 => g_nextU ?n1)
  case y1 =>
    refine gs_retSN (en_callD2 (d2 := .int (g : Int)) (en_meth (k := 0) (ds := [.i (.int n)]) (x := x) (segAt_self (shapeM_ok C_Measures C_Page C_History)) (er_var rfl (by simp [shapeM])) rfl rfl (by decide) slt (eas_cons (show EvX false _ _ _ _ _ from ex_var rfl) eas_nil) ⟨_, _, n, r, rfl, hr, hm, h31, hok, ⟨x.known, rfl, hok⟩, rfl⟩) (fun os' d _ => ex_dgetD (ek := ekS) (ev := evS) (a := "gap") ekS_inj (ex_var rfl) ex_str hg) ?c1) hq ?c2
    case c1 =>
      rintro _ _ ⟨_, ⟨n2, r2, z1, hr2, _, _, _, ⟨k2, rfl, hk2⟩, rfl⟩, rfl⟩
      cases z1
      rw [hr] at hr2
      cases hr2
      exact ⟨_, R__in_a_row_i (by omega) (by omega) (by omega)⟩
    case c2 =>
      rintro _ _ ⟨_, ⟨_, ⟨n2, r2, z1, hr2, _, _, _, ⟨k2, rfl, hk2⟩, rfl⟩, rfl⟩, qs, gg, _, _, _, z2, rfl⟩
      cases z1
      rw [hr] at hr2
      cases hr2
      injection z2 with z2 z3
      injection z2 with z2
      injection z3 with z3 _
      injection z3 with z3
      have z2 := dIIs_inj z2
      subst z2 z3
      exact fin [] _ k2 (by unfold insM; rw [e1, hb1, if_pos rfl, eg]) hk2
  case n1 =>
  refine gs_if (b := di == ("grid" : Str)) (et_test (ex_eqS (ex_dgetD (ek := ekS) (ev := evS) (a := "display") ekS_inj (ex_var rfl) ex_str hdi) ex_str)) (fun hb2 => ?y2) (fun hb2 => g_nextU ?n2)
  case y2 =>
    refine gs_retSN (en_callD2 (d2 := .int (g : Int)) (en_meth (k := 0) (ds := [.i (.int n)]) (x := x) (segAt_self (shapeM_ok C_Measures C_Page C_History)) (er_var rfl (by simp [shapeM])) rfl rfl (by decide) slt (eas_cons (show EvX false _ _ _ _ _ from ex_var rfl) eas_nil) ⟨_, _, n, r, m, many, rfl, hr, hst, hco, c1, c2, hm, h31, hok, ⟨x.known, rfl, hok⟩, rfl⟩) (fun os' d _ => ex_dgetD (ek := ekS) (ev := evS) (a := "gap") ekS_inj (ex_var rfl) ex_str hg) ?c3) hq ?c4
    case c3 =>
      rintro _ _ ⟨_, ⟨n2, r2, m2, many2, z1, hr2, hst2, hco2, _, _, _, _, _, ⟨k2, rfl, hk2⟩, rfl⟩, rfl⟩
      cases z1
      rw [hr] at hr2
      cases hr2
      rw [hst] at hst2
      cases hst2
      rw [hco] at hco2
      have := Int.ofNat.inj (PyData.int.inj (Option.some.inj hco2))
      subst this
      exact ⟨_, R__in_a_row_i (by omega) (by omega) (by omega)⟩
    case c4 =>
      rintro _ _ ⟨_, ⟨_, ⟨n2, r2, m2, many2, z1, hr2, hst2, hco2, _, _, _, _, _, ⟨k2, rfl, hk2⟩, rfl⟩, rfl⟩, qs, gg, _, _, _, z2, rfl⟩
      cases z1
      rw [hr] at hr2
      cases hr2
      rw [hst] at hst2
      cases hst2
      rw [hco] at hco2
      have := Int.ofNat.inj (PyData.int.inj (Option.some.inj hco2))
      subst this
      injection z2 with z2 z3
      injection z2 with z2
      injection z3 with z3 _
      injection z3 with z3
      have z2 := dIIs_inj z2
      subst z2 z3
      exact fin [] _ k2 (by unfold insM; rw [e1, hb1, if_neg Bool.false_ne_true, e2, hb2, if_pos rfl, eg, ec]) hk2
  case n2 =>
    refine gs_retSN (en_callD1 (en_meth (k := 0) (ds := [.i (.int n)]) (x := x) (segAt_self (shapeM_ok C_Measures C_Page C_History)) (er_var rfl (by simp [shapeM])) rfl rfl (by decide) slt (eas_cons (show EvX false _ _ _ _ _ from ex_var rfl) eas_nil) ⟨_, _, n, r, rfl, hr, hm, h31, hok, ⟨x.known, rfl, hok⟩, rfl⟩) ?c5) hq ?c6
    case c5 =>
      rintro _ _ ⟨_, ⟨n2, r2, z1, hr2, _, _, _, ⟨k2, rfl, hk2⟩, rfl⟩, rfl⟩
      cases z1
      rw [hr] at hr2
      cases hr2
      exact ⟨_, R__greatest_i (by omega)⟩
    case c6 =>
      rintro _ _ ⟨_, ⟨_, ⟨n2, r2, z1, hr2, _, _, _, ⟨k2, rfl, hk2⟩, rfl⟩, rfl⟩, qs, _, z2, rfl⟩
      cases z1
      rw [hr] at hr2
      cases hr2
      injection z2 with z2 _
      injection z2 with z2
      have z2 := dIIs_inj z2
      subst z2
      exact fin [] _ k2 (by unfold insM; rw [e1, hb1, if_neg Bool.false_ne_true, e2, hb2, if_neg Bool.false_ne_true]) hk2
-- END Measures__inside
theorem sc_Measures__measured : FnScope ["self", "node", "style", "width", "inside", "around"] ["self", "node"] (defScope s_Measures__measured) := ⟨rfl, rfl, rfl, by decide +kernel, rfl, by decide +kernel, by decide +kernel⟩
theorem BxOk.bm {m : Tb} (h : BxOk m) : BoxM m (nmI m "least_width") (nmI m "most_width") (nmI m "padding") (nmI m "border") := by
  obtain ⟨a, ha⟩ := h.le
  obtain ⟨b, hb⟩ := h.mo
  obtain ⟨c, hc⟩ := h.pa
  obtain ⟨d, hd⟩ := h.bo
  exact ⟨by rw [ha, nmI_of ha], by rw [hb, nmI_of hb], by rw [hc, nmI_of hc], by rw [hd, nmI_of hd]⟩
def R_Measures__measured : Nat → Ms → List SV → Ms → PyData → Prop := fun h x ds x' d => ∃ (n : Int), ds = [.r 0, .i (.int n)] ∧ MOk x.p x.st h n ∧ h ≤ 31 ∧ MsOk x ∧ (∃ k', x' = { x with known := k' } ∧ MsOk { x with known := k' }) ∧ d = dII (msr x.p x.st 31 n)
theorem R_Measures__measured_len : ∀ (hgt : Nat), ∀ x ds x' d, R_Measures__measured hgt x ds x' d → ds.length = 2 := by
  intro hgt x ds x' d hh
  unfold R_Measures__measured at hh
  repeat (obtain ⟨_, hh⟩ := hh)
  subst_eqs
  rfl
theorem ok_Measures__measured {P : Program} {w : World} {K : PySem.W.Frag} {mg : Str → Option Value} {base : Heap} {f : Addr} {fd : FuncData} (F : DL.FnM K "_measured" "Measures._measured" s_Measures__measured [] f fd) (hgt : Nat) {C_History : Addr} (kC_History : Cls K C_History) (n_History_cells : NoAttr K C_History "cells") (n_History__done : NoAttr K C_History "_done") (n_History__undone : NoAttr K C_History "_undone") {C_Measures : Addr} (kC_Measures : Cls K C_Measures) (n_Measures__page : NoAttr K C_Measures "_page") (n_Measures__styles : NoAttr K C_Measures "_styles") (n_Measures_known : NoAttr K C_Measures "known") {C_Page : Addr} (kC_Page : Cls K C_Page) (n_Page_width : NoAttr K C_Page "width") (n_Page_height : NoAttr K C_Page "height") (n_Page__last_id : NoAttr K C_Page "_last_id") (n_Page__moment : NoAttr K C_Page "_moment") (n_Page__marked : NoAttr K C_Page "_marked") (n_Page__history : NoAttr K C_Page "_history") (h_Page_kind : DL.MetP P w K mg base 3 C_Page "kind" ["self", "node"] (spD K  (R_Page_kind C_Page C_History))) (h__text_pair : Cal P w K mg base 3 "_text_pair" ["string", "size"] (spD K  R__text_pair)) (h_Page_text : DL.MetP P w K mg base 3 C_Page "text" ["self", "node"] (spD K  (R_Page_text C_Page C_History))) (h_bounded : Cal P w K mg base 2 "bounded" ["style", "width"] (spD K  R_bounded)) (h_Measures__inside : DL.MetP P w K mg base (7 + 5 * (hgt + 1) + 1) C_Measures "_inside" ["self", "node"] (DL.spS K 2 (shapeM C_Measures C_Page C_History) (R_Measures__inside (hgt + 1)))) (h_frame : Cal P w K mg base 1 "frame" ["style"] (spD K  R_frame)) (z_isinstance : mg "isinstance" = none) (z_int : mg "int" = none) (me : Meth K C_Measures "_measured" f) : DL.MetP P w K mg base (8 + 5 * (hgt + 1) + 1) C_Measures "_measured" ["self", "node"] (DL.spS K 2 (shapeM C_Measures C_Page C_History) (R_Measures__measured (hgt + 1))) := by
  refine DL.met_mk F sc_Measures__measured kC_Measures me (DL.spS_len (R_Measures__measured_len (hgt + 1))) (fun _ _ _ _ _ _ us hl => match us, hl with | [_, _], _ => rfl) (fun cdv A outer s H vs Q E hr h => ⟨_,
    (pss_cons (ps_set (i := 2) sc_Measures__measured.nd rfl (by first | exact Or.inl rfl | exact Or.inr rfl) (pe_dget (DL.u1 hr.units) (DL.kFld (K := K) (pv 0)) (pv 1) (fun _ _ => rfl)))
     (pss_cons (ps_if (pt_cmpR op_eq (DL.pe_metP h_Page_kind hr (by omega) pass0 (DL.kFld (K := K) (pv 0)) (pa_cons (pv 1) pa_nil)) pe_str (nomark _))
     (pss_cons (ps_ret (DL.pe_cal h__text_pair hr (by omega) (by rfl) pass0 (pa_cons (DL.pe_metP h_Page_text hr (by omega) pass0 (DL.kFld (K := K) (pv 0)) (pa_cons (pv 1) pa_nil)) (pa_cons (pe_dget (DL.u1 hr.units) (pv 2) pe_str (fun _ _ => rfl)) pa_nil))))
     pss_nil)
     pss_nil)
     (pss_cons (ps_if (pt_val (pe_callB (DL.kIsi (K := K)) (by rfl) z_isinstance (by decide +kernel) (pa_cons (pe_dget (DL.u1 hr.units) (pv 2) pe_str (fun _ _ => rfl)) (pa_cons (pe_bltn (v := .ty "int") (u := .type "int") (by rfl) z_int (by decide +kernel) rfl) pa_nil))))
     (pss_cons (ps_set (i := 3) sc_Measures__measured.nd rfl (by first | exact Or.inl rfl | exact Or.inr rfl) (DL.pe_cal h_bounded hr (by omega) (by rfl) pass0 (pa_cons (pv 2) (pa_cons (pe_dget (DL.u1 hr.units) (pv 2) pe_str (fun _ _ => rfl)) pa_nil))))
     (pss_cons (ps_ret (pe_tup (pa_cons (pv 3) (pa_cons (pv 3) pa_nil))))
     pss_nil))
     pss_nil)
     (pss_cons (ps_set (i := 4) sc_Measures__measured.nd rfl (by first | exact Or.inl rfl | exact Or.inr rfl) (DL.pe_metP h_Measures__inside hr (by omega) pass0 (pv 0) (pa_cons (pv 1) pa_nil)))
     (pss_cons (ps_set (i := 5) sc_Measures__measured.nd rfl (by first | exact Or.inl rfl | exact Or.inr rfl) (pe_op op_mul pe_int (DL.pe_cal h_frame hr (by omega) (by rfl) pass0 (pa_cons (pv 2) pa_nil))))
     (pss_cons (ps_ret (pe_tup (pa_cons (DL.pe_cal h_bounded hr (by omega) (by rfl) pass0 (pa_cons (pv 2) (pa_cons (pe_op op_add (pe_ix (DL.kIxT (K := K)) (pv 4) pe_int (fun _ _ => rfl)) (pv 5)) pa_nil))) (pa_cons (DL.pe_cal h_bounded hr (by omega) (by rfl) pass0 (pa_cons (pv 2) (pa_cons (pe_op op_add (pe_ix (DL.kIxT (K := K)) (pv 4) pe_int (fun _ _ => rfl)) (pv 5)) pa_nil))) pa_nil))))
     pss_nil)))))), ?_⟩)
  refine DL.run_spS h (Nat.le_trans (Nat.le_of_eq (DL.spS_len (R_Measures__measured_len (hgt + 1)) _ _ _ _ h)) (by decide)) fun N ad x ds hsh hR hq => ?_
  obtain ⟨x', d, n, rfl, hm, h31, hok, ⟨k1, rfl, hok1⟩, rfl⟩ := hR
  simp only [envG, List.map, List.length, List.replicate, List.cons_append, List.nil_append, Nat.reduceAdd, Nat.reduceSub, Nat.sub_self]
  obtain ⟨r, m, hr, hst, hc, _, _⟩ := id hm
  have hown := hm.own hr h31
  have hg : getA x.p.hs.cells (.inl n) = some r.d := (tr_get hok.pg.rows).mp hr
  have hsto : stOf x.st n = m := by unfold stOf; rw [hst]; rfl
  have slt : ∀ s ∈ [SV.i (PyData.int n)], SvLt 2 s := by intro s hs; simp at hs; rw [hs]; exact True.intro
  have hpg : ∀ {w : Bool} {c : Cn} {e : Sy}, c.K = K → e[0]? = some (some (.r 0)) → EvX w c e (shapeM C_Measures C_Page C_History x) (tFld c.K (tVar 0) "_page") (pgD C_Page C_History x.p) := fun {w c e} hK he => by
    subst hK
    exact ex_fldO (k := 0) (er_var he (by simp [shapeM])) rfl kC_Measures n_Measures__page rfl
  refine gs_asg (d := dS m) (ex_dgetD (ek := ekI) (ev := dS) (a := n) ekI_inj (ex_fldO (k := 0) (er_var rfl (by simp [shapeM])) rfl kC_Measures n_Measures__styles rfl) (ex_var rfl) hst) ?_
  walk_at "nf"
  have hk : (kdS r.box == ("text" : Str)) = !r.box := by cases r.box <;> decide +kernel
  refine gs_if (b := !r.box) (EvT.is (et_test (ex_eqS (ex_methD (hpg rfl rfl) rfl (ea_cons (ex_var rfl) ea_nil) (R_Page_kind_i hg)) ex_str)) hk) (fun hb => ?y1) (fun hb => g_nextU ?n1)
  case y1 =>
    have hb' : r.box = false := by simpa using hb
    obtain ⟨l, s, ht⟩ : ∃ l s, IsTx x.p x.st n r l m s := by
      rcases hc with ⟨_, t⟩ | ⟨z, _⟩
      · exact t.is
      · rw [hb'] at z; cases z
    have h1 := ht.s1
    have h2 := ht.s2
    have h3 := ht.ll
    refine gs_retS (x' := x) (EvX.is (ex_call (ea_cons (EvX.is (ex_methD (hpg rfl rfl) rfl (ea_cons (ex_var rfl) ea_nil) (R_Page_text_i hg)) (by rw [ht.bx, ht.con]; rfl)) (ea_cons (ex_dgetD (ek := ekS) (ev := evS) (a := "size") ekS_inj (ex_var rfl) ex_str ht.sz) ea_nil)) (R__text_pair_i h1 h2 h3)) ?_) hq (fun i o e => e) (shapeM_ok _ _ _ _) ⟨n, rfl, hm, h31, hok, ⟨x.known, rfl, hok⟩, rfl⟩
    rw [hown]
    unfold ownM
    rw [hb', ht.txt, ht.siz]
    rfl
  case n1 =>
  have hb' : r.box = true := by simpa using hb
  have bx : BxOk m := by
    rcases hc with ⟨z, _⟩ | ⟨_, t⟩
    · rw [hb'] at z; cases z
    · exact t
  have bm := bx.bm
  have hown2 : msr x.p x.st 31 n = boxM m (outs x.p x.st 31 r) := by rw [hown]; unfold ownM; rw [if_pos hb', hsto]
  have hcase : (∃ w0, getA m "width" = some (.int w0)) ∨ ∃ dw, getA m "width" = some dw ∧ kitD (tyN dw) "int" = some false ∧ ∀ qs, boxM m qs = (bdW m ((insM m qs).1 + 2 * (nmI m "border" + nmI m "padding")), bdW m ((insM m qs).2 + 2 * (nmI m "border" + nmI m "padding"))) := by
    rcases bx.wi with h | ⟨y, h⟩ | ⟨l, h⟩
    · exact Or.inl h
    · exact Or.inr ⟨_, h, kit_str_int, fun qs => by unfold boxM; rw [h]⟩
    · exact Or.inr ⟨_, h, kit_tuple_int, fun qs => by unfold boxM; rw [h]⟩
  rcases hcase with ⟨w0, hw⟩ | ⟨dw, hw, hkit, hbox⟩
  · refine gs_if (b := true) (et_B (ex_isi (ex_dgetD (ek := ekS) (ev := evS) (a := "width") ekS_inj (ex_var rfl) ex_str hw) kit_int_int)) (fun _ => ?_) (fun z => nomatch z)
    refine gs_asg (d := .int (bdW m w0)) (ex_call (ea_cons (ex_var rfl) (ea_cons (ex_dgetD (ek := ekS) (ev := evS) (a := "width") ekS_inj (ex_var rfl) ex_str hw) ea_nil)) (R_bounded_i bm)) ?_
    walk_at "nf"
    refine gs_retS (x' := x) (EvX.is (ex_tup (ea_cons (ex_var rfl) (ea_cons (ex_var rfl) ea_nil)) (Nat.le_of_ble_eq_true rfl)) ?_) hq (fun i o e => e) (shapeM_ok _ _ _ _) ⟨n, rfl, hm, h31, hok, ⟨x.known, rfl, hok⟩, rfl⟩
    rw [hown2]
    unfold boxM
    rw [hw]
    rfl
  refine gs_if (b := false) (et_B (ex_isi (ex_dgetD (ek := ekS) (ev := evS) (a := "width") ekS_inj (ex_var rfl) ex_str hw) hkit)) (fun z => nomatch z) (fun _ => g_nextU ?_)
  refine gs_asgN (en_meth (k := 0) (ds := [.i (.int n)]) (x := x) (segAt_self (shapeM_ok C_Measures C_Page C_History)) (er_var rfl (by simp [shapeM])) rfl rfl (by decide) slt (eas_cons (show EvX false _ _ _ _ _ from ex_var rfl) eas_nil) ⟨_, _, n, r, m, rfl, hr, hst, bx, hm, h31, hok, ⟨x.known, rfl, hok⟩, rfl⟩) ?_
  rintro _ _ ⟨_, ⟨n2, r2, m2, z1, hr2, hst2, _, _, _, _, ⟨k2, rfl, hk2⟩, rfl⟩, rfl⟩
  cases z1
  rw [hr] at hr2
  cases hr2
  rw [hst] at hst2
  cases hst2
  walk_at "nf"
  refine gs_asg (d := .int (2 * (nmI m "border" + nmI m "padding"))) (ex_i2c ex_int (ex_call (ea_cons (ex_var rfl) ea_nil) (R_frame_i bm.bo bm.pa)) (Or.inl ⟨by decide, by decide⟩)) ?_
  walk_at "nf"
  refine gs_retS (x' := { x with known := k2 }) (EvX.is (ex_tup (ea_cons (ex_call (ea_cons (ex_var rfl) (ea_cons (ex_i2 (ex_ixT (ds := [.int (insM m (outs x.p x.st 31 r)).1, .int (insM m (outs x.p x.st 31 r)).2]) (ex_var rfl) ex_int (atI_nat (j := 0) rfl)) (ex_var rfl)) ea_nil)) (R_bounded_i bm)) (ea_cons (ex_call (ea_cons (ex_var rfl) (ea_cons (ex_i2 (ex_ixT (ds := [.int (insM m (outs x.p x.st 31 r)).1, .int (insM m (outs x.p x.st 31 r)).2]) (ex_var rfl) ex_int (atI_nat (j := 1) rfl)) (ex_var rfl)) ea_nil)) (R_bounded_i bm)) ea_nil)) (Nat.le_of_ble_eq_true rfl)) ?_) hq (fun i o e => e) (shapeM_ok _ _ _ _) ⟨n, rfl, hm, h31, hok, ⟨k2, rfl, hk2⟩, rfl⟩
  rw [hown2, hbox]
  rfl
-- END Measures__measured
theorem sc_Measures_pair : FnScope ["self", "node"] ["self", "node"] (defScope s_Measures_pair) := ⟨rfl, rfl, rfl, by decide +kernel, rfl, by decide +kernel, by decide +kernel⟩
theorem R_Measures_pair_len : ∀ (hgt : Nat), ∀ x ds x' d, R_Measures_pair hgt x ds x' d → ds.length = 2 := by
  intro hgt x ds x' d hh
  unfold R_Measures_pair at hh
  repeat (obtain ⟨_, hh⟩ := hh)
  subst_eqs
  rfl
theorem ok_Measures_pair {P : Program} {w : World} {K : PySem.W.Frag} {mg : Str → Option Value} {base : Heap} {f : Addr} {fd : FuncData} (F : DL.FnM K "pair" "Measures.pair" s_Measures_pair [] f fd) (hgt : Nat) {C_History : Addr} (kC_History : Cls K C_History) (n_History_cells : NoAttr K C_History "cells") (n_History__done : NoAttr K C_History "_done") (n_History__undone : NoAttr K C_History "_undone") {C_Measures : Addr} (kC_Measures : Cls K C_Measures) (n_Measures__page : NoAttr K C_Measures "_page") (n_Measures__styles : NoAttr K C_Measures "_styles") (n_Measures_known : NoAttr K C_Measures "known") {C_Page : Addr} (kC_Page : Cls K C_Page) (n_Page_width : NoAttr K C_Page "width") (n_Page_height : NoAttr K C_Page "height") (n_Page__last_id : NoAttr K C_Page "_last_id") (n_Page__moment : NoAttr K C_Page "_moment") (n_Page__marked : NoAttr K C_Page "_marked") (n_Page__history : NoAttr K C_Page "_history") (h_Measures__measured : DL.MetP P w K mg base (8 + 5 * (hgt + 1) + 1) C_Measures "_measured" ["self", "node"] (DL.spS K 2 (shapeM C_Measures C_Page C_History) (R_Measures__measured (hgt + 1)))) (me : Meth K C_Measures "pair" f) : DL.MetP P w K mg base (9 + 5 * (hgt + 1) + 1) C_Measures "pair" ["self", "node"] (DL.spS K 2 (shapeM C_Measures C_Page C_History) (R_Measures_pair (hgt + 1))) := by
  refine DL.met_mk F sc_Measures_pair kC_Measures me (DL.spS_len (R_Measures_pair_len (hgt + 1))) (fun _ _ _ _ _ _ us hl => match us, hl with | [_, _], _ => rfl) (fun cdv A outer s H vs Q E hr h => ⟨_,
    (pss_cons (ps_if (pt_cmp (pc_dnotin (DL.u1 hr.units) (pv 1) (DL.kFld (K := K) (pv 0))))
     (pss_cons (ps_dput (DL.u1 hr.units) (DL.kFld (K := K) (pv 0)) (pv 1) (DL.pe_metP h_Measures__measured hr (by omega) pass0 (pv 0) (pa_cons (pv 1) pa_nil)) rfl)
     pss_nil)
     pss_nil)
     (pss_cons (ps_ret (pe_dget (DL.u1 hr.units) (DL.kFld (K := K) (pv 0)) (pv 1) (fun _ _ => rfl)))
     pss_nil)), ?_⟩)
  refine DL.run_spS h (Nat.le_trans (Nat.le_of_eq (DL.spS_len (R_Measures_pair_len (hgt + 1)) _ _ _ _ h)) (by decide)) fun N ad x ds hsh hR hq => ?_
  obtain ⟨x', d, n, rfl, hm, h31, hok, ⟨k1, rfl, hok1⟩, rfl⟩ := hR
  simp only [envG, List.map, List.length, List.replicate, List.cons_append, List.nil_append, Nat.reduceAdd, Nat.reduceSub, Nat.sub_self]
  obtain ⟨r, m, hr, _⟩ := id hm
  have hsome : (x.p.t n).isSome = true := by rw [hr]; rfl
  have hlen := hok.len
  have slt : ∀ s ∈ [SV.i (PyData.int n)], SvLt 2 s := by intro s hs; simp at hs; rw [hs]; exact True.intro
  have hret : ∀ (k2 : List (Key × PyData)), MsOk { x with known := k2 } → getA k2 (.inl n) = some (dII (msr x.p x.st 31 n)) → Go (cnS K H N ad 2) [some (.r 0), some (.i (.int n))] (shapeM C_Measures C_Page C_History { x with known := k2 }) (tSeq (tRet (tDGet (tFld K (tVar 0) "known") (tVar 1))) tNext) (De Q) := fun k2 hk2 hg2 =>
    gs_retS (x' := { x with known := k2 }) (ex_dget (kk := .inl n) (k := 1) (er_fldO (k := 0) (er_var rfl (by simp [shapeM])) rfl kC_Measures n_Measures_known rfl (Nat.le_of_ble_eq_true rfl)) rfl (ex_var rfl) (by rw [getA_dkO, hg2]; rfl)) hq (fun i o e => e) (shapeM_ok _ _ _ _) ⟨n, rfl, hm, h31, hok, ⟨k2, rfl, hk2⟩, rfl⟩
  cases hkn : getA x.known (.inl n) with
  | some d0 =>
    have hd0 := hok.kn n d0 hkn
    refine gs_if (b := false) (EvT.is (et_test (ex_notinK (kk := .inl n) (k := 1) (ex_var rfl) (er_fldO (k := 0) (er_var rfl (by simp [shapeM])) rfl kC_Measures n_Measures_known rfl (Nat.le_of_ble_eq_true rfl)) rfl)) (by rw [getA_dkO, hkn]; rfl)) (fun z => nomatch z) (fun _ => g_nextU ?_)
    exact hret x.known hok (by rw [hkn, hd0])
  | none =>
    refine gs_if (b := true) (EvT.is (et_test (ex_notinK (kk := .inl n) (k := 1) (ex_var rfl) (er_fldO (k := 0) (er_var rfl (by simp [shapeM])) rfl kC_Measures n_Measures_known rfl (Nat.le_of_ble_eq_true rfl)) rfl)) (by rw [getA_dkO, hkn]; rfl)) (fun _ => ?_) (fun z => nomatch z)
    refine gs_dputN (en_meth (k := 0) (ds := [.i (.int n)]) (x := x) (segAt_self (shapeM_ok C_Measures C_Page C_History)) (er_var rfl (by simp [shapeM])) rfl rfl (by decide) slt (eas_cons (show EvX false _ _ _ _ _ from ex_var rfl) eas_nil) ⟨_, _, n, rfl, hm, h31, hok, ⟨x.known, rfl, hok⟩, rfl⟩) ?_
    rintro _ _ ⟨_, ⟨n2, z1, _, _, _, ⟨k2, rfl, hk2⟩, rfl⟩, rfl⟩
    cases z1
    refine ⟨1, _, .inl n, er_fldO (k := 0) (er_var rfl (by simp [shapeM])) rfl kC_Measures n_Measures_known rfl (Nat.le_of_ble_eq_true rfl), rfl, ex_var rfl, by rw [List.length_map]; have := hk2.len; have h9 : k2.length ≤ 300 := this; omega, ?_⟩
    refine g_nextU (gs_is rfl (show _ = shapeM C_Measures C_Page C_History { x with known := setA k2 (.inl n) (dII (msr x.p x.st 31 n)) } from by rw [setA_dkO]; rfl) (hret _ (hk2.put hsome) (by rw [getA_set, if_pos rfl])))
-- END Measures_pair
theorem sc_Measures___init__ : FnScope ["self", "page", "styles", "known"] ["self", "page", "styles", "known"] (defScope s_Measures___init__) := ⟨rfl, rfl, rfl, by decide +kernel, rfl, by decide +kernel, by decide +kernel⟩
def R_Measures___init__ : Addr → Addr → List (Key × PyData) → List SV → Ms → Prop := fun CP CH m ds y => ∃ (p : Pg) (st : St), ds = [.r 0, .i (pgD CP CH p), .i (dSt st), .r 1] ∧ y = ⟨p, st, m⟩
theorem R_Measures___init___len : ∀ (C_Page C_History : Addr), ∀ x ds y, R_Measures___init__ C_Page C_History x ds y → ds.length = 4 := by
  intro C_Page C_History x ds y hh
  unfold R_Measures___init__ at hh
  repeat (obtain ⟨_, hh⟩ := hh)
  subst_eqs
  rfl
theorem ok_Measures___init__ {P : Program} {w : World} {K : PySem.W.Frag} {mg : Str → Option Value} {base : Heap} {f : Addr} {fd : FuncData} (F : DL.FnM K "__init__" "Measures.__init__" s_Measures___init__ [] f fd) {C_History : Addr} (kC_History : Cls K C_History) (n_History_cells : NoAttr K C_History "cells") (n_History__done : NoAttr K C_History "_done") (n_History__undone : NoAttr K C_History "_undone") {C_Measures : Addr} (kC_Measures : Cls K C_Measures) (n_Measures__page : NoAttr K C_Measures "_page") (n_Measures__styles : NoAttr K C_Measures "_styles") (n_Measures_known : NoAttr K C_Measures "known") {C_Page : Addr} (kC_Page : Cls K C_Page) (n_Page_width : NoAttr K C_Page "width") (n_Page_height : NoAttr K C_Page "height") (n_Page__last_id : NoAttr K C_Page "_last_id") (n_Page__moment : NoAttr K C_Page "_moment") (n_Page__marked : NoAttr K C_Page "_marked") (n_Page__history : NoAttr K C_Page "_history") (M : Mk K C_Measures f) (g0 : mg "Measures" = some (.ref C_Measures)) : DL.MakN P w K mg base 1 "Measures" C_Measures ["self", "page", "styles", "known"] (spK K 2 2 (preM C_Measures) (shapeM C_Measures C_Page C_History) (R_Measures___init__ C_Page C_History)) := by
  refine DL.makN_mk F sc_Measures___init__ M g0 (DL.spK_len (R_Measures___init___len C_Page C_History)) (fun _ _ _ _ _ _ us hl => match us, hl with | [_, _, _, _], _ => rfl) (fun cdv A outer s H vs Q E hr h => ⟨_,
    (pss_cons (DL.kSetFld (K := K) (pv 0) (pv 1))
     (pss_cons (DL.kSetFld (K := K) (pv 0) (pv 2))
     (pss_cons (DL.kSetFld (K := K) (pv 0) (pv 3))
     pss_nil))), ?_⟩)
  refine DL.run_spK h (Nat.le_trans (Nat.le_of_eq (DL.spK_len (R_Measures___init___len C_Page C_History) _ _ _ _ h)) (by decide)) (by decide) fun N ad x ds hsh hR hq => ?_
  obtain ⟨y, p, st, rfl, rfl⟩ := hR
  simp only [envG, List.map, List.length, List.replicate, List.cons_append, List.nil_append, Nat.reduceAdd, Nat.reduceSub, Nat.sub_self]
  unfold preM
  refine gs_setFld (k := 0) (s := .i (pgD C_Page C_History p)) (show EvX false _ _ _ _ _ from ex_var rfl) (er_var rfl (by simp)) rfl kC_Measures n_Measures__page (by simp) ?_
  refine gs_is (os' := [.ob C_Measures [("_page", .i (pgD C_Page C_History p))], dkO x]) rfl rfl ?_
  refine gs_setFld (k := 0) (s := .i (dSt st)) (show EvX false _ _ _ _ _ from ex_var rfl) (er_var rfl (by simp)) rfl kC_Measures n_Measures__styles (by simp) ?_
  refine gs_is (os' := [.ob C_Measures [("_page", .i (pgD C_Page C_History p)), ("_styles", .i (dSt st))], dkO x]) rfl rfl ?_
  refine gs_setFld (k := 0) (s := .r 1) (show EvR _ _ _ _ _ from er_var rfl (by simp)) (er_var rfl (by simp)) rfl kC_Measures n_Measures_known (by simp) ?_
  refine gs_is (os' := shapeM C_Measures C_Page C_History ⟨p, st, x⟩) rfl rfl ?_
  exact g_endK (y := ⟨p, st, x⟩) hq (fun i o e => e) (shapeM_ok _ _ _ _) ⟨p, st, rfl, rfl⟩
-- END Measures___init__
theorem sc_narrow : FnScope ["page", "styles", "node"] ["page", "styles", "node"] (defScope s_narrow) := ⟨rfl, rfl, rfl, by decide +kernel, rfl, by decide +kernel, by decide +kernel⟩
theorem msOkE {p : Pg} {st : St} (h : PgOk p) : MsOk ⟨p, st, []⟩ := ⟨h, (fun n d z => nomatch z), List.nodup_nil, fun q hq => absurd hq List.not_mem_nil⟩
def R_narrow : Addr → Addr → List PyData → PyData → Prop := fun CP CH ds d => ∃ (p : Pg) (st : St) (n : Int), ds = [pgD CP CH p, dSt st, .int n] ∧ PgOk p ∧ MOk p st 31 n ∧ d = .int (msr p st 31 n).1
theorem R_narrow_i {CP CH : Addr} {p : Pg} {st : St} {n : Int} (h1 : PgOk p) (h2 : MOk p st 31 n) : R_narrow CP CH [pgD CP CH p, dSt st, .int n] (.int (msr p st 31 n).1) := ⟨p, st, n, rfl, h1, h2, rfl⟩
local macro_rules | `(tactic| walk_at "r2") => `(tactic| exact R_narrow_i (by assumption) (by assumption))
theorem R_narrow_len : ∀ (C_Page C_History : Addr) ds d, R_narrow C_Page C_History ds d → ds.length = 3 := by
  intro C_Page C_History ds d hh
  unfold R_narrow at hh
  repeat (obtain ⟨_, hh⟩ := hh)
  subst_eqs
  rfl
theorem ok_narrow {P : Program} {w : World} {K : PySem.W.Frag} {mg : Str → Option Value} {base : Heap} {f : Addr} {fd : FuncData} (F : FnP K "narrow" s_narrow f fd) (g0 : mg "narrow" = some (.ref f)) {C_History : Addr} (kC_History : Cls K C_History) (n_History_cells : NoAttr K C_History "cells") (n_History__done : NoAttr K C_History "_done") (n_History__undone : NoAttr K C_History "_undone") {C_Measures : Addr} (kC_Measures : Cls K C_Measures) (n_Measures__page : NoAttr K C_Measures "_page") (n_Measures__styles : NoAttr K C_Measures "_styles") (n_Measures_known : NoAttr K C_Measures "known") {C_Page : Addr} (kC_Page : Cls K C_Page) (n_Page_width : NoAttr K C_Page "width") (n_Page_height : NoAttr K C_Page "height") (n_Page__last_id : NoAttr K C_Page "_last_id") (n_Page__moment : NoAttr K C_Page "_moment") (n_Page__marked : NoAttr K C_Page "_marked") (n_Page__history : NoAttr K C_Page "_history") (h_Measures_pair : DL.MetP P w K mg base (9 + 5 * 31 + 1) C_Measures "pair" ["self", "node"] (DL.spS K 2 (shapeM C_Measures C_Page C_History) (R_Measures_pair 31))) (h_Measures___init__ : DL.MakN P w K mg base 1 "Measures" C_Measures ["self", "page", "styles", "known"] (spK K 2 2 (preM C_Measures) (shapeM C_Measures C_Page C_History) (R_Measures___init__ C_Page C_History))) : Cal P w K mg base 166 "narrow" ["page", "styles", "node"] (spD K  (R_narrow C_Page C_History)) := by
  refine cal_mk F sc_narrow g0 (spD_len (R_narrow_len C_Page C_History)) (fun _ _ _ _ _ _ us hl => match us, hl with | [_, _, _], _ => rfl) (fun cdv A outer s H vs Q E hr h => ⟨_,
    (pss_cons (ps_ret (pe_ix (DL.kIxT (K := K)) (DL.pe_metP h_Measures_pair hr (by decide) pass0 (DL.pe_makN h_Measures___init__ hr (by decide) (by rfl) pass0 (pa_cons (pv 0) (pa_cons (pv 1) (pa_cons pe_dnewK pa_nil)))) (pa_cons (pv 2) pa_nil)) pe_int (fun _ _ => rfl)))
     pss_nil), ?_⟩)
  refine run_spD h fun N ds d hR hq => ?_
  obtain ⟨p, st, n, rfl, hp, hm, rfl⟩ := hR
  have hok := msOkE (st := st) hp
  walk_at "env"
  refine gs_retNG (P := fun _ d => d = .int (msr p st 31 n).1) (eng_op (P1 := fun _ d => d = dII (msr p st 31 n)) (fun ad σ H ok Q q => eng_meth (f := fMs) (G := gMs C_Measures C_Page C_History) (y := ⟨p, st, []⟩) (ds := [.i (.int n)]) (EvGN.imp (egn_makeN (f := fMs) (x := []) (G := gMs C_Measures C_Page C_History) (ds := [.i (pgD C_Page C_History p), .i (dSt st), .r 1]) (os2 := [dkO []]) (eapg_s (s := .i (pgD C_Page C_History p)) (show EvX false _ _ _ _ _ from ex_var rfl) fun _ => eapg_s (s := .i (dSt st)) (show EvX false _ _ _ _ _ from ex_var rfl) fun _ => eapg_g (k := 0) (eg_F (o := .dK []) ef_dnewK) fun _ => eas_nil.asG) rfl (by decide) (by intro s hs; simp at hs; rcases hs with rfl | rfl | rfl; exact True.intro; exact True.intro; exact Nat.lt_succ_self 1) (segMs0 _ _ _ []) ⟨_, p, st, rfl, rfl⟩) ?i1) (segMs _ _ _) rfl rfl (by decide) (by intro s hs; rw [List.mem_singleton.mp hs]; exact True.intro) (eas_cons (show EvX false _ _ _ _ _ from ex_var rfl) eas_nil) ⟨_, _, n, rfl, hm, Nat.le_refl 31, hok, ⟨[], rfl, hok⟩, rfl⟩ ad σ H ok Q fun ad' v H2 os' d hP => q ad' v H2 os' d ?i2) (fun v os' d hd => ?o1)) hq (fun _ _ e => e)
  case i1 =>
    rintro k o ⟨rfl, y, ⟨p2, st2, e, rfl⟩, rfl⟩
    injection e with _ e
    injection e with e1 e
    injection e1 with e1
    injection e with e2 _
    injection e2 with e2
    refine ⟨rfl, ?_⟩
    show [dkO [], SO.ob C_Measures [("_page", .i (pgD C_Page C_History p2)), ("_styles", .i (dSt st2)), ("known", .r 0)]] = [dkO [], SO.ob C_Measures [("_page", .i (pgD C_Page C_History p)), ("_styles", .i (dSt st)), ("known", .r 0)]]
    rw [e1, e2]
  case i2 =>
    obtain ⟨_, ⟨n2, e, _, _, _, _, rfl⟩, _⟩ := hP
    cases e
    rfl
  case o1 =>
    subst hd
    exact eng_x (ex_ixT (ds := [.int (msr p st 31 n).1, .int (msr p st 31 n).2]) (ex_pin (List.mem_cons_self ..)) ex_int (atI_nat (j := 0) rfl)) rfl
-- END narrow
theorem sc_wide : FnScope ["page", "styles", "node"] ["page", "styles", "node"] (defScope s_wide) := ⟨rfl, rfl, rfl, by decide +kernel, rfl, by decide +kernel, by decide +kernel⟩
def R_wide : Addr → Addr → List PyData → PyData → Prop := fun CP CH ds d => ∃ (p : Pg) (st : St) (n : Int), ds = [pgD CP CH p, dSt st, .int n] ∧ PgOk p ∧ MOk p st 31 n ∧ d = .int (msr p st 31 n).2
theorem R_wide_i {CP CH : Addr} {p : Pg} {st : St} {n : Int} (h1 : PgOk p) (h2 : MOk p st 31 n) : R_wide CP CH [pgD CP CH p, dSt st, .int n] (.int (msr p st 31 n).2) := ⟨p, st, n, rfl, h1, h2, rfl⟩
local macro_rules | `(tactic| walk_at "r2") => `(tactic| exact R_wide_i (by assumption) (by assumption))
theorem R_wide_len : ∀ (C_Page C_History : Addr) ds d, R_wide C_Page C_History ds d → ds.length = 3 := by
  intro C_Page C_History ds d hh
  unfold R_wide at hh
  repeat (obtain ⟨_, hh⟩ := hh)
  subst_eqs
  rfl
theorem ok_wide {P : Program} {w : World} {K : PySem.W.Frag} {mg : Str → Option Value} {base : Heap} {f : Addr} {fd : FuncData} (F : FnP K "wide" s_wide f fd) (g0 : mg "wide" = some (.ref f)) {C_History : Addr} (kC_History : Cls K C_History) (n_History_cells : NoAttr K C_History "cells") (n_History__done : NoAttr K C_History "_done") (n_History__undone : NoAttr K C_History "_undone") {C_Measures : Addr} (kC_Measures : Cls K C_Measures) (n_Measures__page : NoAttr K C_Measures "_page") (n_Measures__styles : NoAttr K C_Measures "_styles") (n_Measures_known : NoAttr K C_Measures "known") {C_Page : Addr} (kC_Page : Cls K C_Page) (n_Page_width : NoAttr K C_Page "width") (n_Page_height : NoAttr K C_Page "height") (n_Page__last_id : NoAttr K C_Page "_last_id") (n_Page__moment : NoAttr K C_Page "_moment") (n_Page__marked : NoAttr K C_Page "_marked") (n_Page__history : NoAttr K C_Page "_history") (h_Measures_pair : DL.MetP P w K mg base (9 + 5 * 31 + 1) C_Measures "pair" ["self", "node"] (DL.spS K 2 (shapeM C_Measures C_Page C_History) (R_Measures_pair 31))) (h_Measures___init__ : DL.MakN P w K mg base 1 "Measures" C_Measures ["self", "page", "styles", "known"] (spK K 2 2 (preM C_Measures) (shapeM C_Measures C_Page C_History) (R_Measures___init__ C_Page C_History))) : Cal P w K mg base 166 "wide" ["page", "styles", "node"] (spD K  (R_wide C_Page C_History)) := by
  refine cal_mk F sc_wide g0 (spD_len (R_wide_len C_Page C_History)) (fun _ _ _ _ _ _ us hl => match us, hl with | [_, _, _], _ => rfl) (fun cdv A outer s H vs Q E hr h => ⟨_,
    (pss_cons (ps_ret (pe_ix (DL.kIxT (K := K)) (DL.pe_metP h_Measures_pair hr (by decide) pass0 (DL.pe_makN h_Measures___init__ hr (by decide) (by rfl) pass0 (pa_cons (pv 0) (pa_cons (pv 1) (pa_cons pe_dnewK pa_nil)))) (pa_cons (pv 2) pa_nil)) pe_int (fun _ _ => rfl)))
     pss_nil), ?_⟩)
  refine run_spD h fun N ds d hR hq => ?_
  obtain ⟨p, st, n, rfl, hp, hm, rfl⟩ := hR
  have hok := msOkE (st := st) hp
  walk_at "env"
  refine gs_retNG (P := fun _ d => d = .int (msr p st 31 n).2) (eng_op (P1 := fun _ d => d = dII (msr p st 31 n)) (fun ad σ H ok Q q => eng_meth (f := fMs) (G := gMs C_Measures C_Page C_History) (y := ⟨p, st, []⟩) (ds := [.i (.int n)]) (EvGN.imp (egn_makeN (f := fMs) (x := []) (G := gMs C_Measures C_Page C_History) (ds := [.i (pgD C_Page C_History p), .i (dSt st), .r 1]) (os2 := [dkO []]) (eapg_s (s := .i (pgD C_Page C_History p)) (show EvX false _ _ _ _ _ from ex_var rfl) fun _ => eapg_s (s := .i (dSt st)) (show EvX false _ _ _ _ _ from ex_var rfl) fun _ => eapg_g (k := 0) (eg_F (o := .dK []) ef_dnewK) fun _ => eas_nil.asG) rfl (by decide) (by intro s hs; simp at hs; rcases hs with rfl | rfl | rfl; exact True.intro; exact True.intro; exact Nat.lt_succ_self 1) (segMs0 _ _ _ []) ⟨_, p, st, rfl, rfl⟩) ?i1) (segMs _ _ _) rfl rfl (by decide) (by intro s hs; rw [List.mem_singleton.mp hs]; exact True.intro) (eas_cons (show EvX false _ _ _ _ _ from ex_var rfl) eas_nil) ⟨_, _, n, rfl, hm, Nat.le_refl 31, hok, ⟨[], rfl, hok⟩, rfl⟩ ad σ H ok Q fun ad' v H2 os' d hP => q ad' v H2 os' d ?i2) (fun v os' d hd => ?o1)) hq (fun _ _ e => e)
  case i1 =>
    rintro k o ⟨rfl, y, ⟨p2, st2, e, rfl⟩, rfl⟩
    injection e with _ e
    injection e with e1 e
    injection e1 with e1
    injection e with e2 _
    injection e2 with e2
    refine ⟨rfl, ?_⟩
    show [dkO [], SO.ob C_Measures [("_page", .i (pgD C_Page C_History p2)), ("_styles", .i (dSt st2)), ("known", .r 0)]] = [dkO [], SO.ob C_Measures [("_page", .i (pgD C_Page C_History p)), ("_styles", .i (dSt st)), ("known", .r 0)]]
    rw [e1, e2]
  case i2 =>
    obtain ⟨_, ⟨n2, e, _, _, _, _, rfl⟩, _⟩ := hP
    cases e
    rfl
  case o1 =>
    subst hd
    exact eng_x (ex_ixT (ds := [.int (msr p st 31 n).1, .int (msr p st 31 n).2]) (ex_pin (List.mem_cons_self ..)) ex_int (atI_nat (j := 1) rfl)) rfl
-- END wide
theorem sc_is_within : FnScope ["value", "low", "high"] ["value", "low", "high"] (defScope s_is_within) := ⟨rfl, rfl, rfl, by decide +kernel, rfl, by decide +kernel, by decide +kernel⟩
def R_is_within : List PyData → PyData → Prop := fun ds d => ∃ v lo hi : Int, ds = [.int v, .int lo, .int hi] ∧ d = .bool (decide (lo ≤ v) && decide (v ≤ hi))
theorem R_is_within_i {v lo hi : Int} : R_is_within [.int v, .int lo, .int hi] (.bool (decide (lo ≤ v) && decide (v ≤ hi))) := ⟨v, lo, hi, rfl, rfl⟩
local macro_rules | `(tactic| walk_at "r2") => `(tactic| exact R_is_within_i)
theorem R_is_within_len : ∀ ds d, R_is_within ds d → ds.length = 3 := by
  intro ds d hh
  unfold R_is_within at hh
  repeat (obtain ⟨_, hh⟩ := hh)
  subst_eqs
  rfl
theorem ok_is_within {P : Program} {w : World} {K : PySem.W.Frag} {mg : Str → Option Value} {base : Heap} {f : Addr} {fd : FuncData} (F : FnP K "is_within" s_is_within f fd) (g0 : mg "is_within" = some (.ref f)) (h_is_number : Cal P w K mg base 1 "is_number" ["value"] (spD K  R_is_number)) : Cal P w K mg base 2 "is_within" ["value", "low", "high"] (spD K  R_is_within) := by
  refine cal_mk F sc_is_within g0 (spD_len R_is_within_len) (fun _ _ _ _ _ _ us hl => match us, hl with | [_, _, _], _ => rfl) (fun cdv A outer s H vs Q E hr h => ⟨_,
    (pss_cons (ps_ret (pe_and (DL.pe_cal h_is_number hr (by decide) (by rfl) pass0 (pa_cons (pv 0) pa_nil)) (pe_one (pe_chain op_le op_le (pv 1) (pv 0) (pv 2)))))
     pss_nil), ?_⟩)
  refine run_spD h fun N ds d hR hq => ?_
  obtain ⟨v, lo, hi, rfl, rfl⟩ := hR
  walk_at "env"
  refine gs_ret (EvX.is (ex_and (ex_call (ea_cons (ex_var rfl) ea_nil) R_is_number_i) (fun _ => ex_chain rfl rfl (ex_var rfl) (ex_var rfl) (ex_var rfl))) rfl) hq
-- END is_within
theorem sc_is_word : FnScope ["value", "char"] ["value"] (defScope s_is_word) := ⟨rfl, rfl, rfl, by decide +kernel, rfl, by decide +kernel, by decide +kernel⟩
def wB (l : List Nat) : Bool := decide (1 ≤ l.length) && decide (l.length ≤ 12) && l.all (fun x => decide (97 ≤ x) && decide (x ≤ 122))
def R_is_word : List PyData → PyData → Prop := fun ds d => ∃ l : List Nat, l.length ≤ 40000 ∧ ds = [dT l] ∧ d = .bool (wB l)
theorem R_is_word_i {l : List Nat} (h : l.length ≤ 40000) : R_is_word [dT l] (.bool (wB l)) := ⟨l, h, rfl, rfl⟩
local macro_rules | `(tactic| walk_at "r2") => `(tactic| exact R_is_word_i (by assumption))
theorem R_is_word_len : ∀ ds d, R_is_word ds d → ds.length = 1 := by
  intro ds d hh
  unfold R_is_word at hh
  repeat (obtain ⟨_, hh⟩ := hh)
  subst_eqs
  rfl
theorem ok_is_word {P : Program} {w : World} {K : PySem.W.Frag} {mg : Str → Option Value} {base : Heap} {f : Addr} {fd : FuncData} (F : FnP K "is_word" s_is_word f fd) (g0 : mg "is_word" = some (.ref f)) (z_isinstance : mg "isinstance" = none) (z_str : mg "str" = none) (z_len : mg "len" = none) (z_all : mg "all" = none) (c_LONGEST_WORD : ∃ t, mg "LONGEST_WORD" = some (.int 12 t)) : Cal P w K mg base 1 "is_word" ["value"] (spD K  R_is_word) := by
  refine cal_mk F sc_is_word g0 (spD_len R_is_word_len) (fun _ _ _ _ _ _ us hl => match us, hl with | [_], _ => rfl) (fun cdv A outer s H vs Q E hr h => ⟨_,
    (pss_cons (ps_if (PW.pt (pw_or (pt_not (pt_val (pe_callB (DL.kIsi (K := K)) (by rfl) z_isinstance (by decide +kernel) (pa_cons (pv 0) (pa_cons (pe_bltn (v := .ty "str") (u := .type "str") (by rfl) z_str (by decide +kernel) rfl) pa_nil))))) (pw_or1 (pt_not (pt_chain op_le op_le pe_int (pe_callB call_len_str (by rfl) z_len (by decide +kernel) (pa_cons (pv 0) pa_nil)) (C8.pe_gc (v := .int 12) (by rfl) (DL.gci c_LONGEST_WORD)))))))
     (pss_cons (ps_ret pe_bl)
     pss_nil)
     pss_nil)
     (pss_cons (ps_ret (pe_callB (DL.kAll (K := K) rfl) (by rfl) z_all (by decide +kernel) (pa_cons (pe_lc (own := [("char", 1)]) (by rfl) sc_is_word.nd (pi_str (pv 0)) (blkOk_by (own := [("char", 1)]) (N := ["value", "char"]) (sc := defScope s_is_word) (by decide +kernel)) (fun _ _ _ _ _ => (pg_name (i := 1) sc_is_word.nd rfl (by first | exact Or.inl rfl | exact Or.inr rfl))) (fun _ _ _ _ _ => pts_nil) (fun _ _ _ _ _ => (pe_chain op_le_str op_le_str pe_str (pv 1) pe_str))) pa_nil)))
     pss_nil)), ?_⟩)
  refine run_spD h fun N ds d hR hq => ?_
  obtain ⟨l, hl, rfl, rfl⟩ := hR
  walk_at "env"
  refine gs_if (b := !(decide ((1 : Int) ≤ (l.length : Int)) && decide ((l.length : Int) ≤ 12))) (EvT.is (et_or (et_not (et_B (ex_isi (ex_var rfl) kit_str_str))) (fun _ => et_not (et_test (ex_chain rfl rfl ex_int (ex_lenS rfl (ex_var rfl) (by omega)) ex_int)))) rfl) (fun h => ?_) (fun h => g_nextU ?_)
  · refine gs_ret (EvX.is ex_bl ?_) hq
    unfold wB
    refine congrArg PyData.bool (Eq.symm ?_)
    have h2 : (decide (1 ≤ l.length) && decide (l.length ≤ 12)) = false := by
      simp only [Bool.not_eq_true', Bool.and_eq_false_iff, decide_eq_false_iff_not] at h ⊢
      omega
    rw [h2, Bool.false_and]
  · refine gs_ret (EvX.is (ex_all (ns := l.map fun x => decide (97 ≤ x) && decide (x ≤ 122)) (EvF.it ?f1)) ?f2) hq
    case f1 =>
      refine EvF.is2 (ef_lc (xs := l) (e := fun x => .i (dT [x])) (fun _ => true) (fun x => .bool (decide (97 ≤ x) && decide (x ≤ 122))) (ew_str (ex_var rfl)) rfl (fun i x hx => by rw [List.getD_eq_getElem?_getD, hx]; rfl) (fun _ => True.intro) hl (fun fr lo up acc x hx => ⟨_, _, fun j hj => hj, tg_name, ?g1, fun _ => ?g2⟩)) ?g3
      case g1 => exact et_yes
      case g2 => exact ex_chainS rfl rfl (ex_txt (l := [97]) (by decide +kernel)) (ex_var rfl) (ex_txt (l := [122]) (by decide +kernel))
      case g3 => simp only [filt_all, List.map_map]; rfl
    case f2 =>
      refine congrArg PyData.bool ?_
      have h2 : (decide (1 ≤ l.length) && decide (l.length ≤ 12)) = true := by
        simp only [Bool.not_eq_false', Bool.and_eq_true, decide_eq_true_eq] at h ⊢
        omega
      unfold wB
      rw [h2, Bool.true_and, List.all_map]
      rfl
-- END is_word
theorem sc__is_allowed : FnScope ["char"] ["char"] (defScope s__is_allowed) := ⟨rfl, rfl, rfl, by decide +kernel, rfl, by decide +kernel, by decide +kernel⟩
def okC (x : Nat) : Bool := decide (x = 10) || (decide (32 ≤ x) && decide (x ≤ 126) && !decide (x = 37))
def okT (l : List Nat) : Prop := ∀ x ∈ l, okC x = true
def R__is_allowed : List PyData → PyData → Prop := fun ds d => ∃ x : Nat, ds = [dT [x]] ∧ d = .bool (okC x)
theorem R__is_allowed_i {x : Nat} : R__is_allowed [dT [x]] (.bool (okC x)) := ⟨x, rfl, rfl⟩
local macro_rules | `(tactic| walk_at "r2") => `(tactic| exact R__is_allowed_i)
theorem R__is_allowed_len : ∀ ds d, R__is_allowed ds d → ds.length = 1 := by
  intro ds d hh
  unfold R__is_allowed at hh
  repeat (obtain ⟨_, hh⟩ := hh)
  subst_eqs
  rfl
theorem ok__is_allowed {P : Program} {w : World} {K : PySem.W.Frag} {mg : Str → Option Value} {base : Heap} {f : Addr} {fd : FuncData} (F : FnP K "_is_allowed" s__is_allowed f fd) (g0 : mg "_is_allowed" = some (.ref f)) (z_ord : mg "ord" = none) (c_PERCENT : ∃ t, mg "PERCENT" = some (.int 37 t)) : Cal P w K mg base 1 "_is_allowed" ["char"] (spD K  R__is_allowed) := by
  refine cal_mk F sc__is_allowed g0 (spD_len R__is_allowed_len) (fun _ _ _ _ _ _ us hl => match us, hl with | [_], _ => rfl) (fun cdv A outer s H vs Q E hr h => ⟨_,
    (pss_cons (ps_ret (pe_or (pe_cmpR op_eq (pv 0) pe_str (nomark _)) (pe_one (pe_and (pe_chain op_le_str op_le_str pe_str (pv 0) pe_str) (pe_one (pe_cmpR op_ne (pe_callB call_ord (by rfl) z_ord (by decide +kernel) (pa_cons (pv 0) pa_nil)) (C8.pe_gc (v := .int 37) (by rfl) (DL.gci c_PERCENT)) (nomark _)))))))
     pss_nil), ?_⟩)
  refine run_spD h fun N ds d hR hq => ?_
  obtain ⟨x, rfl, rfl⟩ := hR
  walk_at "env"
  refine gs_ret (EvX.is (ex_or (ex_eqT (b := [10]) (ex_var rfl) (ex_txt (by decide +kernel))) (fun _ => ex_and (ex_chainS rfl rfl (ex_txt (l := [32]) (by decide +kernel)) (ex_var rfl) (ex_txt (l := [126]) (by decide +kernel))) (fun _ => ex_neI (ex_ord rfl (ex_var rfl)) ex_int))) ?_) hq
  unfold okC
  have e1 : decide ([x] = [10]) = decide (x = 10) := by simp
  have e2 : decide ((x : Int) = 37) = decide (x = 37) := decide_eq_decide.mpr (by omega)
  rw [e1, e2, Bool.and_assoc]
-- END _is_allowed
theorem sc_is_string : FnScope ["value", "char"] ["value"] (defScope s_is_string) := ⟨rfl, rfl, rfl, by decide +kernel, rfl, by decide +kernel, by decide +kernel⟩
def R_is_string : List PyData → PyData → Prop := fun ds d => ∃ l : List Nat, l.length ≤ 40000 ∧ ds = [dT l] ∧ d = .bool (l.all okC)
theorem R_is_string_i {l : List Nat} (h : l.length ≤ 40000) : R_is_string [dT l] (.bool (l.all okC)) := ⟨l, h, rfl, rfl⟩
local macro_rules | `(tactic| walk_at "r2") => `(tactic| exact R_is_string_i (by omega))
theorem R_is_string_len : ∀ ds d, R_is_string ds d → ds.length = 1 := by
  intro ds d hh
  unfold R_is_string at hh
  repeat (obtain ⟨_, hh⟩ := hh)
  subst_eqs
  rfl
theorem ok_is_string {P : Program} {w : World} {K : PySem.W.Frag} {mg : Str → Option Value} {base : Heap} {f : Addr} {fd : FuncData} (F : FnP K "is_string" s_is_string f fd) (g0 : mg "is_string" = some (.ref f)) (h__is_allowed : Cal P w K mg base 1 "_is_allowed" ["char"] (spD K  R__is_allowed)) (z_isinstance : mg "isinstance" = none) (z_str : mg "str" = none) (z_all : mg "all" = none) : Cal P w K mg base 2 "is_string" ["value"] (spD K  R_is_string) := by
  refine cal_mk F sc_is_string g0 (spD_len R_is_string_len) (fun _ _ _ _ _ _ us hl => match us, hl with | [_], _ => rfl) (fun cdv A outer s H vs Q E hr h => ⟨_,
    (pss_cons (ps_ret (pe_and (pe_callB (DL.kIsi (K := K)) (by rfl) z_isinstance (by decide +kernel) (pa_cons (pv 0) (pa_cons (pe_bltn (v := .ty "str") (u := .type "str") (by rfl) z_str (by decide +kernel) rfl) pa_nil))) (pe_one (pe_callB (DL.kAll (K := K) rfl) (by rfl) z_all (by decide +kernel) (pa_cons (pe_lc (own := [("char", 1)]) (by rfl) sc_is_string.nd (pi_str (pv 0)) (blkOk_by (own := [("char", 1)]) (N := ["value", "char"]) (sc := defScope s_is_string) (by decide +kernel)) (fun _ _ _ _ _ => (pg_name (i := 1) sc_is_string.nd rfl (by first | exact Or.inl rfl | exact Or.inr rfl))) (fun _ _ _ _ _ => pts_nil) (fun _ _ _ _ _ => (DL.pe_cal h__is_allowed hr (by decide) (by rfl) pass0 (pa_cons (pv 1) pa_nil)))) pa_nil)))))
     pss_nil), ?_⟩)
  refine run_spD h fun N ds d hR hq => ?_
  obtain ⟨l, hl, rfl, rfl⟩ := hR
  walk_at "env"
  refine gs_ret (EvX.is (ex_and (ex_isi (ex_var rfl) kit_str_str) (fun _ => ex_all (ns := l.map okC) (EvF.it ?f1))) ?f2) hq
  case f1 =>
    refine EvF.is2 (ef_lc (xs := l) (e := fun x => .i (dT [x])) (fun _ => true) (fun x => .bool (okC x)) (ew_str (ex_var rfl)) rfl (fun i x hx => by rw [List.getD_eq_getElem?_getD, hx]; rfl) (fun _ => True.intro) hl (fun fr lo up acc x hx => ⟨_, _, fun j hj => hj, tg_name, ?g1, fun _ => ?g2⟩)) ?g3
    case g1 => exact et_yes
    case g2 => exact ex_call (ea_cons (ex_var rfl) ea_nil) R__is_allowed_i
    case g3 => simp only [filt_all, List.map_map]; rfl
  case f2 => simp [List.all_map]
-- END is_string
theorem sc_check_number : FnScope ["name", "value", "high"] ["name", "value", "high"] (defScope s_check_number) := ⟨rfl, rfl, rfl, by decide +kernel, rfl, by decide +kernel, by decide +kernel⟩
def R_check_number : List PyData → PyData → Prop := fun ds d => ∃ (nm : PyData) (v hi : Int), 0 ≤ v ∧ v ≤ hi ∧ ds = [nm, .int v, .int hi] ∧ d = .none
theorem R_check_number_i {nm : PyData} {v hi : Int} (h1 : 0 ≤ v) (h2 : v ≤ hi) : R_check_number [nm, .int v, .int hi] .none := ⟨nm, v, hi, h1, h2, rfl, rfl⟩
local macro_rules | `(tactic| walk_at "r2") => `(tactic| exact R_check_number_i (by assumption) (by assumption))
theorem R_check_number_len : ∀ ds d, R_check_number ds d → ds.length = 3 := by
  intro ds d hh
  unfold R_check_number at hh
  repeat (obtain ⟨_, hh⟩ := hh)
  subst_eqs
  rfl
theorem ok_check_number {P : Program} {w : World} {K : PySem.W.Frag} {mg : Str → Option Value} {base : Heap} {f : Addr} {fd : FuncData} (F : FnP K "check_number" s_check_number f fd) (g0 : mg "check_number" = some (.ref f)) (h_is_within : Cal P w K mg base 2 "is_within" ["value", "low", "high"] (spD K  R_is_within)) : Cal P w K mg base 3 "check_number" ["name", "value", "high"] (spD K  R_check_number) := by
  refine cal_mk F sc_check_number g0 (spD_len R_check_number_len) (fun _ _ _ _ _ _ us hl => match us, hl with | [_, _, _], _ => rfl) (fun cdv A outer s H vs Q E hr h => ⟨_,
    (pss_cons (ps_if (pt_not (pt_val (DL.pe_cal h_is_within hr (by decide) (by rfl) pass0 (pa_cons (pv 1) (pa_cons pe_int (pa_cons (pv 2) pa_nil))))))
     (pss_cons DL.ps_never
     pss_nil)
     pss_nil)
     pss_nil), ?_⟩)
  refine run_spD h fun N ds d hR hq => ?_
  obtain ⟨nm, v, hi, h1, h2, rfl, rfl⟩ := hR
  walk_at "env"
  refine gs_if (b := false) (EvT.is (et_not (et_B (ex_call (ea_cons (ex_var rfl) (ea_cons ex_int (ea_cons (ex_var rfl) ea_nil))) R_is_within_i))) ?_) (fun z => nomatch z) fun _ => g_nextU (g_endR hq)
  rw [decide_eq_true h1, decide_eq_true h2]; rfl
-- END check_number
theorem sc_check_index : FnScope ["index", "high"] ["index", "high"] (defScope s_check_index) := ⟨rfl, rfl, rfl, by decide +kernel, rfl, by decide +kernel, by decide +kernel⟩
def R_check_index : List PyData → PyData → Prop := fun ds d => ∃ (v hi : Int), 0 ≤ v ∧ v ≤ hi ∧ ds = [.int v, .int hi] ∧ d = .none
theorem R_check_index_i {v hi : Int} (h1 : 0 ≤ v) (h2 : v ≤ hi) : R_check_index [.int v, .int hi] .none := ⟨v, hi, h1, h2, rfl, rfl⟩
local macro_rules | `(tactic| walk_at "r2") => `(tactic| exact R_check_index_i (by omega) (by omega))
theorem R_check_index_len : ∀ ds d, R_check_index ds d → ds.length = 2 := by
  intro ds d hh
  unfold R_check_index at hh
  repeat (obtain ⟨_, hh⟩ := hh)
  subst_eqs
  rfl
theorem ok_check_index {P : Program} {w : World} {K : PySem.W.Frag} {mg : Str → Option Value} {base : Heap} {f : Addr} {fd : FuncData} (F : FnP K "check_index" s_check_index f fd) (g0 : mg "check_index" = some (.ref f)) (h_is_within : Cal P w K mg base 2 "is_within" ["value", "low", "high"] (spD K  R_is_within)) : Cal P w K mg base 3 "check_index" ["index", "high"] (spD K  R_check_index) := by
  refine cal_mk F sc_check_index g0 (spD_len R_check_index_len) (fun _ _ _ _ _ _ us hl => match us, hl with | [_, _], _ => rfl) (fun cdv A outer s H vs Q E hr h => ⟨_,
    (pss_cons (ps_if (pt_not (pt_val (DL.pe_cal h_is_within hr (by decide) (by rfl) pass0 (pa_cons (pv 0) (pa_cons pe_int (pa_cons (pv 1) pa_nil))))))
     (pss_cons DL.ps_never
     pss_nil)
     pss_nil)
     pss_nil), ?_⟩)
  refine run_spD h fun N ds d hR hq => ?_
  obtain ⟨v, hi, h1, h2, rfl, rfl⟩ := hR
  walk_at "env"
  refine gs_if (b := false) (EvT.is (et_not (et_B (ex_call (ea_cons (ex_var rfl) (ea_cons ex_int (ea_cons (ex_var rfl) ea_nil))) R_is_within_i))) ?_) (fun z => nomatch z) fun _ => g_nextU (g_endR hq)
  rw [decide_eq_true h1, decide_eq_true h2]; rfl
-- END check_index
theorem sc_check_word : FnScope ["word"] ["word"] (defScope s_check_word) := ⟨rfl, rfl, rfl, by decide +kernel, rfl, by decide +kernel, by decide +kernel⟩
/-! Steps of a selector and their texts. -/
def isW (l : List Nat) : Prop := 1 ≤ l.length ∧ l.length ≤ 12 ∧ ∀ x ∈ l, 97 ≤ x ∧ x ≤ 122
abbrev Stp := List Nat × List Nat × List (List Nat)
def dStp (s : Stp) : PyData := .tuple [dT s.1, dT s.2.1, .tuple (s.2.2.map dT)]
/-- a step's text, its joint aside -/
def stT (s : Stp) : List Nat := s.2.1 ++ (s.2.2.map (fun m => 46 :: m)).flatten
def stOk (s : Stp) : Prop := (s.2.1 = [42] ∧ s.2.2 = []) ∨ ((isW s.2.1 ∨ (s.2.1 = [] ∧ s.2.2 ≠ [])) ∧ (∀ m ∈ s.2.2, isW m) ∧ s.2.2.Nodup)
/-! the text of all steps -/
def jnT (j : List Nat) : List Nat := if j = [62] then [32, 62, 32] else j
def wrT : List Stp → List Nat
  | [] => []
  | s :: r => jnT s.1 ++ stT s ++ wrT r
/-- steps as they follow a first one -/
def folOk (s : Stp) : Prop := (s.1 = [32] ∨ s.1 = [62]) ∧ stOk s
def stepsOk : List Stp → Prop
  | [] => False
  | s :: r => s.1 = [] ∧ stOk s ∧ ∀ x ∈ r, folOk x
/-- the parts that parse meets behind a step -/
def parts : List Stp → List (List Nat)
  | [] => []
  | s :: r => (if s.1 = [62] then [[62]] else []) ++ stT s :: parts r
def R_check_word : List PyData → PyData → Prop := fun ds d => ∃ l : List Nat, Q.isW l ∧ ds = [dT l] ∧ d = .none
theorem R_check_word_i {l : List Nat} (h : Q.isW l) : R_check_word [dT l] .none := ⟨l, h, rfl, rfl⟩
local macro_rules | `(tactic| walk_at "r2") => `(tactic| exact R_check_word_i (by assumption))
theorem R_check_word_len : ∀ ds d, R_check_word ds d → ds.length = 1 := by
  intro ds d hh
  unfold R_check_word at hh
  repeat (obtain ⟨_, hh⟩ := hh)
  subst_eqs
  rfl
theorem ok_check_word {P : Program} {w : World} {K : PySem.W.Frag} {mg : Str → Option Value} {base : Heap} {f : Addr} {fd : FuncData} (F : FnP K "check_word" s_check_word f fd) (g0 : mg "check_word" = some (.ref f)) (h_is_word : Cal P w K mg base 1 "is_word" ["value"] (spD K  R_is_word)) : Cal P w K mg base 2 "check_word" ["word"] (spD K  R_check_word) := by
  refine cal_mk F sc_check_word g0 (spD_len R_check_word_len) (fun _ _ _ _ _ _ us hl => match us, hl with | [_], _ => rfl) (fun cdv A outer s H vs Q E hr h => ⟨_,
    (pss_cons (ps_if (pt_not (pt_val (DL.pe_cal h_is_word hr (by decide) (by rfl) pass0 (pa_cons (pv 0) pa_nil))))
     (pss_cons DL.ps_never
     pss_nil)
     pss_nil)
     pss_nil), ?_⟩)
  refine run_spD h fun N ds d hR hq => ?_
  obtain ⟨l, hl, rfl, rfl⟩ := hR
  walk_at "env"
  refine gs_if (b := false) (EvT.is (et_not (et_B (ex_call (ea_cons (ex_var rfl) ea_nil) (R_is_word_i (by have := hl.2.1; omega))))) ?_) (fun z => nomatch z) fun _ => g_nextU (g_endR hq)
  have e : wB l = true := by
    unfold wB
    rw [decide_eq_true hl.1, decide_eq_true hl.2.1]
    refine List.all_eq_true.mpr fun x hx => ?_
    obtain ⟨a, b⟩ := hl.2.2 x hx
    rw [decide_eq_true a, decide_eq_true b]; rfl
  rw [e]; rfl
-- END check_word
theorem sc_check_string : FnScope ["string"] ["string"] (defScope s_check_string) := ⟨rfl, rfl, rfl, by decide +kernel, rfl, by decide +kernel, by decide +kernel⟩
def R_check_string : List PyData → PyData → Prop := fun ds d => ∃ l : List Nat, okT l ∧ l.length ≤ 500 ∧ ds = [dT l] ∧ d = .none
theorem R_check_string_i {l : List Nat} (h : okT l) (h2 : l.length ≤ 500) : R_check_string [dT l] .none := ⟨l, h, h2, rfl, rfl⟩
local macro_rules | `(tactic| walk_at "r2") => `(tactic| exact R_check_string_i (by assumption) (by omega))
theorem R_check_string_len : ∀ ds d, R_check_string ds d → ds.length = 1 := by
  intro ds d hh
  unfold R_check_string at hh
  repeat (obtain ⟨_, hh⟩ := hh)
  subst_eqs
  rfl
theorem ok_check_string {P : Program} {w : World} {K : PySem.W.Frag} {mg : Str → Option Value} {base : Heap} {f : Addr} {fd : FuncData} (F : FnP K "check_string" s_check_string f fd) (g0 : mg "check_string" = some (.ref f)) (h_is_string : Cal P w K mg base 2 "is_string" ["value"] (spD K  R_is_string)) (z_len : mg "len" = none) (c_MOST_CHARACTERS : ∃ t, mg "MOST_CHARACTERS" = some (.int 500 t)) : Cal P w K mg base 3 "check_string" ["string"] (spD K  R_check_string) := by
  refine cal_mk F sc_check_string g0 (spD_len R_check_string_len) (fun _ _ _ _ _ _ us hl => match us, hl with | [_], _ => rfl) (fun cdv A outer s H vs Q E hr h => ⟨_,
    (pss_cons (ps_if (PW.pt (pw_or (pt_not (pt_val (DL.pe_cal h_is_string hr (by decide) (by rfl) pass0 (pa_cons (pv 0) pa_nil)))) (pw_or1 (pt_cmpR op_gt (pe_callB call_len_str (by rfl) z_len (by decide +kernel) (pa_cons (pv 0) pa_nil)) (C8.pe_gc (v := .int 500) (by rfl) (DL.gci c_MOST_CHARACTERS)) (nomark _)))))
     (pss_cons DL.ps_never
     pss_nil)
     pss_nil)
     pss_nil), ?_⟩)
  refine run_spD h fun N ds d hR hq => ?_
  obtain ⟨l, h, hl, rfl, rfl⟩ := hR
  walk_at "env"
  refine gs_if (b := false) (EvT.is (et_or (et_not (et_B (ex_call (ea_cons (ex_var rfl) ea_nil) (R_is_string_i (by omega))))) (fun _ => et_test (ex_b2 (ex_lenS rfl (ex_var rfl) (by omega)) ex_int))) ?_) (fun z => nomatch z) fun _ => g_nextU (g_endR hq)
  have e : l.all okC = true := List.all_eq_true.mpr h
  rw [e]
  simp
  omega
-- END check_string
theorem sc_read_marks : FnScope ["marks", "mark", "distinct"] ["marks"] (defScope s_read_marks) := ⟨rfl, rfl, rfl, by decide +kernel, rfl, by decide +kernel, by decide +kernel⟩
def R_read_marks : List PyData → PyData → Prop := fun ds d => ∃ ms : List (List Nat), (∀ m ∈ ms, Q.isW m) ∧ ms.length ≤ 1000 ∧ (sortT ms).length ≤ 8 ∧ ds = [.tuple (ms.map dT)] ∧ d = .tuple ((sortT ms).map dT)
theorem R_read_marks_i {ms : List (List Nat)} (h : ∀ m ∈ ms, Q.isW m) (hl : ms.length ≤ 1000) (h8 : (sortT ms).length ≤ 8) : R_read_marks [.tuple (ms.map dT)] (.tuple ((sortT ms).map dT)) := ⟨ms, h, hl, h8, rfl, rfl⟩
local macro_rules | `(tactic| walk_at "r2") => `(tactic| exact R_read_marks_i)
theorem R_read_marks_len : ∀ ds d, R_read_marks ds d → ds.length = 1 := by
  intro ds d hh
  unfold R_read_marks at hh
  repeat (obtain ⟨_, hh⟩ := hh)
  subst_eqs
  rfl
theorem ok_read_marks {P : Program} {w : World} {K : PySem.W.Frag} {mg : Str → Option Value} {base : Heap} {f : Addr} {fd : FuncData} (F : FnP K "read_marks" s_read_marks f fd) (g0 : mg "read_marks" = some (.ref f)) (h_check_word : Cal P w K mg base 2 "check_word" ["word"] (spD K  R_check_word)) (z_isinstance : mg "isinstance" = none) (z_list : mg "list" = none) (z_tuple : mg "tuple" = none) (z_sorted : mg "sorted" = none) (z_set : mg "set" = none) (z_len : mg "len" = none) (c_MOST_MARKS : ∃ t, mg "MOST_MARKS" = some (.int 8 t)) : Cal P w K mg base 3 "read_marks" ["marks"] (spD K  R_read_marks) := by
  refine cal_mk F sc_read_marks g0 (spD_len R_read_marks_len) (fun _ _ _ _ _ _ us hl => match us, hl with | [_], _ => rfl) (fun cdv A outer s H vs Q E hr h => ⟨_,
    (pss_cons (ps_if (pt_not (pt_val (pe_callB (DL.kIsiT (K := K)) (by rfl) z_isinstance (by decide +kernel) (pa_cons (pv 0) (pa_cons (pe_tup (pa_cons (pe_bltn (v := .ty "list") (u := .type "list") (by rfl) z_list (by decide +kernel) rfl) (pa_cons (pe_bltn (v := .ty "tuple") (u := .type "tuple") (by rfl) z_tuple (by decide +kernel) rfl) pa_nil))) pa_nil)))))
     (pss_cons DL.ps_never
     pss_nil)
     pss_nil)
     (pss_cons (ps_for PassesOwn.never rfl (DL.kPiT (K := K) (pv 0)) (pg_name (i := 1) sc_read_marks.nd rfl (by first | exact Or.inl rfl | exact Or.inr rfl))
     (pss_cons (ps_expr (DL.pe_cal h_check_word hr (by decide) (by rfl) pass0 (pa_cons (pv 1) pa_nil)))
     pss_nil))
     (pss_cons (ps_set (i := 2) sc_read_marks.nd rfl (by first | exact Or.inl rfl | exact Or.inr rfl) (DL.kSortSt (K := K) (DL.pe_sortSt (by rfl) z_sorted (by rfl) z_set (pv 0) hr.units)))
     (pss_cons (ps_if (pt_cmpR op_gt (pe_callB (DL.kLen (K := K)) (by rfl) z_len (by decide +kernel) (pa_cons (pv 2) pa_nil)) (C8.pe_gc (v := .int 8) (by rfl) (DL.gci c_MOST_MARKS)) (nomark _))
     (pss_cons DL.ps_never
     pss_nil)
     pss_nil)
     (pss_cons (ps_ret (pe_callTy (DL.kTupleOf (K := K)) (by rfl) z_tuple (by decide +kernel) (pa_cons (pv 2) pa_nil)))
     pss_nil))))), ?_⟩)
  refine run_spD h fun N ds d hR hq => ?_
  obtain ⟨ms, hm, hl, h8, rfl, rfl⟩ := hR
  walk_at "env"
  refine gs_if (b := false) (EvT.is (et_not (et_B (ex_isiT (b1 := false) (b2 := true) (ex_var rfl) kit_tuple_list kit_tuple_tuple))) rfl) (fun z => nomatch z) fun _ => g_nextU ?_
  refine' gs_forTu (xs := ms) (f := dT) (fun pre => [some (.i (.tuple (ms.map dT))), none, none]) (fun _ => []) (ex_var rfl) (fun c' _ ad σ H ok => ok) (fun fr up pre x post hx => ⟨_, _, tg_name, ?b1⟩) ?b2
  case b1 =>
    walk_at "nf"
    refine gs_drop (w := true) (d := .none) (ex_call (ea_cons (ex_var rfl) ea_nil) (R_check_word_i (hm x (hx ▸ List.mem_append_right _ (List.mem_cons_self ..))))) ?_
    walk_at "wk"
  case b2 =>
  refine gs_asgF (o := .lst (((sortT ms).map dT).map SV.i)) (ef_sortStT (ex_var rfl) (by omega)) ?_
  walk_at "nf"
  refine gs_if (b := false) (EvT.is (et_test (ex_b2 (ex_lenK (EvR.it (er_var rfl (by simp)) rfl)) ex_int)) ?_) (fun z => nomatch z) fun _ => g_nextU ?_
  · simp; omega
  refine gs_ret (ex_tupleOf rfl (EvR.it (er_var rfl (by simp)) rfl)) hq
-- END read_marks
theorem sc_History___init__ : FnScope ["self", "cells"] ["self", "cells"] (defScope s_History___init__) := ⟨rfl, rfl, rfl, by decide +kernel, rfl, by decide +kernel, by decide +kernel⟩
def R_History___init__ : List (Key × PyData) → List SV → Hs → Prop := fun m ds y => ds = [.r 0, .r 1] ∧ y = ⟨m, []⟩
theorem R_History___init___len : ∀ x ds y, R_History___init__ x ds y → ds.length = 2 := by
  intro x ds y hh
  unfold R_History___init__ at hh
  repeat (obtain ⟨_, hh⟩ := hh)
  subst_eqs
  rfl
theorem ok_History___init__ {P : Program} {w : World} {K : PySem.W.Frag} {mg : Str → Option Value} {base : Heap} {f : Addr} {fd : FuncData} (F : DL.FnM K "__init__" "History.__init__" s_History___init__ [] f fd) {C_History : Addr} (kC_History : Cls K C_History) (n_History_cells : NoAttr K C_History "cells") (n_History__done : NoAttr K C_History "_done") (n_History__undone : NoAttr K C_History "_undone") (M : Mk K C_History f) (g0 : mg "History" = some (.ref C_History)) : DL.MakN P w K mg base 1 "History" C_History ["self", "cells"] (DL.spK K 2 3 (preH C_History) (shapeH C_History) R_History___init__) := by
  refine DL.makN_mk F sc_History___init__ M g0 (DL.spK_len R_History___init___len) (fun _ _ _ _ _ _ us hl => match us, hl with | [_, _], _ => rfl) (fun cdv A outer s H vs Q E hr h => ⟨_,
    (pss_cons (DL.kSetFld (K := K) (pv 0) (pv 1))
     (pss_cons (DL.kSetFld (K := K) (pv 0) (pe_lst pa_nil))
     (pss_cons (DL.kSetFld (K := K) (pv 0) (pe_lst pa_nil))
     pss_nil))), ?_⟩)
  refine DL.run_spK h (Nat.le_trans (Nat.le_of_eq (DL.spK_len R_History___init___len _ _ _ _ h)) (by decide)) (by decide) fun N ad x ds hsh hR hq => ?_
  obtain ⟨y, rfl, rfl⟩ := hR
  simp only [envG, List.map, List.length, List.replicate, List.cons_append, List.nil_append, Nat.reduceAdd, Nat.reduceSub, Nat.sub_self]
  unfold preH
  refine gs_setFld (k := 0) (s := .r 1) (show EvR _ _ _ _ _ from er_var rfl (by simp)) (er_var rfl (by simp)) rfl kC_History n_History_cells (by simp) ?_
  refine gs_is (os' := [.ob C_History [("cells", .r 1)], dkO x]) rfl rfl ?_
  refine gs_setFldF (k := 0) (o := .lst []) (ef_lst eas_nil (Nat.zero_le _)) (er_var rfl (by simp)) rfl kC_History n_History__done (by simp) ?_
  refine gs_is (os' := [.ob C_History [("cells", .r 1), ("_done", .r 2)], dkO x, .lst []]) rfl rfl ?_
  refine gs_setFld (k := 0) (s := .i (.list [])) (show EvX false _ _ _ _ _ from EvF.ev (ds := []) (ef_lst eas_nil (Nat.zero_le _))) (er_var rfl (by simp)) rfl kC_History n_History__undone (by simp) ?_
  refine gs_is (os' := shapeH C_History ⟨x, []⟩) rfl rfl ?_
  exact g_endK (y := ⟨x, []⟩) hq (fun i o e => e) (shapeH_ok _ _) ⟨rfl, rfl⟩
-- END History___init__
theorem sc_History__put : FnScope ["self", "changes", "key"] ["self", "changes"] (defScope s_History__put) := ⟨rfl, rfl, rfl, by decide +kernel, rfl, by decide +kernel, by decide +kernel⟩
def R_History__put : Hs → List SV → Hs → PyData → Prop := fun h ds h' d => ∃ c : List (Key × PyData), (c.map (·.1)).Nodup ∧ (∀ p ∈ c, p.2 ≠ .none) ∧ h.cells.length + c.length ≤ 10000 ∧ ds = [.r 0, .z c] ∧ h' = ⟨putM h.cells c, h.done⟩ ∧ d = .none
theorem R_History__put_len : ∀ x ds x' d, R_History__put x ds x' d → ds.length = 2 := by
  intro x ds x' d hh
  unfold R_History__put at hh
  repeat (obtain ⟨_, hh⟩ := hh)
  subst_eqs
  rfl
theorem ok_History__put {P : Program} {w : World} {K : PySem.W.Frag} {mg : Str → Option Value} {base : Heap} {f : Addr} {fd : FuncData} (F : DL.FnM K "_put" "History._put" s_History__put [] f fd) {C_History : Addr} (kC_History : Cls K C_History) (n_History_cells : NoAttr K C_History "cells") (n_History__done : NoAttr K C_History "_done") (n_History__undone : NoAttr K C_History "_undone") (me : Meth K C_History "_put" f) : DL.MetP P w K mg base 1 C_History "_put" ["self", "changes"] (DL.spS K 3 (shapeH C_History) R_History__put) := by
  refine DL.met_mk F sc_History__put kC_History me (DL.spS_len R_History__put_len) (fun _ _ _ _ _ _ us hl => match us, hl with | [_, _], _ => rfl) (fun cdv A outer s H vs Q E hr h => ⟨_,
    (pss_cons (ps_for PassesOwn.never rfl (pi_keys (pv 1)) (pg_name (i := 2) sc_History__put.nd rfl (by first | exact Or.inl rfl | exact Or.inr rfl))
     (pss_cons (ps_if (pt_cmpR op_notN (pe_dget (DL.u1 hr.units) (pv 1) (pv 2) (fun _ _ => rfl)) pe_non (nomark _))
     (pss_cons (ps_dput (DL.u1 hr.units) (DL.kFld (K := K) (pv 0)) (pv 2) (pe_dget (DL.u1 hr.units) (pv 1) (pv 2) (fun _ _ => rfl)) rfl)
     pss_nil)
     (pss_cons DL.ps_never
     pss_nil))
     pss_nil))
     pss_nil), ?_⟩)
  refine DL.run_spS h (Nat.le_trans (Nat.le_of_eq (DL.spS_len R_History__put_len _ _ _ _ h)) (by decide)) fun N ad x ds hsh hR hq => ?_
  obtain ⟨x', d, c, hn, hv, hz, rfl, rfl, rfl⟩ := hR
  simp only [envG, List.map, List.length, List.replicate, List.cons_append, List.nil_append, Nat.reduceAdd, Nat.reduceSub, Nat.sub_self]
  unfold shapeH
  refine' gs_forL (xs := c) (e := fun p : Key × PyData => .i (kdat p.1)) (fun _ => [some (.r 0), some (.z c), none]) (fun pre => [.ob C_History [("cells", .r 1), ("_done", .r 2), ("_undone", .i (.list []))], dkO (putM x.cells pre), .lst (x.done.map SV.i)]) (ew_keysZ (ez_var rfl)) rfl (fun i p hp => itD_map i p hp) (fun c' _ ad σ H ok => ok) (fun _ _ _ => True.intro) (fun fr up pre p post hx => ⟨_, _, tg_name, ?a1⟩) ?a2
  case a2 =>
    exact g_endS (x' := ⟨putM x.cells c, x.done⟩) hq (fun i o e => (show (shapeH C_History ⟨putM x.cells c, x.done⟩)[i]? = some o from e)) (shapeH_ok _ _) ⟨c, hn, hv, hz, rfl, rfl, rfl⟩
  case a1 =>
    walk_at "nf"
    have hg : getA c p.1 = some p.2 := by rw [hx] at hn ⊢; exact getA_mid hn
    have hp : p.2 ≠ .none := hv p (hx ▸ List.mem_append_right _ (List.mem_cons_self ..))
    have hlen : (putM x.cells pre).length < 100000 := by
      have h1 := putM_len pre x.cells
      have h2 : pre.length ≤ c.length := by rw [hx]; simp
      omega
    refine gs_if (b := true) (EvT.is (et_test (ex_notN rfl (ex_dgetZ (ez_var rfl) (ex_var rfl) hg))) ?b0) (fun _ => ?b1) (fun z => nomatch z)
    case b0 =>
      obtain ⟨p1, p2⟩ := p
      cases p2 <;> first | rfl | exact absurd rfl hp
    case b1 =>
      refine gs_dput (k := 1) (kk := p.1) (s := .i p.2) (show EvX false _ _ _ _ _ from ex_dgetZ (ez_var rfl) (ex_var rfl) hg) (er_fldO (k := 0) (er_var rfl (by simp)) rfl kC_History n_History_cells rfl (by simp)) rfl (ex_var rfl) (by rw [List.length_map]; exact hlen) ?_
      refine g_nextU ?_
      refine g_next fun ad σ H ok => ⟨ad, ?_⟩
      have e : SO.dK (setA ((putM x.cells pre).map fun p => (p.1, SV.i p.2)) p.1 (SV.i p.2)) = dkO (putM x.cells (pre ++ [p])) := by rw [setA_dkO, putM_snoc]
      have ok := ok
      simp only [List.set_cons_succ, List.set_cons_zero] at ok
      rw [e] at ok
      exact ok.weak (by simp [WkE]) (WkO.refl _) (by simp [EnLt, SvLt]) ⟨by simp [SoLt, SvLt], dkO_lt _ _, soLt_data, True.intro⟩ (by simp)
-- END History__put
theorem sc_History_write : FnScope ["self", "after", "note", "before", "key"] ["self", "after", "note"] (defScope s_History_write) := ⟨rfl, rfl, rfl, by decide +kernel, rfl, by decide +kernel, by decide +kernel⟩
def R_History_write : Hs → List SV → Hs → PyData → Prop := fun h ds h' d => ∃ (c : List (Key × PyData)) (nt : PyData), ds = [.r 0, .z c, .i nt] ∧ WrOk h c ∧ h' = wroteH h c nt ∧ d = .none
theorem R_History_write_len : ∀ x ds x' d, R_History_write x ds x' d → ds.length = 3 := by
  intro x ds x' d hh
  unfold R_History_write at hh
  repeat (obtain ⟨_, hh⟩ := hh)
  subst_eqs
  rfl
theorem ok_History_write {P : Program} {w : World} {K : PySem.W.Frag} {mg : Str → Option Value} {base : Heap} {f : Addr} {fd : FuncData} (F : DL.FnM K "write" "History.write" s_History_write [] f fd) {C_History : Addr} (kC_History : Cls K C_History) (n_History_cells : NoAttr K C_History "cells") (n_History__done : NoAttr K C_History "_done") (n_History__undone : NoAttr K C_History "_undone") (h_History__put : DL.MetP P w K mg base 1 C_History "_put" ["self", "changes"] (DL.spS K 3 (shapeH C_History) R_History__put)) (me : Meth K C_History "write" f) : DL.MetP P w K mg base 2 C_History "write" ["self", "after", "note"] (DL.spS K 3 (shapeH C_History) R_History_write) := by
  refine DL.met_mk F sc_History_write kC_History me (DL.spS_len R_History_write_len) (fun _ _ _ _ _ _ us hl => match us, hl with | [_, _, _], _ => rfl) (fun cdv A outer s H vs Q E hr h => ⟨_,
    (pss_cons (ps_setDc (i := 3) (own := [("key", 4)]) (by rfl) sc_History_write.nd rfl rfl (sw_trueD rfl rfl rfl (by decide +kernel)) (pi_keys (pv 1)) (blkOk_by (own := [("key", 4)]) (N := ["self", "after", "note", "before", "key"]) (sc := defScope s_History_write) (by decide +kernel)) (fun _ _ _ _ _ => (pg_name (i := 4) sc_History_write.nd rfl (by first | exact Or.inl rfl | exact Or.inr rfl))) (fun _ _ _ _ _ => pts_nil) (fun _ _ _ _ _ => (pv 4)) (fun _ _ _ _ _ => (pe_dget1 (DL.u1 hr.units) (DL.kFld (K := K) (pv 0)) (pv 4) ⟨rfl, rfl, rfl, rfl⟩)))
     (pss_cons (ps_expr (DL.kBm (K := K) (pe_bm PySem.F.plainAttrs_list PySem.F.slot_list_append PySem.F.type_list_append mt_append (DL.kFld (K := K) (pv 0)) (pa_cons (pe_tup (pa_cons (pv 3) (pa_cons (pv 1) (pa_cons (pv 2) pa_nil)))) pa_nil))))
     (pss_cons (DL.kSetFld (K := K) (pv 0) (pe_lst pa_nil))
     (pss_cons (ps_expr (DL.pe_metP h_History__put hr (by decide) pass0 (pv 0) (pa_cons (pv 1) pa_nil)))
     pss_nil)))), ?_⟩)
  refine DL.run_spS h (Nat.le_trans (Nat.le_of_eq (DL.spS_len R_History_write_len _ _ _ _ h)) (by decide)) fun N ad x ds hsh hR hq => ?_
  obtain ⟨x', d, c, nt, rfl, hwr, rfl, rfl⟩ := hR
  have hn := hwr.nd
  have hv := hwr.nn
  have hz := hwr.cl
  have hz2 := hwr.hl
  have hz3 := hwr.dl
  simp only [envG, List.map, List.length, List.replicate, List.cons_append, List.nil_append, Nat.reduceAdd, Nat.reduceSub, Nat.sub_self]
  unfold shapeH
  refine' gs_asgF (o := dkO (befM x.cells c)) (ef_dc (ek := fun k : Key => k) (ev := fun d : PyData => d) (fun _ _ e => e) (xs := c) (e := fun p : Key × PyData => .i (kdat p.1)) (fun p : Key × PyData => p.1) (fun p : Key × PyData => (getA x.cells p.1).getD .none) (ew_keysZ (ez_var rfl)) rfl (fun i p hp => itD_map i p hp) (fun _ => True.intro) (by omega) (fun fr lo up acc p hp => ⟨_, _, fun j hj => hj, tg_name, et_yes, ex_var rfl, ex_dget1O (k := 1) (er_fldO (k := 0) (er_var rfl (by simp)) rfl kC_History n_History_cells rfl (by simp)) rfl (ex_var rfl)⟩)) ?_
  walk_at "nf"
  refine gs_ownK (i := 3) (k := 3) (m := befM x.cells c) rfl rfl ?_
  walk_at "nf"
  refine gs_app (k := 2) (er_fldO (k := 0) (er_var rfl (by simp)) rfl kC_History n_History__done rfl (by simp)) rfl (s := .i (.tuple [dK0 (befM x.cells c), dK0 c, nt])) (show EvX false _ _ _ _ _ from ex_tup (ea_cons (ex_var rfl) (ea_cons (EvZ.ev (ez_var rfl)) (ea_cons (ex_var rfl) ea_nil))) (Nat.le_of_ble_eq_true rfl)) (by rw [List.length_map]; omega) ?_
  refine gs_setFld (k := 0) (s := .i (.list [])) (show EvX false _ _ _ _ _ from EvF.ev (ds := []) (ef_lst eas_nil (Nat.zero_le _))) (er_var rfl (by simp)) rfl kC_History n_History__undone (Nat.le_of_ble_eq_true rfl) ?_
  refine gs_weak (env' := [some (.r 0), some (.z c), some (.i nt), none, none]) (os' := shapeH C_History ⟨x.cells, x.done ++ [.tuple [dK0 (befM x.cells c), dK0 c, nt]]⟩) (by simp [WkE]) ?a1 (by simp [EnLt, SvLt, shapeH]) (shapeH_ok _ _).lt (Nat.le_refl _) ?_
  case a1 =>
    refine ⟨Or.inr rfl, Or.inr rfl, Or.inr ?_, True.intro⟩
    show SO.lst _ = SO.lst _
    rw [List.map_append]
    rfl
  refine gs_doN (en_meth (k := 0) (ds := [.z c]) (x := ⟨x.cells, x.done ++ [.tuple [dK0 (befM x.cells c), dK0 c, nt]]⟩) (segAt_self (shapeH_ok C_History)) (er_var rfl (by simp [shapeH])) rfl rfl (by decide) (fun s hs => by rw [List.mem_singleton.mp hs]; exact True.intro) (eas_cons (show EvZ _ _ _ _ _ from ez_var rfl) eas_nil) ⟨_, _, c, hn, hv, by show x.cells.length + c.length ≤ 10000; omega, rfl, rfl, rfl⟩) ?_
  rintro _ _ ⟨_, ⟨c2, _, _, _, e1, rfl, rfl⟩, rfl⟩
  cases e1
  exact g_endS (x' := wroteH x c nt) hq (fun i o e => e) (shapeH_ok _ _) ⟨c, nt, rfl, hwr, rfl, rfl⟩
-- END History_write
theorem sc_new_row : FnScope ["parent", "kind", "content", "marks"] ["parent", "kind", "content", "marks"] (defScope s_new_row) := ⟨rfl, rfl, rfl, by decide +kernel, rfl, by decide +kernel, by decide +kernel⟩
def rowO (p k c m : PyData) : PyData := .tuple [p, k, c, m, .tuple [], .tuple [.int 0, .int 0], .tuple []]
def R_new_row : List PyData → PyData → Prop := fun ds d => ∃ p k c m, ds = [p, k, c, m] ∧ d = rowO p k c m
theorem R_new_row_i {p k c m : PyData} : R_new_row [p, k, c, m] (rowO p k c m) := ⟨p, k, c, m, rfl, rfl⟩
local macro_rules | `(tactic| walk_at "r2") => `(tactic| exact R_new_row_i)
theorem R_new_row_len : ∀ ds d, R_new_row ds d → ds.length = 4 := by
  intro ds d hh
  unfold R_new_row at hh
  repeat (obtain ⟨_, hh⟩ := hh)
  subst_eqs
  rfl
theorem ok_new_row {P : Program} {w : World} {K : PySem.W.Frag} {mg : Str → Option Value} {base : Heap} {f : Addr} {fd : FuncData} (F : FnP K "new_row" s_new_row f fd) (g0 : mg "new_row" = some (.ref f)) : Cal P w K mg base 1 "new_row" ["parent", "kind", "content", "marks"] (spD K  R_new_row) := by
  refine cal_mk F sc_new_row g0 (spD_len R_new_row_len) (fun _ _ _ _ _ _ us hl => match us, hl with | [_, _, _, _], _ => rfl) (fun cdv A outer s H vs Q E hr h => ⟨_,
    (pss_cons (ps_ret (pe_tup (pa_cons (pv 0) (pa_cons (pv 1) (pa_cons (pv 2) (pa_cons (pv 3) (pa_cons (pe_tup pa_nil) (pa_cons (pe_tup (pa_cons pe_int (pa_cons pe_int pa_nil))) (pa_cons (pe_tup pa_nil) pa_nil)))))))))
     pss_nil), ?_⟩)
  refine run_spD h fun N ds d hR hq => ?_
  obtain ⟨p, k, c, m, rfl, rfl⟩ := hR
  walk_at "env"
  refine gs_ret (ex_tup (ea_cons (ex_var rfl) (ea_cons (ex_var rfl) (ea_cons (ex_var rfl) (ea_cons (ex_var rfl) (ea_cons (ex_tup ea_nil (Nat.zero_le _)) (ea_cons (ex_tup (ea_cons ex_int (ea_cons ex_int ea_nil)) (Nat.le_of_ble_eq_true rfl)) (ea_cons (ex_tup ea_nil (Nat.zero_le _)) ea_nil))))))) (Nat.le_of_ble_eq_true rfl)) hq
-- END new_row
theorem sc_replaced : FnScope ["row", "at", "value"] ["row", "at", "value"] (defScope s_replaced) := ⟨rfl, rfl, rfl, by decide +kernel, rfl, by decide +kernel, by decide +kernel⟩
def repl (r : List PyData) (at_ : Nat) (v : PyData) : List PyData := r.take at_ ++ [v] ++ r.drop (at_ + 1)
def R_replaced : List PyData → PyData → Prop := fun ds d => ∃ (r : List PyData) (i : Nat) (v : PyData), r.length ≤ 1000 ∧ ds = [.tuple r, .int (i : Int), v] ∧ d = .tuple (repl r i v)
theorem R_replaced_i {r : List PyData} {i : Nat} {v : PyData} (h2 : r.length ≤ 1000) : R_replaced [.tuple r, .int (i : Int), v] (.tuple (repl r i v)) := ⟨r, i, v, h2, rfl, rfl⟩
local macro_rules | `(tactic| walk_at "r2") => `(tactic| exact R_replaced_i (by assumption))
theorem R_replaced_len : ∀ ds d, R_replaced ds d → ds.length = 3 := by
  intro ds d hh
  unfold R_replaced at hh
  repeat (obtain ⟨_, hh⟩ := hh)
  subst_eqs
  rfl
theorem ok_replaced {P : Program} {w : World} {K : PySem.W.Frag} {mg : Str → Option Value} {base : Heap} {f : Addr} {fd : FuncData} (F : FnP K "replaced" s_replaced f fd) (g0 : mg "replaced" = some (.ref f)) : Cal P w K mg base 1 "replaced" ["row", "at", "value"] (spD K  R_replaced) := by
  refine cal_mk F sc_replaced g0 (spD_len R_replaced_len) (fun _ _ _ _ _ _ us hl => match us, hl with | [_, _, _], _ => rfl) (fun cdv A outer s H vs Q E hr h => ⟨_,
    (pss_cons (ps_ret (pe_op (DL.kCatA (K := K)) (pe_op (DL.kCatA (K := K)) (pe_slice (DL.kSlA (K := K)) (pv 0) po_none (po_some (pv 1))) (pe_tup (pa_cons (pv 2) pa_nil))) (pe_slice (DL.kSlA (K := K)) (pv 0) (po_some (pe_op op_add (pv 1) pe_int)) po_none)))
     pss_nil), ?_⟩)
  refine run_spD h fun N ds d hR hq => ?_
  obtain ⟨r, i, v, h2, rfl, rfl⟩ := hR
  walk_at "env"
  refine gs_ret (EvX.n0 (w := false) (EvX.is (ex_catA (ds := r.take i ++ [v]) (ex_catA (ds := r.take i) (EvX.is (ex_slA (ds := r) (lo := none) (hi := some (i : Int)) (ex_var rfl) eo_none (eo_some (ex_var rfl))) (by rw [cutG_to])) (ex_tup (ea_cons (ex_var rfl) ea_nil) (Nat.le_of_ble_eq_true rfl)) ?a2) (EvX.is (ex_slA (ds := r) (lo := some ((i + 1 : Nat) : Int)) (hi := none) (ex_var rfl) (eo_some (EvX.is (ex_i2 (ex_var rfl) ex_int) (by push_cast; rfl))) eo_none) (by rw [cutG_from])) ?a3) rfl)) hq
  case a2 => simp only [List.length_take, List.length_cons, List.length_nil]; omega
  case a3 => simp only [List.length_append, List.length_take, List.length_drop, List.length_cons, List.length_nil]; omega
-- END replaced
theorem sc_with_child : FnScope ["row", "index", "child", "children"] ["row", "index", "child"] (defScope s_with_child) := ⟨rfl, rfl, rfl, by decide +kernel, rfl, by decide +kernel, by decide +kernel⟩
def R_with_child : List PyData → PyData → Prop := fun ds d => ∃ (r : Rw) (i : Nat) (c : Int), r.kids.length ≤ 5000 ∧ ds = [r.d, .int (i : Int), .int c] ∧ d = ({ r with kids := insL r.kids i c } : Rw).d
theorem R_with_child_i {r : Rw} {i : Nat} {c : Int} (h : r.kids.length ≤ 5000) : R_with_child [r.d, .int (i : Int), .int c] ({ r with kids := insL r.kids i c } : Rw).d := ⟨r, i, c, h, rfl, rfl⟩
local macro_rules | `(tactic| walk_at "r2") => `(tactic| exact R_with_child_i (by assumption))
theorem R_with_child_len : ∀ ds d, R_with_child ds d → ds.length = 3 := by
  intro ds d hh
  unfold R_with_child at hh
  repeat (obtain ⟨_, hh⟩ := hh)
  subst_eqs
  rfl
theorem ok_with_child {P : Program} {w : World} {K : PySem.W.Frag} {mg : Str → Option Value} {base : Heap} {f : Addr} {fd : FuncData} (F : FnP K "with_child" s_with_child f fd) (g0 : mg "with_child" = some (.ref f)) (h_replaced : Cal P w K mg base 1 "replaced" ["row", "at", "value"] (spD K  R_replaced)) (c_CHILDREN : ∃ t, mg "CHILDREN" = some (.int 6 t)) : Cal P w K mg base 2 "with_child" ["row", "index", "child"] (spD K  R_with_child) := by
  refine cal_mk F sc_with_child g0 (spD_len R_with_child_len) (fun _ _ _ _ _ _ us hl => match us, hl with | [_, _, _], _ => rfl) (fun cdv A outer s H vs Q E hr h => ⟨_,
    (pss_cons (ps_set (i := 3) sc_with_child.nd rfl (by first | exact Or.inl rfl | exact Or.inr rfl) (pe_ix (DL.kIxT (K := K)) (pv 0) (C8.pe_gc (v := .int 6) (by rfl) (DL.gci c_CHILDREN)) (fun _ _ => rfl)))
     (pss_cons (ps_ret (DL.pe_cal h_replaced hr (by decide) (by rfl) pass0 (pa_cons (pv 0) (pa_cons (C8.pe_gc (v := .int 6) (by rfl) (DL.gci c_CHILDREN)) (pa_cons (pe_op (DL.kCatA (K := K)) (pe_op (DL.kCatA (K := K)) (pe_slice (DL.kSlA (K := K)) (pv 3) po_none (po_some (pv 1))) (pe_tup (pa_cons (pv 2) pa_nil))) (pe_slice (DL.kSlA (K := K)) (pv 3) (po_some (pv 1)) po_none)) pa_nil)))))
     pss_nil)), ?_⟩)
  refine run_spD h fun N ds d hR hq => ?_
  obtain ⟨r, i, ch, hk, rfl, rfl⟩ := hR
  walk_at "env"
  refine gs_asg (d := .tuple (r.kids.map PyData.int)) (ex_ixT (ds := r.l) (ex_var rfl) ex_int (atI_nat (j := 6) rfl)) ?_
  walk_at "nf"
  refine gs_ret (EvX.is (ex_call (ea_cons (ex_var rfl) (ea_cons ex_int (ea_cons (EvX.is (ex_catA (ds := (r.kids.map PyData.int).take i ++ [.int ch]) (ex_catA (ds := (r.kids.map PyData.int).take i) (EvX.is (ex_slA (ds := r.kids.map PyData.int) (lo := none) (hi := some (i : Int)) (ex_var rfl) eo_none (eo_some (ex_var rfl))) (by rw [cutG_to])) (ex_tup (ea_cons (ex_var rfl) ea_nil) (Nat.le_of_ble_eq_true rfl)) ?a2) (EvX.is (ex_slA (ds := r.kids.map PyData.int) (lo := some (i : Int)) (hi := none) (ex_var rfl) (eo_some (ex_var rfl)) eo_none) (by rw [cutG_from])) ?a3) ?a4) ea_nil))) (R_replaced_i (r := r.l) (i := 6) (v := .tuple ((insL r.kids i ch).map PyData.int)) (Nat.le_of_ble_eq_true rfl))) rfl) hq
  case a2 => simp only [List.length_take, List.length_map, List.length_cons, List.length_nil]; omega
  case a3 => simp only [List.length_append, List.length_take, List.length_drop, List.length_map, List.length_cons, List.length_nil]; omega
  case a4 => simp [insL, List.map_append, List.map_take, List.map_drop]
-- END with_child
theorem sc_branch : FnScope ["rows", "node", "found", "waiting", "last"] ["rows", "node"] (defScope s_branch) := ⟨rfl, rfl, rfl, by decide +kernel, rfl, by decide +kernel, by decide +kernel⟩
def R_branch : List PyData → List PyData → Prop := fun ds rs => ∃ (m : List (Key × PyData)) (last : Int) (dep : Int → Nat) (n : Int) (r : Rw), Rows m ∧ WF (tr m) last dep ∧ (sub (tr m) 1).length ≤ 300 ∧ tr m n = some r ∧ ds = [dK0 m, .int n] ∧ rs = (sub (tr m) n).map PyData.int
theorem R_branch_i {m : List (Key × PyData)} {last : Int} {dep : Int → Nat} {n : Int} {r : Rw} (h1 : Rows m) (h2 : WF (tr m) last dep) (h3 : (sub (tr m) 1).length ≤ 300) (h4 : tr m n = some r) : R_branch [dK0 m, .int n] ((sub (tr m) n).map PyData.int) := ⟨m, last, dep, n, r, h1, h2, h3, h4, rfl, rfl⟩
local macro_rules | `(tactic| walk_at "r2") => `(tactic| exact R_branch_i (by assumption) (by assumption) (by assumption) (by assumption))
theorem R_branch_len : ∀ ds d, R_branch ds d → ds.length = 2 := by
  intro ds d hh
  unfold R_branch at hh
  repeat (obtain ⟨_, hh⟩ := hh)
  subst_eqs
  rfl
theorem ok_branch {P : Program} {w : World} {K : PySem.W.Frag} {mg : Str → Option Value} {base : Heap} {f : Addr} {fd : FuncData} (F : FnP K "branch" s_branch f fd) (g0 : mg "branch" = some (.ref f)) (c_CHILDREN : ∃ t, mg "CHILDREN" = some (.int 6 t)) : Cal P w K mg base 1 "branch" ["rows", "node"] (spF K  R_branch) := by
  refine cal_mk F sc_branch g0 (spF_len R_branch_len) (fun _ _ _ _ _ _ us hl => match us, hl with | [_, _], _ => rfl) (fun cdv A outer s H vs Q E hr h => ⟨_,
    (pss_cons (ps_set (i := 2) sc_branch.nd rfl (by first | exact Or.inl rfl | exact Or.inr rfl) (pe_lst pa_nil))
     (pss_cons (ps_set (i := 3) sc_branch.nd rfl (by first | exact Or.inl rfl | exact Or.inr rfl) (pe_lst (pa_cons (pv 1) pa_nil)))
     (pss_cons (ps_while PassesOwn.never (DL.kTru (K := K) (pv 3) (by intro _; rfl))
     (pss_cons (ps_set (i := 4) sc_branch.nd rfl (by first | exact Or.inl rfl | exact Or.inr rfl) (DL.kBm0 (K := K) (pe_bm0 PySem.F.plainAttrs_list PySem.F.slot_list_pop PySem.F.type_list_pop mt_pop (pv 3))))
     (pss_cons (ps_expr (DL.kBm (K := K) (pe_bm PySem.F.plainAttrs_list PySem.F.slot_list_append PySem.F.type_list_append mt_append (pv 2) (pa_cons (pv 4) pa_nil))))
     (pss_cons (ps_expr (DL.kExtT (K := K) (pe_bm PySem.F.plainAttrs_list PySem.F.slot_list_extend PySem.F.type_list_extend mt_extT (pv 3) (pa_cons (DL.kRevT (K := K) (pe_ix (DL.kIxT (K := K)) (pe_dget (DL.u1 hr.units) (pv 0) (pv 4) (fun _ _ => rfl)) (C8.pe_gc (v := .int 6) (by rfl) (DL.gci c_CHILDREN)) (fun _ _ => rfl))) pa_nil))))
     pss_nil))))
     (pss_cons (ps_ret (pv 2))
     pss_nil)))), ?_⟩)
  refine run_spF h fun N ds d hR hq => ?_
  obtain ⟨m, last, dep, n, r, hrow, W, hN, ht, rfl, rfl⟩ := hR
  walk_at "env"
  refine gs_asgF (o := .lst []) (ef_lst eas_nil (Nat.zero_le _)) ?_
  walk_at "nf"
  refine gs_asgF (o := .lst [.i (.int n)]) (ef_lst (eas_cons (show EvX false _ _ _ _ _ from ex_var rfl) eas_nil) (Nat.le_of_ble_eq_true rfl)) ?_
  walk_at "nf"
  generalize hT : tr m = t at *
  have hsub := sub_le W ht
  refine' gs_while (S := List Int × List Int) (fun _ => [some (.i (dK0 m)), some (.i (.int n)), some (.r 0), some (.r 1), none]) (fun s => [.lst ((s.1.map PyData.int).map SV.i), .lst ((s.2.reverse.map PyData.int).map SV.i)]) (fun s => s.1 ++ (s.2.map (sub t)).flatten = sub t n ∧ ∀ x ∈ s.2, ∃ rx, t x = some rx) (fun s => !s.2.isEmpty) (fun s => ((s.2.map (sub t)).flatten).length) ([], [n]) (fun c' _ ad σ H ok => ok) ⟨by simp, fun x hx => ⟨r, by rw [List.mem_singleton.mp hx]; exact ht⟩⟩ (fun fr up s hs => ?t1) (fun fr up s hs hb => ?s1) (fun s hs hb => ?d1)
  case t1 => exact EvT.is (et_truK (EvR.it (er_var rfl (by simp)) rfl)) (by cases h : s.2 <;> simp)
  case s1 =>
    obtain ⟨fd, st⟩ := s
    cases st with
    | nil => cases hb
    | cons x st =>
      obtain ⟨h1, h2⟩ := hs
      obtain ⟨rx, hx⟩ := h2 x (List.mem_cons_self ..)
      have e1 := sub_eq W hx
      have hlen := congrArg List.length h1
      rw [List.map_cons, List.flatten_cons, e1] at hlen
      simp only [List.length_append, List.length_cons] at hlen
      have hst : st.length ≤ ((st.map (sub t)).flatten).length := by
        have h3 : ∀ y ∈ st, ∃ rx, t y = some rx := fun y hy => h2 y (List.mem_cons_of_mem _ hy)
        clear h1 h2 hlen hb
        induction st with
        | nil => exact Nat.zero_le _
        | cons y st ih =>
          obtain ⟨ry, hy⟩ := h3 y (List.mem_cons_self ..)
          have := ih fun z hz => h3 z (List.mem_cons_of_mem _ hz)
          rw [List.map_cons, List.flatten_cons, sub_eq W hy]
          simp only [List.length_append, List.length_cons]
          omega
      have hkids : rx.kids.length ≤ ((rx.kids.map (sub t)).flatten).length := by
        have h3 : ∀ y ∈ rx.kids, ∃ rx, t y = some rx := fun y hy => (W.kid x rx y hx hy).imp fun _ h => h.1
        generalize rx.kids = ks at h3
        induction ks with
        | nil => exact Nat.zero_le _
        | cons y ks ih =>
          obtain ⟨ry, hy⟩ := h3 y (List.mem_cons_self ..)
          have := ih fun z hz => h3 z (List.mem_cons_of_mem _ hz)
          rw [List.map_cons, List.flatten_cons, sub_eq W hy]
          simp only [List.length_append, List.length_cons]
          omega
      refine gs_asgPop (k := 1) (s := .i (.int x)) (ss := (st.reverse.map PyData.int).map SV.i) (er_var rfl (by simp)) (by simp) ?_
      walk_at "nf"
      refine gs_app (k := 0) (er_var rfl (by simp)) rfl (s := .i (.int x)) (show EvX false _ _ _ _ _ from ex_var rfl) (by simp; omega) ?_
      refine gs_extT (k := 1) (ds := (rx.kids.map PyData.int).reverse) (er_var rfl (by simp)) rfl (ex_revT (ex_ixT (ds := rx.l) (ex_dgetD (ek := fun k : Key => k) (ev := fun d : PyData => d) (a := .inl x) (b := rx.d) (fun _ _ e => e) (ex_var rfl) (ex_var rfl) ((tr_get hrow).mp (by rw [hT]; exact hx))) ex_int (atI_nat (j := 6) rfl))) (by simp; omega) ?_
      refine g_next fun ad σ H ok => ⟨(fd ++ [x], rx.kids ++ st), ⟨?p1, fun y hy => ?p2⟩, ?p3, ad, ?p4⟩
      case p1 =>
        rw [← h1, List.map_cons, List.flatten_cons, e1]
        simp
      case p2 =>
        rcases List.mem_append.mp hy with z | z
        · exact (W.kid x rx y hx z).imp fun _ h => h.1
        · exact h2 y (List.mem_cons_of_mem _ z)
      case p3 =>
        show ((((rx.kids ++ st).map (sub t)).flatten).length) < (((x :: st).map (sub t)).flatten).length
        rw [List.map_cons, List.flatten_cons, e1]
        simp only [List.map_append, List.flatten_append, List.length_append, List.length_cons]
        omega
      case p4 =>
        refine ok.weak (by simp [WkE]) ?_ (by simp [EnLt, SvLt]) ⟨soLt_data, soLt_data, True.intro⟩ (by simp)
        refine ⟨Or.inr ?_, Or.inr ?_, True.intro⟩
        · simp
        · simp
  case d1 =>
  obtain ⟨fd, st⟩ := s
  obtain ⟨h1, _⟩ := hs
  have : st = [] := by simpa using hb
  subst this
  have h1 : fd = sub t n := by simpa using h1
  subst h1
  exact gs_retO (k := 0) (er_var rfl (by simp)) rfl (fun _ h => h) hq
-- END branch
theorem sc_depth_of : FnScope ["rows", "node", "depth"] ["rows", "node"] (defScope s_depth_of) := ⟨rfl, rfl, rfl, by decide +kernel, rfl, by decide +kernel, by decide +kernel⟩
def R_depth_of : List PyData → PyData → Prop := fun ds d => ∃ (m : List (Key × PyData)) (last : Int) (dep : Int → Nat) (n : Int) (r : Rw), Rows m ∧ WF (tr m) last dep ∧ tr m n = some r ∧ ds = [dK0 m, .int n] ∧ d = .int ((depth (tr m) n : Nat) : Int)
theorem R_depth_of_i {m : List (Key × PyData)} {last : Int} {dep : Int → Nat} {n : Int} {r : Rw} (h1 : Rows m) (h2 : WF (tr m) last dep) (h4 : tr m n = some r) : R_depth_of [dK0 m, .int n] (.int ((depth (tr m) n : Nat) : Int)) := ⟨m, last, dep, n, r, h1, h2, h4, rfl, rfl⟩
local macro_rules | `(tactic| walk_at "r2") => `(tactic| exact R_depth_of_i (by assumption) (by assumption) (by assumption))
theorem R_depth_of_len : ∀ ds d, R_depth_of ds d → ds.length = 2 := by
  intro ds d hh
  unfold R_depth_of at hh
  repeat (obtain ⟨_, hh⟩ := hh)
  subst_eqs
  rfl
theorem ok_depth_of {P : Program} {w : World} {K : PySem.W.Frag} {mg : Str → Option Value} {base : Heap} {f : Addr} {fd : FuncData} (F : FnP K "depth_of" s_depth_of f fd) (g0 : mg "depth_of" = some (.ref f)) (c_NOBODY : ∃ t, mg "NOBODY" = some (.int 0 t)) (c_PARENT : ∃ t, mg "PARENT" = some (.int 0 t)) : Cal P w K mg base 1 "depth_of" ["rows", "node"] (spD K  R_depth_of) := by
  refine cal_mk F sc_depth_of g0 (spD_len R_depth_of_len) (fun _ _ _ _ _ _ us hl => match us, hl with | [_, _], _ => rfl) (fun cdv A outer s H vs Q E hr h => ⟨_,
    (pss_cons (ps_set (i := 2) sc_depth_of.nd rfl (by first | exact Or.inl rfl | exact Or.inr rfl) pe_int)
     (pss_cons (ps_while PassesOwn.never (pt_cmpR op_ne (pe_ix (DL.kIxT (K := K)) (pe_dget (DL.u1 hr.units) (pv 0) (pv 1) (fun _ _ => rfl)) (C8.pe_gc (v := .int 0) (by rfl) (DL.gci c_PARENT)) (fun _ _ => rfl)) (C8.pe_gc (v := .int 0) (by rfl) (DL.gci c_NOBODY)) (nomark _))
     (pss_cons (ps_set (i := 1) sc_depth_of.nd rfl (by first | exact Or.inl rfl | exact Or.inr rfl) (pe_ix (DL.kIxT (K := K)) (pe_dget (DL.u1 hr.units) (pv 0) (pv 1) (fun _ _ => rfl)) (C8.pe_gc (v := .int 0) (by rfl) (DL.gci c_PARENT)) (fun _ _ => rfl)))
     (pss_cons (ps_aug (i := 2) sc_depth_of.nd rfl (by first | exact Or.inl rfl | exact Or.inr rfl) pe_int ip_add)
     pss_nil)))
     (pss_cons (ps_ret (pv 2))
     pss_nil))), ?_⟩)
  refine run_spD h fun N ds d hR hq => ?_
  obtain ⟨m, last, dep, n, r, hrow, W, ht, rfl, rfl⟩ := hR
  rw [depth_eq W ht] at hq
  walk_at "env"
  refine gs_asg (d := .int ((1 : Nat) : Int)) ex_int ?_
  walk_at "nf"
  have hget : ∀ {x : Int} {rx : Rw}, tr m x = some rx → getA m (.inl x) = some rx.d := fun h => (tr_get hrow).mp h
  have hd1 := (W.dep30 n r ht).1
  refine' gs_while (S := Int × Nat) (fun s => [some (.i (dK0 m)), some (.i (.int s.1)), some (.i (.int (s.2 : Int)))]) (fun _ => []) (fun s => (∃ rx, tr m s.1 = some rx) ∧ 1 ≤ s.2 ∧ s.2 + dep s.1 = dep n + 1) (fun s => !decide (s.1 = 1)) (fun s => dep s.1) (n, 1) (fun c' _ ad σ H ok => ok) ⟨⟨r, ht⟩, Nat.le_refl _, by show 1 + dep n = dep n + 1; omega⟩ (fun fr up s hs => ?t1) (fun fr up s hs hb => ?s1) (fun s hs hb => ?d1)
  case t1 =>
    obtain ⟨x, k⟩ := s
    obtain ⟨⟨rx, hx⟩, h1, h2⟩ := hs
    refine EvT.is (et_test (ex_neI (ex_ixT (ds := rx.l) (ex_dgetD (ek := fun k : Key => k) (ev := fun d : PyData => d) (a := .inl x) (b := rx.d) (fun _ _ e => e) (ex_var rfl) (ex_var rfl) (hget hx)) ex_int (atI_nat (j := 0) rfl)) ex_int)) ?_
    obtain ⟨r1, g1, g2, _⟩ := W.root
    by_cases e : x = 1
    · subst e
      rw [g1] at hx
      cases hx
      simp [g2]
    · obtain ⟨rp, z1, _, _⟩ := W.par x rx hx e
      have := (W.id _ _ z1).1
      simp only [e, decide_false]
      rw [decide_eq_false (by omega)]
  case s1 =>
    obtain ⟨x, k⟩ := s
    obtain ⟨⟨rx, hx⟩, h1, h2⟩ := hs
    have e : x ≠ 1 := by simpa using hb
    obtain ⟨rp, z1, _, z3⟩ := W.par x rx hx e
    obtain ⟨_, _, _, z4⟩ := W.kid _ rp x z1 z3
    have h2 : k + dep x = dep n + 1 := h2
    refine gs_asg (d := .int rx.par) (ex_ixT (ds := rx.l) (ex_dgetD (ek := fun k : Key => k) (ev := fun d : PyData => d) (a := .inl x) (b := rx.d) (fun _ _ e => e) (ex_var rfl) (ex_var rfl) (hget hx)) ex_int (atI_nat (j := 0) rfl)) ?_
    walk_at "nf"
    refine gs_aug (a := (k : Int)) (b := 1) rfl ex_int ?_
    walk_at "nf"
    refine g_next fun ad σ H ok => ⟨(rx.par, k + 1), ⟨⟨rp, z1⟩, by omega, by show k + 1 + dep rx.par = _; omega⟩, by show dep rx.par < dep x; omega, ad, ok⟩
  case d1 =>
  obtain ⟨x, k⟩ := s
  obtain ⟨⟨rx, hx⟩, h1, h2⟩ := hs
  have e : x = 1 := by simpa using hb
  subst e
  rw [W.d1] at h2
  have : k = dep n := by omega
  subst this
  exact gs_ret (ex_var rfl) hq
-- END depth_of
theorem sc_Page___init__ : FnScope ["self", "width", "height", "root"] ["self", "width", "height"] (defScope s_Page___init__) := ⟨rfl, rfl, rfl, by decide +kernel, rfl, by decide +kernel, by decide +kernel⟩
theorem segHP0 (CH : Addr) (o0 o1 : SO) (m : List (Key × PyData)) : SegAtK fHP 2 3 (preH CH) (shapeH CH) m ([o0, o1, dkO m] ++ [.ob CH []]) (fun y => [o0, o1, dkO y.cells, .ob CH [("cells", .r 2), ("_done", .r 4), ("_undone", .i (.list []))], .lst (y.done.map SV.i)]) := ⟨by decide, fun i j hi hj e => by
  match i, j, hi, hj, e with
  | 0, 0, _, _, _ => rfl
  | 0, 1, _, _, e => cases e
  | 1, 0, _, _, e => cases e
  | 1, 1, _, _, _ => rfl, preH_ok CH m, fun i o e => by
  match i, e with
  | 0, e => cases e; rfl
  | 1, e => cases e; exact congrArg some (reS_dk _ m).symm, fun y => rfl, fun y i o e => by
  match i, e with
  | 0, e => cases e; rfl
  | 1, e => cases e; exact congrArg some (reS_dk _ _).symm
  | 2, e => cases e; exact congrArg some (reS_ls _ _).symm, fun y j hj hn => by
  match j, hj, hn with
  | 0, _, _ => rfl
  | 1, _, _ => rfl
  | 2, _, hn => exact absurd rfl (hn 1 (by decide))
  | 3, _, hn => exact absurd rfl (hn 0 (by decide))⟩
def R_Page___init__ : Unit → List SV → Pg → Prop := fun _ ds y => ∃ w h : Int, 0 ≤ w ∧ w ≤ 1000 ∧ 0 ≤ h ∧ h ≤ 1000 ∧ ds = [.r 0, .i (.int w), .i (.int h)] ∧ y = pgN w h
theorem R_Page___init___len : ∀ x ds y, R_Page___init__ x ds y → ds.length = 3 := by
  intro x ds y hh
  unfold R_Page___init__ at hh
  repeat (obtain ⟨_, hh⟩ := hh)
  subst_eqs
  rfl
theorem ok_Page___init__ {P : Program} {w : World} {K : PySem.W.Frag} {mg : Str → Option Value} {base : Heap} {f : Addr} {fd : FuncData} (F : DL.FnM K "__init__" "Page.__init__" s_Page___init__ [] f fd) {C_History : Addr} (kC_History : Cls K C_History) (n_History_cells : NoAttr K C_History "cells") (n_History__done : NoAttr K C_History "_done") (n_History__undone : NoAttr K C_History "_undone") {C_Page : Addr} (kC_Page : Cls K C_Page) (n_Page_width : NoAttr K C_Page "width") (n_Page_height : NoAttr K C_Page "height") (n_Page__last_id : NoAttr K C_Page "_last_id") (n_Page__moment : NoAttr K C_Page "_moment") (n_Page__marked : NoAttr K C_Page "_marked") (n_Page__history : NoAttr K C_Page "_history") (h_check_number : Cal P w K mg base 3 "check_number" ["name", "value", "high"] (spD K  R_check_number)) (h_new_row : Cal P w K mg base 1 "new_row" ["parent", "kind", "content", "marks"] (spD K  R_new_row)) (h_History___init__ : DL.MakN P w K mg base 1 "History" C_History ["self", "cells"] (DL.spK K 2 3 (preH C_History) (shapeH C_History) R_History___init__)) (c_MOST_WINDOW : ∃ t, mg "MOST_WINDOW" = some (.int 1000 t)) (c_NOBODY : ∃ t, mg "NOBODY" = some (.int 0 t)) (c_ROOT : ∃ t, mg "ROOT" = some (.int 1 t)) (c_WINDOW : ∃ t, mg "WINDOW" = some (.str "window" t)) (c_RULES : ∃ t, mg "RULES" = some (.str "rules" t)) (M : Mk K C_Page f) (g0 : mg "Page" = some (.ref C_Page)) : DL.MakN P w K mg base 4 "Page" C_Page ["self", "width", "height"] (DL.spK K 1 5 (fun _ : Unit => [SO.ob C_Page []]) (shapeP C_Page C_History) R_Page___init__) := by
  refine DL.makN_mk F sc_Page___init__ M g0 (DL.spK_len R_Page___init___len) (fun _ _ _ _ _ _ us hl => match us, hl with | [_, _, _], _ => rfl) (fun cdv A outer s H vs Q E hr h => ⟨_,
    (pss_cons (ps_expr (DL.pe_cal h_check_number hr (by decide) (by rfl) pass0 (pa_cons pe_str (pa_cons (pv 1) (pa_cons (C8.pe_gc (v := .int 1000) (by rfl) (DL.gci c_MOST_WINDOW)) pa_nil)))))
     (pss_cons (ps_expr (DL.pe_cal h_check_number hr (by decide) (by rfl) pass0 (pa_cons pe_str (pa_cons (pv 2) (pa_cons (C8.pe_gc (v := .int 1000) (by rfl) (DL.gci c_MOST_WINDOW)) pa_nil)))))
     (pss_cons (ps_set (i := 3) sc_Page___init__.nd rfl (by first | exact Or.inl rfl | exact Or.inr rfl) (DL.pe_cal h_new_row hr (by decide) (by rfl) pass0 (pa_cons (C8.pe_gc (v := .int 0) (by rfl) (DL.gci c_NOBODY)) (pa_cons pe_str (pa_cons pe_str (pa_cons (pe_tup pa_nil) pa_nil))))))
     (pss_cons (DL.kSetFld (K := K) (pv 0) (pv 1))
     (pss_cons (DL.kSetFld (K := K) (pv 0) (pv 2))
     (pss_cons (DL.kSetFld (K := K) (pv 0) (C8.pe_gc (v := .int 1) (by rfl) (DL.gci c_ROOT)))
     (pss_cons (DL.kSetFld (K := K) (pv 0) pe_int)
     (pss_cons (DL.kSetFld (K := K) (pv 0) pe_dnewK)
     (pss_cons (DL.kSetFld (K := K) (pv 0) (DL.pe_makN h_History___init__ hr (by decide) (by rfl) pass0 (pa_cons (pe_disp (pps_cons (C8.pe_gc (v := .str "window") (by rfl) (DL.gcs c_WINDOW)) (pe_tup (pa_cons (pv 1) (pa_cons (pv 2) pa_nil))) (pps_cons (C8.pe_gc (v := .str "rules") (by rfl) (DL.gcs c_RULES)) (pe_tup pa_nil) (pps_cons (C8.pe_gc (v := .int 1) (by rfl) (DL.gci c_ROOT)) (pv 3) pps_nil))) (by rfl) (by rfl) (by simp) (by decide)) pa_nil)))
     pss_nil))))))))), ?_⟩)
  refine DL.run_spK h (Nat.le_trans (Nat.le_of_eq (DL.spK_len R_Page___init___len _ _ _ _ h)) (by decide)) (by decide) fun N ad x ds hsh hR hq => ?_
  obtain ⟨y, w, h, w0, w1, h0, h1, rfl, rfl⟩ := hR
  simp only [envG, List.map, List.length, List.replicate, List.cons_append, List.nil_append, Nat.reduceAdd, Nat.reduceSub, Nat.sub_self]
  refine gs_doN (EvM.asN (em_x (P := fun _ => True) (ex_call (ea_cons ex_str (ea_cons (ex_var rfl) (ea_cons ex_int ea_nil))) (R_check_number_i w0 w1)) True.intro)) ?_
  rintro os' d ⟨rfl, _⟩
  refine gs_doN (EvM.asN (em_x (P := fun _ => True) (ex_call (ea_cons ex_str (ea_cons (ex_var rfl) (ea_cons ex_int ea_nil))) (R_check_number_i h0 h1)) True.intro)) ?_
  rintro os' d ⟨rfl, _⟩
  refine gs_asg (d := rootR.d) (ex_call (ea_cons ex_int (ea_cons ex_str (ea_cons ex_str (ea_cons (ex_tup ea_nil (Nat.zero_le _)) ea_nil)))) R_new_row_i) ?_
  walk_at "nf"
  refine gs_setFld (k := 0) (s := .i (.int w)) (show EvX false _ _ _ _ _ from ex_var rfl) (er_var rfl (by simp)) rfl kC_Page n_Page_width (by simp) ?_
  refine gs_is (os' := [.ob C_Page [("width", .i (.int w))]]) rfl rfl ?_
  refine gs_setFld (k := 0) (s := .i (.int h)) (show EvX false _ _ _ _ _ from ex_var rfl) (er_var rfl (by simp)) rfl kC_Page n_Page_height (by simp) ?_
  refine gs_is (os' := [.ob C_Page [("width", .i (.int w)), ("height", .i (.int h))]]) rfl rfl ?_
  refine gs_setFld (k := 0) (s := .i (.int 1)) (show EvX false _ _ _ _ _ from ex_int) (er_var rfl (by simp)) rfl kC_Page n_Page__last_id (by simp) ?_
  refine gs_is (os' := [.ob C_Page [("width", .i (.int w)), ("height", .i (.int h)), ("_last_id", .i (.int 1))]]) rfl rfl ?_
  refine gs_setFld (k := 0) (s := .i (.int 0)) (show EvX false _ _ _ _ _ from ex_int) (er_var rfl (by simp)) rfl kC_Page n_Page__moment (by simp) ?_
  refine gs_is (os' := [.ob C_Page [("width", .i (.int w)), ("height", .i (.int h)), ("_last_id", .i (.int 1)), ("_moment", .i (.int 0))]]) rfl rfl ?_
  refine gs_setFldF (k := 0) (o := .dK []) ef_dnewK (er_var rfl (by simp)) rfl kC_Page n_Page__marked (by simp) ?_
  refine gs_is (os' := [.ob C_Page [("width", .i (.int w)), ("height", .i (.int h)), ("_last_id", .i (.int 1)), ("_moment", .i (.int 0)), ("_marked", .r 1)], .dK []]) rfl rfl ?_
  refine gs_setFldGN (k := 0) (C := C_Page) (egn_makeN (f := fHP) (ds := [.r 1]) (os2 := [.ob C_Page [("width", .i (.int w)), ("height", .i (.int h)), ("_last_id", .i (.int 1)), ("_moment", .i (.int 0)), ("_marked", .r 1)], .dK [], dkO (pgN w h).hs.cells]) (eapg_g (k := 2) (eg_F (ef_disp (kvs := (pgN w h).hs.cells) (ep_cons ex_str (ex_tup (ea_cons (ex_var rfl) (ea_cons (ex_var rfl) ea_nil)) (Nat.le_of_ble_eq_true rfl)) rfl (ep_cons ex_str (ex_tup ea_nil (Nat.zero_le _)) rfl (ep_cons ex_int (ex_var rfl) rfl ep_nil))) (show ([.inr "window", .inr "rules", .inl 1] : List Key).Nodup by decide +kernel) (Nat.le_of_ble_eq_true rfl))) (fun v => eas_nil.asG)) rfl (by decide) (fun s hs => by rw [List.mem_singleton.mp hs]; exact Nat.lt_succ_self 1) (segHP0 C_History _ _ _) ⟨_, rfl, rfl⟩) ?_
  rintro j os' ⟨rfl, y, ⟨_, rfl⟩, rfl⟩
  refine ⟨_, er_var rfl (by simp), rfl, kC_Page, n_Page__history, by simp, ?_⟩
  refine gs_is (os' := shapeP C_Page C_History (pgN w h)) rfl rfl ?_
  exact g_endK (y := pgN w h) hq (fun i o e => e) (shapeP_ok _ _ _) ⟨w, h, w0, w1, h0, h1, rfl, rfl⟩
-- END Page___init__
theorem sc_Page_depth : FnScope ["self", "node"] ["self", "node"] (defScope s_Page_depth) := ⟨rfl, rfl, rfl, by decide +kernel, rfl, by decide +kernel, by decide +kernel⟩
def R_Page_depth : Addr → Addr → List PyData → PyData → Prop := fun CP CH ds d => ∃ (p : Pg) (n : Int) (r : Rw), PgOk p ∧ p.t n = some r ∧ ds = [pgD CP CH p, .int n] ∧ d = .int ((depth p.t n : Nat) : Int)
theorem R_Page_depth_i {CP CH : Addr} {p : Pg} {n : Int} {r : Rw} (h : PgOk p) (h2 : p.t n = some r) : R_Page_depth CP CH [pgD CP CH p, .int n] (.int ((depth p.t n : Nat) : Int)) := ⟨p, n, r, h, h2, rfl, rfl⟩
local macro_rules | `(tactic| walk_at "r2") => `(tactic| exact R_Page_depth_i (by assumption) (by assumption))
theorem R_Page_depth_len : ∀ (C_Page C_History : Addr) ds d, R_Page_depth C_Page C_History ds d → ds.length = 2 := by
  intro C_Page C_History ds d hh
  unfold R_Page_depth at hh
  repeat (obtain ⟨_, hh⟩ := hh)
  subst_eqs
  rfl
theorem ok_Page_depth {P : Program} {w : World} {K : PySem.W.Frag} {mg : Str → Option Value} {base : Heap} {f : Addr} {fd : FuncData} (F : DL.FnM K "depth" "Page.depth" s_Page_depth [] f fd) {C_History : Addr} (kC_History : Cls K C_History) (n_History_cells : NoAttr K C_History "cells") (n_History__done : NoAttr K C_History "_done") (n_History__undone : NoAttr K C_History "_undone") {C_Page : Addr} (kC_Page : Cls K C_Page) (n_Page_width : NoAttr K C_Page "width") (n_Page_height : NoAttr K C_Page "height") (n_Page__last_id : NoAttr K C_Page "_last_id") (n_Page__moment : NoAttr K C_Page "_moment") (n_Page__marked : NoAttr K C_Page "_marked") (n_Page__history : NoAttr K C_Page "_history") (h_Page__row : DL.MetP P w K mg base 2 C_Page "_row" ["self", "node"] (spD K  (R_Page__row C_Page C_History))) (h_depth_of : Cal P w K mg base 1 "depth_of" ["rows", "node"] (spD K  R_depth_of)) (me : Meth K C_Page "depth" f) : DL.MetP P w K mg base 3 C_Page "depth" ["self", "node"] (spD K  (R_Page_depth C_Page C_History)) := by
  refine DL.met_mk F sc_Page_depth kC_Page me (spD_len (R_Page_depth_len C_Page C_History)) (fun _ _ _ _ _ _ us hl => match us, hl with | [_, _], _ => rfl) (fun cdv A outer s H vs Q E hr h => ⟨_,
    (pss_cons (ps_expr (DL.pe_metP h_Page__row hr (by decide) pass0 (pv 0) (pa_cons (pv 1) pa_nil)))
     (pss_cons (ps_ret (DL.pe_cal h_depth_of hr (by decide) (by rfl) pass0 (pa_cons (DL.kFld (K := K) (DL.kFld (K := K) (pv 0))) (pa_cons (pv 1) pa_nil))))
     pss_nil)), ?_⟩)
  refine run_spD h fun N ds d hR hq => ?_
  obtain ⟨p, n, r, hok, ht, rfl, rfl⟩ := hR
  have hg := (tr_get hok.rows).mp ht
  obtain ⟨dep, W⟩ := hok.wf
  have hrow := hok.rows
  walk_at "env"
  refine gs_drop (d := r.d) (w := true) (by walk_at "v") ?_
  exact gs_ret (ex_call (ea_cons (by walk_at "v") (ea_cons (ex_var rfl) ea_nil)) (R_depth_of_i hrow W ht)) hq
-- END Page_depth
theorem sc_Page_nodes : FnScope ["self"] ["self"] (defScope s_Page_nodes) := ⟨rfl, rfl, rfl, by decide +kernel, rfl, by decide +kernel, by decide +kernel⟩
def R_Page_nodes : Addr → Addr → List PyData → List PyData → Prop := fun CP CH ds rs => ∃ (p : Pg), PgOk p ∧ ds = [pgD CP CH p] ∧ rs = (sub p.t 1).map PyData.int
theorem R_Page_nodes_i {CP CH : Addr} {p : Pg} (h : PgOk p) : R_Page_nodes CP CH [pgD CP CH p] ((sub p.t 1).map PyData.int) := ⟨p, h, rfl, rfl⟩
local macro_rules | `(tactic| walk_at "r2") => `(tactic| exact R_Page_nodes_i (by assumption))
theorem R_Page_nodes_len : ∀ (C_Page C_History : Addr) ds d, R_Page_nodes C_Page C_History ds d → ds.length = 1 := by
  intro C_Page C_History ds d hh
  unfold R_Page_nodes at hh
  repeat (obtain ⟨_, hh⟩ := hh)
  subst_eqs
  rfl
theorem ok_Page_nodes {P : Program} {w : World} {K : PySem.W.Frag} {mg : Str → Option Value} {base : Heap} {f : Addr} {fd : FuncData} (F : DL.FnM K "nodes" "Page.nodes" s_Page_nodes [] f fd) {C_History : Addr} (kC_History : Cls K C_History) (n_History_cells : NoAttr K C_History "cells") (n_History__done : NoAttr K C_History "_done") (n_History__undone : NoAttr K C_History "_undone") {C_Page : Addr} (kC_Page : Cls K C_Page) (n_Page_width : NoAttr K C_Page "width") (n_Page_height : NoAttr K C_Page "height") (n_Page__last_id : NoAttr K C_Page "_last_id") (n_Page__moment : NoAttr K C_Page "_moment") (n_Page__marked : NoAttr K C_Page "_marked") (n_Page__history : NoAttr K C_Page "_history") (h_branch : Cal P w K mg base 1 "branch" ["rows", "node"] (spF K  R_branch)) (c_ROOT : ∃ t, mg "ROOT" = some (.int 1 t)) (me : Meth K C_Page "nodes" f) : DL.MetP P w K mg base 2 C_Page "nodes" ["self"] (spF K  (R_Page_nodes C_Page C_History)) := by
  refine DL.met_mk F sc_Page_nodes kC_Page me (spF_len (R_Page_nodes_len C_Page C_History)) (fun _ _ _ _ _ _ us hl => match us, hl with | [_], _ => rfl) (fun cdv A outer s H vs Q E hr h => ⟨_,
    (pss_cons (ps_ret (DL.pe_cal h_branch hr (by decide) (by rfl) pass0 (pa_cons (DL.kFld (K := K) (DL.kFld (K := K) (pv 0))) (pa_cons (C8.pe_gc (v := .int 1) (by rfl) (DL.gci c_ROOT)) pa_nil))))
     pss_nil), ?_⟩)
  refine run_spF h fun N ds d hR hq => ?_
  obtain ⟨p, hok, rfl, rfl⟩ := hR
  obtain ⟨dep, W⟩ := hok.wf
  obtain ⟨r1, g1, _⟩ := W.root
  walk_at "env"
  exact gs_retF (ef_call (ea_cons (by walk_at "v") (ea_cons ex_int ea_nil)) (R_branch_i hok.rows W hok.n300 g1)) (fun _ h => h) hq
-- END Page_nodes
theorem sc_Page__box : FnScope ["self", "node", "row"] ["self", "node"] (defScope s_Page__box) := ⟨rfl, rfl, rfl, by decide +kernel, rfl, by decide +kernel, by decide +kernel⟩
def R_Page__box : Addr → Addr → List PyData → PyData → Prop := fun CP CH ds d => ∃ (p : Pg) (n : Int) (r : Rw), getA p.hs.cells (.inl n) = some r.d ∧ r.box = true ∧ ds = [pgD CP CH p, .int n] ∧ d = r.d
theorem R_Page__box_i {CP CH : Addr} {p : Pg} {n : Int} {r : Rw} (h : getA p.hs.cells (.inl n) = some r.d) (h2 : r.box = true) : R_Page__box CP CH [pgD CP CH p, .int n] r.d := ⟨p, n, r, h, h2, rfl, rfl⟩
local macro_rules | `(tactic| walk_at "r2") => `(tactic| exact R_Page__box_i (by assumption) (by assumption))
theorem R_Page__box_len : ∀ (C_Page C_History : Addr) ds d, R_Page__box C_Page C_History ds d → ds.length = 2 := by
  intro C_Page C_History ds d hh
  unfold R_Page__box at hh
  repeat (obtain ⟨_, hh⟩ := hh)
  subst_eqs
  rfl
theorem ok_Page__box {P : Program} {w : World} {K : PySem.W.Frag} {mg : Str → Option Value} {base : Heap} {f : Addr} {fd : FuncData} (F : DL.FnM K "_box" "Page._box" s_Page__box [] f fd) {C_History : Addr} (kC_History : Cls K C_History) (n_History_cells : NoAttr K C_History "cells") (n_History__done : NoAttr K C_History "_done") (n_History__undone : NoAttr K C_History "_undone") {C_Page : Addr} (kC_Page : Cls K C_Page) (n_Page_width : NoAttr K C_Page "width") (n_Page_height : NoAttr K C_Page "height") (n_Page__last_id : NoAttr K C_Page "_last_id") (n_Page__moment : NoAttr K C_Page "_moment") (n_Page__marked : NoAttr K C_Page "_marked") (n_Page__history : NoAttr K C_Page "_history") (h_Page__row : DL.MetP P w K mg base 2 C_Page "_row" ["self", "node"] (spD K  (R_Page__row C_Page C_History))) (c_KIND : ∃ t, mg "KIND" = some (.int 1 t)) (me : Meth K C_Page "_box" f) : DL.MetP P w K mg base 3 C_Page "_box" ["self", "node"] (spD K  (R_Page__box C_Page C_History)) := by
  refine DL.met_mk F sc_Page__box kC_Page me (spD_len (R_Page__box_len C_Page C_History)) (fun _ _ _ _ _ _ us hl => match us, hl with | [_, _], _ => rfl) (fun cdv A outer s H vs Q E hr h => ⟨_,
    (pss_cons (ps_set (i := 2) sc_Page__box.nd rfl (by first | exact Or.inl rfl | exact Or.inr rfl) (DL.pe_metP h_Page__row hr (by decide) pass0 (pv 0) (pa_cons (pv 1) pa_nil)))
     (pss_cons (ps_if (pt_cmpR op_ne (pe_ix (DL.kIxT (K := K)) (pv 2) (C8.pe_gc (v := .int 1) (by rfl) (DL.gci c_KIND)) (fun _ _ => rfl)) pe_str (nomark _))
     (pss_cons DL.ps_never
     pss_nil)
     pss_nil)
     (pss_cons (ps_ret (pv 2))
     pss_nil))), ?_⟩)
  refine run_spD h fun N ds d hR hq => ?_
  obtain ⟨p, n, r, hg, hb, rfl, rfl⟩ := hR
  walk_at "env"
  refine gs_asg (d := r.d) (by walk_at "v") ?_
  walk_at "nf"
  refine gs_if (b := false) (EvT.is (et_test (ex_neS (ex_ixT (ds := r.l) (ex_var rfl) ex_int (atI_nat (j := 1) rfl)) ex_str)) (by rw [hb]; decide +kernel)) (fun z => nomatch z) fun _ => g_nextU ?_
  exact gs_ret (ex_var rfl) hq
-- END Page__box
theorem sc__check_depth : FnScope ["depth"] ["depth"] (defScope s__check_depth) := ⟨rfl, rfl, rfl, by decide +kernel, rfl, by decide +kernel, by decide +kernel⟩
def R__check_depth : List PyData → PyData → Prop := fun ds d => ∃ v : Int, v ≤ 30 ∧ ds = [.int v] ∧ d = .none
theorem R__check_depth_i {v : Int} (h1 : v ≤ 30) : R__check_depth [.int v] .none := ⟨v, h1, rfl, rfl⟩
local macro_rules | `(tactic| walk_at "r2") => `(tactic| exact R__check_depth_i (by omega))
theorem R__check_depth_len : ∀ ds d, R__check_depth ds d → ds.length = 1 := by
  intro ds d hh
  unfold R__check_depth at hh
  repeat (obtain ⟨_, hh⟩ := hh)
  subst_eqs
  rfl
theorem ok__check_depth {P : Program} {w : World} {K : PySem.W.Frag} {mg : Str → Option Value} {base : Heap} {f : Addr} {fd : FuncData} (F : FnP K "_check_depth" s__check_depth f fd) (g0 : mg "_check_depth" = some (.ref f)) (c_MOST_DEPTH : ∃ t, mg "MOST_DEPTH" = some (.int 30 t)) : Cal P w K mg base 1 "_check_depth" ["depth"] (spD K  R__check_depth) := by
  refine cal_mk F sc__check_depth g0 (spD_len R__check_depth_len) (fun _ _ _ _ _ _ us hl => match us, hl with | [_], _ => rfl) (fun cdv A outer s H vs Q E hr h => ⟨_,
    (pss_cons (ps_if (pt_cmpR op_gt (pv 0) (C8.pe_gc (v := .int 30) (by rfl) (DL.gci c_MOST_DEPTH)) (nomark _))
     (pss_cons DL.ps_never
     pss_nil)
     pss_nil)
     pss_nil), ?_⟩)
  refine run_spD h fun N ds d hR hq => ?_
  obtain ⟨v, h1, rfl, rfl⟩ := hR
  walk_at "env"
  refine gs_if (b := false) (EvT.is (et_test (ex_b2 (ex_var rfl) ex_int)) (decide_eq_false (by omega))) (fun z => nomatch z) fun _ => g_nextU (g_endR hq)
-- END _check_depth
theorem sc_Page__follow : FnScope ["self", "marked", "cells", "node"] ["self", "marked"] (defScope s_Page__follow) := ⟨rfl, rfl, rfl, by decide +kernel, rfl, by decide +kernel, by decide +kernel⟩
def R_Page__follow : Pg → List SV → Pg → PyData → Prop := fun p ds p' d => ∃ n : Int, ds = [.r 0, .i (.int n)] ∧ FolOk p n ∧ p' = follow p n ∧ d = .bool true
theorem R_Page__follow_len : ∀ x ds x' d, R_Page__follow x ds x' d → ds.length = 2 := by
  intro x ds x' d hh
  unfold R_Page__follow at hh
  repeat (obtain ⟨_, hh⟩ := hh)
  subst_eqs
  rfl
theorem ok_Page__follow {P : Program} {w : World} {K : PySem.W.Frag} {mg : Str → Option Value} {base : Heap} {f : Addr} {fd : FuncData} (F : DL.FnM K "_follow" "Page._follow" s_Page__follow [] f fd) {C_History : Addr} (kC_History : Cls K C_History) (n_History_cells : NoAttr K C_History "cells") (n_History__done : NoAttr K C_History "_done") (n_History__undone : NoAttr K C_History "_undone") {C_Page : Addr} (kC_Page : Cls K C_Page) (n_Page_width : NoAttr K C_Page "width") (n_Page_height : NoAttr K C_Page "height") (n_Page__last_id : NoAttr K C_Page "_last_id") (n_Page__moment : NoAttr K C_Page "_moment") (n_Page__marked : NoAttr K C_Page "_marked") (n_Page__history : NoAttr K C_Page "_history") (h_branch : Cal P w K mg base 1 "branch" ["rows", "node"] (spF K  R_branch)) (c_WINDOW : ∃ t, mg "WINDOW" = some (.str "window" t)) (me : Meth K C_Page "_follow" f) : DL.MetP P w K mg base 2 C_Page "_follow" ["self", "marked"] (DL.spS K 5 (shapeP C_Page C_History) R_Page__follow) := by
  refine DL.met_mk F sc_Page__follow kC_Page me (DL.spS_len R_Page__follow_len) (fun _ _ _ _ _ _ us hl => match us, hl with | [_, _], _ => rfl) (fun cdv A outer s H vs Q E hr h => ⟨_,
    (pss_cons (ps_if (pt_cmpR op_isN (pv 1) pe_non (nomark _))
     (pss_cons (ps_ret pe_bl)
     pss_nil)
     pss_nil)
     (pss_cons (ps_set (i := 2) sc_Page__follow.nd rfl (by first | exact Or.inl rfl | exact Or.inr rfl) (DL.kFld (K := K) (DL.kFld (K := K) (pv 0))))
     (pss_cons (ps_asg (pe_dget (DL.u1 hr.units) (pv 2) (C8.pe_gc (v := .str "window") (by rfl) (DL.gcs c_WINDOW)) (fun _ _ => rfl)) (DL.kTup (K := K) (n := 2) rfl (pgs_cons (DL.kGFld (K := K) (pv 0)) (pgs_cons (DL.kGFld (K := K) (pv 0)) pgs_nil))))
     (pss_cons (DL.kFldAug (K := K) (pv 0) pe_int)
     (pss_cons (ps_if (pt_cmp (pc_din (DL.u1 hr.units) (pv 1) (pv 2)))
     (pss_cons (ps_for PassesOwn.never rfl (DL.kPiL (K := K) (DL.pe_cal h_branch hr (by decide) (by rfl) pass0 (pa_cons (pv 2) (pa_cons (pv 1) pa_nil)))) (pg_name (i := 3) sc_Page__follow.nd rfl (by first | exact Or.inl rfl | exact Or.inr rfl))
     (pss_cons (ps_dput (DL.u1 hr.units) (DL.kFld (K := K) (pv 0)) (pv 3) (DL.kFld (K := K) (pv 0)) rfl)
     pss_nil))
     pss_nil)
     pss_nil)
     (pss_cons (ps_ret pe_bl)
     pss_nil)))))), ?_⟩)
  refine DL.run_spS h (Nat.le_trans (Nat.le_of_eq (DL.spS_len R_Page__follow_len _ _ _ _ h)) (by decide)) fun N ad x ds hsh hR hq => ?_
  obtain ⟨x', d, n, rfl, hf, rfl, rfl⟩ := hR
  have hmkl := hf.mkl
  simp only [envG, List.map, List.length, List.replicate, List.cons_append, List.nil_append, Nat.reduceAdd, Nat.reduceSub, Nat.sub_self]
  refine gs_if (b := false) (EvT.is (et_test (ex_isN rfl (ex_var rfl))) rfl) (fun z => nomatch z) fun _ => g_nextU ?_
  refine gs_asgR (k := 2) (by walk_at "o") ?_
  walk_at "nf"
  have hdat : ∀ p : Pg, DatO (shapeP C_Page C_History p) (.r 2) (dK0 p.hs.cells) := fun p => .dK rfl (DatK.i _)
  refine gs_asgFF (k := 0) (C := C_Page) (d1 := .int (winOf x.hs.cells).1) (d2 := .int (winOf x.hs.cells).2) (ex_dget (kk := .inr "window") (k := 2) (er_var rfl (by simp [shapeP])) rfl ex_str (by rw [getA_dkO, hf.win]; rfl)) (er_var rfl (by simp [shapeP])) rfl kC_Page n_Page_width n_Page_height (Nat.le_of_ble_eq_true rfl) (er_var rfl (by simp [shapeP])) ?_
  refine gs_is (os' := shapeP C_Page C_History { x with w := (winOf x.hs.cells).1, h := (winOf x.hs.cells).2 }) rfl rfl ?_
  refine gs_fldAug (k := 0) (C := C_Page) (i := x.mom) (j := 1) (er_var rfl (by simp [shapeP])) rfl kC_Page n_Page__moment rfl ex_int (Nat.le_of_ble_eq_true rfl) ?_
  refine gs_is (os' := shapeP C_Page C_History { x with w := (winOf x.hs.cells).1, h := (winOf x.hs.cells).2, mom := x.mom + 1 }) rfl rfl ?_
  generalize hy : ({ x with w := (winOf x.hs.cells).1, h := (winOf x.hs.cells).2, mom := x.mom + 1 } : Pg) = y
  have hyc : y.hs = x.hs := by rw [← hy]
  have hym : y.mom = x.mom + 1 := by rw [← hy]
  have hyk : y.marked = x.marked := by rw [← hy]
  have hend : ∀ {nd : Option SV} {l : List Int}, l = below x.hs.cells n → Go (cnS K H N ad 5) [some (.r 0), some (.i (.int n)), some (.r 2), nd] (shapeP C_Page C_History { y with marked := markM x.marked l (x.mom + 1) }) _ (De Q) := fun {nd l} hl => gs_retS (x' := follow x n) (te := tC (.bl true)) (u := tNext) (d := .bool true) ex_bl hq (fun i o e => by rw [hl, ← hy]; exact e) (shapeP_ok _ _ _) ⟨n, rfl, hf, rfl, rfl⟩
  refine gs_if (b := (getA x.hs.cells (.inl n)).isSome) (EvT.is (et_test (ex_inD (ek := fun k : Key => k) (ev := fun d : PyData => d) (a := .inl n) (fun _ _ e => e) (ex_var rfl) (ex_dat (er_var rfl (by simp [shapeP])) (hdat y)))) (by rw [hyc])) (fun hb => ?y1) (fun hb => ?n1)
  case n1 =>
    refine g_nextU ?_
    have := hend (nd := none) (l := []) (by unfold below; rw [hb]; rfl)
    have e : ({ y with marked := markM x.marked [] (x.mom + 1) } : Pg) = y := by show ({ y with marked := x.marked } : Pg) = y; rw [← hyk]
    rw [e] at this
    exact this
  case y1 =>
  rcases hf.br with z | ⟨last, dep, r, hrow, W, h300, ht⟩
  · rw [z] at hb; cases hb
  have hbel : below x.hs.cells n = sub (tr x.hs.cells) n := by unfold below; rw [hb]; rfl
  have hsl := sub_le W ht
  generalize hL : sub (tr x.hs.cells) n = L at *
  refine gs_forL (xs := L) (e := fun k : Int => .i (.int k)) (fun _ => [some (.r 0), some (.i (.int n)), some (.r 2), none]) (fun pre => shapeP C_Page C_History { y with marked := markM x.marked pre (x.mom + 1) }) (ew_list (ds := L.map PyData.int) (EvF.ev ?f1)) (by simp) (fun i k hk => itD_map i k hk) (fun c' _ ad σ H ok => ?o1) (fun _ _ _ => True.intro) (fun fr up pre k post hx => ⟨_, _, tg_name, ?b1⟩) ?d1
  case f1 => exact ef_callW (ea_cons (ex_dat (er_var rfl (by simp [shapeP])) (hyc ▸ hdat y)) (ea_cons (ex_var rfl) ea_nil)) (hL ▸ R_branch_i hrow W h300 ht) (noLists_int L)
  case o1 =>
    have e : ({ y with marked := markM x.marked [] (x.mom + 1) } : Pg) = y := by show ({ y with marked := x.marked } : Pg) = y; rw [← hyk]
    rw [e]
    exact ok
  case b1 =>
    walk_at "nf"
    have h1 := markM_len x.marked pre (x.mom + 1)
    have h2 : pre.length ≤ L.length := by rw [hx]; simp
    refine gs_dput (k := 1) (kk := .inl k) (s := .i (.int (x.mom + 1))) (show EvX false _ _ _ _ _ from ex_fldO (k := 0) (er_var rfl (by simp [shapeP])) rfl kC_Page n_Page__moment (by rw [← hym]; rfl)) (by walk_at "o") rfl (ex_var rfl) (by rw [List.length_map]; show (markM x.marked pre (x.mom + 1)).length < 100000; omega) ?_
    refine g_next fun ad σ H ok => ⟨ad, ?_⟩
    have ok := ok
    rw [setA_dkO, ← markM_snoc] at ok
    exact ok.weak (by simp [WkE]) (WkO.refl _) (by simp [EnLt, SvLt, shapeP]) (shapeP_ok _ _ _).lt (by simp [shapeP])
  case d1 => exact g_nextU (hend hbel.symm)
-- END Page__follow
theorem sc_Page__write : FnScope ["self", "changes", "marked"] ["self", "changes", "marked"] (defScope s_Page__write) := ⟨rfl, rfl, rfl, by decide +kernel, rfl, by decide +kernel, by decide +kernel⟩
def R_Page__write : Pg → List SV → Pg → PyData → Prop := fun p ds p' d => ∃ (c : List (Key × PyData)) (n : Int), ds = [.r 0, .z c, .i (.int n)] ∧ WrOk p.hs c ∧ FolOk (wrote p c n) n ∧ p' = follow (wrote p c n) n ∧ d = .none
theorem R_Page__write_len : ∀ x ds x' d, R_Page__write x ds x' d → ds.length = 3 := by
  intro x ds x' d hh
  unfold R_Page__write at hh
  repeat (obtain ⟨_, hh⟩ := hh)
  subst_eqs
  rfl
theorem ok_Page__write {P : Program} {w : World} {K : PySem.W.Frag} {mg : Str → Option Value} {base : Heap} {f : Addr} {fd : FuncData} (F : DL.FnM K "_write" "Page._write" s_Page__write [] f fd) {C_History : Addr} (kC_History : Cls K C_History) (n_History_cells : NoAttr K C_History "cells") (n_History__done : NoAttr K C_History "_done") (n_History__undone : NoAttr K C_History "_undone") {C_Page : Addr} (kC_Page : Cls K C_Page) (n_Page_width : NoAttr K C_Page "width") (n_Page_height : NoAttr K C_Page "height") (n_Page__last_id : NoAttr K C_Page "_last_id") (n_Page__moment : NoAttr K C_Page "_moment") (n_Page__marked : NoAttr K C_Page "_marked") (n_Page__history : NoAttr K C_Page "_history") (h_History_write : DL.MetP P w K mg base 2 C_History "write" ["self", "after", "note"] (DL.spS K 3 (shapeH C_History) R_History_write)) (h_Page__follow : DL.MetP P w K mg base 2 C_Page "_follow" ["self", "marked"] (DL.spS K 5 (shapeP C_Page C_History) R_Page__follow)) (me : Meth K C_Page "_write" f) : DL.MetP P w K mg base 3 C_Page "_write" ["self", "changes", "marked"] (DL.spS K 5 (shapeP C_Page C_History) R_Page__write) := by
  refine DL.met_mk F sc_Page__write kC_Page me (DL.spS_len R_Page__write_len) (fun _ _ _ _ _ _ us hl => match us, hl with | [_, _, _], _ => rfl) (fun cdv A outer s H vs Q E hr h => ⟨_,
    (pss_cons (ps_expr (DL.pe_metP h_History_write hr (by decide) pass0 (DL.kFld (K := K) (pv 0)) (pa_cons (pv 1) (pa_cons (pv 2) pa_nil))))
     (pss_cons (ps_expr (DL.pe_metP h_Page__follow hr (by decide) pass0 (pv 0) (pa_cons (pv 2) pa_nil)))
     pss_nil)), ?_⟩)
  refine DL.run_spS h (Nat.le_trans (Nat.le_of_eq (DL.spS_len R_Page__write_len _ _ _ _ h)) (by decide)) fun N ad x ds hsh hR hq => ?_
  obtain ⟨x', d, c, n, rfl, hw, hf, rfl, rfl⟩ := hR
  simp only [envG, List.map, List.length, List.replicate, List.cons_append, List.nil_append, Nat.reduceAdd, Nat.reduceSub, Nat.sub_self]
  have S := segHP C_Page C_History x
  have ho : EvR (cnS K H N ad 5) [some (SV.r 0), some (SV.z c), some (SV.i (PyData.int n))] (shapeP C_Page C_History x) (tFld K (tVar 0) (Str.ofString "_history")) (fHP 0) := er_fldO (k := 0) (er_var rfl (by simp [shapeP])) rfl kC_Page n_Page__history rfl (Nat.le_of_ble_eq_true rfl)
  refine gs_doN (en_meth (G := fun hs => shapeP C_Page C_History { x with hs := hs }) (k := 0) (ds := [.z c, .i (.int n)]) (x := x.hs) S ho rfl rfl (by decide) (by intro s hs; simp at hs; rcases hs with rfl | rfl <;> exact True.intro) (eas_cons (show EvZ _ _ _ _ _ from ez_var rfl) (eas_cons (show EvX false _ _ _ _ _ from ex_var rfl) eas_nil)) ⟨_, _, c, .int n, rfl, hw, rfl, rfl⟩) ?_
  rintro _ _ ⟨_, ⟨c2, _, e1, _, rfl, rfl⟩, rfl⟩
  cases e1
  refine gs_doN (en_meth (k := 0) (ds := [.i (.int n)]) (x := wrote x c n) (segAt_self (shapeP_ok C_Page C_History)) (er_var rfl (by simp [shapeP])) rfl rfl (by decide) (fun s hs => by rw [List.mem_singleton.mp hs]; exact True.intro) (eas_cons (show EvX false _ _ _ _ _ from ex_var rfl) eas_nil) ⟨_, _, n, rfl, hf, rfl, rfl⟩) ?_
  rintro _ _ ⟨_, ⟨c2, e1, _, rfl, rfl⟩, rfl⟩
  cases e1
  exact g_endS (x' := follow (wrote x c n) n) hq (fun i o e => e) (shapeP_ok _ _ _) ⟨c, n, rfl, hw, hf, rfl, rfl⟩
-- END Page__write
theorem sc_Page__insert : FnScope ["self", "index", "row", "parent", "holder", "count", "node"] ["self", "index", "row"] (defScope s_Page__insert) := ⟨rfl, rfl, rfl, by decide +kernel, rfl, by decide +kernel, by decide +kernel⟩
def R_Page__insert : Pg → List SV → Pg → PyData → Prop := fun p ds p' d => ∃ (i : Nat) (r : Rw), ds = [.r 0, .i (.int (i : Int)), .i r.d] ∧ (∃ rp, InsOk p i r rp) ∧ p' = insP p i r ∧ d = .int (p.last + 1)
theorem R_Page__insert_len : ∀ x ds x' d, R_Page__insert x ds x' d → ds.length = 3 := by
  intro x ds x' d hh
  unfold R_Page__insert at hh
  repeat (obtain ⟨_, hh⟩ := hh)
  subst_eqs
  rfl
theorem ok_Page__insert {P : Program} {w : World} {K : PySem.W.Frag} {mg : Str → Option Value} {base : Heap} {f : Addr} {fd : FuncData} (F : DL.FnM K "_insert" "Page._insert" s_Page__insert [] f fd) {C_History : Addr} (kC_History : Cls K C_History) (n_History_cells : NoAttr K C_History "cells") (n_History__done : NoAttr K C_History "_done") (n_History__undone : NoAttr K C_History "_undone") {C_Page : Addr} (kC_Page : Cls K C_Page) (n_Page_width : NoAttr K C_Page "width") (n_Page_height : NoAttr K C_Page "height") (n_Page__last_id : NoAttr K C_Page "_last_id") (n_Page__moment : NoAttr K C_Page "_moment") (n_Page__marked : NoAttr K C_Page "_marked") (n_Page__history : NoAttr K C_Page "_history") (h_Page__row : DL.MetP P w K mg base 2 C_Page "_row" ["self", "node"] (spD K  (R_Page__row C_Page C_History))) (h_check_index : Cal P w K mg base 3 "check_index" ["index", "high"] (spD K  R_check_index)) (h__check_depth : Cal P w K mg base 1 "_check_depth" ["depth"] (spD K  R__check_depth)) (h_Page_depth : DL.MetP P w K mg base 3 C_Page "depth" ["self", "node"] (spD K  (R_Page_depth C_Page C_History))) (h_Page_nodes : DL.MetP P w K mg base 2 C_Page "nodes" ["self"] (spF K  (R_Page_nodes C_Page C_History))) (h_Page__write : DL.MetP P w K mg base 3 C_Page "_write" ["self", "changes", "marked"] (DL.spS K 5 (shapeP C_Page C_History) R_Page__write)) (h_with_child : Cal P w K mg base 2 "with_child" ["row", "index", "child"] (spD K  R_with_child)) (z_len : mg "len" = none) (c_PARENT : ∃ t, mg "PARENT" = some (.int 0 t)) (c_CHILDREN : ∃ t, mg "CHILDREN" = some (.int 6 t)) (c_MOST_NODES : ∃ t, mg "MOST_NODES" = some (.int 300 t)) (me : Meth K C_Page "_insert" f) : DL.MetP P w K mg base 4 C_Page "_insert" ["self", "index", "row"] (DL.spS K 5 (shapeP C_Page C_History) R_Page__insert) := by
  refine DL.met_mk F sc_Page__insert kC_Page me (DL.spS_len R_Page__insert_len) (fun _ _ _ _ _ _ us hl => match us, hl with | [_, _, _], _ => rfl) (fun cdv A outer s H vs Q E hr h => ⟨_,
    (pss_cons (ps_set (i := 3) sc_Page__insert.nd rfl (by first | exact Or.inl rfl | exact Or.inr rfl) (pe_ix (DL.kIxT (K := K)) (pv 2) (C8.pe_gc (v := .int 0) (by rfl) (DL.gci c_PARENT)) (fun _ _ => rfl)))
     (pss_cons (ps_set (i := 4) sc_Page__insert.nd rfl (by first | exact Or.inl rfl | exact Or.inr rfl) (DL.pe_metP h_Page__row hr (by decide) pass0 (pv 0) (pa_cons (pv 3) pa_nil)))
     (pss_cons (ps_expr (DL.pe_cal h_check_index hr (by decide) (by rfl) pass0 (pa_cons (pv 1) (pa_cons (pe_callB (DL.kLen (K := K)) (by rfl) z_len (by decide +kernel) (pa_cons (pe_ix (DL.kIxT (K := K)) (pv 4) (C8.pe_gc (v := .int 6) (by rfl) (DL.gci c_CHILDREN)) (fun _ _ => rfl)) pa_nil)) pa_nil))))
     (pss_cons (ps_expr (DL.pe_cal h__check_depth hr (by decide) (by rfl) pass0 (pa_cons (pe_op op_add (DL.pe_metP h_Page_depth hr (by decide) pass0 (pv 0) (pa_cons (pv 3) pa_nil)) pe_int) pa_nil)))
     (pss_cons (ps_set (i := 5) sc_Page__insert.nd rfl (by first | exact Or.inl rfl | exact Or.inr rfl) (pe_op op_add (pe_callB (DL.kLen (K := K)) (by rfl) z_len (by decide +kernel) (pa_cons (DL.pe_metP0 h_Page_nodes hr (by decide) pass0 (pv 0)) pa_nil)) pe_int))
     (pss_cons (ps_if (pt_cmpR op_gt (pv 5) (C8.pe_gc (v := .int 300) (by rfl) (DL.gci c_MOST_NODES)) (nomark _))
     (pss_cons DL.ps_never
     pss_nil)
     pss_nil)
     (pss_cons (DL.kFldAug (K := K) (pv 0) pe_int)
     (pss_cons (ps_set (i := 6) sc_Page__insert.nd rfl (by first | exact Or.inl rfl | exact Or.inr rfl) (DL.kFld (K := K) (pv 0)))
     (pss_cons (ps_expr (DL.pe_metP h_Page__write hr (by decide) pass0 (pv 0) (pa_cons (DL.pe_frz (pe_disp (pps_cons (pv 3) (DL.pe_cal h_with_child hr (by decide) (by rfl) pass0 (pa_cons (pv 4) (pa_cons (pv 1) (pa_cons (pv 6) pa_nil)))) (pps_cons (pv 6) (pv 2) pps_nil)) (by rfl) (by rfl) (by simp) (by decide))) (pa_cons (pv 6) pa_nil))))
     (pss_cons (ps_ret (pv 6))
     pss_nil)))))))))), ?_⟩)
  refine DL.run_spS h (Nat.le_trans (Nat.le_of_eq (DL.spS_len R_Page__insert_len _ _ _ _ h)) (by decide)) fun N ad x ds hsh hR hq => ?_
  obtain ⟨x', d, i, r, rfl, ⟨rp, hi⟩, rfl, rfl⟩ := hR
  simp only [envG, List.map, List.length, List.replicate, List.cons_append, List.nil_append, Nat.reduceAdd, Nat.reduceSub, Nat.sub_self]
  have hpar := hi.par
  have hok := hi.ok
  have hgp := (tr_get hok.rows).mp hpar
  have hnl := tr_nl hok.rows hpar
  have hix := hi.ix
  have hdep := hi.dep
  have hmany := hi.many
  have hwr := hi.wr
  have hfo := hi.fol
  obtain ⟨dep, W⟩ := hok.wf
  have hkl : rp.kids.length ≤ 300 := by
    have h1 := sub_le W hpar
    have h2 : rp.kids.length ≤ (sub x.t r.par).length := List.Nodup.length_le_of_subset (W.nd _ _ hpar) fun c hc => (mem_sub W hpar).mpr (Or.inr ⟨c, hc, by obtain ⟨rc, e, _⟩ := W.kid _ _ c hpar hc; exact sub_self W e⟩)
    omega
  have hself : ∀ e : Sy, e[0]? = some (some (.r 0)) → EvX true (cnS K H N ad 5) e (shapeP C_Page C_History x) (tVar 0) (pgD C_Page C_History x) := fun e he => ex_dat (er_var he (by simp [shapeP])) (pg_datS _ _ x)
  refine gs_asg (d := .int r.par) (ex_ixT (ds := r.l) (ex_var rfl) ex_int (atI_nat (j := 0) rfl)) ?_
  walk_at "nf"
  refine gs_asg (d := rp.d) (EvX.strong hnl (ex_methD (hself _ rfl) rfl (ea_cons (ex_var rfl) ea_nil) (R_Page__row_i hgp))) ?_
  walk_at "nf"
  refine gs_drop (w := true) (d := .none) (ex_call (ea_cons (ex_var rfl) (ea_cons (ex_lenTK (ex_ixT (ds := rp.l) (ex_var rfl) ex_int (atI_nat (j := 6) rfl))) ea_nil)) (R_check_index_i (by omega) (by rw [List.length_map]; omega))) ?_
  refine gs_drop (w := true) (d := .none) (ex_call (ea_cons (ex_i2 (ex_methD (hself _ rfl) rfl (ea_cons (ex_var rfl) ea_nil) (R_Page_depth_i hok hpar)) ex_int) ea_nil) (R__check_depth_i (by omega))) ?_
  refine gs_asg (d := .int (((sub x.t 1).length : Int) + 1)) (ex_i2 (EvX.is (ex_lenK (EvF.it (ef_methDW (hself _ rfl) rfl ea_nil (R_Page_nodes_i hok) (noLists_int _)))) (by simp)) ex_int) ?_
  walk_at "nf"
  refine gs_if (b := false) (EvT.is (et_test (ex_b2 (ex_var rfl) ex_int)) (decide_eq_false (by omega))) (fun z => nomatch z) fun _ => g_nextU ?_
  refine gs_fldAug (k := 0) (C := C_Page) (i := x.last) (j := 1) (er_var rfl (by simp [shapeP])) rfl kC_Page n_Page__last_id rfl ex_int (Nat.le_of_ble_eq_true rfl) ?_
  refine gs_is (os' := shapeP C_Page C_History { x with last := x.last + 1 }) rfl rfl ?_
  refine gs_asg (d := .int (x.last + 1)) (ex_fldO (k := 0) (er_var rfl (by simp [shapeP])) rfl kC_Page n_Page__last_id rfl) ?_
  walk_at "nf"
  refine gs_doN (en_meth (k := 0) (ds := [.z (insC x i r), .i (.int (x.last + 1))]) (x := { x with last := x.last + 1 }) (segAt_self (shapeP_ok C_Page C_History)) (er_var rfl (by simp [shapeP])) rfl rfl (by decide) (by intro s hs; simp at hs; rcases hs with rfl | rfl <;> exact True.intro) (eas_cons (show EvZ _ _ _ _ _ from ez_F ?z1) (eas_cons (show EvX false _ _ _ _ _ from ex_var rfl) eas_nil)) ⟨_, _, insC x i r, x.last + 1, rfl, hwr, hfo, rfl, rfl⟩) ?_
  case z1 =>
    rw [insC_eq hpar]
    refine ef_disp (kvs := [((.inl r.par : Key), ({ rp with kids := insL rp.kids i (x.last + 1) } : Rw).d), (.inl (x.last + 1), r.d)]) (ep_cons (kk := .inl r.par) (ex_var rfl) (ex_call (ea_cons (ex_var rfl) (ea_cons (ex_var rfl) (ea_cons (ex_var rfl) ea_nil))) (R_with_child_i (by omega))) (noList_kids hnl) (ep_cons (kk := .inl (x.last + 1)) (ex_var rfl) (ex_var rfl) hi.nl ep_nil)) ?_ (Nat.le_of_ble_eq_true rfl)
    have := hi.nd
    rwa [insC_eq hpar] at this
  rintro _ _ ⟨_, ⟨c2, _, e1, _, _, rfl, rfl⟩, rfl⟩
  cases e1
  exact gs_retS (x' := insP x i r) (ex_var rfl) hq (fun i o e => e) (shapeP_ok _ _ _) ⟨i, r, rfl, ⟨rp, hi⟩, rfl, rfl⟩
-- END Page__insert
theorem sc_Page_insert_box : FnScope ["self", "parent", "index", "name", "marks"] ["self", "parent", "index", "name", "marks"] (defScope s_Page_insert_box) := ⟨rfl, rfl, rfl, by decide +kernel, rfl, by decide +kernel, by decide +kernel⟩
def mkR (ms : List (List Nat)) : PyData := .tuple ((sortT ms).map dT)
def R_Page_insert_box : Pg → List SV → Pg → PyData → Prop := fun p ds p' d => ∃ (n : Int) (i : Nat) (l : List Nat) (ms : List (List Nat)), ds = [.r 0, .i (.int n), .i (.int (i : Int)), .i (dT l), .i (.tuple (ms.map dT))] ∧ (∃ rp, InsOk p i (bxR n l (mkR ms)) rp) ∧ Q.isW l ∧ (∀ m ∈ ms, Q.isW m) ∧ ms.length ≤ 1000 ∧ (sortT ms).length ≤ 8 ∧ p' = insP p i (bxR n l (mkR ms)) ∧ d = .int (p.last + 1)
theorem R_Page_insert_box_len : ∀ x ds x' d, R_Page_insert_box x ds x' d → ds.length = 5 := by
  intro x ds x' d hh
  unfold R_Page_insert_box at hh
  repeat (obtain ⟨_, hh⟩ := hh)
  subst_eqs
  rfl
theorem ok_Page_insert_box {P : Program} {w : World} {K : PySem.W.Frag} {mg : Str → Option Value} {base : Heap} {f : Addr} {fd : FuncData} (F : DL.FnM K "insert_box" "Page.insert_box" s_Page_insert_box [("marks", .ref (DL.kwAt ("Page", some "insert_box") "marks" K))] f fd) {C_History : Addr} (kC_History : Cls K C_History) (n_History_cells : NoAttr K C_History "cells") (n_History__done : NoAttr K C_History "_done") (n_History__undone : NoAttr K C_History "_undone") {C_Page : Addr} (kC_Page : Cls K C_Page) (n_Page_width : NoAttr K C_Page "width") (n_Page_height : NoAttr K C_Page "height") (n_Page__last_id : NoAttr K C_Page "_last_id") (n_Page__moment : NoAttr K C_Page "_moment") (n_Page__marked : NoAttr K C_Page "_marked") (n_Page__history : NoAttr K C_Page "_history") (h_Page__box : DL.MetP P w K mg base 3 C_Page "_box" ["self", "node"] (spD K  (R_Page__box C_Page C_History))) (h_check_word : Cal P w K mg base 2 "check_word" ["word"] (spD K  R_check_word)) (h_Page__insert : DL.MetP P w K mg base 4 C_Page "_insert" ["self", "index", "row"] (DL.spS K 5 (shapeP C_Page C_History) R_Page__insert)) (h_new_row : Cal P w K mg base 1 "new_row" ["parent", "kind", "content", "marks"] (spD K  R_new_row)) (h_read_marks : Cal P w K mg base 3 "read_marks" ["marks"] (spD K  R_read_marks)) (me : Meth K C_Page "insert_box" f) : DL.MetQ P w K mg base 5 C_Page "insert_box" ["self", "parent", "index", "name", "marks"] (DL.spS K 5 (shapeP C_Page C_History) R_Page_insert_box) [(4, [], [("marks", .ref (DL.kwAt ("Page", some "insert_box") "marks" K))])] := by
  refine DL.metQ_mk F sc_Page_insert_box kC_Page me (DL.spS_len R_Page_insert_box_len) (fun Fz hF => (List.mem_cons.mp hF).elim (fun e => e ▸ (form_mk F 4 [] [("marks", .ref (DL.kwAt ("Page", some "insert_box") "marks" K))] (by simp) (by simp) (fun D doc pm an cdv ct us mv ws h1 h2 h3 => match us, mv, ws, h1, h2, h3 with | [_, _, _, _], [_], [], _, _, _ => ⟨_, _, _, _, _, _, rfl, rfl, rfl⟩))) (fun hF => (fun _ hF => absurd hF (List.not_mem_nil)) Fz hF)) (fun cdv A outer s H vs Q E hr h => ⟨_,
    (pss_cons (ps_expr (DL.pe_metP h_Page__box hr (by decide) pass0 (pv 0) (pa_cons (pv 1) pa_nil)))
     (pss_cons (ps_expr (DL.pe_cal h_check_word hr (by decide) (by rfl) pass0 (pa_cons (pv 3) pa_nil)))
     (pss_cons (ps_ret (DL.pe_metP h_Page__insert hr (by decide) pass0 (pv 0) (pa_cons (pv 2) (pa_cons (DL.pe_cal h_new_row hr (by decide) (by rfl) pass0 (pa_cons (pv 1) (pa_cons pe_str (pa_cons (pv 3) (pa_cons (DL.pe_cal h_read_marks hr (by decide) (by rfl) pass0 (pa_cons (pv 4) pa_nil)) pa_nil))))) pa_nil))))
     pss_nil))), ?_⟩)
  refine DL.run_spS h (Nat.le_trans (Nat.le_of_eq (DL.spS_len R_Page_insert_box_len _ _ _ _ h)) (by decide)) fun N ad x ds hsh hR hq => ?_
  obtain ⟨x', d, n, i, l, ms, rfl, ⟨rp, hi⟩, hl, hm, hml, hm8, rfl, rfl⟩ := hR
  simp only [envG, List.map, List.length, List.replicate, List.cons_append, List.nil_append, Nat.reduceAdd, Nat.reduceSub, Nat.sub_self]
  have hgp : getA x.hs.cells (.inl n) = some rp.d := (tr_get hi.ok.rows).mp hi.par
  have hself : ∀ e : Sy, e[0]? = some (some (.r 0)) → EvX true (cnS K H N ad 5) e (shapeP C_Page C_History x) (tVar 0) (pgD C_Page C_History x) := fun e he => ex_dat (er_var he (by simp [shapeP])) (pg_datS _ _ x)
  refine gs_drop (w := true) (d := rp.d) (ex_methD (hself _ rfl) rfl (ea_cons (ex_var rfl) ea_nil) (R_Page__box_i hgp hi.box)) ?_
  refine gs_drop (w := true) (d := .none) (ex_call (ea_cons (ex_var rfl) ea_nil) (R_check_word_i hl)) ?_
  refine gs_retSN (en_meth (k := 0) (ds := [.i (.int (i : Int)), .i (bxR n l (mkR ms)).d]) (x := x) (segAt_self (shapeP_ok C_Page C_History)) (er_var rfl (by simp [shapeP])) rfl rfl (by decide) (by intro s hs; simp at hs; rcases hs with rfl | rfl <;> exact True.intro) (eas_cons (show EvX false _ _ _ _ _ from ex_var rfl) (eas_cons (show EvX false _ _ _ _ _ from ex_call (ea_cons (ex_var rfl) (ea_cons ex_str (ea_cons (ex_var rfl) (ea_cons (ex_call (ea_cons (ex_var rfl) ea_nil) (R_read_marks_i hm hml hm8)) ea_nil)))) R_new_row_i) eas_nil)) ⟨_, _, i, bxR n l (mkR ms), rfl, ⟨rp, hi⟩, rfl, rfl⟩) hq ?_
  rintro _ _ ⟨_, ⟨i2, r2, e1, _, rfl, rfl⟩, rfl⟩
  injection e1 with _ e1
  injection e1 with e2 e1
  injection e1 with e3 _
  injection e3 with e3
  have e3 := Rw.d_inj e3
  injection e2 with e2
  injection e2 with e2
  have e2 := Int.ofNat.inj e2
  subst e2 e3
  exact ⟨insP x i (bxR n l (mkR ms)), fun i o e => e, shapeP_ok _ _ _, n, i, l, ms, rfl, ⟨rp, hi⟩, hl, hm, hml, hm8, rfl, rfl⟩
-- END Page_insert_box
theorem sc_Page_insert_text : FnScope ["self", "parent", "index", "string"] ["self", "parent", "index", "string"] (defScope s_Page_insert_text) := ⟨rfl, rfl, rfl, by decide +kernel, rfl, by decide +kernel, by decide +kernel⟩
def R_Page_insert_text : Pg → List SV → Pg → PyData → Prop := fun p ds p' d => ∃ (n : Int) (i : Nat) (l : List Nat), ds = [.r 0, .i (.int n), .i (.int (i : Int)), .i (dT l)] ∧ (∃ rp, InsOk p i (txR n l) rp) ∧ okT l ∧ l.length ≤ 500 ∧ p' = insP p i (txR n l) ∧ d = .int (p.last + 1)
theorem R_Page_insert_text_len : ∀ x ds x' d, R_Page_insert_text x ds x' d → ds.length = 4 := by
  intro x ds x' d hh
  unfold R_Page_insert_text at hh
  repeat (obtain ⟨_, hh⟩ := hh)
  subst_eqs
  rfl
theorem ok_Page_insert_text {P : Program} {w : World} {K : PySem.W.Frag} {mg : Str → Option Value} {base : Heap} {f : Addr} {fd : FuncData} (F : DL.FnM K "insert_text" "Page.insert_text" s_Page_insert_text [] f fd) {C_History : Addr} (kC_History : Cls K C_History) (n_History_cells : NoAttr K C_History "cells") (n_History__done : NoAttr K C_History "_done") (n_History__undone : NoAttr K C_History "_undone") {C_Page : Addr} (kC_Page : Cls K C_Page) (n_Page_width : NoAttr K C_Page "width") (n_Page_height : NoAttr K C_Page "height") (n_Page__last_id : NoAttr K C_Page "_last_id") (n_Page__moment : NoAttr K C_Page "_moment") (n_Page__marked : NoAttr K C_Page "_marked") (n_Page__history : NoAttr K C_Page "_history") (h_Page__box : DL.MetP P w K mg base 3 C_Page "_box" ["self", "node"] (spD K  (R_Page__box C_Page C_History))) (h_check_string : Cal P w K mg base 3 "check_string" ["string"] (spD K  R_check_string)) (h_Page__insert : DL.MetP P w K mg base 4 C_Page "_insert" ["self", "index", "row"] (DL.spS K 5 (shapeP C_Page C_History) R_Page__insert)) (h_new_row : Cal P w K mg base 1 "new_row" ["parent", "kind", "content", "marks"] (spD K  R_new_row)) (me : Meth K C_Page "insert_text" f) : DL.MetP P w K mg base 5 C_Page "insert_text" ["self", "parent", "index", "string"] (DL.spS K 5 (shapeP C_Page C_History) R_Page_insert_text) := by
  refine DL.met_mk F sc_Page_insert_text kC_Page me (DL.spS_len R_Page_insert_text_len) (fun _ _ _ _ _ _ us hl => match us, hl with | [_, _, _, _], _ => rfl) (fun cdv A outer s H vs Q E hr h => ⟨_,
    (pss_cons (ps_expr (DL.pe_metP h_Page__box hr (by decide) pass0 (pv 0) (pa_cons (pv 1) pa_nil)))
     (pss_cons (ps_expr (DL.pe_cal h_check_string hr (by decide) (by rfl) pass0 (pa_cons (pv 3) pa_nil)))
     (pss_cons (ps_ret (DL.pe_metP h_Page__insert hr (by decide) pass0 (pv 0) (pa_cons (pv 2) (pa_cons (DL.pe_cal h_new_row hr (by decide) (by rfl) pass0 (pa_cons (pv 1) (pa_cons pe_str (pa_cons (pv 3) (pa_cons (pe_tup pa_nil) pa_nil))))) pa_nil))))
     pss_nil))), ?_⟩)
  refine DL.run_spS h (Nat.le_trans (Nat.le_of_eq (DL.spS_len R_Page_insert_text_len _ _ _ _ h)) (by decide)) fun N ad x ds hsh hR hq => ?_
  obtain ⟨x', d, n, i, l, rfl, ⟨rp, hi⟩, hl, hl5, rfl, rfl⟩ := hR
  simp only [envG, List.map, List.length, List.replicate, List.cons_append, List.nil_append, Nat.reduceAdd, Nat.reduceSub, Nat.sub_self]
  have hgp : getA x.hs.cells (.inl n) = some rp.d := (tr_get hi.ok.rows).mp hi.par
  have hself : ∀ e : Sy, e[0]? = some (some (.r 0)) → EvX true (cnS K H N ad 5) e (shapeP C_Page C_History x) (tVar 0) (pgD C_Page C_History x) := fun e he => ex_dat (er_var he (by simp [shapeP])) (pg_datS _ _ x)
  refine gs_drop (w := true) (d := rp.d) (ex_methD (hself _ rfl) rfl (ea_cons (ex_var rfl) ea_nil) (R_Page__box_i hgp hi.box)) ?_
  refine gs_drop (w := true) (d := .none) (ex_call (ea_cons (ex_var rfl) ea_nil) (R_check_string_i hl hl5)) ?_
  refine gs_retSN (en_meth (k := 0) (ds := [.i (.int (i : Int)), .i (txR n l).d]) (x := x) (segAt_self (shapeP_ok C_Page C_History)) (er_var rfl (by simp [shapeP])) rfl rfl (by decide) (by intro s hs; simp at hs; rcases hs with rfl | rfl <;> exact True.intro) (eas_cons (show EvX false _ _ _ _ _ from ex_var rfl) (eas_cons (show EvX false _ _ _ _ _ from ex_call (ea_cons (ex_var rfl) (ea_cons ex_str (ea_cons (ex_var rfl) (ea_cons (ex_tup ea_nil (Nat.zero_le _)) ea_nil)))) R_new_row_i) eas_nil)) ⟨_, _, i, txR n l, rfl, ⟨rp, hi⟩, rfl, rfl⟩) hq ?_
  rintro _ _ ⟨_, ⟨i2, r2, e1, _, rfl, rfl⟩, rfl⟩
  injection e1 with _ e1
  injection e1 with e2 e1
  injection e1 with e3 _
  injection e3 with e3
  have e3 := Rw.d_inj e3
  injection e2 with e2
  injection e2 with e2
  have e2 := Int.ofNat.inj e2
  subst e2 e3
  exact ⟨insP x i (txR n l), fun i o e => e, shapeP_ok _ _ _, n, i, l, rfl, ⟨rp, hi⟩, hl, hl5, rfl, rfl⟩
-- END Page_insert_text
theorem sc__law_cell : FnScope ["script", "k"] ["script", "k"] (defScope s__law_cell) := ⟨rfl, rfl, rfl, by decide +kernel, rfl, by decide +kernel, by decide +kernel⟩
abbrev dI (ns : List Int) : PyData := .list (ns.map PyData.int)
def R__law_cell : List PyData → PyData → Prop := fun ds d => ∃ (ns : List Int) (k : Nat), ds = [dI ns, .int (k : Int)] ∧ d = .int (ns.getD k 0)
theorem R__law_cell_i {ns : List Int} (k : Nat) : R__law_cell [dI ns, .int (k : Int)] (.int (ns.getD k 0)) := ⟨ns, k, rfl, rfl⟩
local macro_rules | `(tactic| walk_at "r2") => `(tactic| first | exact R__law_cell_i 0 | exact R__law_cell_i 1 | exact R__law_cell_i 2 | exact R__law_cell_i 3 | exact R__law_cell_i _)
theorem R__law_cell_len : ∀ ds d, R__law_cell ds d → ds.length = 2 := by
  intro ds d hh
  unfold R__law_cell at hh
  repeat (obtain ⟨_, hh⟩ := hh)
  subst_eqs
  rfl
theorem ok__law_cell {P : Program} {w : World} {K : PySem.W.Frag} {mg : Str → Option Value} {base : Heap} {f : Addr} {fd : FuncData} (F : FnP K "_law_cell" s__law_cell f fd) (g0 : mg "_law_cell" = some (.ref f)) (z_len : mg "len" = none) : Cal P w K mg base 1 "_law_cell" ["script", "k"] (spD K  R__law_cell) := by
  refine cal_mk F sc__law_cell g0 (spD_len R__law_cell_len) (fun _ _ _ _ _ _ us hl => match us, hl with | [_, _], _ => rfl) (fun cdv A outer s H vs Q E hr h => ⟨_,
    (pss_cons (ps_if (pt_cmpR op_lt (pv 1) (pe_callB (DL.kLen (K := K)) (by rfl) z_len (by decide +kernel) (pa_cons (pv 0) pa_nil)) (nomark _))
     (pss_cons (ps_ret (pe_ix (DL.kIxL (K := K)) (pv 0) (pv 1) (fun _ _ => rfl)))
     pss_nil)
     pss_nil)
     (pss_cons (ps_ret pe_int)
     pss_nil)), ?_⟩)
  refine run_spD h fun N ds d hR hq => ?_
  obtain ⟨ns, k, rfl, rfl⟩ := hR
  walk_at "env"
  refine' gs_if ?t1 ?a1 ?b1
  case t1 => walk_at "t"
  case a1 =>
    intro hb
    have hk : k < ns.length := by simpa using hb
    refine' gs_ret ?r1 (by assumption)
    refine' ex_ixLD ?va ?vb ?vc
    case va => walk_at "v"
    case vb => walk_at "v"
    case vc => exact atI_nat (by rw [List.getElem?_map, List.getD_eq_getElem?_getD, List.getElem?_eq_getElem hk]; rfl)
  case b1 =>
    intro hb
    have hk : ¬ k < ns.length := by simpa using hb
    refine g_nextU ?_
    have e : ns.getD k 0 = 0 := by rw [List.getD_eq_getElem?_getD, List.getElem?_eq_none (by omega)]; rfl
    rw [e] at hq
    walk_at "ret"
-- END _law_cell
theorem sc__law_mixed : FnScope ["cell", "once", "twice"] ["cell"] (defScope s__law_mixed) := ⟨rfl, rfl, rfl, by decide +kernel, rfl, by decide +kernel, by decide +kernel⟩
def mixA (c : Int) : Int := (c * 48271 + 12345) % 2147483647
def mixB (a : Int) : Int := (a * a + 7 * a + 3) % 2305843009213693951
def mixed (c : Int) : Int := (mixB (mixA c) * 16807 + 11) % 2305843009213693951
theorem mixed_nn (c : Int) : 0 ≤ mixed c := Int.emod_nonneg _ (by decide)
def R__law_mixed : List PyData → PyData → Prop := fun ds d => ∃ c, ds = [.int c] ∧ d = .int (mixed c)
theorem R__law_mixed_i {c : Int} : R__law_mixed [.int c] (.int (mixed c)) := ⟨c, rfl, rfl⟩
local macro_rules | `(tactic| walk_at "r2") => `(tactic| exact R__law_mixed_i)
theorem R__law_mixed_len : ∀ ds d, R__law_mixed ds d → ds.length = 1 := by
  intro ds d hh
  unfold R__law_mixed at hh
  repeat (obtain ⟨_, hh⟩ := hh)
  subst_eqs
  rfl
theorem ok__law_mixed {P : Program} {w : World} {K : PySem.W.Frag} {mg : Str → Option Value} {base : Heap} {f : Addr} {fd : FuncData} (F : FnP K "_law_mixed" s__law_mixed f fd) (g0 : mg "_law_mixed" = some (.ref f)) (z_int : mg "int" = none) : Cal P w K mg base 1 "_law_mixed" ["cell"] (spD K  R__law_mixed) := by
  refine cal_mk F sc__law_mixed g0 (spD_len R__law_mixed_len) (fun _ _ _ _ _ _ us hl => match us, hl with | [_], _ => rfl) (fun cdv A outer s H vs Q E hr h => ⟨_,
    (pss_cons (ps_set (i := 1) sc__law_mixed.nd rfl (by first | exact Or.inl rfl | exact Or.inr rfl) (pe_op op_mod (pe_callTy call_int1 (by rfl) z_int (by decide +kernel) (pa_cons (pe_op op_add (pe_op op_mul (pv 0) pe_int) pe_int) pa_nil)) pe_int))
     (pss_cons (ps_set (i := 2) sc__law_mixed.nd rfl (by first | exact Or.inl rfl | exact Or.inr rfl) (pe_op op_mod (pe_callTy call_int1 (by rfl) z_int (by decide +kernel) (pa_cons (pe_op op_add (pe_op op_add (pe_op op_mul (pv 1) (pv 1)) (pe_op op_mul pe_int (pv 1))) pe_int) pa_nil)) pe_int))
     (pss_cons (ps_ret (pe_op op_mod (pe_callTy call_int1 (by rfl) z_int (by decide +kernel) (pa_cons (pe_op op_add (pe_op op_mul (pv 2) pe_int) pe_int) pa_nil)) pe_int))
     pss_nil))), ?_⟩)
  refine run_spD h fun N ds d hR hq => ?_
  obtain ⟨c, rfl, rfl⟩ := hR
  walk_at "env"
  refine' gs_asg (d := .int (mixA c)) ?va ?_
  case va => walk_at "v"
  walk_at "nf"
  have h1 : 0 ≤ mixA c := Int.emod_nonneg _ (by decide)
  have h2 : mixA c < 2147483647 := Int.emod_lt_of_pos _ (by decide)
  refine' gs_asg (d := .int (mixB (mixA c))) ?vb ?_
  case vb => walk_at "v"
  walk_at "nf"
  walk_at "ret"
-- END _law_mixed
theorem sc__law_source : FnScope ["cell"] ["cell"] (defScope s__law_source) := ⟨rfl, rfl, rfl, by decide +kernel, rfl, by decide +kernel, by decide +kernel⟩
def source (c : Int) : Int := if 10 ^ 18 ≤ c then c - 10 ^ 18 else mixed c
theorem source_nn (c : Int) : 0 ≤ source c := by
  unfold source
  split
  · omega
  · exact mixed_nn c
def R__law_source : List PyData → PyData → Prop := fun ds d => ∃ c, ds = [.int c] ∧ d = .int (source c)
theorem R__law_source_i {c : Int} : R__law_source [.int c] (.int (source c)) := ⟨c, rfl, rfl⟩
local macro_rules | `(tactic| walk_at "r2") => `(tactic| exact R__law_source_i)
theorem R__law_source_len : ∀ ds d, R__law_source ds d → ds.length = 1 := by
  intro ds d hh
  unfold R__law_source at hh
  repeat (obtain ⟨_, hh⟩ := hh)
  subst_eqs
  rfl
theorem ok__law_source {P : Program} {w : World} {K : PySem.W.Frag} {mg : Str → Option Value} {base : Heap} {f : Addr} {fd : FuncData} (F : FnP K "_law_source" s__law_source f fd) (g0 : mg "_law_source" = some (.ref f)) (h__law_mixed : Cal P w K mg base 1 "_law_mixed" ["cell"] (spD K  R__law_mixed)) : Cal P w K mg base 2 "_law_source" ["cell"] (spD K  R__law_source) := by
  refine cal_mk F sc__law_source g0 (spD_len R__law_source_len) (fun _ _ _ _ _ _ us hl => match us, hl with | [_], _ => rfl) (fun cdv A outer s H vs Q E hr h => ⟨_,
    (pss_cons (ps_if (pt_cmpR op_ge (pv 0) (pe_op op_pow pe_int pe_int) (nomark _))
     (pss_cons (ps_ret (pe_op op_sub (pv 0) (pe_op op_pow pe_int pe_int)))
     pss_nil)
     pss_nil)
     (pss_cons (ps_ret (DL.pe_cal h__law_mixed hr (by decide) (by rfl) pass0 (pa_cons (pv 0) pa_nil)))
     pss_nil)), ?_⟩)
  refine run_spD h fun N ds d hR hq => ?_
  obtain ⟨c, rfl, rfl⟩ := hR
  walk_at "env"
  refine' gs_if ?t1 ?a1 ?b1
  case t1 => walk_at "t"
  case a1 =>
    intro hb
    have hb' : 10 ^ 18 ≤ c := by simpa using hb
    rw [show source c = c - 10 ^ 18 by unfold source; rw [if_pos hb']] at hq
    walk_at "ret"
  case b1 =>
    intro hb
    have hb' : ¬ 10 ^ 18 ≤ c := by simpa using hb
    rw [show source c = mixed c by unfold source; rw [if_neg hb']] at hq
    refine g_nextU ?_
    walk_at "ret"
-- END _law_source
theorem sc__law_is_integer : FnScope ["value"] ["value"] (defScope s__law_is_integer) := ⟨rfl, rfl, rfl, by decide +kernel, rfl, by decide +kernel, by decide +kernel⟩
def R__law_is_integer : List PyData → PyData → Prop := fun ds d => ∃ i, ds = [.int i] ∧ d = .bool true
theorem R__law_is_integer_i {i : Int} : R__law_is_integer [.int i] (.bool true) := ⟨i, rfl, rfl⟩
local macro_rules | `(tactic| walk_at "r2") => `(tactic| exact R__law_is_integer_i)
theorem R__law_is_integer_len : ∀ ds d, R__law_is_integer ds d → ds.length = 1 := by
  intro ds d hh
  unfold R__law_is_integer at hh
  repeat (obtain ⟨_, hh⟩ := hh)
  subst_eqs
  rfl
theorem ok__law_is_integer {P : Program} {w : World} {K : PySem.W.Frag} {mg : Str → Option Value} {base : Heap} {f : Addr} {fd : FuncData} (F : FnP K "_law_is_integer" s__law_is_integer f fd) (g0 : mg "_law_is_integer" = some (.ref f)) (z_isinstance : mg "isinstance" = none) (z_int : mg "int" = none) (z_bool : mg "bool" = none) : Cal P w K mg base 1 "_law_is_integer" ["value"] (spD K  R__law_is_integer) := by
  refine cal_mk F sc__law_is_integer g0 (spD_len R__law_is_integer_len) (fun _ _ _ _ _ _ us hl => match us, hl with | [_], _ => rfl) (fun cdv A outer s H vs Q E hr h => ⟨_,
    (pss_cons (ps_ret (pe_and (pe_callB (DL.kIsi (K := K)) (by rfl) z_isinstance (by decide +kernel) (pa_cons (pv 0) (pa_cons (pe_bltn (v := .ty "int") (u := .type "int") (by rfl) z_int (by decide +kernel) rfl) pa_nil))) (pe_one (pe_not (pe_callB (DL.kIsi (K := K)) (by rfl) z_isinstance (by decide +kernel) (pa_cons (pv 0) (pa_cons (pe_bltn (v := .ty "bool") (u := .type "bool") (by rfl) z_bool (by decide +kernel) rfl) pa_nil)))))))
     pss_nil), ?_⟩)
  refine run_spD h fun N ds d hR hq => ?_
  obtain ⟨i, rfl, rfl⟩ := hR
  walk_at "env"
  walk_at "ret"
-- END _law_is_integer
theorem sc__law_plain_style : FnScope ["scale", "style", "name"] ["scale"] (defScope s__law_plain_style) := ⟨rfl, rfl, rfl, by decide +kernel, rfl, by decide +kernel, by decide +kernel⟩
def R__law_plain_style : List PyData → Tb → Prop := fun ds m => ∃ s : Int, ds = [.int s] ∧ m = plainS s
theorem R__law_plain_style_i {s : Int} : R__law_plain_style [.int s] (plainS s) := ⟨s, rfl, rfl⟩
local macro_rules | `(tactic| walk_at "r2") => `(tactic| exact R__law_plain_style_i)
theorem R__law_plain_style_len : ∀ ds d, R__law_plain_style ds d → ds.length = 1 := by
  intro ds d hh
  unfold R__law_plain_style at hh
  repeat (obtain ⟨_, hh⟩ := hh)
  subst_eqs
  rfl
theorem ok__law_plain_style {P : Program} {w : World} {K : PySem.W.Frag} {mg : Str → Option Value} {base : Heap} {f : Addr} {fd : FuncData} (F : FnP K "_law_plain_style" s__law_plain_style f fd) (g0 : mg "_law_plain_style" = some (.ref f)) : Cal P w K mg base 1 "_law_plain_style" ["scale"] (DL.spI K ekS evS R__law_plain_style) := by
  refine cal_mk F sc__law_plain_style g0 (DL.spI_len R__law_plain_style_len) (fun _ _ _ _ _ _ us hl => match us, hl with | [_], _ => rfl) (fun cdv A outer s H vs Q E hr h => ⟨_,
    (pss_cons (ps_set (i := 1) sc__law_plain_style.nd rfl (by first | exact Or.inl rfl | exact Or.inr rfl) (pe_disp (pps_cons pe_str pe_str (pps_cons pe_str pe_str (pps_cons pe_str pe_int (pps_cons pe_str pe_int (pps_cons pe_str pe_str (pps_cons pe_str pe_str pps_nil)))))) (by rfl) (by rfl) (by simp) (by decide)))
     (pss_cons (ps_dput (DL.u1 hr.units) (pv 1) pe_str pe_int rfl)
     (pss_cons (ps_dput (DL.u1 hr.units) (pv 1) pe_str pe_int rfl)
     (pss_cons (ps_for PassesOwn.never rfl (DL.kPiL (K := K) (pe_lst (pa_cons pe_str (pa_cons pe_str (pa_cons pe_str (pa_cons pe_str (pa_cons pe_str (pa_cons pe_str (pa_cons pe_str pa_nil))))))))) (pg_name (i := 2) sc__law_plain_style.nd rfl (by first | exact Or.inl rfl | exact Or.inr rfl))
     (pss_cons (ps_dput (DL.u1 hr.units) (pv 1) (pv 2) pe_int rfl)
     pss_nil))
     (pss_cons (ps_for PassesOwn.never rfl (DL.kPiL (K := K) (pe_lst (pa_cons pe_str (pa_cons pe_str (pa_cons pe_str (pa_cons pe_str pa_nil)))))) (pg_name (i := 2) sc__law_plain_style.nd rfl (by first | exact Or.inl rfl | exact Or.inr rfl))
     (pss_cons (ps_dput (DL.u1 hr.units) (pv 1) (pv 2) pe_int rfl)
     pss_nil))
     (pss_cons (ps_for PassesOwn.never rfl (DL.kPiL (K := K) (pe_lst (pa_cons pe_str (pa_cons pe_str (pa_cons pe_str pa_nil))))) (pg_name (i := 2) sc__law_plain_style.nd rfl (by first | exact Or.inl rfl | exact Or.inr rfl))
     (pss_cons (ps_dput (DL.u1 hr.units) (pv 1) (pv 2) pe_int rfl)
     pss_nil))
     (pss_cons (ps_dput (DL.u1 hr.units) (pv 1) pe_str (pv 0) rfl)
     (pss_cons (ps_dput (DL.u1 hr.units) (pv 1) pe_str pe_str rfl)
     (pss_cons (ps_dput (DL.u1 hr.units) (pv 1) pe_str pe_int rfl)
     (pss_cons (ps_dput (DL.u1 hr.units) (pv 1) pe_str pe_str rfl)
     (pss_cons (ps_ret (pv 1))
     pss_nil))))))))))), ?_⟩)
  refine DL.run_spI h fun N ds d hR hq => ?_
  obtain ⟨s, rfl, rfl⟩ := hR
  walk_at "env"
  refine' gs_asgF (o := .dK (eS plain0)) (EvF.is (ef_disp (kvs := plain0.map fun p => (ekS p.1, p.2)) ?a1 ?a2 ?a3) ?a4) ?_
  case a1 => exact ep_cons ex_str ex_str rfl (ep_cons ex_str ex_str rfl (ep_cons ex_str ex_int rfl (ep_cons ex_str ex_int rfl (ep_cons ex_str ex_str rfl (ep_cons ex_str ex_str rfl ep_nil)))))
  case a2 => decide +kernel
  case a3 => decide
  case a4 => rw [List.map_map]; rfl
  walk_at "nf"
  have hput : ∀ (m : Tb) (k : Str) (d : PyData), SO.dK (setA (eS m) (ekS k) (SV.i d)) = SO.dK (eS (setA m k d)) := fun m k d => by rw [setA_eS]
  have hlen : ∀ (m : Tb) (n : Nat), TbOk m n → n < 100000 → (eS m).length < 100000 := fun m n h hn => by rw [List.length_map]; exact Nat.lt_of_le_of_lt h.len hn
  have o0 := plain0_ok
  refine gs_dput (s := .i (.int 0)) (kk := ekS "least_width") (show EvX false _ _ _ _ _ from ex_int) (er_var rfl (Nat.lt_succ_self 0)) rfl ex_str (hlen _ _ o0 (by decide)) ?_
  refine gs_is (os' := [.dK (eS (setA plain0 "least_width" (.int 0)))]) rfl (congrArg (fun z => [z]) (hput _ _ _)) ?_
  have o1 := o0.set "least_width" (same_int 0)
  refine gs_dput (s := .i (.int 1000)) (kk := ekS "most_width") (show EvX false _ _ _ _ _ from ex_int) (er_var rfl (Nat.lt_succ_self 0)) rfl ex_str (hlen _ _ o1 (by decide)) ?_
  refine gs_is (os' := [.dK (eS (setA (setA plain0 "least_width" (.int 0)) "most_width" (.int 1000)))]) rfl (congrArg (fun z => [z]) (hput _ _ _)) ?_
  have o2 := o1.set "most_width" (same_int 1000)
  have ePL : plainS s = setA (setA (setA (setA (puts (puts (puts (setA (setA plain0 "least_width" (.int 0)) "most_width" (.int 1000)) nm1 (.int 0)) nm2 (.int 0)) nm3 (.int 1)) "size" (.int s)) "align" (.str "left")) "columns" (.int 2)) "clip" (.str "open") := rfl
  rw [ePL] at hq
  generalize setA (setA plain0 "least_width" (.int 0)) "most_width" (.int 1000) = m0 at *
  have nlen : ∀ pre post : List Str, ∀ ks, ks = pre ++ post → pre.length ≤ ks.length := fun pre post ks h => by rw [h, List.length_append]; omega
  refine' gs_forD (xs := nm1) (f := PyData.str) (fun _ => [some (.i (.int s)), some (.r 0), none]) (fun pre => [.dK (eS (puts m0 pre (.int 0)))]) ?b1 (fun c' _ ad σ H ok => ok) (fun fr up pre x post hx => ⟨_, _, tg_name, ?b2⟩) ?b3
  case b1 =>
    refine' EvF.ev (ds := nm1.map PyData.str) (ef_lst (EvA.ss ?b4) (Nat.le_of_ble_eq_true rfl))
    case b4 => exact ea_cons ex_str (ea_cons ex_str (ea_cons ex_str (ea_cons ex_str (ea_cons ex_str (ea_cons ex_str (ea_cons ex_str ea_nil))))))
  case b2 =>
    walk_at "nf"
    have hpl := nlen _ _ _ hx
    have hc : nm1.length = 7 := rfl
    refine gs_dput (s := .i (.int 0)) (kk := ekS x) (show EvX false _ _ _ _ _ from ex_int) (er_var rfl (Nat.lt_succ_self 0)) rfl (ex_var rfl) (hlen _ _ (o2.puts (same_int 0) pre) (by omega)) ?_
    refine gs_is (os' := [.dK (eS (puts m0 (pre ++ [x]) (.int 0)))]) rfl (by rw [puts_snoc]; exact congrArg (fun z => [z]) (hput _ _ _)) ?_
    refine g_next ?_; intro ad σ H ok; exact (show OkE _ _ _ _ _ from ⟨ad, ok.weak (by simp [WkE]) (by simp [WkO]) (by simp [EnLt, SvLt]) ⟨soLt_dK, True.intro⟩ (by simp)⟩)
  case b3 =>
  have o3 := o2.puts (same_int 0) nm1
  generalize puts m0 nm1 (.int 0) = m1 at *
  refine' gs_forD (xs := nm2) (f := PyData.str) (fun _ => [some (.i (.int s)), some (.r 0), none]) (fun pre => [.dK (eS (puts m1 pre (.int 0)))]) ?c1 (fun c' _ ad σ H ok => ok) (fun fr up pre x post hx => ⟨_, _, tg_name, ?c2⟩) ?c3
  case c1 =>
    refine' EvF.ev (ds := nm2.map PyData.str) (ef_lst (EvA.ss ?c4) (Nat.le_of_ble_eq_true rfl))
    case c4 => exact ea_cons ex_str (ea_cons ex_str (ea_cons ex_str (ea_cons ex_str ea_nil)))
  case c2 =>
    walk_at "nf"
    have hpl := nlen _ _ _ hx
    have hc : nm2.length = 4 := rfl
    have hc1 : nm1.length = 7 := rfl
    refine gs_dput (s := .i (.int 0)) (kk := ekS x) (show EvX false _ _ _ _ _ from ex_int) (er_var rfl (Nat.lt_succ_self 0)) rfl (ex_var rfl) (hlen _ _ (o3.puts (same_int 0) pre) (by omega)) ?_
    refine gs_is (os' := [.dK (eS (puts m1 (pre ++ [x]) (.int 0)))]) rfl (by rw [puts_snoc]; exact congrArg (fun z => [z]) (hput _ _ _)) ?_
    refine g_next ?_; intro ad σ H ok; exact (show OkE _ _ _ _ _ from ⟨ad, ok.weak (by simp [WkE]) (by simp [WkO]) (by simp [EnLt, SvLt]) ⟨soLt_dK, True.intro⟩ (by simp)⟩)
  case c3 =>
  have o4 := o3.puts (same_int 0) nm2
  generalize puts m1 nm2 (.int 0) = m2 at *
  refine' gs_forD (xs := nm3) (f := PyData.str) (fun _ => [some (.i (.int s)), some (.r 0), none]) (fun pre => [.dK (eS (puts m2 pre (.int 1)))]) ?d1 (fun c' _ ad σ H ok => ok) (fun fr up pre x post hx => ⟨_, _, tg_name, ?d2⟩) ?d3
  case d1 =>
    refine' EvF.ev (ds := nm3.map PyData.str) (ef_lst (EvA.ss ?d4) (Nat.le_of_ble_eq_true rfl))
    case d4 => exact ea_cons ex_str (ea_cons ex_str (ea_cons ex_str ea_nil))
  case d2 =>
    walk_at "nf"
    have hpl := nlen _ _ _ hx
    have hc : nm3.length = 3 := rfl
    have hc1 : nm1.length = 7 := rfl
    have hc2 : nm2.length = 4 := rfl
    refine gs_dput (s := .i (.int 1)) (kk := ekS x) (show EvX false _ _ _ _ _ from ex_int) (er_var rfl (Nat.lt_succ_self 0)) rfl (ex_var rfl) (hlen _ _ (o4.puts (same_int 1) pre) (by omega)) ?_
    refine gs_is (os' := [.dK (eS (puts m2 (pre ++ [x]) (.int 1)))]) rfl (by rw [puts_snoc]; exact congrArg (fun z => [z]) (hput _ _ _)) ?_
    refine g_next ?_; intro ad σ H ok; exact (show OkE _ _ _ _ _ from ⟨ad, ok.weak (by simp [WkE]) (by simp [WkO]) (by simp [EnLt, SvLt]) ⟨soLt_dK, True.intro⟩ (by simp)⟩)
  case d3 =>
  have hc : nm3.length = 3 := rfl
  have hc1 : nm1.length = 7 := rfl
  have hc2 : nm2.length = 4 := rfl
  have o5 := o4.puts (same_int 1) nm3
  generalize puts m2 nm3 (.int 1) = m3 at *
  refine gs_dput (s := .i (.int s)) (kk := ekS "size") (show EvX false _ _ _ _ _ from ex_var rfl) (er_var rfl (Nat.lt_succ_self 0)) rfl ex_str (hlen _ _ o5 (by omega)) ?_
  refine gs_is (os' := [.dK (eS (setA m3 "size" (.int s)))]) rfl (congrArg (fun z => [z]) (hput _ _ _)) ?_
  have o6 := o5.set "size" (same_int s)
  generalize setA m3 "size" (.int s) = m4 at *
  refine gs_dput (s := .i (.str "left")) (kk := ekS "align") (show EvX false _ _ _ _ _ from ex_str) (er_var rfl (Nat.lt_succ_self 0)) rfl ex_str (hlen _ _ o6 (by omega)) ?_
  refine gs_is (os' := [.dK (eS (setA m4 "align" (.str "left")))]) rfl (congrArg (fun z => [z]) (hput _ _ _)) ?_
  have o7 := o6.set "align" (same_str "left")
  generalize setA m4 "align" (.str "left") = m5 at *
  refine gs_dput (s := .i (.int 2)) (kk := ekS "columns") (show EvX false _ _ _ _ _ from ex_int) (er_var rfl (Nat.lt_succ_self 0)) rfl ex_str (hlen _ _ o7 (by omega)) ?_
  refine gs_is (os' := [.dK (eS (setA m5 "columns" (.int 2)))]) rfl (congrArg (fun z => [z]) (hput _ _ _)) ?_
  have o8 := o7.set "columns" (same_int 2)
  generalize setA m5 "columns" (.int 2) = m6 at *
  refine gs_dput (s := .i (.str "open")) (kk := ekS "clip") (show EvX false _ _ _ _ _ from ex_str) (er_var rfl (Nat.lt_succ_self 0)) rfl ex_str (hlen _ _ o8 (by omega)) ?_
  refine gs_is (os' := [.dK (eS (setA m6 "clip" (.str "open")))]) rfl (congrArg (fun z => [z]) (hput _ _ _)) ?_
  refine' gs_retI (ev := evS) (er_var rfl (Nat.lt_succ_self 0)) rfl (fun _ => id) hq
-- END _law_plain_style
theorem sc__law_text_style : FnScope ["scale"] ["scale"] (defScope s__law_text_style) := ⟨rfl, rfl, rfl, by decide +kernel, rfl, by decide +kernel, by decide +kernel⟩
def textS (s : Int) : Tb := [("color", .int 1), ("size", .int s), ("lead", .int 0), ("align", .str "left")]
def R__law_text_style : List PyData → Tb → Prop := fun ds m => ∃ s : Int, ds = [.int s] ∧ m = textS s
theorem R__law_text_style_i {s : Int} : R__law_text_style [.int s] (textS s) := ⟨s, rfl, rfl⟩
local macro_rules | `(tactic| walk_at "r2") => `(tactic| exact R__law_text_style_i)
theorem R__law_text_style_len : ∀ ds d, R__law_text_style ds d → ds.length = 1 := by
  intro ds d hh
  unfold R__law_text_style at hh
  repeat (obtain ⟨_, hh⟩ := hh)
  subst_eqs
  rfl
theorem ok__law_text_style {P : Program} {w : World} {K : PySem.W.Frag} {mg : Str → Option Value} {base : Heap} {f : Addr} {fd : FuncData} (F : FnP K "_law_text_style" s__law_text_style f fd) (g0 : mg "_law_text_style" = some (.ref f)) : Cal P w K mg base 1 "_law_text_style" ["scale"] (DL.spI K ekS evS R__law_text_style) := by
  refine cal_mk F sc__law_text_style g0 (DL.spI_len R__law_text_style_len) (fun _ _ _ _ _ _ us hl => match us, hl with | [_], _ => rfl) (fun cdv A outer s H vs Q E hr h => ⟨_,
    (pss_cons (ps_ret (pe_disp (pps_cons pe_str pe_int (pps_cons pe_str (pv 0) (pps_cons pe_str pe_int (pps_cons pe_str pe_str pps_nil)))) (by rfl) (by rfl) (by simp) (by decide)))
     pss_nil), ?_⟩)
  refine DL.run_spI h fun N ds d hR hq => ?_
  obtain ⟨s, rfl, rfl⟩ := hR
  walk_at "env"
  refine gs_retIF (ek := ekS) (ev := evS) (m := textS s) (EvF.is (ef_disp (kvs := (textS s).map fun p => (ekS p.1, p.2)) ?a1 ?a2 ?a3) ?a4) (fun _ h => h) hq
  case a1 => exact ep_cons ex_str ex_int rfl (ep_cons ex_str (ex_var rfl) rfl (ep_cons ex_str ex_int rfl (ep_cons ex_str ex_str rfl ep_nil)))
  case a2 => exact (show ([ekS "color", ekS "size", ekS "lead", ekS "align"] : List Key).Nodup by decide +kernel)
  case a3 => exact Nat.le_of_ble_eq_true rfl
  case a4 => rw [List.map_map]; rfl
-- END _law_text_style
theorem sc__law_box_style : FnScope ["number", "scale", "style", "part"] ["number", "scale"] (defScope s__law_box_style) := ⟨rfl, rfl, rfl, by decide +kernel, rfl, by decide +kernel, by decide +kernel⟩
@[irreducible] def boxOf (n s : Int) : Tb :=
  boxT s (vdT.getD (n % 7).toNat .none) (vpT.getD (n / 7 % 5).toNat .none) ((vwT (n / 35)).getD (n / 35 % 5).toNat .none)
    (tabI (lwT (n / 35 / 5005)) (n / 35 / 5005 % 4)) (tabI (mwT (n / 35 / 5005)) (n / 35 / 5005 / 4 % 4))
    (tabI (m1T (mixed (n / 35 / 5005))) (mixed (n / 35 / 5005) % 3)) (tabI (m2T (mixed (n / 35 / 5005))) (mixed (n / 35 / 5005) / 303 % 3))
    (tabI (m1T (mixed (n / 35 / 5005) / 91809)) (mixed (n / 35 / 5005) / 91809 % 3)) (tabI (m2T (mixed (n / 35 / 5005) / 91809)) (mixed (n / 35 / 5005) / 91809 / 303 % 3))
    (mixed (n / 35 / 5005) / 91809 / 91809 % 101) (1 + mixed (n / 35 / 5005) / 91809 / 9272709 % 10)
theorem md (a : Int) {b : Int} (h : 0 < b) : 0 ≤ a % b ∧ a % b < b := ⟨Int.emod_nonneg _ (by omega), Int.emod_lt_of_pos _ h⟩
theorem vd_ok (n : Int) : Same1 (vdT.getD (n % 7).toNat .none) := same_all vdT_same (md n (b := 7) (by decide)).1 (md n (b := 7) (by decide)).2
theorem vp_ok (n : Int) : Same1 (vpT.getD (n % 5).toNat .none) := same_all vpT_same (md n (b := 5) (by decide)).1 (md n (b := 5) (by decide)).2
theorem vw_ok (n : Int) : Same1 ((vwT n).getD (n % 5).toNat .none) := same_all (vwT_same n) (md n (b := 5) (by decide)).1 (md n (b := 5) (by decide)).2
def R__law_box_style : List PyData → Tb → Prop := fun ds m => ∃ n s : Int, ds = [.int n, .int s] ∧ m = boxOf n s
theorem R__law_box_style_i {n s : Int} : R__law_box_style [.int n, .int s] (boxOf n s) := ⟨n, s, rfl, rfl⟩
local macro_rules | `(tactic| walk_at "r2") => `(tactic| exact R__law_box_style_i)
theorem ok__law_box_style {P : Program} {w : World} {K : PySem.W.Frag} {mg : Str → Option Value} {base : Heap} {f : Addr} {fd : FuncData} (F : FnP K "_law_box_style" s__law_box_style f fd) (g0 : mg "_law_box_style" = some (.ref f)) (h__law_plain_style : Cal P w K mg base 1 "_law_plain_style" ["scale"] (DL.spI K ekS evS R__law_plain_style)) (h__law_mixed : Cal P w K mg base 1 "_law_mixed" ["cell"] (spD K  R__law_mixed)) (z_int : mg "int" = none) : Cal P w K mg base 2 "_law_box_style" ["number", "scale"] (DL.spI K ekS evS R__law_box_style) := by
  refine cal_mk F sc__law_box_style g0 (DL.spI_len (fun ds d hh => by obtain ⟨n, s, h1, _⟩ := hh; rw [h1]; rfl)) (fun _ _ _ _ _ _ us hl => match us, hl with | [_, _], _ => rfl) (fun cdv A outer s H vs Q E hr h => ⟨_,
    (pss_cons (ps_set (i := 2) sc__law_box_style.nd rfl (by first | exact Or.inl rfl | exact Or.inr rfl) (DL.pe_cal h__law_plain_style hr (by decide) (by rfl) pass0 (pa_cons (pv 1) pa_nil)))
     (pss_cons (ps_dput (DL.u1 hr.units) (pv 2) pe_str (pe_ix (DL.kIxL (K := K)) (pe_lst (pa_cons pe_str (pa_cons pe_str (pa_cons pe_str (pa_cons pe_str (pa_cons pe_str (pa_cons pe_str (pa_cons pe_str pa_nil)))))))) (pe_op op_mod (pe_callTy call_int1 (by rfl) z_int (by decide +kernel) (pa_cons (pv 0) pa_nil)) pe_int) (fun _ _ => rfl)) rfl)
     (pss_cons (ps_dput (DL.u1 hr.units) (pv 2) pe_str (pe_ix (DL.kIxL (K := K)) (pe_lst (pa_cons pe_str (pa_cons pe_str (pa_cons pe_str (pa_cons pe_str (pa_cons pe_str pa_nil)))))) (pe_op op_mod (pe_callTy call_int1 (by rfl) z_int (by decide +kernel) (pa_cons (pe_op op_fdiv (pv 0) pe_int) pa_nil)) pe_int) (fun _ _ => rfl)) rfl)
     (pss_cons (ps_set (i := 0) sc__law_box_style.nd rfl (by first | exact Or.inl rfl | exact Or.inr rfl) (pe_op op_fdiv (pv 0) pe_int))
     (pss_cons (ps_set (i := 3) sc__law_box_style.nd rfl (by first | exact Or.inl rfl | exact Or.inr rfl) (pe_tup (pa_cons pe_str (pa_cons (pe_op op_mod (pe_callTy call_int1 (by rfl) z_int (by decide +kernel) (pa_cons (pe_op op_fdiv (pv 0) pe_int) pa_nil)) pe_int) pa_nil))))
     (pss_cons (ps_dput (DL.u1 hr.units) (pv 2) pe_str (pe_ix (DL.kIxL (K := K)) (pe_lst (pa_cons pe_str (pa_cons pe_str (pa_cons pe_str (pa_cons (pe_op op_mod (pe_callTy call_int1 (by rfl) z_int (by decide +kernel) (pa_cons (pe_op op_fdiv (pv 0) pe_int) pa_nil)) pe_int) (pa_cons (pv 3) pa_nil)))))) (pe_op op_mod (pe_callTy call_int1 (by rfl) z_int (by decide +kernel) (pa_cons (pv 0) pa_nil)) pe_int) (fun _ _ => rfl)) rfl)
     (pss_cons (ps_set (i := 0) sc__law_box_style.nd rfl (by first | exact Or.inl rfl | exact Or.inr rfl) (pe_op op_fdiv (pv 0) pe_int))
     (pss_cons (ps_dput (DL.u1 hr.units) (pv 2) pe_str (pe_ix (DL.kIxL (K := K)) (pe_lst (pa_cons pe_int (pa_cons pe_int (pa_cons (pe_op op_mod (pe_callTy call_int1 (by rfl) z_int (by decide +kernel) (pa_cons (pe_op op_fdiv (pv 0) pe_int) pa_nil)) pe_int) (pa_cons (pe_op op_mod (pe_callTy call_int1 (by rfl) z_int (by decide +kernel) (pa_cons (pe_op op_fdiv (pv 0) pe_int) pa_nil)) pe_int) pa_nil))))) (pe_op op_mod (pe_callTy call_int1 (by rfl) z_int (by decide +kernel) (pa_cons (pv 0) pa_nil)) pe_int) (fun _ _ => rfl)) rfl)
     (pss_cons (ps_dput (DL.u1 hr.units) (pv 2) pe_str (pe_ix (DL.kIxL (K := K)) (pe_lst (pa_cons pe_int (pa_cons pe_int (pa_cons (pe_op op_mod (pe_callTy call_int1 (by rfl) z_int (by decide +kernel) (pa_cons (pe_op op_fdiv (pv 0) pe_int) pa_nil)) pe_int) (pa_cons (pe_op op_mod (pe_callTy call_int1 (by rfl) z_int (by decide +kernel) (pa_cons (pe_op op_fdiv (pv 0) pe_int) pa_nil)) pe_int) pa_nil))))) (pe_op op_mod (pe_callTy call_int1 (by rfl) z_int (by decide +kernel) (pa_cons (pe_op op_fdiv (pv 0) pe_int) pa_nil)) pe_int) (fun _ _ => rfl)) rfl)
     (pss_cons (ps_set (i := 0) sc__law_box_style.nd rfl (by first | exact Or.inl rfl | exact Or.inr rfl) (DL.pe_cal h__law_mixed hr (by decide) (by rfl) pass0 (pa_cons (pv 0) pa_nil)))
     (pss_cons (ps_dput (DL.u1 hr.units) (pv 2) pe_str (pe_ix (DL.kIxL (K := K)) (pe_lst (pa_cons pe_int (pa_cons (pe_op op_mod (pe_callTy call_int1 (by rfl) z_int (by decide +kernel) (pa_cons (pe_op op_fdiv (pv 0) pe_int) pa_nil)) pe_int) (pa_cons (pe_op op_mod (pe_callTy call_int1 (by rfl) z_int (by decide +kernel) (pa_cons (pe_op op_fdiv (pv 0) pe_int) pa_nil)) pe_int) pa_nil)))) (pe_op op_mod (pe_callTy call_int1 (by rfl) z_int (by decide +kernel) (pa_cons (pv 0) pa_nil)) pe_int) (fun _ _ => rfl)) rfl)
     (pss_cons (ps_dput (DL.u1 hr.units) (pv 2) pe_str (pe_ix (DL.kIxL (K := K)) (pe_lst (pa_cons pe_int (pa_cons (pe_op op_mod (pe_callTy call_int1 (by rfl) z_int (by decide +kernel) (pa_cons (pe_op op_fdiv (pv 0) pe_int) pa_nil)) pe_int) (pa_cons (pe_op op_mod (pe_callTy call_int1 (by rfl) z_int (by decide +kernel) (pa_cons (pe_op op_fdiv (pv 0) pe_int) pa_nil)) pe_int) pa_nil)))) (pe_op op_mod (pe_callTy call_int1 (by rfl) z_int (by decide +kernel) (pa_cons (pe_op op_fdiv (pv 0) pe_int) pa_nil)) pe_int) (fun _ _ => rfl)) rfl)
     (pss_cons (ps_set (i := 0) sc__law_box_style.nd rfl (by first | exact Or.inl rfl | exact Or.inr rfl) (pe_op op_fdiv (pv 0) pe_int))
     (pss_cons (ps_dput (DL.u1 hr.units) (pv 2) pe_str (pe_ix (DL.kIxL (K := K)) (pe_lst (pa_cons pe_int (pa_cons (pe_op op_mod (pe_callTy call_int1 (by rfl) z_int (by decide +kernel) (pa_cons (pe_op op_fdiv (pv 0) pe_int) pa_nil)) pe_int) (pa_cons (pe_op op_mod (pe_callTy call_int1 (by rfl) z_int (by decide +kernel) (pa_cons (pe_op op_fdiv (pv 0) pe_int) pa_nil)) pe_int) pa_nil)))) (pe_op op_mod (pe_callTy call_int1 (by rfl) z_int (by decide +kernel) (pa_cons (pv 0) pa_nil)) pe_int) (fun _ _ => rfl)) rfl)
     (pss_cons (ps_dput (DL.u1 hr.units) (pv 2) pe_str (pe_ix (DL.kIxL (K := K)) (pe_lst (pa_cons pe_int (pa_cons (pe_op op_mod (pe_callTy call_int1 (by rfl) z_int (by decide +kernel) (pa_cons (pe_op op_fdiv (pv 0) pe_int) pa_nil)) pe_int) (pa_cons (pe_op op_mod (pe_callTy call_int1 (by rfl) z_int (by decide +kernel) (pa_cons (pe_op op_fdiv (pv 0) pe_int) pa_nil)) pe_int) pa_nil)))) (pe_op op_mod (pe_callTy call_int1 (by rfl) z_int (by decide +kernel) (pa_cons (pe_op op_fdiv (pv 0) pe_int) pa_nil)) pe_int) (fun _ _ => rfl)) rfl)
     (pss_cons (ps_dput (DL.u1 hr.units) (pv 2) pe_str pe_int rfl)
     (pss_cons (ps_dput (DL.u1 hr.units) (pv 2) pe_str (pe_op op_mod (pe_callTy call_int1 (by rfl) z_int (by decide +kernel) (pa_cons (pe_op op_fdiv (pv 0) pe_int) pa_nil)) pe_int) rfl)
     (pss_cons (ps_dput (DL.u1 hr.units) (pv 2) pe_str (pe_op op_add pe_int (pe_op op_mod (pe_callTy call_int1 (by rfl) z_int (by decide +kernel) (pa_cons (pe_op op_fdiv (pv 0) pe_int) pa_nil)) pe_int)) rfl)
     (pss_cons (ps_ret (pv 2))
     pss_nil))))))))))))))))))), ?_⟩)
  refine DL.run_spI h fun N ds d hR hq => ?_
  obtain ⟨n, s, rfl, em⟩ := hR
  rw [em] at hq
  clear em
  walk_at "env"
  have hput : ∀ (m : Tb) (k : Str) (d : PyData), SO.dK (setA (eS m) (ekS k) (SV.i d)) = SO.dK (eS (setA m k d)) := fun m k d => by rw [setA_eS]
  have hlen : ∀ (m : Tb) (n : Nat), TbOk m n → n < 100000 → (eS m).length < 100000 := fun m n h hn => by rw [List.length_map]; exact Nat.lt_of_le_of_lt h.len hn
  refine' gs_asgF (o := .dK (eS (plainS s))) (ef_callI (ek := ekS) (ev := evS) (ea_cons (ex_var rfl) ea_nil) R__law_plain_style_i) ?_
  walk_at "nf"
  have o0 := plainS_ok s
  unfold boxOf boxT at hq
  generalize plainS s = m0 at *
  refine' gs_dput (s := .i (vdT.getD (n % 7).toNat .none)) (kk := ekS "display") (show EvX false _ _ _ _ _ from ex_tabD (ds := vdT) (EvF.it (ef_lst (EvA.ss (ds := vdT) ?ha1) (Nat.le_of_ble_eq_true rfl))) ?hv2 (md (n) (by decide)).1 (md (n) (by decide)).2) (er_var rfl (Nat.lt_succ_self 0)) rfl ex_str (hlen _ _ o0 (by decide)) ?_
  case ha1 => unfold vdT; walk_at "a"
  case hv2 => walk_at "v"
  refine gs_is (os' := [.dK (eS (setA m0 "display" (vdT.getD (n % 7).toNat .none)))]) rfl (congrArg (fun z => [z]) (hput _ _ _)) ?_
  have o1 := o0.set "display" (d := (vdT.getD (n % 7).toNat .none)) (vd_ok n)
  generalize setA m0 "display" (vdT.getD (n % 7).toNat .none) = m1 at *
  refine' gs_dput (s := .i (vpT.getD (n / 7 % 5).toNat .none)) (kk := ekS "place") (show EvX false _ _ _ _ _ from ex_tabD (ds := vpT) (EvF.it (ef_lst (EvA.ss (ds := vpT) ?ha3) (Nat.le_of_ble_eq_true rfl))) ?hv4 (md (n / 7) (by decide)).1 (md (n / 7) (by decide)).2) (er_var rfl (Nat.lt_succ_self 0)) rfl ex_str (hlen _ _ o1 (by decide)) ?_
  case ha3 => unfold vpT; walk_at "a"
  case hv4 => walk_at "v"
  refine gs_is (os' := [.dK (eS (setA m1 "place" (vpT.getD (n / 7 % 5).toNat .none)))]) rfl (congrArg (fun z => [z]) (hput _ _ _)) ?_
  have o2 := o1.set "place" (d := (vpT.getD (n / 7 % 5).toNat .none)) (vp_ok (n / 7))
  generalize setA m1 "place" (vpT.getD (n / 7 % 5).toNat .none) = m2 at *
  walk_at "set"
  walk_at "nf"
  generalize n / 35 = n1 at *
  refine' gs_asg (d := .tuple [.str "part", .int (n1 / 5 % 101)]) ?pp ?_
  case pp => walk_at "v"
  walk_at "nf"
  refine' gs_dput (s := .i ((vwT n1).getD (n1 % 5).toNat .none)) (kk := ekS "width") (show EvX false _ _ _ _ _ from ex_tabD (ds := (vwT n1)) (EvF.it (ef_lst (EvA.ss (ds := (vwT n1)) ?ha5) (Nat.le_of_ble_eq_true rfl))) ?hv6 (md n1 (b := 5) (by decide)).1 (md n1 (b := 5) (by decide)).2) (er_var rfl (Nat.lt_succ_self 0)) rfl ex_str (hlen _ _ o2 (by decide)) ?_
  case ha5 => unfold vwT; walk_at "a"
  case hv6 => walk_at "v"
  refine gs_is (os' := [.dK (eS (setA m2 "width" ((vwT n1).getD (n1 % 5).toNat .none)))]) rfl (congrArg (fun z => [z]) (hput _ _ _)) ?_
  have o3 := o2.set "width" (d := ((vwT n1).getD (n1 % 5).toNat .none)) (vw_ok n1)
  generalize setA m2 "width" ((vwT n1).getD (n1 % 5).toNat .none) = m3 at *
  walk_at "set"
  walk_at "nf"
  generalize n1 / 5005 = n2 at *
  refine' gs_dput (s := .i (.int (tabI (lwT n2) (n2 % 4)))) (kk := ekS "least_width") (show EvX false _ _ _ _ _ from EvX.is (ex_tabD (ds := (lwT n2).map PyData.int) (EvF.it (ef_lst (EvA.ss (ds := (lwT n2).map PyData.int) ?ha7) (Nat.le_of_ble_eq_true rfl))) ?hv8 (md (n2) (b := 4) (by decide)).1 (md (n2) (b := 4) (by decide)).2) (tabI_at (md (n2) (b := 4) (by decide)).1 (md (n2) (b := 4) (by decide)).2)) (er_var rfl (Nat.lt_succ_self 0)) rfl ex_str (hlen _ _ o3 (by decide)) ?_
  case ha7 => unfold lwT; simp only [List.map_cons, List.map_nil]; walk_at "a"
  case hv8 => walk_at "v"
  refine gs_is (os' := [.dK (eS (setA m3 "least_width" (.int (tabI (lwT n2) (n2 % 4)))))]) rfl (congrArg (fun z => [z]) (hput _ _ _)) ?_
  have o4 := o3.set "least_width" (d := (.int (tabI (lwT n2) (n2 % 4)))) (same_int _)
  generalize setA m3 "least_width" (.int (tabI (lwT n2) (n2 % 4))) = m4 at *
  refine' gs_dput (s := .i (.int (tabI (mwT n2) (n2 / 4 % 4)))) (kk := ekS "most_width") (show EvX false _ _ _ _ _ from EvX.is (ex_tabD (ds := (mwT n2).map PyData.int) (EvF.it (ef_lst (EvA.ss (ds := (mwT n2).map PyData.int) ?ha9) (Nat.le_of_ble_eq_true rfl))) ?hv10 (md (n2 / 4) (b := 4) (by decide)).1 (md (n2 / 4) (b := 4) (by decide)).2) (tabI_at (md (n2 / 4) (b := 4) (by decide)).1 (md (n2 / 4) (b := 4) (by decide)).2)) (er_var rfl (Nat.lt_succ_self 0)) rfl ex_str (hlen _ _ o4 (by decide)) ?_
  case ha9 => unfold mwT; simp only [List.map_cons, List.map_nil]; walk_at "a"
  case hv10 => walk_at "v"
  refine gs_is (os' := [.dK (eS (setA m4 "most_width" (.int (tabI (mwT n2) (n2 / 4 % 4)))))]) rfl (congrArg (fun z => [z]) (hput _ _ _)) ?_
  have o5 := o4.set "most_width" (d := (.int (tabI (mwT n2) (n2 / 4 % 4)))) (same_int _)
  generalize setA m4 "most_width" (.int (tabI (mwT n2) (n2 / 4 % 4))) = m5 at *
  refine gs_asg (d := .int (mixed n2)) (ex_call (ea_cons (ex_var rfl) ea_nil) R__law_mixed_i) ?_
  walk_at "nf"
  generalize mixed n2 = n3 at *
  refine' gs_dput (s := .i (.int (tabI (m1T n3) (n3 % 3)))) (kk := ekS "margin_left") (show EvX false _ _ _ _ _ from EvX.is (ex_tabD (ds := (m1T n3).map PyData.int) (EvF.it (ef_lst (EvA.ss (ds := (m1T n3).map PyData.int) ?ha11) (Nat.le_of_ble_eq_true rfl))) ?hv12 (md (n3) (b := 3) (by decide)).1 (md (n3) (b := 3) (by decide)).2) (tabI_at (md (n3) (b := 3) (by decide)).1 (md (n3) (b := 3) (by decide)).2)) (er_var rfl (Nat.lt_succ_self 0)) rfl ex_str (hlen _ _ o5 (by decide)) ?_
  case ha11 => unfold m1T; simp only [List.map_cons, List.map_nil]; walk_at "a"
  case hv12 => walk_at "v"
  refine gs_is (os' := [.dK (eS (setA m5 "margin_left" (.int (tabI (m1T n3) (n3 % 3)))))]) rfl (congrArg (fun z => [z]) (hput _ _ _)) ?_
  have o6 := o5.set "margin_left" (d := (.int (tabI (m1T n3) (n3 % 3)))) (same_int _)
  generalize setA m5 "margin_left" (.int (tabI (m1T n3) (n3 % 3))) = m6 at *
  refine' gs_dput (s := .i (.int (tabI (m2T n3) (n3 / 303 % 3)))) (kk := ekS "margin_right") (show EvX false _ _ _ _ _ from EvX.is (ex_tabD (ds := (m2T n3).map PyData.int) (EvF.it (ef_lst (EvA.ss (ds := (m2T n3).map PyData.int) ?ha13) (Nat.le_of_ble_eq_true rfl))) ?hv14 (md (n3 / 303) (b := 3) (by decide)).1 (md (n3 / 303) (b := 3) (by decide)).2) (tabI_at (md (n3 / 303) (b := 3) (by decide)).1 (md (n3 / 303) (b := 3) (by decide)).2)) (er_var rfl (Nat.lt_succ_self 0)) rfl ex_str (hlen _ _ o6 (by decide)) ?_
  case ha13 => unfold m2T; simp only [List.map_cons, List.map_nil]; walk_at "a"
  case hv14 => walk_at "v"
  refine gs_is (os' := [.dK (eS (setA m6 "margin_right" (.int (tabI (m2T n3) (n3 / 303 % 3)))))]) rfl (congrArg (fun z => [z]) (hput _ _ _)) ?_
  have o7 := o6.set "margin_right" (d := (.int (tabI (m2T n3) (n3 / 303 % 3)))) (same_int _)
  generalize setA m6 "margin_right" (.int (tabI (m2T n3) (n3 / 303 % 3))) = m7 at *
  walk_at "set"
  walk_at "nf"
  generalize n3 / 91809 = n4 at *
  refine' gs_dput (s := .i (.int (tabI (m1T n4) (n4 % 3)))) (kk := ekS "padding") (show EvX false _ _ _ _ _ from EvX.is (ex_tabD (ds := (m1T n4).map PyData.int) (EvF.it (ef_lst (EvA.ss (ds := (m1T n4).map PyData.int) ?ha15) (Nat.le_of_ble_eq_true rfl))) ?hv16 (md (n4) (b := 3) (by decide)).1 (md (n4) (b := 3) (by decide)).2) (tabI_at (md (n4) (b := 3) (by decide)).1 (md (n4) (b := 3) (by decide)).2)) (er_var rfl (Nat.lt_succ_self 0)) rfl ex_str (hlen _ _ o7 (by decide)) ?_
  case ha15 => unfold m1T; simp only [List.map_cons, List.map_nil]; walk_at "a"
  case hv16 => walk_at "v"
  refine gs_is (os' := [.dK (eS (setA m7 "padding" (.int (tabI (m1T n4) (n4 % 3)))))]) rfl (congrArg (fun z => [z]) (hput _ _ _)) ?_
  have o8 := o7.set "padding" (d := (.int (tabI (m1T n4) (n4 % 3)))) (same_int _)
  generalize setA m7 "padding" (.int (tabI (m1T n4) (n4 % 3))) = m8 at *
  refine' gs_dput (s := .i (.int (tabI (m2T n4) (n4 / 303 % 3)))) (kk := ekS "border") (show EvX false _ _ _ _ _ from EvX.is (ex_tabD (ds := (m2T n4).map PyData.int) (EvF.it (ef_lst (EvA.ss (ds := (m2T n4).map PyData.int) ?ha17) (Nat.le_of_ble_eq_true rfl))) ?hv18 (md (n4 / 303) (b := 3) (by decide)).1 (md (n4 / 303) (b := 3) (by decide)).2) (tabI_at (md (n4 / 303) (b := 3) (by decide)).1 (md (n4 / 303) (b := 3) (by decide)).2)) (er_var rfl (Nat.lt_succ_self 0)) rfl ex_str (hlen _ _ o8 (by decide)) ?_
  case ha17 => unfold m2T; simp only [List.map_cons, List.map_nil]; walk_at "a"
  case hv18 => walk_at "v"
  refine gs_is (os' := [.dK (eS (setA m8 "border" (.int (tabI (m2T n4) (n4 / 303 % 3)))))]) rfl (congrArg (fun z => [z]) (hput _ _ _)) ?_
  have o9 := o8.set "border" (d := (.int (tabI (m2T n4) (n4 / 303 % 3)))) (same_int _)
  generalize setA m8 "border" (.int (tabI (m2T n4) (n4 / 303 % 3))) = m9 at *
  refine' gs_dput (s := .i (.int 5)) (kk := ekS "margin_top") (show EvX false _ _ _ _ _ from ex_int) (er_var rfl (Nat.lt_succ_self 0)) rfl ex_str (hlen _ _ o9 (by decide)) ?_
  refine gs_is (os' := [.dK (eS (setA m9 "margin_top" (.int 5)))]) rfl (congrArg (fun z => [z]) (hput _ _ _)) ?_
  have o10 := o9.set "margin_top" (d := (.int 5)) (same_int _)
  generalize setA m9 "margin_top" (.int 5) = m10 at *
  refine' gs_dput (s := .i (.int (n4 / 91809 % 101))) (kk := ekS "gap") (show EvX false _ _ _ _ _ from ?hg19) (er_var rfl (Nat.lt_succ_self 0)) rfl ex_str (hlen _ _ o10 (by decide)) ?_
  case hg19 => walk_at "v"
  refine gs_is (os' := [.dK (eS (setA m10 "gap" (.int (n4 / 91809 % 101))))]) rfl (congrArg (fun z => [z]) (hput _ _ _)) ?_
  have o11 := o10.set "gap" (d := (.int (n4 / 91809 % 101))) (same_int (n4 / 91809 % 101))
  generalize setA m10 "gap" (.int (n4 / 91809 % 101)) = m11 at *
  refine' gs_dput (s := .i (.int (1 + n4 / 9272709 % 10))) (kk := ekS "columns") (show EvX false _ _ _ _ _ from ?hcol) (er_var rfl (Nat.lt_succ_self 0)) rfl ex_str (hlen _ _ o11 (by decide)) ?_
  case hcol => walk_at "v"
  refine gs_is (os' := [.dK (eS (setA m11 "columns" (.int (1 + n4 / 9272709 % 10))))]) rfl (congrArg (fun z => [z]) (hput _ _ _)) ?_
  refine' gs_retI (ev := evS) (er_var rfl (Nat.lt_succ_self 0)) rfl (fun _ => id) hq
-- END _law_box_style
theorem sc__law_string : FnScope ["number", "chars", "text", "many", "k", "pick"] ["number"] (defScope s__law_string) := ⟨rfl, rfl, rfl, by decide +kernel, rfl, by decide +kernel, by decide +kernel⟩
def CQ1 : List Nat := [32, 33, 34, 35, 36, 38, 39, 40, 41, 42, 43, 44, 45, 46, 47, 48, 49, 50, 51, 52, 53, 54, 55, 56, 57, 58, 59, 60, 61, 62, 63, 64, 65, 66, 67, 68, 69, 70, 71, 72, 73, 74, 75, 76, 77, 78, 79, 80, 81, 82, 83, 84, 85, 86, 87, 88, 89, 90, 91, 92, 93, 94, 95, 96]
def CQ2 : List Nat := [97, 98, 99, 100, 101, 102, 103, 104, 105, 106, 107, 108, 109, 110, 111, 112, 113, 114, 115, 116, 117, 118, 119, 120, 121, 122, 123, 124, 125, 126, 10]
def CQ : List Nat := CQ1 ++ CQ2
theorem CQ_len : CQ.length = 95 := by decide
theorem CQ_ok : ∀ j : Nat, j < 95 → okC (CQ.getD j 0) = true := by decide +kernel
def nSt (n : Int) : Nat → Int
  | 0 => n
  | i + 1 => mixed (nSt n i + (i : Int))
def stp (m : Int) : List Nat := if m % 6 = 0 then [32] else if m % 6 = 1 then ([10] : List Nat).drop (m / 6 % 2).toNat ++ [32] else [CQ.getD (m / 6 % 95).toNat 0]
def txS (n : Int) : Nat → List Nat
  | 0 => []
  | i + 1 => txS n i ++ stp (nSt n (i + 1))
theorem stp_len (m : Int) : (stp m).length ≤ 2 := by
  unfold stp
  split
  · decide
  · split
    · rw [List.length_append, List.length_drop]; simp <;> omega
    · simp
theorem stp_ok (m : Int) : okT (stp m) := by
  unfold stp
  split
  · intro x hx; rw [List.mem_singleton.mp hx]; rfl
  · split
    · intro x hx
      rcases List.mem_append.mp hx with z | z
      · rw [List.mem_singleton.mp (List.mem_of_mem_drop z)]; rfl
      · rw [List.mem_singleton.mp z]; rfl
    · intro x hx
      rw [List.mem_singleton.mp hx]
      have h1 := Int.emod_nonneg (m / 6) (show (95 : Int) ≠ 0 by decide)
      have h2 := Int.emod_lt_of_pos (m / 6) (show (0 : Int) < 95 by decide)
      exact CQ_ok _ (by omega)
theorem txS_len (n : Int) : ∀ i, (txS n i).length ≤ 2 * i
  | 0 => Nat.le_refl _
  | i + 1 => by
    have h1 := txS_len n i
    have h2 := stp_len (nSt n (i + 1))
    unfold txS
    rw [List.length_append]
    omega
theorem txS_ok (n : Int) : ∀ i, okT (txS n i)
  | 0 => fun x hx => absurd hx List.not_mem_nil
  | i + 1 => fun x hx => by
    unfold txS at hx
    rcases List.mem_append.mp hx with z | z
    · exact txS_ok n i x z
    · exact stp_ok _ x z
@[irreducible] def strOf (n : Int) : List Nat := txS n (n % 11).toNat
theorem strOf_len (n : Int) : (strOf n).length ≤ 20 := by
  unfold strOf
  have h1 := txS_len n (n % 11).toNat
  have h2 := Int.emod_lt_of_pos n (show (0 : Int) < 11 by decide)
  omega
theorem strOf_ok (n : Int) : okT (strOf n) := by unfold strOf; exact txS_ok n _
def R__law_string : List PyData → PyData → Prop := fun ds d => ∃ n : Int, ds = [.int n] ∧ d = dT (strOf n)
theorem R__law_string_i {n : Int} : R__law_string [.int n] (dT (strOf n)) := ⟨n, rfl, rfl⟩
local macro_rules | `(tactic| walk_at "r2") => `(tactic| exact R__law_string_i)
theorem R__law_string_len : ∀ ds d, R__law_string ds d → ds.length = 1 := by
  intro ds d hh
  unfold R__law_string at hh
  repeat (obtain ⟨_, hh⟩ := hh)
  subst_eqs
  rfl
theorem ok__law_string {P : Program} {w : World} {K : PySem.W.Frag} {mg : Str → Option Value} {base : Heap} {f : Addr} {fd : FuncData} (F : FnP K "_law_string" s__law_string f fd) (g0 : mg "_law_string" = some (.ref f)) (h__law_mixed : Cal P w K mg base 1 "_law_mixed" ["cell"] (spD K  R__law_mixed)) (z_int : mg "int" = none) (z_range : mg "range" = none) : Cal P w K mg base 2 "_law_string" ["number"] (spD K  R__law_string) := by
  refine cal_mk F sc__law_string g0 (spD_len R__law_string_len) (fun _ _ _ _ _ _ us hl => match us, hl with | [_], _ => rfl) (fun cdv A outer s H vs Q E hr h => ⟨_,
    (pss_cons (ps_set (i := 1) sc__law_string.nd rfl (by first | exact Or.inl rfl | exact Or.inr rfl) pe_str)
     (pss_cons (ps_set (i := 1) sc__law_string.nd rfl (by first | exact Or.inl rfl | exact Or.inr rfl) (pe_op op_add_str (pv 1) pe_str))
     (pss_cons (ps_set (i := 2) sc__law_string.nd rfl (by first | exact Or.inl rfl | exact Or.inr rfl) pe_str)
     (pss_cons (ps_set (i := 3) sc__law_string.nd rfl (by first | exact Or.inl rfl | exact Or.inr rfl) (pe_op op_mod (pe_callTy call_int1 (by rfl) z_int (by decide +kernel) (pa_cons (pv 0) pa_nil)) pe_int))
     (pss_cons (ps_for PassesOwn.never rfl (pi_range1 (by rfl) z_range (pa_cons (pv 3) pa_nil)) (pg_name (i := 4) sc__law_string.nd rfl (by first | exact Or.inl rfl | exact Or.inr rfl))
     (pss_cons (ps_set (i := 0) sc__law_string.nd rfl (by first | exact Or.inl rfl | exact Or.inr rfl) (DL.pe_cal h__law_mixed hr (by decide) (by rfl) pass0 (pa_cons (pe_op op_add (pv 0) (pv 4)) pa_nil)))
     (pss_cons (ps_set (i := 5) sc__law_string.nd rfl (by first | exact Or.inl rfl | exact Or.inr rfl) (pe_op op_mod (pe_callTy call_int1 (by rfl) z_int (by decide +kernel) (pa_cons (pv 0) pa_nil)) pe_int))
     (pss_cons (ps_if (pt_cmpR op_eq (pv 5) pe_int (nomark _))
     (pss_cons (ps_set (i := 2) sc__law_string.nd rfl (by first | exact Or.inl rfl | exact Or.inr rfl) (pe_op op_add_str (pv 2) pe_str))
     pss_nil)
     (pss_cons (ps_if (pt_cmpR op_eq (pv 5) pe_int (nomark _))
     (pss_cons (ps_set (i := 2) sc__law_string.nd rfl (by first | exact Or.inl rfl | exact Or.inr rfl) (pe_op op_add_str (pe_op op_add_str (pv 2) (pe_slice sl_str pe_str (po_some (pe_op op_mod (pe_callTy call_int1 (by rfl) z_int (by decide +kernel) (pa_cons (pe_op op_fdiv (pv 0) pe_int) pa_nil)) pe_int)) po_none)) pe_str))
     pss_nil)
     (pss_cons (ps_set (i := 2) sc__law_string.nd rfl (by first | exact Or.inl rfl | exact Or.inr rfl) (pe_op op_add_str (pv 2) (pe_ix ix_str (pv 1) (pe_op op_mod (pe_callTy call_int1 (by rfl) z_int (by decide +kernel) (pa_cons (pe_op op_fdiv (pv 0) pe_int) pa_nil)) pe_int) (fun _ _ => rfl))))
     pss_nil))
     pss_nil))
     pss_nil))))
     (pss_cons (ps_ret (pv 2))
     pss_nil)))))), ?_⟩)
  refine run_spD h fun N ds d hR hq => ?_
  obtain ⟨n, rfl, rfl⟩ := hR
  walk_at "env"
  refine gs_asg (d := dT CQ1) (ex_txt (by decide +kernel)) ?_
  walk_at "nf"
  refine gs_asg (d := dT CQ) (ex_catS rfl (ex_var rfl) (ex_txt (l := CQ2) (by decide +kernel)) (Nat.le_of_ble_eq_true rfl)) ?_
  walk_at "nf"
  refine gs_asg (d := dT []) (ex_txt (by decide +kernel)) ?_
  walk_at "nf"
  have h1 : n % 11 < 11 := Int.emod_lt_of_pos _ (by decide)
  have h2 : 0 ≤ n % 11 := Int.emod_nonneg _ (by decide)
  walk_at "set"
  walk_at "nf"
  unfold strOf at hq
  refine' gs_for (fun i => [some (.i (.int (nSt n i))), some (.i (dT CQ)), some (.i (dT (txS n i))), some (.i (.int (n % 11))), none, none]) (fun _ => []) (ew_range1 (n := n % 11) ?w1 ⟨by omega, by omega⟩) (fun c' _ ad σ H ok => ok) (fun _ _ => True.intro) (fun fr up i hi => ⟨_, _, tg_name, ?w2⟩) (gs_ret (ex_var rfl) hq)
  case w1 => walk_at "a"
  case w2 =>
    walk_at "nf"
    refine gs_asg (d := .int (nSt n (i + 1))) (ex_call (ea_cons (ex_i2 (ex_var rfl) (ex_var rfl)) ea_nil) R__law_mixed_i) ?_
    walk_at "nf"
    have hl := txS_len n i
    have et : txS n (i + 1) = txS n i ++ stp (nSt n (i + 1)) := rfl
    generalize txS n (i + 1) = t2 at *
    generalize nSt n (i + 1) = m at *
    generalize txS n i = t at *
    have m1 : m % 6 < 6 := Int.emod_lt_of_pos _ (by decide)
    have m2 : 0 ≤ m % 6 := Int.emod_nonneg _ (by decide)
    have p1 : m / 6 % 95 < 95 := Int.emod_lt_of_pos _ (by decide)
    have p2 : 0 ≤ m / 6 % 95 := Int.emod_nonneg _ (by decide)
    have q1 : m / 6 % 2 < 2 := Int.emod_lt_of_pos _ (by decide)
    have q2 : 0 ≤ m / 6 % 2 := Int.emod_nonneg _ (by decide)
    walk_at "set"
    walk_at "nf"
    have hend : t2.length ≤ t2.length := Nat.le_refl _
    refine gs_if (b := decide (m % 6 = 0)) (et_test (ex_eqI (ex_var rfl) ex_int)) (fun hb => ?a1) (fun hb => ?b1)
    case a1 =>
      have hb : m % 6 = 0 := of_decide_eq_true hb
      refine gs_asg (d := dT t2) (EvX.is (ex_catS rfl (ex_var rfl) (ex_txt (l := [32]) (by decide +kernel)) (by simp; omega)) (by rw [et]; unfold stp; rw [if_pos hb])) ?_
      walk_at "nf"
      refine g_nextU ?_
      walk_at "wk"
    case b1 =>
      have hb : ¬ m % 6 = 0 := of_decide_eq_false hb
      refine gs_if (b := decide (m % 6 = 1)) (et_test (ex_eqI (ex_var rfl) ex_int)) (fun hc => ?a2) (fun hc => ?b2)
      case a2 =>
        have hc : m % 6 = 1 := of_decide_eq_true hc
        refine gs_asg (d := dT t2) (EvX.is (ex_catS (b := [32]) rfl (ex_catS (b := ([10] : List Nat).drop (m / 6 % 2).toNat) rfl (ex_var rfl) (EvX.is (ex_slS (ex_txt (l := [10]) (by decide +kernel)) (eo_some (i := (((m / 6 % 2).toNat : Nat) : Int)) (EvX.is (d := .int (m / 6 % 2)) ?s1 ?s2)) eo_none (by decide)) (by rw [cutG_from])) (by rw [List.length_drop]; simp; omega)) (ex_txt (l := [32]) (by decide +kernel)) (by rw [List.length_append, List.length_drop]; simp; omega)) (by rw [et]; unfold stp; rw [if_neg hb, if_pos hc, List.append_assoc])) ?_
        case s1 => walk_at "v"
        case s2 => exact congrArg PyData.int (by omega)
        walk_at "nf"
        refine g_nextU (g_nextU ?_)
        walk_at "wk"
      case b2 =>
        have hc : ¬ m % 6 = 1 := of_decide_eq_false hc
        refine gs_asg (d := dT t2) (EvX.is (ex_catS rfl (ex_var rfl) (ex_ixS (x := CQ.getD (m / 6 % 95).toNat 0) (ex_var rfl) ?w3 (Nat.le_of_ble_eq_true rfl) (atI_pos p2 (by rw [CQ_len]; exact p1))) (by simp; omega)) (by rw [et]; unfold stp; rw [if_neg hb, if_neg hc])) ?_
        case w3 => walk_at "v"
        walk_at "nf"
        refine g_nextU (g_nextU ?_)
        walk_at "wk"
-- END _law_string
theorem sc__law_tree : FnScope ["script", "first", "page", "styles", "kinds", "kids", "texts", "depths", "boxes", "extra", "numbers", "cell", "number", "parent", "row", "at", "scale", "text", "node", "k"] ["script", "first", "page", "styles"] (defScope s__law_tree) := ⟨rfl, rfl, rfl, by decide +kernel, rfl, by decide +kernel, by decide +kernel⟩
/-! The styles that are drawn. -/
theorem gS {m : Tb} {k j : Str} {v : PyData} (h : decide (j = k) = false) : getA (setA m k v) j = getA m j := by rw [getA_set, if_neg (of_decide_eq_false h)]
theorem gE {m : Tb} {k : Str} {v : PyData} : getA (setA m k v) k = some v := by rw [getA_set, if_pos rfl]
structure BoxG (m : Tb) (vd vp vw : PyData) (le mo ml mr pa bo ga co : Int) : Prop where
  di : getA m "display" = some vd
  pl : getA m "place" = some vp
  wi : getA m "width" = some vw
  le : getA m "least_width" = some (.int le)
  mo : getA m "most_width" = some (.int mo)
  ml : getA m "margin_left" = some (.int ml)
  mr : getA m "margin_right" = some (.int mr)
  pa : getA m "padding" = some (.int pa)
  bo : getA m "border" = some (.int bo)
  ga : getA m "gap" = some (.int ga)
  co : getA m "columns" = some (.int co)
theorem boxT_g (s : Int) (vd vp vw : PyData) (le mo ml mr pa bo ga co : Int) : BoxG (boxT s vd vp vw le mo ml mr pa bo ga co) vd vp vw le mo ml mr pa bo ga co := by
  unfold boxT
  refine ⟨?_, ?_, ?_, ?_, ?_, ?_, ?_, ?_, ?_, ?_, ?_⟩ <;> (repeat (first | rw [gS (by decide +kernel)] | exact gE))
theorem tab_nn {is : List Int} (h : ∀ i ∈ is, 0 ≤ i) (i : Int) : 0 ≤ tabI is i := by
  unfold tabI
  rw [List.getD_eq_getElem?_getD]
  cases e : is[i.toNat]? with
  | none => exact Int.le_refl _
  | some x => exact h x (List.mem_of_getElem? e)
theorem m1T_nn (n i : Int) : 0 ≤ tabI (m1T n) i := tab_nn (by
  intro x hx
  unfold m1T at hx
  simp only [List.mem_cons, List.not_mem_nil, or_false] at hx
  rcases hx with rfl | rfl | rfl <;> omega) i
theorem m2T_nn (n i : Int) : 0 ≤ tabI (m2T n) i := tab_nn (by
  intro x hx
  unfold m2T at hx
  simp only [List.mem_cons, List.not_mem_nil, or_false] at hx
  rcases hx with rfl | rfl | rfl <;> omega) i
theorem getD_mem {ds : List PyData} {i : Int} (h0 : 0 ≤ i) (h1 : i < (ds.length : Int)) : ds.getD i.toNat .none ∈ ds := by
  rw [List.getD_eq_getElem?_getD, List.getElem?_eq_getElem (show i.toNat < ds.length by omega)]
  exact List.getElem_mem _
theorem vd_str (n : Int) : ∃ x : Str, vdT.getD (n % 7).toNat .none = .str x := by
  have h := getD_mem (ds := vdT) (md n (b := 7) (by decide)).1 (md n (b := 7) (by decide)).2
  generalize vdT.getD (n % 7).toNat .none = d at *
  unfold vdT at h
  simp only [List.mem_cons, List.not_mem_nil, or_false] at h
  rcases h with rfl | rfl | rfl | rfl | rfl | rfl | rfl <;> exact ⟨_, rfl⟩
theorem vp_str (n : Int) : ∃ x : Str, vpT.getD (n % 5).toNat .none = .str x := by
  have h := getD_mem (ds := vpT) (md n (b := 5) (by decide)).1 (md n (b := 5) (by decide)).2
  generalize vpT.getD (n % 5).toNat .none = d at *
  unfold vpT at h
  simp only [List.mem_cons, List.not_mem_nil, or_false] at h
  rcases h with rfl | rfl | rfl | rfl | rfl <;> exact ⟨_, rfl⟩
theorem vw_kind (n : Int) : (∃ w, (vwT n).getD (n % 5).toNat .none = .int w) ∨ (∃ x, (vwT n).getD (n % 5).toNat .none = .str x) ∨ (∃ l, (vwT n).getD (n % 5).toNat .none = .tuple l) := by
  have h := getD_mem (ds := vwT n) (md n (b := 5) (by decide)).1 (md n (b := 5) (by decide)).2
  generalize (vwT n).getD (n % 5).toNat .none = d at *
  unfold vwT at h
  simp only [List.mem_cons, List.not_mem_nil, or_false] at h
  rcases h with rfl | rfl | rfl | rfl | rfl
  · exact Or.inr (Or.inl ⟨_, rfl⟩)
  · exact Or.inr (Or.inl ⟨_, rfl⟩)
  · exact Or.inr (Or.inl ⟨_, rfl⟩)
  · exact Or.inl ⟨_, rfl⟩
  · exact Or.inr (Or.inr ⟨_, rfl⟩)
/-- a style as it is drawn -/
structure BxN (m : Tb) : Prop where
  ok : BxOk m
  bo : 0 ≤ nmI m "border"
  pa : 0 ≤ nmI m "padding"
  ml : 0 ≤ nmI m "margin_left"
  mr : 0 ≤ nmI m "margin_right"
theorem BoxG.n {m : Tb} {vd vp vw : PyData} {le mo ml mr pa bo ga co : Int} (h : BoxG m vd vp vw le mo ml mr pa bo ga co) (h1 : ∃ x, vd = .str x) (h2 : ∃ x, vp = .str x) (h3 : (∃ w, vw = .int w) ∨ (∃ x, vw = .str x) ∨ (∃ l, vw = .tuple l)) (q1 : 0 ≤ ml) (q2 : 0 ≤ mr) (q3 : 0 ≤ pa) (q4 : 0 ≤ bo) (q5 : 0 ≤ ga ∧ ga ≤ 1000000) (q6 : 1 ≤ co ∧ co ≤ 1000) : BxN m := by
  obtain ⟨x1, rfl⟩ := h1
  obtain ⟨x2, rfl⟩ := h2
  refine ⟨⟨⟨_, h.le⟩, ⟨_, h.mo⟩, ⟨_, h.pa⟩, ⟨_, h.bo⟩, ⟨_, h.di⟩, ⟨_, h.pl⟩, ⟨ga.toNat, by rw [h.ga, Int.toNat_of_nonneg q5.1], by omega⟩, ⟨co.toNat, by rw [h.co, Int.toNat_of_nonneg (by omega)], by omega, by omega⟩, ⟨_, h.ml⟩, ⟨_, h.mr⟩, ?_⟩, by rw [nmI_of h.bo]; exact q4, by rw [nmI_of h.pa]; exact q3, by rw [nmI_of h.ml]; exact q1, by rw [nmI_of h.mr]; exact q2⟩
  rw [h.wi]
  rcases h3 with ⟨w, rfl⟩ | ⟨x, rfl⟩ | ⟨l, rfl⟩
  · exact Or.inl ⟨w, rfl⟩
  · exact Or.inr (Or.inl ⟨x, rfl⟩)
  · exact Or.inr (Or.inr ⟨l, rfl⟩)
theorem boxOf_n (n s : Int) : BxN (boxOf n s) := by
  unfold boxOf
  refine (boxT_g _ _ _ _ _ _ _ _ _ _ _ _).n (vd_str _) (vp_str _) (vw_kind _) (m1T_nn _ _) (m2T_nn _ _) (m1T_nn _ _) (m2T_nn _ _) ⟨?_, ?_⟩ ⟨?_, ?_⟩ <;> omega
theorem plain_ok (s : Int) : BoxG (plainS s) (.str "block") (.str "flow") (.str "auto") 0 1000 0 0 0 0 0 2 := by
  unfold plainS plainA puts nm1 nm2 nm3
  simp only [List.foldl_cons, List.foldl_nil]
  refine ⟨?_, ?_, ?_, ?_, ?_, ?_, ?_, ?_, ?_, ?_, ?_⟩ <;> (repeat (first | rw [gS (by decide +kernel)] | exact gE)) <;> rfl
theorem mkR_nil : mkR [] = .tuple [] := by
  have h : sortT [] = [] := List.Perm.eq_nil (sortT_perm [])
  unfold mkR
  rw [h]
  rfl
theorem insP_done (p : Pg) (i : Nat) (r : Rw) : (insP p i r).hs.done.length = p.hs.done.length + 1 := by
  show (p.hs.done ++ [_]).length = _
  rw [List.length_append]; rfl
def BXt : List Nat := [98, 111, 120]
/-! A tree that is drawn, node by node. -/
theorem ins_t {p : Pg} {i : Nat} {r rp : Rw} (h : InsOk p i r rp) (n : Int) : (insP p i r).t n = if n = p.last + 1 then some r else if n = r.par then some { rp with kids := insL rp.kids i (p.last + 1) } else p.t n := by
  rw [h.t]
  rfl
theorem old_ne {p : Pg} (h : PgOk p) {n : Int} {q : Rw} (hq : p.t n = some q) : n ≠ p.last + 1 := fun e => by
  obtain ⟨dep, W⟩ := h.wf
  have := (W.id _ _ hq).2
  omega
theorem ins_depth {p : Pg} {i : Nat} {r rp : Rw} (h : InsOk p i r rp) : (∀ n q, p.t n = some q → depth (insP p i r).t n = depth p.t n) ∧ depth (insP p i r).t (p.last + 1) = depth p.t r.par + 1 := by
  obtain ⟨dep, W⟩ := h.ok.wf
  have hd := depth_eq W h.par
  have W2 := wf_ins W h.par h.box (by rw [← hd]; exact h.dep) rfl h.kids (i := i)
  rw [← h.t] at W2
  refine ⟨fun n q hq => ?_, ?_⟩
  · have hn := old_ne h.ok hq
    rw [depth_eq W hq]
    have e : ∃ q2, (insP p i r).t n = some q2 := by
      rw [ins_t h, if_neg hn]
      split
      · exact ⟨_, rfl⟩
      · exact ⟨q, hq⟩
    obtain ⟨q2, e⟩ := e
    rw [depth_eq W2 e, if_neg hn]
  · rw [depth_eq W2 (r := r) (by rw [ins_t h, if_pos rfl]), if_pos rfl, hd]
/-- what is asked of a node and its style -/
def NOk (r : Rw) (m : Tb) : Prop := (r.box = false ∧ ∃ l s, r.con = dT l ∧ l.length ≤ 500 ∧ m = textS s ∧ 1 ≤ s ∧ s ≤ 20) ∨ (r.box = true ∧ BxN m ∧ ∃ s, getA m "size" = some (.int s) ∧ 1 ≤ s ∧ s ≤ 20)
def StyOk (p : Pg) (st : St) : Prop := ∀ n r, p.t n = some r → ∃ m, getA st n = some m ∧ NOk r m
/-- all nodes of a page whose styles are as they should be can be measured -/
theorem mok_all {p : Pg} {st : St} (h : PgOk p) (hs : StyOk p st) : ∀ n r, p.t n = some r → MOk p st 31 n := by
  obtain ⟨dep, W⟩ := h.wf
  have kl : ∀ n r, p.t n = some r → r.kids.length ≤ 1000 := fun n r hr => by
    have nd := W.nd n r hr
    have h1 := List.Nodup.length_le_of_subset (l₂ := sub p.t 1) nd fun c hc => by
      obtain ⟨rc, e, _⟩ := W.kid n r c hr hc
      exact (mem_all W).mpr (by rw [e]; rfl)
    have := h.n300
    omega
  have key : ∀ (k : Nat) n r, p.t n = some r → 31 - dep n ≤ k → MOk p st k n := by
    intro k
    induction k with
    | zero => intro n r hr hk; have := W.dep30 n r hr; omega
    | succ k ih =>
      intro n r hr hk
      obtain ⟨m, hm, ho⟩ := hs n r hr
      refine ⟨r, m, hr, hm, ?_, kl n r hr, fun c hc => ?_⟩
      · rcases ho with ⟨hb, l, s, hc, hl, e, s1, s2⟩ | ⟨hb, ho, _⟩
        · subst e
          exact Or.inl ⟨hb, ⟨l, s, h.rows, hr, hb, hc, hm, rfl, s1, by omega, by omega⟩, rfl, rfl⟩
        · exact Or.inr ⟨hb, ho.ok⟩
      · obtain ⟨rc, e1, _, e3⟩ := W.kid n r c hr hc
        have := W.dep30 n r hr
        exact ih c rc e1 (by omega)
  exact fun n r hr => (key _ n r hr (Nat.le_refl _)).up (by omega)
structure TS where
  p : Pg
  st : St
  ks : List (Int × Bool)
  bx : List (Int × Int × List Int)
  tx : List (Int × List Nat)
section
variable (S : TS) (x : Int)
def TS.j0 : Nat := (x % (S.bx.length : Int)).toNat
def TS.j : Nat := if 8 < (S.bx.getD (S.j0 x) (1, 1, [])).2.1 then 0 else S.j0 x
def TS.b : Int × Int × List Int := S.bx.getD (S.j x) (1, 1, [])
def TS.at : Nat := (x / 73 % (((S.b x).2.2.length : Int) + 1)).toNat
def zed (x : Int) : Int := x / 73 / 73
def TS.row : Rw := if zed x % 3 = 0 then txR (S.b x).1 (strOf (zed x / 3)) else bxR (S.b x).1 BXt (mkR [])
def TS.siz : Int := nmI (stOf S.st (S.b x).1) "size"
def TS.sty : Tb := if zed x % 3 = 0 then textS (S.siz x) else boxOf (zed x / 3) (1 + zed x / 3 % 20)
def TS.b2 : Int × Int × List Int := ((S.b x).1, (S.b x).2.1, insL (S.b x).2.2 (S.at x) (S.p.last + 1))
def TS.step : TS where
  p := insP S.p (S.at x) (S.row x)
  st := S.st ++ [(S.p.last + 1, S.sty x)]
  ks := S.ks ++ [(S.p.last + 1, !decide (zed x % 3 = 0))]
  bx := S.bx.set (S.j x) (S.b2 x) ++ (if zed x % 3 = 0 then [] else [(S.p.last + 1, (S.b x).2.1 + 1, [])])
  tx := S.tx ++ (if zed x % 3 = 0 then [(S.p.last + 1, strOf (zed x / 3))] else [])
end
def idN (m : Nat) : List Int := (List.range m).map fun i => ((i + 1 : Nat) : Int)
theorem idN_succ (m : Nat) : idN (m + 1) = idN m ++ [((m + 1 : Nat) : Int)] := by unfold idN; rw [List.range_succ, List.map_append]; rfl
theorem idN_mem {m : Nat} {n : Int} : n ∈ idN m ↔ 1 ≤ n ∧ n ≤ m := by
  unfold idN
  constructor
  · intro h
    obtain ⟨i, hi, e⟩ := List.mem_map.mp h
    have := List.mem_range.mp hi
    omega
  · intro h
    exact List.mem_map.mpr ⟨n.toNat - 1, List.mem_range.mpr (by omega), by omega⟩
theorem idN_nd (m : Nat) : (idN m).Nodup := List.Pairwise.map _ (fun a b hab e => hab (by omega)) List.nodup_range
structure TI (S : TS) : Prop where
  pg : PgOk S.p
  last : S.p.last = S.ks.length
  done : S.p.hs.done.length + 1 = S.ks.length
  cnt : (sub S.p.t 1).length = S.ks.length
  ids : S.ks.map (·.1) = idN S.ks.length
  sids : S.st.map (·.1) = S.ks.map (·.1)
  bids : S.bx.map (·.1) = (S.ks.filter (·.2)).map (·.1)
  tids : S.tx.map (·.1) = (S.ks.filter (!·.2)).map (·.1)
  b0 : ∃ l, S.bx[0]? = some (1, 1, l)
  all : ∀ n r, S.p.t n = some r → (n, r.box) ∈ S.ks
  has : ∀ q ∈ S.ks, ∃ r, S.p.t q.1 = some r ∧ r.box = q.2
  sty : StyOk S.p S.st
  bxs : ∀ q ∈ S.bx, ∃ r, S.p.t q.1 = some r ∧ r.box = true ∧ r.kids = q.2.2 ∧ (depth S.p.t q.1 : Int) = q.2.1 ∧ q.2.1 ≤ 9
  txs : ∀ q ∈ S.tx, ∃ r, S.p.t q.1 = some r ∧ r.box = false ∧ r.con = dT q.2 ∧ q.2.length ≤ 500
section
variable {S : TS} {x : Int}
theorem TI.bpos (h : TI S) : 0 < S.bx.length := by
  obtain ⟨l, e⟩ := h.b0
  exact (List.getElem?_eq_some_iff.mp e).1
theorem TI.j0_lt (h : TI S) : S.j0 x < S.bx.length := by
  have := h.bpos
  unfold TS.j0
  have h1 := Int.emod_nonneg x (show (S.bx.length : Int) ≠ 0 by omega)
  have h2 := Int.emod_lt_of_pos x (show 0 < (S.bx.length : Int) by omega)
  omega
theorem TI.j_lt (h : TI S) : S.j x < S.bx.length := by
  unfold TS.j
  split
  · exact h.bpos
  · exact h.j0_lt
theorem TI.b_at (h : TI S) : S.bx[S.j x]? = some (S.b x) := by
  unfold TS.b
  rw [List.getD_eq_getElem?_getD, List.getElem?_eq_getElem h.j_lt]
  rfl
theorem TI.b_mem (h : TI S) : S.b x ∈ S.bx := List.mem_of_getElem? h.b_at
theorem TI.b_dep (h : TI S) : (S.b x).2.1 ≤ 8 := by
  unfold TS.b TS.j
  split
  · obtain ⟨l, e⟩ := h.b0
    rw [List.getD_eq_getElem?_getD, e]
    show (1 : Int) ≤ 8
    decide
  · rename_i z
    omega
theorem TI.at_le (h : TI S) : S.at x ≤ (S.b x).2.2.length := by
  unfold TS.at
  have h2 := Int.emod_lt_of_pos (x / 73) (show 0 < ((S.b x).2.2.length : Int) + 1 by omega)
  omega
theorem TS.row_par (S : TS) (x : Int) : (S.row x).par = (S.b x).1 := by unfold TS.row; split <;> rfl
theorem TS.row_kids (S : TS) (x : Int) : (S.row x).kids = [] := by unfold TS.row; split <;> rfl
theorem TS.row_nl (S : TS) (x : Int) : noList (S.row x).d = true := by
  unfold TS.row
  rw [mkR_nil]
  split <;> rfl
theorem TS.row_box (S : TS) (x : Int) : (S.row x).box = !decide (zed x % 3 = 0) := by
  unfold TS.row
  split
  · rename_i e; rw [decide_eq_true e]; rfl
  · rename_i e; rw [decide_eq_false e]; rfl
theorem TI.ins (h : TI S) (hn : S.ks.length ≤ 250) : ∃ rp, InsOk S.p (S.at x) (S.row x) rp ∧ rp.kids = (S.b x).2.2 := by
  obtain ⟨r, h1, h2, h3, h4, h5⟩ := h.bxs _ (h.b_mem (x := x))
  refine ⟨r, ⟨h.pg, by rw [TS.row_par]; exact h1, h2, by rw [h3]; exact h.at_le, ?_, by rw [h.cnt]; omega, by have := h.done; omega, TS.row_kids S x, TS.row_nl S x⟩, h3⟩
  rw [TS.row_par]
  have := h.b_dep (x := x)
  omega
theorem TI.siz_ok (h : TI S) : getA (stOf S.st (S.b x).1) "size" = some (.int (S.siz x)) ∧ 1 ≤ S.siz x ∧ S.siz x ≤ 20 ∧ ∃ m, getA S.st (S.b x).1 = some m ∧ stOf S.st (S.b x).1 = m := by
  obtain ⟨r, h1, h2, _⟩ := h.bxs _ (h.b_mem (x := x))
  obtain ⟨m, h3, h4⟩ := h.sty _ _ h1
  have e : stOf S.st (S.b x).1 = m := by unfold stOf; rw [h3]; rfl
  rcases h4 with ⟨z, _⟩ | ⟨_, _, s, q1, q2, q3⟩
  · rw [h2] at z; cases z
  · have e2 : S.siz x = s := by unfold TS.siz; rw [e, nmI_of q1]
    rw [e2, e]
    exact ⟨q1, q2, q3, m, h3, rfl⟩
theorem boxOf_size (n s : Int) : getA (boxOf n s) "size" = some (.int s) := by
  unfold boxOf boxT plainS
  repeat (first | rw [gS (by decide +kernel)] | exact gE)
theorem TI.new_ok (h : TI S) : NOk (S.row x) (S.sty x) := by
  obtain ⟨_, s1, s2, _⟩ := h.siz_ok (x := x)
  unfold TS.row TS.sty
  split
  · exact Or.inl ⟨rfl, strOf (zed x / 3), S.siz x, rfl, by have := strOf_len (zed x / 3); omega, rfl, s1, s2⟩
  · refine Or.inr ⟨rfl, boxOf_n _ _, _, boxOf_size _ _, ?_, ?_⟩
    · have := Int.emod_nonneg (zed x / 3) (show (20 : Int) ≠ 0 by decide); omega
    · have := Int.emod_lt_of_pos (zed x / 3) (show (0 : Int) < 20 by decide); omega
theorem getA_app {α β : Type} [DecidableEq α] {m : List (α × β)} {k j : α} {v : β} (h : j ≠ k) : getA (m ++ [(k, v)]) j = getA m j := by
  induction m with
  | nil =>
    show getA [(k, v)] j = none
    rw [getA_cons, if_neg (fun e => h e.symm)]
    rfl
  | cons p m ih => rw [List.cons_append, getA_cons, getA_cons, ih]
theorem getA_new {α β : Type} [DecidableEq α] {m : List (α × β)} {k : α} {v : β} (h : k ∉ m.map (·.1)) : getA (m ++ [(k, v)]) k = some v := by
  induction m with
  | nil => show getA [(k, v)] k = _; rw [getA_cons, if_pos rfl]
  | cons p m ih =>
    rw [List.map_cons] at h
    rw [List.cons_append, getA_cons, if_neg (fun e => h (by rw [e]; exact List.mem_cons_self ..)), ih fun z => h (List.mem_cons_of_mem _ z)]
theorem TI.fresh (h : TI S) : S.p.last + 1 ∉ S.ks.map (·.1) := by
  rw [h.ids, idN_mem, h.last]
  omega
theorem TI.next (h : TI S) (hn : S.ks.length ≤ 250) : TI (S.step x) := by
  obtain ⟨rp, hi, hk⟩ := h.ins (x := x) hn
  have hpar := TS.row_par S x
  have ht := ins_t hi
  obtain ⟨hd1, hd2⟩ := ins_depth hi
  rw [hpar] at ht hd2
  have hbp := hi.par
  rw [hpar] at hbp
  have hlen : (S.step x).ks.length = S.ks.length + 1 := by show (S.ks ++ [_]).length = _; rw [List.length_append]; rfl
  have hne : ∀ q ∈ S.bx, q.1 ≠ S.p.last + 1 := fun q hq => by
    obtain ⟨r, e, _⟩ := h.bxs q hq
    exact old_ne h.pg e
  have hne2 : ∀ q ∈ S.tx, q.1 ≠ S.p.last + 1 := fun q hq => by
    obtain ⟨r, e, _⟩ := h.txs q hq
    exact old_ne h.pg e
  have hbdep := h.b_dep (x := x)
  obtain ⟨rb, b1, b2, b3, b4, b5⟩ := h.bxs _ (h.b_mem (x := x))
  rw [hbp] at b1
  cases b1
  refine ⟨hi.pg, ?_, ?_, ?_, ?_, ?_, ?_, ?_, ?_, ?_, ?_, ?_, ?_, ?_⟩
  · rw [hlen]
    show S.p.last + 1 = _
    rw [h.last]; omega
  · rw [hlen]
    show (insP S.p _ _).hs.done.length + 1 = _
    rw [insP_done]; have := h.done; omega
  · rw [hlen]
    have := hi.count
    rw [h.cnt] at this
    exact this
  · rw [hlen, idN_succ, ← h.ids]
    show List.map (fun q : Int × Bool => q.1) (S.ks ++ [_]) = _
    rw [List.map_append]
    congr 1
    show [S.p.last + 1] = _
    rw [h.last]
    rfl
  · show List.map (fun q : Int × Tb => q.1) (S.st ++ [_]) = List.map (fun q : Int × Bool => q.1) (S.ks ++ [_])
    rw [List.map_append, List.map_append, h.sids]
    rfl
  · show List.map (fun q : Int × Int × List Int => q.1) (S.bx.set (S.j x) (S.b2 x) ++ _) = List.map (fun q : Int × Bool => q.1) ((S.ks ++ [_]).filter (fun q : Int × Bool => q.2))
    have e2 : (S.bx.map fun q : Int × Int × List Int => q.1)[S.j x]? = some (S.b2 x).1 := by rw [List.getElem?_map, h.b_at]; rfl
    have e1 : (S.bx.set (S.j x) (S.b2 x)).map (fun q : Int × Int × List Int => q.1) = S.bx.map fun q : Int × Int × List Int => q.1 := by
      rw [List.map_set]
      exact set_at e2
    rw [List.map_append, e1, h.bids, List.filter_append, List.map_append]
    congr 1
    by_cases z : zed x % 3 = 0
    · rw [if_pos z, decide_eq_true z]; rfl
    · rw [if_neg z, decide_eq_false z]; rfl
  · show List.map (fun q : Int × List Nat => q.1) (S.tx ++ _) = List.map (fun q : Int × Bool => q.1) ((S.ks ++ [_]).filter (fun q : Int × Bool => !q.2))
    rw [List.map_append, h.tids, List.filter_append, List.map_append]
    congr 1
    by_cases z : zed x % 3 = 0
    · rw [if_pos z, decide_eq_true z]; rfl
    · rw [if_neg z, decide_eq_false z]; rfl
  · obtain ⟨l, e⟩ := h.b0
    show ∃ l, (S.bx.set (S.j x) (S.b2 x) ++ _)[0]? = _
    rw [List.getElem?_append_left (by rw [List.length_set]; exact h.bpos)]
    by_cases z : S.j x = 0
    · refine ⟨insL (S.b x).2.2 (S.at x) (S.p.last + 1), ?_⟩
      rw [z, List.getElem?_set_self h.bpos]
      have := h.b_at (x := x)
      rw [z, e] at this
      unfold TS.b2
      rw [← Option.some.inj this]
    · exact ⟨l, by rw [List.getElem?_set_ne z]; exact e⟩
  · intro n r hr
    rw [show (S.step x).p = insP S.p (S.at x) (S.row x) from rfl, ht] at hr
    show (n, r.box) ∈ S.ks ++ [_]
    split at hr
    · rename_i e
      cases hr
      rw [TS.row_box, e]
      exact List.mem_append_right _ (List.mem_singleton.mpr rfl)
    · split at hr
      · rename_i e
        cases hr
        rw [e]
        exact List.mem_append_left _ (show ((S.b x).1, rp.box) ∈ S.ks from h.all _ _ hbp)
      · exact List.mem_append_left _ (h.all _ _ hr)
  · intro q hq
    rw [show (S.step x).p = insP S.p (S.at x) (S.row x) from rfl, ht]
    rcases List.mem_append.mp hq with z | z
    · obtain ⟨r, e1, e2⟩ := h.has q z
      rw [if_neg (old_ne h.pg e1)]
      split
      · rename_i e
        rw [e, hbp] at e1
        cases e1
        exact ⟨_, rfl, e2⟩
      · exact ⟨r, e1, e2⟩
    · rw [List.mem_singleton.mp z]
      rw [if_pos rfl]
      exact ⟨_, rfl, TS.row_box S x⟩
  · intro n r hr
    rw [show (S.step x).p = insP S.p (S.at x) (S.row x) from rfl, ht] at hr
    show ∃ m, getA (S.st ++ [_]) n = some m ∧ _
    have hf : S.p.last + 1 ∉ S.st.map (·.1) := by rw [h.sids]; exact h.fresh
    split at hr
    · rename_i e
      cases hr
      rw [e]
      exact ⟨_, getA_new hf, h.new_ok⟩
    · rename_i e0
      rw [getA_app e0]
      split at hr
      · rename_i e
        cases hr
        rw [e]
        obtain ⟨m, m1, m2⟩ := h.sty _ _ hbp
        exact ⟨m, m1, m2⟩
      · exact h.sty _ _ hr
  · intro q hq
    rw [show (S.step x).p = insP S.p (S.at x) (S.row x) from rfl, ht]
    have old : ∀ q ∈ S.bx, q.1 ≠ (S.b x).1 → ∃ r, (if q.1 = S.p.last + 1 then some (S.row x) else if q.1 = (S.b x).1 then some { rp with kids := insL rp.kids (S.at x) (S.p.last + 1) } else S.p.t q.1) = some r ∧ r.box = true ∧ r.kids = q.2.2 ∧ (depth (insP S.p (S.at x) (S.row x)).t q.1 : Int) = q.2.1 ∧ q.2.1 ≤ 9 := fun q hq ne => by
      obtain ⟨r, e1, e2, e3, e4, e5⟩ := h.bxs q hq
      rw [if_neg (hne q hq), if_neg ne, hd1 _ _ e1]
      exact ⟨r, e1, e2, e3, e4, e5⟩
    rcases List.mem_append.mp hq with z | z
    · obtain ⟨k, hk2, e⟩ := List.mem_iff_getElem.mp z
      rw [List.length_set] at hk2
      by_cases ek : S.j x = k
      · subst ek
        rw [List.getElem_set_self] at e
        subst e
        show ∃ r, (if (S.b x).1 = _ then _ else if (S.b x).1 = _ then _ else _) = _ ∧ _
        rw [if_neg (hne _ h.b_mem), if_pos rfl]
        refine ⟨_, rfl, hi.box, ?_, ?_, b5⟩
        · show insL rp.kids _ _ = insL (S.b x).2.2 _ _
          rw [hk]
        · show (depth _ (S.b x).1 : Int) = (S.b x).2.1
          rw [hd1 _ _ hbp]
          exact b4
      · rw [List.getElem_set_ne ek] at e
        have hq0 : q ∈ S.bx := e ▸ List.getElem_mem _
        refine old q hq0 fun e2 => ek ?_
        have nd : (S.bx.map (·.1)).Nodup := by
          rw [h.bids]
          have : (S.ks.map (·.1)).Nodup := by rw [h.ids]; exact idN_nd _
          exact List.Nodup.sublist (List.Sublist.map _ List.filter_sublist) this
        have ej := h.b_at (x := x)
        rw [List.getElem?_eq_getElem h.j_lt] at ej
        have ej := Option.some.inj ej
        have h1 : (S.bx.map (·.1))[S.j x]'(by rw [List.length_map]; exact h.j_lt) = (S.bx.map (·.1))[k]'(by rw [List.length_map]; exact hk2) := by
          rw [List.getElem_map, List.getElem_map, ej, e, e2]
        exact (List.getElem_inj nd).mp h1
    · by_cases z3 : zed x % 3 = 0
      · rw [if_pos z3] at z; exact absurd z List.not_mem_nil
      · rw [if_neg z3] at z
        rw [List.mem_singleton.mp z]
        show ∃ r, (if S.p.last + 1 = _ then _ else _) = _ ∧ _
        rw [if_pos rfl]
        refine ⟨_, rfl, by rw [TS.row_box, decide_eq_false z3]; rfl, TS.row_kids S x, ?_, by show (S.b x).2.1 + 1 ≤ 9; omega⟩
        show (depth _ (S.p.last + 1) : Int) = (S.b x).2.1 + 1
        rw [hd2]
        omega
  · intro q hq
    rw [show (S.step x).p = insP S.p (S.at x) (S.row x) from rfl, ht]
    rcases List.mem_append.mp hq with z | z
    · obtain ⟨r, e1, e2, e3, e4⟩ := h.txs q z
      rw [if_neg (hne2 q z), if_neg (fun e => by rw [e, hbp] at e1; cases e1; rw [hi.box] at e2; cases e2)]
      exact ⟨r, e1, e2, e3, e4⟩
    · by_cases z3 : zed x % 3 = 0
      · rw [if_pos z3] at z
        rw [List.mem_singleton.mp z]
        show ∃ r, (if S.p.last + 1 = _ then _ else _) = _ ∧ _
        rw [if_pos rfl]
        refine ⟨_, rfl, by rw [TS.row_box, decide_eq_true z3]; rfl, ?_, by have := strOf_len (zed x / 3); show (strOf (zed x / 3)).length ≤ 500; omega⟩
        unfold TS.row
        rw [if_pos z3]
        rfl
      · rw [if_neg z3] at z; exact absurd z List.not_mem_nil
end
def runT (S : TS) (xs : List Int) : TS := xs.foldl TS.step S
theorem runT_snoc (S : TS) (xs : List Int) (x : Int) : runT S (xs ++ [x]) = (runT S xs).step x := by unfold runT; rw [List.foldl_append]; rfl
theorem step_len (S : TS) (x : Int) : (S.step x).ks.length = S.ks.length + 1 := by show (S.ks ++ [_]).length = _; rw [List.length_append]; rfl
theorem runT_len (S : TS) : ∀ xs : List Int, (runT S xs).ks.length = S.ks.length + xs.length
  | [] => rfl
  | x :: xs => by
    show (runT (S.step x) xs).ks.length = _
    rw [runT_len (S.step x) xs, step_len, List.length_cons]
    omega
theorem runT_ok : ∀ (xs : List Int) {S : TS}, TI S → S.ks.length + xs.length ≤ 250 → TI (runT S xs)
  | [], S, h, _ => h
  | x :: xs, S, h, hl => by
    rw [List.length_cons] at hl
    exact runT_ok xs (h.next (by omega)) (by rw [step_len]; omega)
/-! How a tree that is drawn stands in the store. -/
theorem bx_inj {n n2 : Int} {i i2 : Nat} {l l2 : List Nat} {ms2 : List (List Nat)} (h : ([.r 0, .i (.int n), .i (.int (i : Int)), .i (dT l), .i (.tuple [])] : List SV) = [.r 0, .i (.int n2), .i (.int (i2 : Int)), .i (dT l2), .i (.tuple (ms2.map dT))]) : n2 = n ∧ i2 = i ∧ l2 = l ∧ ms2 = [] := by
  injection h with _ h
  injection h with a h
  injection h with b h
  injection h with c h
  injection h with d _
  injection a with a
  injection a with a
  injection b with b
  injection b with b
  injection c with c
  injection c with c
  injection d with d
  injection d with d
  exact ⟨a.symm, (Int.ofNat.inj b).symm, (sT_inj c).symm, List.map_eq_nil_iff.mp d.symm⟩
theorem tx_inj {n n2 : Int} {i i2 : Nat} {l l2 : List Nat} (h : ([.r 0, .i (.int n), .i (.int (i : Int)), .i (dT l)] : List SV) = [.r 0, .i (.int n2), .i (.int (i2 : Int)), .i (dT l2)]) : n2 = n ∧ i2 = i ∧ l2 = l := by
  injection h with _ h
  injection h with a h
  injection h with b h
  injection h with c _
  injection a with a
  injection a with a
  injection b with b
  injection b with b
  injection c with c
  injection c with c
  exact ⟨a.symm, (Int.ofNat.inj b).symm, (sT_inj c).symm⟩
theorem isW_box : Q.isW BXt := ⟨by decide, by decide, by decide⟩
abbrev kS (m : Tb) : List (Key × PyData) := m.map fun p => (ekS p.1, evS p.2)
theorem eS_kS (m : Tb) : eS m = (kS m).map fun p => (p.1, SV.i p.2) := by unfold kS; rw [List.map_map]; rfl
theorem dK0_kS (m : Tb) : dK0 (kS m) = dS m := by
  show PyData.dict ((kS m).map fun p => (kdat p.1, p.2)) = PyData.dict (m.map fun p => (kdat (ekS p.1), evS p.2))
  unfold kS
  rw [List.map_map]
  rfl
abbrev stO (m : St) : List (Key × SV) := m.map fun p => (ekI p.1, SV.i (dS p.2))
theorem dat_st {os : List SO} {k : Nat} {m : St} (h : os[k]? = some (.dK (stO m))) : DatO os (.r k) (dSt m) := by
  have e1 : stO m = (m.map fun p => (ekI p.1, dS p.2)).map fun p => (p.1, SV.i p.2) := by rw [List.map_map]; rfl
  have e2 : dSt m = dK0 (m.map fun p => (ekI p.1, dS p.2)) := by
    show PyData.dict (m.map fun p => (kdat (ekI p.1), dS p.2)) = PyData.dict ((m.map fun p => (ekI p.1, dS p.2)).map fun p => (kdat p.1, p.2))
    rw [List.map_map]
    rfl
  rw [e1] at h
  rw [e2]
  exact .dK h (DatK.i _)
theorem osLt_app {n : Nat} : ∀ {a b : List SO}, OsLt n a → OsLt n b → OsLt n (a ++ b)
  | [], _, _, h => h
  | _ :: _, _, h1, h2 => ⟨h1.1, osLt_app h1.2 h2⟩
theorem shapeP_lt {CP CH : Addr} {p : Pg} {n : Nat} (h : 5 ≤ n) : OsLt n (shapeP CP CH p) := ⟨by simp [SoLt, SvLt]; omega, dkO_lt _ _, dkO_lt _ _, by simp [SoLt, SvLt]; omega, soLt_data, True.intro⟩
theorem mapO_lt {α : Type} (n : Nat) (m : List α) (f : α → Key) (g : α → PyData) : SoLt n (.dK (m.map fun p => (f p, SV.i (g p)))) := fun p hp => by
  obtain ⟨q, _, rfl⟩ := List.mem_map.mp hp
  exact True.intro
theorem set_last {α : Type} {l : List α} {a b : α} {n : Nat} (h : l.length = n) : (l ++ [a]).set n b = l ++ [b] := by
  subst h
  rw [List.set_append_right _ _ (Nat.le_refl _), Nat.sub_self]
  rfl
theorem get_last {α : Type} {l : List α} {a : α} {n : Nat} (h : l.length = n) : (l ++ [a])[n]? = some a := by
  subst h
  rw [List.getElem?_append_right (Nat.le_refl _), Nat.sub_self]
  rfl
/-- a key that is new -/
theorem setA_end {α β : Type} [DecidableEq α] {m : List (α × β)} {k : α} {v : β} (h : k ∉ m.map (·.1)) : setA m k v = m ++ [(k, v)] := by
  unfold setA
  rw [if_neg]
  intro z
  exact h (getA_mem.mp z)
theorem keyO {α : Type} {m : List (Int × α)} {f : α → SV} {n : Int} (h : n ∉ m.map (·.1)) : (Sum.inl n : Key) ∉ (m.map fun q => (ekI q.1, f q.2)).map (·.1) := fun z => by
  rw [List.map_map] at z
  obtain ⟨q, hq, e⟩ := List.mem_map.mp z
  injection e with e
  exact h (List.mem_map.mpr ⟨q, hq, e⟩)
/-- page and styles -/
structure PT where
  p : Pg
  st : St
def shapePT (CP CH : Addr) (x : PT) : List SO := shapeP CP CH x.p ++ [.dK (stO x.st)]
theorem shapePT_ok (CP CH : Addr) (x : PT) : ShOk 6 (shapePT CP CH x) := ⟨rfl, fun i o e => by
  match i, e with
  | 0, e => cases e; rfl
  | 1, e => cases e; rfl
  | 2, e => cases e; rfl
  | 3, e => cases e; rfl
  | 4, e => cases e; rfl
  | 5, e => cases e; rfl, osLt_app (shapeP_lt (by decide)) ⟨mapO_lt _ _ _ _, True.intro⟩⟩
/-! ### the store -/
def evB (b : Bool) : PyData := .str (kdS b)
abbrev ksO (ks : List (Int × Bool)) : List (Key × SV) := ks.map fun q => (ekI q.1, SV.i (evB q.2))
abbrev txO (tx : List (Int × List Nat)) : List (Key × SV) := tx.map fun q => (ekI q.1, SV.i (dT q.2))
abbrev dpO (bx : List (Int × Int × List Int)) : List (Key × SV) := bx.map fun q => (ekI q.1, SV.i (.int q.2.1))
def ix (j : Nat) : Nat := if j = 0 then 8 else 11 + j
def kidF : Nat → List Int → List (Key × SV)
  | _, [] => []
  | a, i :: l => (ekI i, .r (ix a)) :: kidF (a + 1) l
abbrev lsO (l : List Int) : SO := .lst ((l.map PyData.int).map SV.i)
def bIds (bx : List (Int × Int × List Int)) : List Int := bx.map fun b => b.1
def k0 (bx : List (Int × Int × List Int)) : List Int := (bx.headD (1, 1, [])).2.2
def rs (bx : List (Int × Int × List Int)) : List (List Int) := bx.tail.map fun b => b.2.2
def stQ (CP CH : Addr) (p : Pg) (st : List (Key × SV)) (ks kd : List (Key × SV)) (k : List Int) (tx dp : List (Key × SV)) (bs : List Int) (r : List (List Int)) : List SO := shapeP CP CH p ++ ([.dK st, .dK ks, .dK kd, lsO k, .dK tx, .dK dp, lsO bs] ++ r.map lsO)
def stR (CP CH : Addr) (S : TS) : List SO := stQ CP CH S.p (stO S.st) (ksO S.ks) (kidF 0 (bIds S.bx)) (k0 S.bx) (txO S.tx) (dpO S.bx) (bIds S.bx) (rs S.bx)
section
variable {CP CH : Addr} {p : Pg} {st ks kd tx dp : List (Key × SV)} {k bs : List Int} {r : List (List Int)}
theorem stQ_len : (stQ CP CH p st ks kd k tx dp bs r).length = 12 + r.length := by unfold stQ; simp [shapeP]; omega
theorem stQ_app (l : List Int) : stQ CP CH p st ks kd k tx dp bs r ++ [lsO l] = stQ CP CH p st ks kd k tx dp bs (r ++ [l]) := by
  unfold stQ
  rw [List.map_append, List.append_assoc, List.append_assoc]
  rfl
theorem stQ_setR (i : Nat) (l : List Int) : (stQ CP CH p st ks kd k tx dp bs r).set (12 + i) (lsO l) = stQ CP CH p st ks kd k tx dp bs (r.set i l) := by
  unfold stQ
  rw [List.map_set, List.set_append_right _ _ (by simp [shapeP]; omega), List.set_append_right _ _ (by simp [shapeP]; omega)]
  have e : 12 + i - (shapeP CP CH p).length - [SO.dK st, .dK ks, .dK kd, lsO k, .dK tx, .dK dp, lsO bs].length = i := by simp [shapeP]; omega
  rw [e]
theorem stQ_getR {i : Nat} {l : List Int} (h : r[i]? = some l) : (stQ CP CH p st ks kd k tx dp bs r)[12 + i]? = some (lsO l) := by
  unfold stQ
  rw [List.getElem?_append_right (by simp [shapeP]; omega), List.getElem?_append_right (by simp [shapeP]; omega)]
  have e : 12 + i - (shapeP CP CH p).length - [SO.dK st, .dK ks, .dK kd, lsO k, .dK tx, .dK dp, lsO bs].length = i := by simp [shapeP]; omega
  rw [e, List.getElem?_map, h]
  rfl
theorem ix_succ (i : Nat) : ix (i + 1) = 12 + i := by unfold ix; rw [if_neg (by omega)]; omega
theorem ix_lt (j n : Nat) (h : j < n + 1) : ix j < 12 + n := by unfold ix; split <;> omega
theorem list_at {bx : List (Int × Int × List Int)} {e : List (List Int)} {j : Nat} {b : Int × Int × List Int} (h : bx[j]? = some b) : (stQ CP CH p st ks kd (k0 bx) tx dp bs (rs bx ++ e))[ix j]? = some (lsO b.2.2) := by
  cases bx with
  | nil => cases h
  | cons b0 l =>
    cases j with
    | zero => cases h; rfl
    | succ i =>
      rw [ix_succ]
      have h : l[i]? = some b := by simpa using h
      refine stQ_getR ?_
      show (l.map (fun b => b.2.2) ++ e)[i]? = _
      rw [List.getElem?_append_left (by rw [List.length_map]; exact (List.getElem?_eq_some_iff.mp h).1), List.getElem?_map, h]
      rfl
theorem list_set {bx : List (Int × Int × List Int)} {e : List (List Int)} {j : Nat} (h : j < bx.length) (b : Int × Int × List Int) : (stQ CP CH p st ks kd (k0 bx) tx dp bs (rs bx ++ e)).set (ix j) (lsO b.2.2) = stQ CP CH p st ks kd (k0 (bx.set j b)) tx dp bs (rs (bx.set j b) ++ e) := by
  cases bx with
  | nil => exact absurd h (by simp)
  | cons b0 l =>
    cases j with
    | zero => rfl
    | succ i =>
      rw [ix_succ, stQ_setR]
      have hi : i < l.length := by simpa using h
      show stQ CP CH p st ks kd (k0 (b0 :: l)) tx dp bs ((l.map (fun b => b.2.2) ++ e).set i b.2.2) = stQ CP CH p st ks kd (k0 (b0 :: l.set i b)) tx dp bs ((l.set i b).map (fun b => b.2.2) ++ e)
      rw [List.set_append_left _ _ (by rw [List.length_map]; exact hi), List.map_set]
      rfl
theorem rs_app {bx : List (Int × Int × List Int)} (h : 0 < bx.length) (e : List (Int × Int × List Int)) : k0 (bx ++ e) = k0 bx ∧ rs (bx ++ e) = rs bx ++ e.map fun b => b.2.2 := by
  cases bx with
  | nil => exact absurd h (by simp)
  | cons b l => exact ⟨rfl, by show (l ++ e).map _ = _; rw [List.map_append]; rfl⟩
theorem rs_len {bx : List (Int × Int × List Int)} (h : 0 < bx.length) : (rs bx).length + 1 = bx.length := by
  cases bx with
  | nil => exact absurd h (by simp)
  | cons b l => unfold rs; simp
end
theorem kidF_app (n : Int) : ∀ (l : List Int) (a : Nat), kidF a (l ++ [n]) = kidF a l ++ [(ekI n, .r (ix (a + l.length)))]
  | [], a => rfl
  | i :: l, a => by
    show (ekI i, SV.r (ix a)) :: kidF (a + 1) (l ++ [n]) = _
    rw [kidF_app n l (a + 1), List.length_cons, show a + 1 + l.length = a + (l.length + 1) by omega]
    rfl
theorem kidF_keys : ∀ (l : List Int) (a : Nat), (kidF a l).map (·.1) = l.map ekI
  | [], _ => rfl
  | i :: l, a => by show ekI i :: (kidF (a + 1) l).map (·.1) = _; rw [kidF_keys l (a + 1)]; rfl
theorem kidF_len (l : List Int) (a : Nat) : (kidF a l).length = l.length := by
  have := congrArg List.length (kidF_keys l a)
  rwa [List.length_map, List.length_map] at this
theorem kidF_get : ∀ (l : List Int) (a : Nat), l.Nodup → ∀ (j : Nat) (n : Int), l[j]? = some n → getA (kidF a l) (.inl n) = some (.r (ix (a + j)))
  | [], _, _, j, n, h => by simp at h
  | i :: l, a, nd, 0, n, h => by
    have h : i = n := by simpa using h
    subst h
    show getA ((ekI i, SV.r (ix a)) :: kidF (a + 1) l) _ = _
    rw [getA_cons, if_pos (show (ekI i, SV.r (ix a)).1 = Sum.inl i from rfl)]
    rfl
  | i :: l, a, nd, j + 1, n, h => by
    have h : l[j]? = some n := by simpa using h
    rw [List.nodup_cons] at nd
    show getA ((ekI i, SV.r (ix a)) :: kidF (a + 1) l) _ = _
    rw [getA_cons, if_neg (fun e => nd.1 (by injection e with e; exact e ▸ List.mem_of_getElem? h)), kidF_get l (a + 1) nd.2 j n h, show a + 1 + j = a + (j + 1) by omega]
theorem kidF_lt {n : Nat} : ∀ (l : List Int) (a : Nat), (∀ j, j < l.length → ix (a + j) < n) → SoLt n (.dK (kidF a l))
  | [], _, _ => fun p hp => absurd hp List.not_mem_nil
  | i :: l, a, h => fun p hp => by
    rcases List.mem_cons.mp hp with e | hp
    · rw [e]; exact h 0 (Nat.succ_pos _)
    · exact kidF_lt l (a + 1) (fun j hj => by rw [show a + 1 + j = a + (j + 1) by omega]; exact h (j + 1) (Nat.succ_lt_succ hj)) p hp
theorem lsO_lt (n : Nat) (l : List Int) : SoLt n (lsO l) := soLt_data
theorem lsOs_lt (n : Nat) : ∀ r : List (List Int), OsLt n (r.map lsO)
  | [] => True.intro
  | l :: r => ⟨lsO_lt n l, lsOs_lt n r⟩
theorem stQ_lt {CP CH : Addr} {p : Pg} {m1 : St} {m2 : List (Int × Bool)} {ids : List Int} {k bs : List Int} {m3 : List (Int × List Nat)} {m4 : List (Int × Int × List Int)} {r : List (List Int)} {n : Nat} (h : 12 + r.length ≤ n) (h2 : ids.length ≤ r.length + 1) : OsLt n (stQ CP CH p (stO m1) (ksO m2) (kidF 0 ids) k (txO m3) (dpO m4) bs r) :=
  osLt_app (shapeP_lt (by omega)) (osLt_app ⟨mapO_lt _ _ _ _, mapO_lt _ _ _ _, kidF_lt ids 0 (fun j hj => Nat.lt_of_lt_of_le (ix_lt (0 + j) r.length (by omega)) h), lsO_lt _ _, mapO_lt _ _ _ _, mapO_lt _ _ _ _, lsO_lt _ _, True.intro⟩ (lsOs_lt _ _))
/-- the lists of the children, as data -/
theorem kidF_dat {J : Nat → Bool} {os : List SO} : ∀ (l : List (Int × Int × List Int)) (a : Nat), (∀ i b, l[i]? = some b → J (ix (a + i)) = true ∧ os[ix (a + i)]? = some (lsO b.2.2)) → DatJK J os (kidF a (bIds l)) (l.map fun b => (ekI b.1, .list (b.2.2.map PyData.int)))
  | [], _, _ => .nil
  | b :: l, a, h => by
    obtain ⟨h1, h2⟩ := h 0 b rfl
    exact .cons (.lst h1 h2 (DatJL.i _)) (kidF_dat l (a + 1) fun i b hb => by
      have := h (i + 1) b (by simpa using hb)
      rw [show a + 1 + i = a + (i + 1) by omega]
      exact this)
section
variable {CP CH : Addr} {p : Pg} {st ks kd tx dp X : List (Key × SV)} {k bs l : List Int} {r : List (List Int)}
theorem stQ_s5 : (stQ CP CH p st ks kd k tx dp bs r).set 5 (.dK X) = stQ CP CH p X ks kd k tx dp bs r := rfl
theorem stQ_s6 : (stQ CP CH p st ks kd k tx dp bs r).set 6 (.dK X) = stQ CP CH p st X kd k tx dp bs r := rfl
theorem stQ_s7 : (stQ CP CH p st ks kd k tx dp bs r).set 7 (.dK X) = stQ CP CH p st ks X k tx dp bs r := rfl
theorem stQ_s9 : (stQ CP CH p st ks kd k tx dp bs r).set 9 (.dK X) = stQ CP CH p st ks kd k X dp bs r := rfl
theorem stQ_s10 : (stQ CP CH p st ks kd k tx dp bs r).set 10 (.dK X) = stQ CP CH p st ks kd k tx X bs r := rfl
theorem stQ_s11 : (stQ CP CH p st ks kd k tx dp bs r).set 11 (lsO l) = stQ CP CH p st ks kd k tx dp l r := rfl
theorem set_app {α : Type} {a b : List α} {i : Nat} {v : α} (h : i < a.length) : (a ++ b).set i v = a.set i v ++ b := List.set_append_left _ _ h
end
theorem wkO_app : ∀ a b : List SO, WkO (a ++ b) a
  | [], _ => by cases ‹List SO› <;> exact True.intro
  | _ :: a, b => ⟨Or.inr rfl, wkO_app a b⟩
def S0 (x : PT) : TS := ⟨x.p, x.st, [(1, true)], [(1, 1, [])], []⟩
def numsOf (ns : List Int) (f : Nat) : List Int := ((List.range (source (ns.getD f 0) % 9).toNat).map fun i : Nat => mixed (source (ns.getD f 0) + 7919 * (i : Int))) ++ (ns.drop (f + 1)).map source
theorem numsOf_len {ns : List Int} {f : Nat} (h : ns.length ≤ 63) : (numsOf ns f).length ≤ 71 := by
  unfold numsOf
  have := Int.emod_lt_of_pos (source (ns.getD f 0)) (show (0 : Int) < 9 by decide)
  rw [List.length_append, List.length_map, List.length_map, List.length_range, List.length_drop]
  omega
def kidsD (bx : List (Int × Int × List Int)) : PyData := dK0 (bx.map fun b => (ekI b.1, PyData.list (b.2.2.map PyData.int)))
def textsD (tx : List (Int × List Nat)) : PyData := dKd ekI dT tx
def treeD (S : TS) : PyData := .tuple [frD ekI evB S.ks, kidsD S.bx, textsD S.tx]
def treeOf (x : PT) (ns : List Int) (f : Nat) : TS := runT (S0 x) (numsOf ns f)
theorem dp_get {bx : List (Int × Int × List Int)} (nd : (bIds bx).Nodup) {q : Int × Int × List Int} (hq : q ∈ bx) : getA (dpO bx) (.inl q.1) = some (.i (.int q.2.1)) := by
  have e : dpO bx = (bx.map fun b => (b.1, b.2.1)).map fun p : Int × Int => (ekI p.1, SV.i (.int p.2)) := by rw [List.map_map]; rfl
  rw [e]
  have h1 : getA (bx.map fun b => (b.1, b.2.1)) q.1 = some q.2.1 := getA_nodup (m := bx.map fun b => (b.1, b.2.1)) (by rw [List.map_map]; exact nd) (p := (q.1, q.2.1)) (List.mem_map.mpr ⟨q, hq, rfl⟩)
  have := getA_enc (ek := ekI) ekI_inj (ev := fun i : Int => SV.i (.int i)) (bx.map fun b => (b.1, b.2.1)) q.1
  rw [h1] at this
  exact this
theorem st_get {st : St} {n : Int} {m : Tb} (h : getA st n = some m) : getA (stO st) (.inl n) = some (.i (dS m)) := by
  have := getA_enc (ek := ekI) ekI_inj (ev := fun m : Tb => SV.i (dS m)) st n
  rw [h] at this
  exact this
theorem dpO_set {bx : List (Int × Int × List Int)} {j : Nat} {b b2 : Int × Int × List Int} (h : bx[j]? = some b) (h1 : b2.1 = b.1) (h2 : b2.2.1 = b.2.1) : dpO (bx.set j b2) = dpO bx := by
  unfold dpO
  rw [List.map_set]
  exact set_at (by rw [List.getElem?_map, h, h1, h2]; rfl)
theorem bIds_set {bx : List (Int × Int × List Int)} {j : Nat} {b b2 : Int × Int × List Int} (h : bx[j]? = some b) (h1 : b2.1 = b.1) : bIds (bx.set j b2) = bIds bx := by
  unfold bIds
  rw [List.map_set]
  exact set_at (by rw [List.getElem?_map, h, h1]; rfl)
theorem TI.ndk {S : TS} (h : TI S) : (S.ks.map (·.1)).Nodup := by rw [h.ids]; exact idN_nd _
theorem TI.ndb {S : TS} (h : TI S) : (bIds S.bx).Nodup := by
  show (S.bx.map (·.1)).Nodup
  rw [h.bids]
  exact List.Nodup.sublist (List.Sublist.map _ List.filter_sublist) h.ndk
theorem TI.freshT {S : TS} (h : TI S) : S.p.last + 1 ∉ S.tx.map (·.1) := fun z => by
  rw [h.tids] at z
  exact h.fresh (List.Sublist.subset (List.Sublist.map _ List.filter_sublist) z)
theorem TI.freshB {S : TS} (h : TI S) : S.p.last + 1 ∉ S.bx.map (·.1) := fun z => by
  rw [h.bids] at z
  exact h.fresh (List.Sublist.subset (List.Sublist.map _ List.filter_sublist) z)
theorem TI.freshS {S : TS} (h : TI S) : S.p.last + 1 ∉ S.st.map (·.1) := by rw [h.sids]; exact h.fresh
theorem TI.stl {S : TS} (h : TI S) : S.st.length = S.ks.length := by
  have := congrArg List.length h.sids
  rwa [List.length_map, List.length_map] at this
theorem TI.bxl {S : TS} (h : TI S) : S.bx.length ≤ S.ks.length := by
  have := congrArg List.length h.bids
  rw [List.length_map, List.length_map] at this
  have h2 := List.length_filter_le (fun q : Int × Bool => q.2) S.ks
  omega
theorem TI.txl {S : TS} (h : TI S) : S.tx.length ≤ S.ks.length := by
  have := congrArg List.length h.tids
  rw [List.length_map, List.length_map] at this
  have h2 := List.length_filter_le (fun q : Int × Bool => !q.2) S.ks
  omega
theorem ksO_app (a : List (Int × Bool)) (n : Int) (b : Bool) : ksO (a ++ [(n, b)]) = ksO a ++ [(.inl n, SV.i (evB b))] := by unfold ksO; rw [List.map_append]; rfl
theorem txO_app (a : List (Int × List Nat)) (n : Int) (b : List Nat) : txO (a ++ [(n, b)]) = txO a ++ [(.inl n, SV.i (dT b))] := by unfold txO; rw [List.map_append]; rfl
theorem stO_app (a : St) (n : Int) (b : Tb) : stO (a ++ [(n, b)]) = stO a ++ [(.inl n, SV.i (dS b))] := by unfold stO; rw [List.map_append]; rfl
theorem dpO_app (a b : List (Int × Int × List Int)) : dpO (a ++ b) = dpO a ++ dpO b := by unfold dpO; rw [List.map_append]
theorem bIds_app (a b : List (Int × Int × List Int)) : bIds (a ++ b) = bIds a ++ bIds b := by unfold bIds; rw [List.map_append]
theorem kidF_new {bx : List (Int × Int × List Int)} {m : Nat} (h : bx.length = m + 1) (n d : Int) (l : List Int) : kidF 0 (bIds (bx ++ [(n, d, l)])) = kidF 0 (bIds bx) ++ [(.inl n, .r (12 + m))] := by
  rw [bIds_app]
  show kidF 0 (bIds bx ++ [n]) = _
  rw [kidF_app, Nat.zero_add, show (bIds bx).length = m + 1 by unfold bIds; rw [List.length_map, h], ix_succ]
  rfl
theorem kidF_fresh {S : TS} (h : TI S) : (Sum.inl (S.p.last + 1) : Key) ∉ (kidF 0 (bIds S.bx)).map (·.1) := fun z => by
  rw [kidF_keys] at z
  obtain ⟨i, hi, e⟩ := List.mem_map.mp z
  injection e with e
  exact h.freshB (by rw [← e]; exact hi)
theorem frD_map {α β : Type} {ek : α → Key} {ev : β → PyData} (m : List (α × β)) : frD (fun k : Key => k) (fun d : PyData => d) (m.map fun q => (ek q.1, ev q.2)) = frD ek ev m := by
  unfold frD
  rw [List.map_map]
  rfl
theorem dK0_map {α β : Type} {ek : α → Key} {ev : β → PyData} (m : List (α × β)) : dK0 (m.map fun q => (ek q.1, ev q.2)) = dKd ek ev m := by
  show PyData.dict ((m.map fun q => (ek q.1, ev q.2)).map fun p => (kdat p.1, p.2)) = PyData.dict (m.map fun p => (kdat (ek p.1), ev p.2))
  rw [List.map_map]
  rfl
def Jk (k : Nat) : Bool := decide (k = 7) || decide (k = 8) || decide (12 ≤ k)
def stK (CP CH : Addr) (S : TS) : List SO := shapeP CP CH S.p ++ ([.dK (stO S.st), .dK (ksO S.ks), .x, .x, .dK (txO S.tx), .dK (dpO S.bx), lsO (bIds S.bx)] ++ (rs S.bx).map fun _ => SO.x)
theorem stK_len (CP CH : Addr) (S : TS) : (stK CP CH S).length = (stR CP CH S).length := by
  unfold stK stR stQ
  simp
theorem stK_x (CP CH : Addr) (S : TS) (j : Nat) (h : Jk j = true) : ¬ Lv (stK CP CH S) j := fun ⟨o, e, l⟩ => by
  unfold Jk at h
  simp only [Bool.or_eq_true, decide_eq_true_eq] at h
  rcases h with (h | h) | h
  · subst h; cases e; cases l
  · subst h; cases e; cases l
  · unfold stK at e
    rw [List.getElem?_append_right (by simp [shapeP]; omega), List.getElem?_append_right (by simp [shapeP]; omega), List.getElem?_map] at e
    obtain ⟨_, _, e⟩ := Option.map_eq_some_iff.mp e
    cases e
    cases l
theorem stK_o (CP CH : Addr) (S : TS) (j : Nat) (o : SO) (h : Jk j = false) (e : (stK CP CH S)[j]? = some o) (l : o.live = true) : (stR CP CH S)[j]? = some o := by
  unfold Jk at h
  simp only [Bool.or_eq_false_iff, decide_eq_false_iff_not] at h
  have hj : j = 0 ∨ j = 1 ∨ j = 2 ∨ j = 3 ∨ j = 4 ∨ j = 5 ∨ j = 6 ∨ j = 9 ∨ j = 10 ∨ j = 11 := by omega
  rcases hj with rfl | rfl | rfl | rfl | rfl | rfl | rfl | rfl | rfl | rfl <;> (cases e; rfl)
theorem Jk_ix (i : Nat) : Jk (ix i) = true := by
  unfold Jk ix
  split
  · rfl
  · simp; omega
theorem kids_dat (CP CH : Addr) (S : TS) : DatJ Jk (stR CP CH S) (.r 7) (kidsD S.bx) := .dK rfl rfl (kidF_dat S.bx 0 fun i b hb => ⟨Jk_ix _, by
  have := list_at (CP := CP) (CH := CH) (p := S.p) (st := stO S.st) (ks := ksO S.ks) (kd := kidF 0 (bIds S.bx)) (tx := txO S.tx) (dp := dpO S.bx) (bs := bIds S.bx) (e := []) hb
  rw [List.append_nil] at this
  rw [Nat.zero_add]
  exact this⟩)
theorem wkO_end {a : List SO} {o : SO} : WkO (a ++ [o]) a := wkO_app a [o]
theorem ksO_new {a : List (Int × Bool)} {n : Int} (h : n ∉ a.map (·.1)) (b : Bool) : setA (ksO a) (.inl n) (.i (evB b)) = ksO (a ++ [(n, b)]) := by
  rw [ksO_app]
  exact setA_end (keyO (f := fun b => SV.i (evB b)) h)
theorem txO_new {a : List (Int × List Nat)} {n : Int} (h : n ∉ a.map (·.1)) (b : List Nat) : setA (txO a) (.inl n) (.i (dT b)) = txO (a ++ [(n, b)]) := by
  rw [txO_app]
  exact setA_end (keyO (f := fun b => SV.i (dT b)) h)
theorem stO_new {a : St} {n : Int} (h : n ∉ a.map (·.1)) (v : SV) : setA (stO a) (.inl n) v = stO a ++ [(.inl n, v)] := setA_end (keyO (f := fun b => SV.i (dS b)) h)
theorem dpO_new {a : List (Int × Int × List Int)} {n : Int} (h : n ∉ a.map (·.1)) (d : Int) (l : List Int) : setA (dpO a) (.inl n) (.i (.int d)) = dpO a ++ dpO [(n, d, l)] := setA_end (keyO (f := fun b : Int × List Int => SV.i (.int b.1)) h)
def R__law_tree : PT → List SV → PT → PyData → Prop := fun x ds x' d => ∃ (ns : List Int) (f : Nat), ds = [.i (dI ns), .i (.int (f : Int)), .r 0, .r 5] ∧ ns.length ≤ 63 ∧ f ≤ 10 ∧ TI (S0 x) ∧ x' = ⟨(treeOf x ns f).p, (treeOf x ns f).st⟩ ∧ d = treeD (treeOf x ns f)
theorem R__law_tree_len : ∀ x ds x' d, R__law_tree x ds x' d → ds.length = 4 := by
  intro x ds x' d hh
  unfold R__law_tree at hh
  repeat (obtain ⟨_, hh⟩ := hh)
  subst_eqs
  rfl
theorem ok__law_tree {P : Program} {w : World} {K : PySem.W.Frag} {mg : Str → Option Value} {base : Heap} {f : Addr} {fd : FuncData} (F : FnP K "_law_tree" s__law_tree f fd) (g0 : mg "_law_tree" = some (.ref f)) {C_History : Addr} (kC_History : Cls K C_History) (n_History_cells : NoAttr K C_History "cells") (n_History__done : NoAttr K C_History "_done") (n_History__undone : NoAttr K C_History "_undone") {C_Page : Addr} (kC_Page : Cls K C_Page) (n_Page_width : NoAttr K C_Page "width") (n_Page_height : NoAttr K C_Page "height") (n_Page__last_id : NoAttr K C_Page "_last_id") (n_Page__moment : NoAttr K C_Page "_moment") (n_Page__marked : NoAttr K C_Page "_marked") (n_Page__history : NoAttr K C_Page "_history") (h__law_source : Cal P w K mg base 2 "_law_source" ["cell"] (spD K  R__law_source)) (h__law_cell : Cal P w K mg base 1 "_law_cell" ["script", "k"] (spD K  R__law_cell)) (h__law_mixed : Cal P w K mg base 1 "_law_mixed" ["cell"] (spD K  R__law_mixed)) (h__law_string : Cal P w K mg base 2 "_law_string" ["number"] (spD K  R__law_string)) (h_Page_insert_text : DL.MetP P w K mg base 5 C_Page "insert_text" ["self", "parent", "index", "string"] (DL.spS K 5 (shapeP C_Page C_History) R_Page_insert_text)) (h__law_text_style : Cal P w K mg base 1 "_law_text_style" ["scale"] (DL.spI K ekS evS R__law_text_style)) (ke_Page_insert_box_marks : ∀ N H, Dn K N H (.ref (DL.kwAt ("Page", some "insert_box") "marks" K)) (.tuple [])) (h_Page_insert_box : DL.MetQ P w K mg base 5 C_Page "insert_box" ["self", "parent", "index", "name", "marks"] (DL.spS K 5 (shapeP C_Page C_History) R_Page_insert_box) [(4, [], [("marks", .ref (DL.kwAt ("Page", some "insert_box") "marks" K))])]) (h__law_box_style : Cal P w K mg base 2 "_law_box_style" ["number", "scale"] (DL.spI K ekS evS R__law_box_style)) (z_range : mg "range" = none) (z_int : mg "int" = none) (z_len : mg "len" = none) : Cal P w K mg base 6 "_law_tree" ["script", "first", "page", "styles"] (DL.spS K 6 (shapePT C_Page C_History) R__law_tree) := by
  refine cal_mk F sc__law_tree g0 (DL.spS_len R__law_tree_len) (fun _ _ _ _ _ _ us hl => match us, hl with | [_, _, _, _], _ => rfl) (fun cdv A outer s H vs Q E hr h => ⟨_,
    (pss_cons (ps_set (i := 4) sc__law_tree.nd rfl (by first | exact Or.inl rfl | exact Or.inr rfl) (pe_disp (pps_cons pe_int pe_str pps_nil) (by rfl) (by rfl) (by simp) (by decide)))
     (pss_cons (ps_set (i := 5) sc__law_tree.nd rfl (by first | exact Or.inl rfl | exact Or.inr rfl) (pe_disp (pps_cons pe_int (pe_lst pa_nil) pps_nil) (by rfl) (by rfl) (by simp) (by decide)))
     (pss_cons (ps_set (i := 6) sc__law_tree.nd rfl (by first | exact Or.inl rfl | exact Or.inr rfl) pe_dnewK)
     (pss_cons (ps_set (i := 7) sc__law_tree.nd rfl (by first | exact Or.inl rfl | exact Or.inr rfl) (pe_disp (pps_cons pe_int pe_int pps_nil) (by rfl) (by rfl) (by simp) (by decide)))
     (pss_cons (ps_set (i := 8) sc__law_tree.nd rfl (by first | exact Or.inl rfl | exact Or.inr rfl) (pe_lst (pa_cons pe_int pa_nil)))
     (pss_cons (ps_set (i := 9) sc__law_tree.nd rfl (by first | exact Or.inl rfl | exact Or.inr rfl) (DL.pe_cal h__law_source hr (by decide) (by rfl) pass0 (pa_cons (DL.pe_cal h__law_cell hr (by decide) (by rfl) pass0 (pa_cons (pv 0) (pa_cons (pv 1) pa_nil))) pa_nil)))
     (pss_cons (ps_setLc (i := 10) (own := [("k", 19)]) (by rfl) sc__law_tree.nd rfl rfl (sw_true rfl rfl rfl (by decide +kernel)) (pi_range1 (by rfl) z_range (pa_cons (pe_op op_mod (pe_callTy call_int1 (by rfl) z_int (by decide +kernel) (pa_cons (pv 9) pa_nil)) pe_int) pa_nil)) (blkOk_by (own := [("k", 19)]) (N := ["script", "first", "page", "styles", "kinds", "kids", "texts", "depths", "boxes", "extra", "numbers", "cell", "number", "parent", "row", "at", "scale", "text", "node", "k"]) (sc := defScope s__law_tree) (by decide +kernel)) (fun _ _ _ _ _ => (pg_name (i := 19) sc__law_tree.nd rfl (by first | exact Or.inl rfl | exact Or.inr rfl))) (fun _ _ _ _ _ => pts_nil) (fun _ _ _ _ _ => (DL.pe_cal h__law_mixed hr (by decide) (by rfl) pass0 (pa_cons (pe_op op_add (pv 9) (pe_op op_mul pe_int (pv 19))) pa_nil))))
     (pss_cons (ps_for PassesOwn.never rfl (DL.kPiL (K := K) (pe_slice (DL.kSlL (K := K)) (pv 0) (po_some (pe_op op_add (pv 1) pe_int)) po_none)) (pg_name (i := 11) sc__law_tree.nd rfl (by first | exact Or.inl rfl | exact Or.inr rfl))
     (pss_cons (ps_expr (DL.kBm (K := K) (pe_bm PySem.F.plainAttrs_list PySem.F.slot_list_append PySem.F.type_list_append mt_append (pv 10) (pa_cons (DL.pe_cal h__law_source hr (by decide) (by rfl) pass0 (pa_cons (pv 11) pa_nil)) pa_nil))))
     pss_nil))
     (pss_cons (ps_for PassesOwn.never rfl (DL.kPiL (K := K) (pv 10)) (pg_name (i := 12) sc__law_tree.nd rfl (by first | exact Or.inl rfl | exact Or.inr rfl))
     (pss_cons (ps_set (i := 13) sc__law_tree.nd rfl (by first | exact Or.inl rfl | exact Or.inr rfl) (pe_ix (DL.kIxL (K := K)) (pv 8) (pe_op op_mod (pe_callTy call_int1 (by rfl) z_int (by decide +kernel) (pa_cons (pv 12) pa_nil)) (pe_callB (DL.kLen (K := K)) (by rfl) z_len (by decide +kernel) (pa_cons (pv 8) pa_nil))) (fun _ _ => rfl)))
     (pss_cons (ps_if (pt_cmpR op_gt (pe_dget (DL.u1 hr.units) (pv 7) (pv 13) (fun _ _ => rfl)) pe_int (nomark _))
     (pss_cons (ps_set (i := 13) sc__law_tree.nd rfl (by first | exact Or.inl rfl | exact Or.inr rfl) pe_int)
     pss_nil)
     pss_nil)
     (pss_cons (ps_set (i := 12) sc__law_tree.nd rfl (by first | exact Or.inl rfl | exact Or.inr rfl) (pe_op op_fdiv (pv 12) pe_int))
     (pss_cons (ps_set (i := 14) sc__law_tree.nd rfl (by first | exact Or.inl rfl | exact Or.inr rfl) (pe_dget (DL.u1 hr.units) (pv 5) (pv 13) (fun _ _ => rfl)))
     (pss_cons (ps_set (i := 15) sc__law_tree.nd rfl (by first | exact Or.inl rfl | exact Or.inr rfl) (pe_op op_mod (pe_callTy call_int1 (by rfl) z_int (by decide +kernel) (pa_cons (pv 12) pa_nil)) (pe_op op_add (pe_callB (DL.kLen (K := K)) (by rfl) z_len (by decide +kernel) (pa_cons (pv 14) pa_nil)) pe_int)))
     (pss_cons (ps_set (i := 12) sc__law_tree.nd rfl (by first | exact Or.inl rfl | exact Or.inr rfl) (pe_op op_fdiv (pv 12) pe_int))
     (pss_cons (ps_set (i := 16) sc__law_tree.nd rfl (by first | exact Or.inl rfl | exact Or.inr rfl) (pe_dget (DL.u1 hr.units) (pe_dget (DL.u1 hr.units) (pv 3) (pv 13) (fun _ _ => rfl)) pe_str (fun _ _ => rfl)))
     (pss_cons (ps_if (pt_cmpR op_eq (pe_op op_mod (pe_callTy call_int1 (by rfl) z_int (by decide +kernel) (pa_cons (pv 12) pa_nil)) pe_int) pe_int (nomark _))
     (pss_cons (ps_set (i := 17) sc__law_tree.nd rfl (by first | exact Or.inl rfl | exact Or.inr rfl) (DL.pe_cal h__law_string hr (by decide) (by rfl) pass0 (pa_cons (pe_op op_fdiv (pv 12) pe_int) pa_nil)))
     (pss_cons (ps_set (i := 18) sc__law_tree.nd rfl (by first | exact Or.inl rfl | exact Or.inr rfl) (DL.pe_metP h_Page_insert_text hr (by decide) pass0 (pv 2) (pa_cons (pv 13) (pa_cons (pv 15) (pa_cons (pv 17) pa_nil)))))
     (pss_cons (ps_dput (DL.u1 hr.units) (pv 4) (pv 18) pe_str rfl)
     (pss_cons (ps_dput (DL.u1 hr.units) (pv 6) (pv 18) (pv 17) rfl)
     (pss_cons (ps_dput (DL.u1 hr.units) (pv 3) (pv 18) (DL.pe_cal h__law_text_style hr (by decide) (by rfl) pass0 (pa_cons (pv 16) pa_nil)) rfl)
     pss_nil)))))
     (pss_cons (ps_set (i := 18) sc__law_tree.nd rfl (by first | exact Or.inl rfl | exact Or.inr rfl) (DL.pe_metQ h_Page_insert_box (List.mem_of_getElem? (i := 0) (a := ((4, [], [("marks", .ref (DL.kwAt ("Page", some "insert_box") "marks" K))]) : DL.CForm)) rfl) hr (by decide) pass0 (pv 2) (pa_cons (pv 13) (pa_cons (pv 15) (pa_cons pe_str pa_nil))) pk_nil))
     (pss_cons (ps_dput (DL.u1 hr.units) (pv 4) (pv 18) pe_str rfl)
     (pss_cons (ps_dput (DL.u1 hr.units) (pv 5) (pv 18) (pe_lst pa_nil) rfl)
     (pss_cons (ps_dput (DL.u1 hr.units) (pv 3) (pv 18) (DL.pe_cal h__law_box_style hr (by decide) (by rfl) pass0 (pa_cons (pe_op op_fdiv (pv 12) pe_int) (pa_cons (pe_op op_add pe_int (pe_op op_mod (pe_callTy call_int1 (by rfl) z_int (by decide +kernel) (pa_cons (pe_op op_fdiv (pv 12) pe_int) pa_nil)) pe_int)) pa_nil))) rfl)
     (pss_cons (ps_dput (DL.u1 hr.units) (pv 7) (pv 18) (pe_op op_add (pe_dget (DL.u1 hr.units) (pv 7) (pv 13) (fun _ _ => rfl)) pe_int) rfl)
     (pss_cons (ps_expr (DL.kBm (K := K) (pe_bm PySem.F.plainAttrs_list PySem.F.slot_list_append PySem.F.type_list_append mt_append (pv 8) (pa_cons (pv 18) pa_nil))))
     pss_nil)))))))
     (pss_cons (ps_expr (DL.kBm (K := K) (pe_bm PySem.F.plainAttrs_list PySem.F.slot_list_insert PySem.F.type_list_insert mt_insert (pv 14) (pa_cons (pv 15) (pa_cons (pv 18) pa_nil)))))
     pss_nil))))))))))
     (pss_cons (ps_ret (pe_tup (pa_cons (DL.pe_frz (pv 4)) (pa_cons (pv 5) (pa_cons (pv 6) pa_nil)))))
     pss_nil)))))))))), ?_⟩)
  refine DL.run_spS h (Nat.le_trans (Nat.le_of_eq (DL.spS_len R__law_tree_len _ _ _ _ h)) (by decide)) fun N ad x ds hsh hR hq => ?_
  obtain ⟨x', d, ns, f, rfl, hl, hf, hti, rfl, rfl⟩ := hR
  simp only [envG, List.map, List.length, List.replicate, List.cons_append, List.nil_append, Nat.reduceAdd, Nat.reduceSub, Nat.sub_self]
  refine gs_asgF (o := .dK (ksO [(1, true)])) (EvF.is (ef_disp (kvs := [(.inl 1, evB true)]) (ep_cons ex_int ex_str rfl ep_nil) (show ([.inl 1] : List Key).Nodup by decide) (Nat.le_of_ble_eq_true rfl)) rfl) ?_
  refine gs_is (env' := [some (.i (dI ns)), some (.i (.int (f : Int))), some (.r 0), some (.r 5), some (.r 6), none, none, none, none, none, none, none, none, none, none, none, none, none, none, none]) (os' := shapePT C_Page C_History x ++ [.dK (ksO [(1, true)])]) rfl rfl ?_
  refine gs_asgG (eg_dispG (os := shapePT C_Page C_History x ++ [.dK (ksO [(1, true)])]) (fun _ => epg_f (kk := .inl 1) ex_int (ef_lst eas_nil (Nat.zero_le _)) fun _ => epg_nil) rfl (show ([.inl 1] : List Key).Nodup by decide) (Nat.le_of_ble_eq_true rfl)) ?_
  refine gs_is (env' := [some (.i (dI ns)), some (.i (.int (f : Int))), some (.r 0), some (.r 5), some (.r 6), some (.r 7), none, none, none, none, none, none, none, none, none, none, none, none, none, none]) (os' := shapePT C_Page C_History x ++ [.dK (ksO [(1, true)]), .dK [(.inl 1, .r 8)], .lst []]) rfl rfl ?_
  refine gs_asgF (o := .dK []) ef_dnewK ?_
  refine gs_is (env' := [some (.i (dI ns)), some (.i (.int (f : Int))), some (.r 0), some (.r 5), some (.r 6), some (.r 7), some (.r 9), none, none, none, none, none, none, none, none, none, none, none, none, none]) (os' := shapePT C_Page C_History x ++ [.dK (ksO [(1, true)]), .dK [(.inl 1, .r 8)], .lst [], .dK []]) rfl rfl ?_
  refine gs_asgF (o := .dK [(.inl 1, .i (.int 1))]) (EvF.is (ef_disp (kvs := [(.inl 1, .int 1)]) (ep_cons ex_int ex_int rfl ep_nil) (show ([.inl 1] : List Key).Nodup by decide) (Nat.le_of_ble_eq_true rfl)) rfl) ?_
  refine gs_is (env' := [some (.i (dI ns)), some (.i (.int (f : Int))), some (.r 0), some (.r 5), some (.r 6), some (.r 7), some (.r 9), some (.r 10), none, none, none, none, none, none, none, none, none, none, none, none]) (os' := shapePT C_Page C_History x ++ [.dK (ksO [(1, true)]), .dK [(.inl 1, .r 8)], .lst [], .dK [], .dK [(.inl 1, .i (.int 1))]]) rfl rfl ?_
  refine gs_asgF (o := .lst [.i (.int 1)]) (ef_lst (EvA.ss (ds := [.int 1]) (ea_cons ex_int ea_nil)) (Nat.le_of_ble_eq_true rfl)) ?_
  refine gs_is (env' := [some (.i (dI ns)), some (.i (.int (f : Int))), some (.r 0), some (.r 5), some (.r 6), some (.r 7), some (.r 9), some (.r 10), some (.r 11), none, none, none, none, none, none, none, none, none, none, none]) (os' := stR C_Page C_History (S0 x)) rfl rfl ?_
  have hlen0 : (stR C_Page C_History (S0 x)).length = 12 := rfl
  have hlt0 : ∀ n, 12 ≤ n → OsLt n (stR C_Page C_History (S0 x)) := fun n h => stQ_lt (m1 := x.st) (m2 := [(1, true)]) (ids := [1]) (m3 := []) (m4 := [(1, 1, [])]) (r := []) h (by decide)
  have hqn : numsOf ns f = ((List.range (source (ns.getD f 0) % 9).toNat).map fun i : Nat => mixed (source (ns.getD f 0) + 7919 * (i : Int))) ++ (ns.drop (f + 1)).map source := rfl
  have hnl := numsOf_len (f := f) hl
  generalize hos0 : stR C_Page C_History (S0 x) = os0 at *
  refine gs_asg (d := .int (source (ns.getD f 0))) (ex_call (ea_cons (ex_call (ea_cons (ex_var rfl) (ea_cons (ex_var rfl) ea_nil)) (R__law_cell_i f)) ea_nil) R__law_source_i) ?_
  walk_at "nf"
  have he0 := source_nn (ns.getD f 0)
  generalize source (ns.getD f 0) = e at *
  have e1 : e % 9 < 9 := Int.emod_lt_of_pos _ (by decide)
  have e2 : 0 ≤ e % 9 := Int.emod_nonneg _ (by decide)
  obtain ⟨bs, ebs⟩ : ∃ bs : List Int, bs = (List.range (e % 9).toNat).map fun i : Nat => mixed (e + 7919 * (i : Int)) := ⟨_, rfl⟩
  rw [← ebs] at hqn
  have hbl : bs.length ≤ 8 := by rw [ebs, List.length_map, List.length_range]; omega
  refine' gs_asgF (o := lsO bs) (EvF.is ?l1 ?l2) ?_
  case l1 =>
    refine' ef_lcR (n := e % 9) (fun _ => true) (fun i => .int (mixed (e + 7919 * (i : Int)))) ?l3 (by omega) (fun fr lo up acc i hi => ⟨_, _, ?l4, tg_name, et_yes, fun _ => ?l5⟩)
    case l3 => walk_at "a"
    case l4 => walk_at "js"
    case l5 =>
      walk_at "we"
      refine' ex_call (ea_cons ?l6 ea_nil) R__law_mixed_i
      case l6 => walk_at "v"
  case l2 => rw [ebs]; simp [filt_all, List.map_map, Function.comp_def]
  clear ebs
  refine gs_weak (env' := [some (.i (dI ns)), some (.i (.int (f : Int))), some (.r 0), some (.r 5), some (.r 6), some (.r 7), some (.r 9), some (.r 10), some (.r 11), none, some (.r 12), none, none, none, none, none, none, none, none, none]) (os' := os0 ++ [lsO bs]) (by simp [WkE, hlen0]) (WkO.refl _) (by simp [EnLt, SvLt, hlen0]) (osLt_app (hlt0 _ (by rw [List.length_append, hlen0]; exact Nat.le_add_right _ _)) ⟨lsO_lt _ _, True.intro⟩) (by show 6 ≤ (os0 ++ [lsO bs]).length; simp [hlen0]) ?_
  have hdl : (ns.drop (f + 1)).length ≤ 63 := by rw [List.length_drop]; omega
  refine' gs_forD (xs := ns.drop (f + 1)) (f := PyData.int) (fun pre => [some (.i (dI ns)), some (.i (.int (f : Int))), some (.r 0), some (.r 5), some (.r 6), some (.r 7), some (.r 9), some (.r 10), some (.r 11), none, some (.r 12), none, none, none, none, none, none, none, none, none]) (fun pre => os0 ++ [lsO (bs ++ pre.map source)]) ?m1 ?m2 (fun fr up pre x post hx => ⟨_, _, tg_name, ?m5⟩) ?m6
  case m1 =>
    refine' EvF.ev (EvF.is (ef_slice (EvX.it (ex_var rfl)) (eo_some (i := ((f + 1 : Nat) : Int)) (EvX.is (ex_i2 (ex_var rfl) ex_int) ?m3)) eo_none) ?m4)
    case m3 => exact congrArg PyData.int (by omega)
    case m4 => rw [cutG_from, ← List.map_drop, ← List.map_drop]
  case m2 =>
    intro c' _ ad σ H ok
    simpa using ok
  case m5 =>
    walk_at "nf"
    refine' gs_app (k := 12) (ss := ((bs ++ pre.map source).map PyData.int).map SV.i) (er_var rfl (by simp [hlen0])) (get_last hlen0) (s := .i (.int (source x))) (show EvX false _ _ _ _ _ from ex_call (ea_cons (ex_var rfl) ea_nil) R__law_source_i) ?n2 ?_
    case n2 =>
      have h1 : pre.length ≤ 63 := by
        have := congrArg List.length hx
        rw [List.length_append] at this
        omega
      simp
      omega
    refine gs_is (os' := os0 ++ [lsO (bs ++ (pre ++ [x]).map source)]) rfl ?n3 ?_
    case n3 => rw [set_last hlen0]; simp
    refine g_next ?_
    intro ad σ H ok
    exact (show OkE _ _ _ _ _ from ⟨ad, ok.weak (by simp [WkE]) (WkO.refl _) (by simp [EnLt, SvLt, hlen0]) (osLt_app (hlt0 _ (by rw [List.length_append, hlen0]; exact Nat.le_add_right _ _)) ⟨lsO_lt _ _, True.intro⟩) (Nat.le_of_eq (by rw [List.length_append, List.length_append]; rfl))⟩)
  case m6 =>
  rw [← hqn]
  refine gs_own (i := 10) (k := 12) (ds := (numsOf ns f).map PyData.int) rfl (get_last hlen0) ?_
  clear hqn hdl hbl
  refine gs_weak (env' := [some (.i (dI ns)), some (.i (.int (f : Int))), some (.r 0), some (.r 5), some (.r 6), some (.r 7), some (.r 9), some (.r 10), some (.r 11), none, some (.i (dI (numsOf ns f))), none, none, none, none, none, none, none, none, none]) (os' := os0) (by simp [WkE]) ?w2 (by simp [EnLt, SvLt, hlen0]) (hlt0 _ (by rw [hlen0]; decide)) (by show 6 ≤ _; rw [hlen0]; decide) ?_
  case w2 => rw [set_last hlen0]; exact wkO_app _ _
  rw [← hos0]
  have hlt0b := hlt0 12 (by decide)
  clear hlt0 hos0
  have hlo : (stR C_Page C_History (S0 x)).length = 12 := rfl
  refine' gs_forD (xs := numsOf ns f) (f := PyData.int) (fun _ => [some (.i (dI ns)), some (.i (.int (f : Int))), some (.r 0), some (.r 5), some (.r 6), some (.r 7), some (.r 9), some (.r 10), some (.r 11), none, some (.i (dI (numsOf ns f))), none, none, none, none, none, none, none, none, none]) (fun pre => stR C_Page C_History (runT (S0 x) pre)) (ex_var rfl) ?q0 (fun fr up pre y post hx => ⟨_, _, tg_name, ?q1⟩) ?q2
  case q0 =>
    intro c' _ ad σ H ok
    exact ok
  case q2 =>
    have hT : TI (runT (S0 x) (numsOf ns f)) := runT_ok _ hti (by have : (S0 x).ks.length = 1 := rfl; omega)
    have hS : treeOf x ns f = runT (S0 x) (numsOf ns f) := rfl
    have hfin : ∀ d', d' = treeD (runT (S0 x) (numsOf ns f)) → R__law_tree x [.i (dI ns), .i (.int (f : Int)), .r 0, .r 5] ⟨(runT (S0 x) (numsOf ns f)).p, (runT (S0 x) (numsOf ns f)).st⟩ d' := fun d' e => ⟨ns, f, rfl, hl, hf, hti, by rw [hS], by rw [hS]; exact e⟩
    generalize runT (S0 x) (numsOf ns f) = S at *
    refine gs_ownJ (i := 5) (k := 7) Jk rfl (kids_dat C_Page C_History S) (stK_len _ _ _) (stK_x _ _ _) (stK_o _ _ _) ?_
    refine gs_ownK (i := 6) (k := 9) (m := S.tx.map fun q => (ekI q.1, dT q.2)) rfl (by rw [List.map_map]; rfl) ?_
    refine gs_retSN (en_tup (P := fun os' d => os' = ((stK C_Page C_History S).set 9 .x).set 6 .x ∧ d = treeD S) (ean_cons (en_frz (i := 4) (k := 6) (m := S.ks.map fun q => (ekI q.1, evB q.2)) rfl (by rw [List.map_map]; rfl)) (fun v os' d hP => ean_a (ds := [kidsD S.bx, textsD S.tx]) (ea_cons (ex_var rfl) (ea_cons (EvX.is (ex_var rfl) ?r11) ea_nil)) ?r12))) hq ?r13
    case r11 => exact dK0_map S.tx
    case r12 =>
      obtain ⟨rfl, rfl⟩ := hP
      exact ⟨Nat.le_of_ble_eq_true rfl, rfl, by rw [frD_map]; rfl⟩
    case r13 =>
      rintro os' d ⟨rfl, rfl⟩
      refine ⟨⟨S.p, S.st⟩, fun i o e => ?_, shapePT_ok _ _ _, hfin _ rfl⟩
      match i, e with
      | 0, e => cases e; rfl
      | 1, e => cases e; rfl
      | 2, e => cases e; rfl
      | 3, e => cases e; rfl
      | 4, e => cases e; rfl
      | 5, e => cases e; rfl
  case q1 =>
  walk_at "nf"
  have hprel : pre.length ≤ 70 := by
    have := congrArg List.length hx
    rw [List.length_append, List.length_cons] at this
    omega
  have hk1 : (S0 x).ks.length = 1 := rfl
  have hT : TI (runT (S0 x) pre) := runT_ok pre hti (by omega)
  have hkl : (runT (S0 x) pre).ks.length = 1 + pre.length := by rw [runT_len, hk1]
  have hnext : runT (S0 x) (pre ++ [y]) = (runT (S0 x) pre).step y := runT_snoc _ _ _
  generalize runT (S0 x) pre = S at *
  obtain ⟨rp, hins, _⟩ := hT.ins (x := y) (by omega)
  have hbp := hT.bpos
  have hrl := rs_len hbp
  have hbxl := hT.bxl
  have htxl := hT.txl
  have hstl := hT.stl
  have hjl := hT.j_lt (x := y)
  have hj0 := hT.j0_lt (x := y)
  have hndb := hT.ndb
  have hat := hT.at_le (x := y)
  have hbat := hT.b_at (x := y)
  have hbmem := hT.b_mem (x := y)
  have hsl : (stR C_Page C_History S).length = 12 + (rs S.bx).length := stQ_len
  obtain ⟨q0, hq0⟩ : ∃ q0, S.bx[S.j0 y]? = some q0 := ⟨S.bx[S.j0 y], List.getElem?_eq_getElem hj0⟩
  have hq0g : S.bx.getD (S.j0 y) (1, 1, []) = q0 := by rw [List.getD_eq_getElem?_getD, hq0]; rfl
  have hidl : (bIds S.bx).length = S.bx.length := List.length_map _
  have hj0i : y % (S.bx.length : Int) = ((S.j0 y : Nat) : Int) := by
    have := Int.emod_nonneg y (show (S.bx.length : Int) ≠ 0 by omega)
    unfold TS.j0
    omega
  refine' gs_asg (d := .int q0.1) (ex_ixL (ss := ((bIds S.bx).map PyData.int).map SV.i) (EvR.it (er_var rfl (by rw [hsl]; omega)) rfl) (EvX.is (ex_i2c (ex_int1 rfl (ex_var rfl)) (ex_lenK (EvR.it (er_var rfl (by rw [hsl]; omega)) rfl)) ?q3) ?q4) (atI_nat (j := S.j0 y) ?q5)) ?_
  case q3 => show 0 < (((((bIds S.bx).map PyData.int).map SV.i).length : Nat) : Int); rw [List.length_map, List.length_map, hidl]; omega
  case q4 => show PyData.int (y % ((((bIds S.bx).map PyData.int).map SV.i).length : Int)) = _; rw [List.length_map, List.length_map, hidl, hj0i]
  case q5 => unfold bIds; rw [List.getElem?_map, List.getElem?_map, List.getElem?_map, hq0]; rfl
  walk_at "nf"
  have hbval : S.b y = S.bx.getD (S.j y) (1, 1, []) := rfl
  have hjval : S.j y = if 8 < q0.2.1 then 0 else S.j0 y := by unfold TS.j; rw [hq0g]
  refine' gs_ifJ [some (.i (dI ns)), some (.i (.int (f : Int))), some (.r 0), some (.r 5), some (.r 6), some (.r 7), some (.r 9), some (.r 10), some (.r 11), none, some (.i (dI (numsOf ns f))), none, some (.i (.int y)), some (.i (.int (S.b y).1)), none, none, none, none, none, none] (stR C_Page C_History S) (b := decide (q0.2.1 > 8)) (et_test (ex_b2 (ex_dget (k := 10) (kk := .inl q0.1) (er_var rfl (by rw [hsl]; omega)) rfl (ex_var rfl) (dp_get hndb (List.mem_of_getElem? hq0))) ex_int)) ?q6 (fun hb hk => ?q7) (fun hb hk => ?q8)
  case q7 =>
    have hb : 8 < q0.2.1 := of_decide_eq_true hb
    rw [if_pos hb] at hjval
    obtain ⟨l0, hl0⟩ := hT.b0
    have e1 : (S.b y).1 = 1 := by rw [hbval, hjval, List.getD_eq_getElem?_getD, hl0]; rfl
    refine gs_asg (d := .int 1) ex_int ?_
    walk_at "nf"
    exact g_nextU (gs_is (by rw [e1]) rfl hk)
  case q8 =>
    have hb : ¬ 8 < q0.2.1 := of_decide_eq_false hb
    rw [if_neg hb] at hjval
    have e1 : S.b y = q0 := by rw [hbval, hjval, hq0g]
    exact g_nextU (gs_is (by rw [e1]) rfl hk)
  case q6 =>
  clear hbval hjval hq0g hq0 hj0i hj0
  refine' gs_asg (d := .int (y / 73)) (ex_i2c (ex_var rfl) ex_int ?q9) ?_
  case q9 => walk_at "cc"
  walk_at "nf"
  have hixl : ix (S.j y) < 12 + (rs S.bx).length := ix_lt _ _ (by omega)
  refine gs_asgR (k := ix (S.j y)) (er_dget (k := 7) (kk := .inl (S.b y).1) (er_var rfl (by rw [hsl]; omega)) rfl (ex_var rfl) (by have := kidF_get (bIds S.bx) 0 hndb (S.j y) (S.b y).1 (by unfold bIds; rw [List.getElem?_map, hbat]; rfl); rw [Nat.zero_add] at this; exact this) (by rw [hsl]; exact hixl)) ?_
  walk_at "nf"
  have hrow : (stR C_Page C_History S)[ix (S.j y)]? = some (lsO (S.b y).2.2) := by
    have := list_at (CP := C_Page) (CH := C_History) (p := S.p) (st := stO S.st) (ks := ksO S.ks) (kd := kidF 0 (bIds S.bx)) (tx := txO S.tx) (dp := dpO S.bx) (bs := bIds S.bx) (e := []) hbat
    rw [List.append_nil] at this
    exact this
  have hativ : y / 73 % (((S.b y).2.2.length : Int) + 1) = ((S.at y : Nat) : Int) := by
    have := Int.emod_nonneg (y / 73) (show ((S.b y).2.2.length : Int) + 1 ≠ 0 by omega)
    unfold TS.at
    omega
  refine' gs_asg (d := .int ((S.at y : Nat) : Int)) (EvX.is (ex_i2c (ex_int1 rfl (ex_var rfl)) (ex_i2 (ex_lenK (EvR.it (er_var rfl (by rw [hsl]; exact hixl)) hrow)) ex_int) ?q10) ?q11) ?_
  case q10 => show 0 < (((((S.b y).2.2.map PyData.int).map SV.i).length : Nat) : Int) + 1; omega
  case q11 => show PyData.int (y / 73 % (((((S.b y).2.2.map PyData.int).map SV.i).length : Int) + 1)) = _; rw [List.length_map, List.length_map, hativ]
  walk_at "nf"
  refine' gs_asg (d := .int (zed y)) (ex_i2c (ex_var rfl) ex_int ?q12) ?_
  case q12 => walk_at "cc"
  walk_at "nf"
  obtain ⟨hs1, hs2, hs3, ms, hs4, hs5⟩ := hT.siz_ok (x := y)
  rw [hs5] at hs1
  refine gs_asg (d := .int (S.siz y)) (ex_dgetD (ek := ekS) (ev := evS) (a := "size") ekS_inj (ex_dget (k := 5) (kk := .inl (S.b y).1) (er_var rfl (by rw [hsl]; omega)) rfl (ex_var rfl) (st_get hs4)) ex_str hs1) ?_
  walk_at "nf"
  obtain ⟨nb, hnb⟩ : ∃ nb, nb = if zed y % 3 = 0 then [] else [(S.p.last + 1, (S.b y).2.1 + 1, ([] : List Int))] := ⟨_, rfl⟩
  obtain ⟨nt, hnt⟩ : ∃ nt, nt = if zed y % 3 = 0 then [(S.p.last + 1, strOf (zed y / 3))] else [] := ⟨_, rfl⟩
  have hrow0 := S.row_par y
  refine' gs_ifJ [some (.i (dI ns)), some (.i (.int (f : Int))), some (.r 0), some (.r 5), some (.r 6), some (.r 7), some (.r 9), some (.r 10), some (.r 11), none, some (.i (dI (numsOf ns f))), none, some (.i (.int (zed y))), some (.i (.int (S.b y).1)), some (.r (ix (S.j y))), some (.i (.int ((S.at y : Nat) : Int))), none, none, some (.i (.int (S.p.last + 1))), none] (stQ C_Page C_History (insP S.p (S.at y) (S.row y)) (stO (S.st ++ [(S.p.last + 1, S.sty y)])) (ksO (S.ks ++ [(S.p.last + 1, !decide (zed y % 3 = 0))])) (kidF 0 (bIds (S.bx ++ nb))) (k0 S.bx) (txO (S.tx ++ nt)) (dpO (S.bx ++ nb)) (bIds (S.bx ++ nb)) (rs S.bx ++ nb.map fun b => b.2.2)) (b := decide (zed y % 3 = 0)) (et_test (ex_eqI (ex_i2c (ex_int1 rfl (ex_var rfl)) ex_int ?q13) ex_int)) ?q14 (fun hb hk => ?q15) (fun hb hk => ?q16)
  case q13 => walk_at "cc"
  case q15 =>
    have hz : zed y % 3 = 0 := of_decide_eq_true hb
    have er : S.row y = txR (S.b y).1 (strOf (zed y / 3)) := by unfold TS.row; rw [if_pos hz]
    have es : S.sty y = textS (S.siz y) := by unfold TS.sty; rw [if_pos hz]
    rw [if_pos hz] at hnb hnt
    subst hnb hnt
    rw [er, es, decide_eq_true hz, List.append_nil, List.map_nil, List.append_nil] at hk
    rw [er] at hins
    have htl := strOf_len (zed y / 3)
    refine' gs_asg (d := dT (strOf (zed y / 3))) (ex_call (ea_cons (ex_i2c (ex_var rfl) ex_int ?r1) ea_nil) R__law_string_i) ?_
    case r1 => walk_at "cc"
    walk_at "nf"
    refine gs_asgN (en_meth (k := 0) (ds := [.i (.int (S.b y).1), .i (.int ((S.at y : Nat) : Int)), .i (dT (strOf (zed y / 3)))]) (x := S.p) (segAt_post ([.dK (stO S.st), .dK (ksO S.ks), .dK (kidF 0 (bIds S.bx)), lsO (k0 S.bx), .dK (txO S.tx), .dK (dpO S.bx), lsO (bIds S.bx)] ++ (rs S.bx).map lsO) (shapeP_ok C_Page C_History)) (er_var rfl (by simp [shapeP])) rfl rfl (by decide) (by intro s hs; simp at hs; rcases hs with rfl | rfl | rfl <;> exact True.intro) (eas_cons (show EvX false _ _ _ _ _ from ex_var rfl) (eas_cons (show EvX false _ _ _ _ _ from ex_var rfl) (eas_cons (show EvX false _ _ _ _ _ from ex_var rfl) eas_nil))) ⟨_, _, (S.b y).1, S.at y, strOf (zed y / 3), rfl, ⟨_, hins⟩, strOf_ok _, by omega, rfl, rfl⟩) ?_
    rintro _ _ ⟨_, ⟨n2, i2, l2, e3, _, _, _, rfl, rfl⟩, rfl⟩
    obtain ⟨rfl, rfl, rfl⟩ := tx_inj e3
    generalize insP S.p (S.at y) (txR (S.b y).1 (strOf (zed y / 3))) = P' at *
    refine gs_is (env' := [some (.i (dI ns)), some (.i (.int (f : Int))), some (.r 0), some (.r 5), some (.r 6), some (.r 7), some (.r 9), some (.r 10), some (.r 11), none, some (.i (dI (numsOf ns f))), none, some (.i (.int (zed y))), some (.i (.int (S.b y).1)), some (.r (ix (S.j y))), some (.i (.int ((S.at y : Nat) : Int))), some (.i (.int (S.siz y))), some (.i (dT (strOf (zed y / 3)))), some (.i (.int (S.p.last + 1))), none]) (os' := stQ C_Page C_History P' (stO S.st) (ksO S.ks) (kidF 0 (bIds S.bx)) (k0 S.bx) (txO S.tx) (dpO S.bx) (bIds S.bx) (rs S.bx)) rfl rfl ?_
    refine gs_dput (k := 6) (s := .i (evB false)) (kk := .inl (S.p.last + 1)) (show EvX false _ _ _ _ (evB false) from ex_str) (er_var rfl (by rw [stQ_len]; omega)) rfl (ex_var rfl) (by rw [List.length_map]; omega) ?_
    refine gs_is (os' := stQ C_Page C_History P' (stO S.st) (ksO (S.ks ++ [(S.p.last + 1, false)])) (kidF 0 (bIds S.bx)) (k0 S.bx) (txO S.tx) (dpO S.bx) (bIds S.bx) (rs S.bx)) rfl (by rw [stQ_s6, ksO_new hT.fresh]) ?_
    refine gs_dput (k := 9) (s := .i (dT (strOf (zed y / 3)))) (kk := .inl (S.p.last + 1)) (show EvX false _ _ _ _ _ from ex_var rfl) (er_var rfl (by rw [stQ_len]; omega)) rfl (ex_var rfl) (by rw [List.length_map]; omega) ?_
    refine gs_is (os' := stQ C_Page C_History P' (stO S.st) (ksO (S.ks ++ [(S.p.last + 1, false)])) (kidF 0 (bIds S.bx)) (k0 S.bx) (txO (S.tx ++ [(S.p.last + 1, strOf (zed y / 3))])) (dpO S.bx) (bIds S.bx) (rs S.bx)) rfl (by rw [stQ_s9, txO_new hT.freshT]) ?_
    refine gs_dputF (k := 5) (kk := .inl (S.p.last + 1)) (o := .dK (eS (textS (S.siz y)))) (ef_callI (ek := ekS) (ev := evS) (ea_cons (ex_var rfl) ea_nil) R__law_text_style_i) (er_var rfl (by rw [stQ_len]; omega)) rfl (ex_var rfl) (by rw [List.length_map]; omega) ?_
    refine gs_is (os' := stQ C_Page C_History P' (stO S.st ++ [(.inl (S.p.last + 1), .r (12 + (rs S.bx).length))]) (ksO (S.ks ++ [(S.p.last + 1, false)])) (kidF 0 (bIds S.bx)) (k0 S.bx) (txO (S.tx ++ [(S.p.last + 1, strOf (zed y / 3))])) (dpO S.bx) (bIds S.bx) (rs S.bx) ++ [.dK (eS (textS (S.siz y)))]) rfl (by rw [stQ_len, set_app (by rw [stQ_len]; omega), stQ_s5, stO_new hT.freshS]) ?_
    refine gs_ownDK (k := 5) (j := 12 + (rs S.bx).length) (i0 := S.st.length) (kk := .inl (S.p.last + 1)) (m := kS (textS (S.siz y))) rfl (by rw [← eS_kS]; exact get_last stQ_len) (get_last (List.length_map _)) (by omega) ?_
    refine gs_is (os' := stQ C_Page C_History P' (stO (S.st ++ [(S.p.last + 1, textS (S.siz y))])) (ksO (S.ks ++ [(S.p.last + 1, false)])) (kidF 0 (bIds S.bx)) (k0 S.bx) (txO (S.tx ++ [(S.p.last + 1, strOf (zed y / 3))])) (dpO S.bx) (bIds S.bx) (rs S.bx) ++ [.x]) rfl (by rw [set_app (by rw [stQ_len]; omega), stQ_s5, set_last (List.length_map _), dK0_kS, set_last stQ_len, stO_app]) ?_
    exact g_nextU (gs_weak (by simp [WkE]) wkO_end (by simp [EnLt, SvLt, stQ_len]; omega) (stQ_lt (by rw [stQ_len]; exact Nat.le_refl _) (by rw [hidl]; omega)) (by show (stR C_Page C_History (S0 x)).length ≤ _; rw [hlo, stQ_len]; omega) hk)
  case q16 =>
    have hz : ¬ zed y % 3 = 0 := of_decide_eq_false hb
    have er : S.row y = bxR (S.b y).1 BXt (mkR []) := by unfold TS.row; rw [if_neg hz]
    have es : S.sty y = boxOf (zed y / 3) (1 + zed y / 3 % 20) := by unfold TS.sty; rw [if_neg hz]
    rw [if_neg hz] at hnb hnt
    subst hnb hnt
    rw [er, es, decide_eq_false hz, List.append_nil, kidF_new hrl.symm, dpO_app, bIds_app] at hk
    rw [er] at hins
    refine gs_asgN (en_methQ (k := 0) (ds := [.i (.int (S.b y).1), .i (.int ((S.at y : Nat) : Int)), .i (dT BXt)]) (es := []) (dd := [.tuple []]) (x := S.p) (segAt_post ([.dK (stO S.st), .dK (ksO S.ks), .dK (kidF 0 (bIds S.bx)), lsO (k0 S.bx), .dK (txO S.tx), .dK (dpO S.bx), lsO (bIds S.bx)] ++ (rs S.bx).map lsO) (shapeP_ok C_Page C_History)) (er_var rfl (by simp [shapeP])) rfl rfl (by decide) (by intro s hs; simp at hs; rcases hs with rfl | rfl | rfl <;> exact True.intro) (eas_cons (show EvX false _ _ _ _ _ from ex_var rfl) (eas_cons (show EvX false _ _ _ _ _ from ex_var rfl) (eas_cons (show EvX false _ _ _ _ _ from ex_txt (l := BXt) (by decide +kernel)) eas_nil))) eas_nil (fun N H => .cons (ke_Page_insert_box_marks N H) .nil) rfl rfl ⟨_, _, (S.b y).1, S.at y, BXt, [], rfl, ⟨_, hins⟩, isW_box, (fun _ h => absurd h List.not_mem_nil), by decide, ?r2, rfl, rfl⟩) ?_
    case r2 => rw [show sortT [] = [] from List.Perm.eq_nil (sortT_perm [])]; decide
    rintro _ _ ⟨_, ⟨n2, i2, l2, ms2, e3, _, _, _, _, _, rfl, rfl⟩, rfl⟩
    obtain ⟨rfl, rfl, rfl, rfl⟩ := bx_inj e3
    generalize insP S.p (S.at y) (bxR (S.b y).1 BXt (mkR [])) = P' at *
    refine gs_is (env' := [some (.i (dI ns)), some (.i (.int (f : Int))), some (.r 0), some (.r 5), some (.r 6), some (.r 7), some (.r 9), some (.r 10), some (.r 11), none, some (.i (dI (numsOf ns f))), none, some (.i (.int (zed y))), some (.i (.int (S.b y).1)), some (.r (ix (S.j y))), some (.i (.int ((S.at y : Nat) : Int))), some (.i (.int (S.siz y))), none, some (.i (.int (S.p.last + 1))), none]) (os' := stQ C_Page C_History P' (stO S.st) (ksO S.ks) (kidF 0 (bIds S.bx)) (k0 S.bx) (txO S.tx) (dpO S.bx) (bIds S.bx) (rs S.bx)) rfl rfl ?_
    refine gs_dput (k := 6) (s := .i (evB true)) (kk := .inl (S.p.last + 1)) (show EvX false _ _ _ _ (evB true) from ex_str) (er_var rfl (by rw [stQ_len]; omega)) rfl (ex_var rfl) (by rw [List.length_map]; omega) ?_
    refine gs_is (os' := stQ C_Page C_History P' (stO S.st) (ksO (S.ks ++ [(S.p.last + 1, true)])) (kidF 0 (bIds S.bx)) (k0 S.bx) (txO S.tx) (dpO S.bx) (bIds S.bx) (rs S.bx)) rfl (by rw [stQ_s6, ksO_new hT.fresh]) ?_
    refine gs_dputF (k := 7) (kk := .inl (S.p.last + 1)) (o := lsO []) (ef_lst eas_nil (Nat.zero_le _)) (er_var rfl (by rw [stQ_len]; omega)) rfl (ex_var rfl) (by rw [kidF_len, hidl]; omega) ?_
    refine gs_is (os' := stQ C_Page C_History P' (stO S.st) (ksO (S.ks ++ [(S.p.last + 1, true)])) (kidF 0 (bIds S.bx) ++ [(.inl (S.p.last + 1), .r (12 + (rs S.bx).length))]) (k0 S.bx) (txO S.tx) (dpO S.bx) (bIds S.bx) (rs S.bx ++ [[]])) rfl (by rw [stQ_len, set_app (by rw [stQ_len]; omega), stQ_s7, setA_end (kidF_fresh hT), stQ_app]) ?_
    have hl2 : (rs S.bx ++ [[]]).length = (rs S.bx).length + 1 := by rw [List.length_append]; rfl
    refine' gs_dputF (k := 5) (kk := .inl (S.p.last + 1)) (o := .dK (eS (boxOf (zed y / 3) (1 + zed y / 3 % 20)))) (ef_callI (ek := ekS) (ev := evS) (ea_cons (ex_i2c (ex_var rfl) ex_int ?r3) (ea_cons (ex_i2 ex_int (ex_i2c (ex_int1 rfl (ex_i2c (ex_var rfl) ex_int ?r4)) ex_int ?r5)) ea_nil)) R__law_box_style_i) (er_var rfl (by rw [stQ_len]; omega)) rfl (ex_var rfl) (by rw [List.length_map]; omega) ?_
    case r3 => walk_at "cc"
    case r4 => walk_at "cc"
    case r5 => walk_at "cc"
    generalize boxOf (zed y / 3) (1 + zed y / 3 % 20) = bm at *
    refine gs_is (os' := stQ C_Page C_History P' (stO S.st ++ [(.inl (S.p.last + 1), .r (12 + ((rs S.bx).length + 1)))]) (ksO (S.ks ++ [(S.p.last + 1, true)])) (kidF 0 (bIds S.bx) ++ [(.inl (S.p.last + 1), .r (12 + (rs S.bx).length))]) (k0 S.bx) (txO S.tx) (dpO S.bx) (bIds S.bx) (rs S.bx ++ [[]]) ++ [.dK (eS bm)]) rfl (by rw [stQ_len, hl2, set_app (by rw [stQ_len]; omega), stQ_s5, stO_new hT.freshS]) ?_
    refine gs_ownDK (k := 5) (j := 12 + ((rs S.bx).length + 1)) (i0 := S.st.length) (kk := .inl (S.p.last + 1)) (m := kS bm) rfl (by rw [← eS_kS, ← hl2]; exact get_last stQ_len) (get_last (List.length_map _)) (by omega) ?_
    refine gs_is (os' := stQ C_Page C_History P' (stO (S.st ++ [(S.p.last + 1, bm)])) (ksO (S.ks ++ [(S.p.last + 1, true)])) (kidF 0 (bIds S.bx) ++ [(.inl (S.p.last + 1), .r (12 + (rs S.bx).length))]) (k0 S.bx) (txO S.tx) (dpO S.bx) (bIds S.bx) (rs S.bx ++ [[]]) ++ [.x]) rfl (by rw [set_app (by rw [stQ_len]; omega), stQ_s5, set_last (List.length_map _), dK0_kS, ← hl2, set_last stQ_len, stO_app]) ?_
    refine gs_dput (k := 10) (s := .i (.int ((S.b y).2.1 + 1))) (kk := .inl (S.p.last + 1)) (show EvX false _ _ _ _ _ from ex_i2 (ex_dget (k := 10) (kk := .inl (S.b y).1) (er_var rfl (by rw [List.length_append, stQ_len]; omega)) rfl (ex_var rfl) (dp_get hndb hbmem)) ex_int) (er_var rfl (by rw [List.length_append, stQ_len]; omega)) rfl (ex_var rfl) (by rw [List.length_map]; omega) ?_
    refine gs_is (os' := stQ C_Page C_History P' (stO (S.st ++ [(S.p.last + 1, bm)])) (ksO (S.ks ++ [(S.p.last + 1, true)])) (kidF 0 (bIds S.bx) ++ [(.inl (S.p.last + 1), .r (12 + (rs S.bx).length))]) (k0 S.bx) (txO S.tx) (dpO S.bx ++ dpO [(S.p.last + 1, (S.b y).2.1 + 1, [])]) (bIds S.bx) (rs S.bx ++ [[]]) ++ [.x]) rfl (by rw [set_app (by rw [stQ_len]; omega), stQ_s10, dpO_new hT.freshB _ []]) ?_
    refine gs_app (k := 11) (ss := ((bIds S.bx).map PyData.int).map SV.i) (er_var rfl (by rw [List.length_append, stQ_len]; omega)) rfl (s := .i (.int (S.p.last + 1))) (show EvX false _ _ _ _ _ from ex_var rfl) (by rw [List.length_map, List.length_map, hidl]; omega) ?_
    refine gs_is (os' := stQ C_Page C_History P' (stO (S.st ++ [(S.p.last + 1, bm)])) (ksO (S.ks ++ [(S.p.last + 1, true)])) (kidF 0 (bIds S.bx) ++ [(.inl (S.p.last + 1), .r (12 + (rs S.bx).length))]) (k0 S.bx) (txO S.tx) (dpO S.bx ++ dpO [(S.p.last + 1, (S.b y).2.1 + 1, [])]) (bIds S.bx ++ bIds [(S.p.last + 1, (S.b y).2.1 + 1, [])]) (rs S.bx ++ [[]]) ++ [.x]) rfl (by rw [show SO.lst (((bIds S.bx).map PyData.int).map SV.i ++ [.i (.int (S.p.last + 1))]) = lsO (bIds S.bx ++ bIds [(S.p.last + 1, (S.b y).2.1 + 1, [])]) by simp [lsO, bIds], set_app (by rw [stQ_len]; omega), stQ_s11]) ?_
    refine g_nextU (gs_weak (by simp [WkE]) wkO_end (by simp [EnLt, SvLt, stQ_len]; omega) ?r6 (by show (stR C_Page C_History (S0 x)).length ≤ _; rw [hlo, stQ_len]; omega) hk)
    have := stQ_lt (CP := C_Page) (CH := C_History) (p := P') (m1 := S.st ++ [(S.p.last + 1, bm)]) (m2 := S.ks ++ [(S.p.last + 1, true)]) (ids := bIds (S.bx ++ [(S.p.last + 1, (S.b y).2.1 + 1, [])])) (k := k0 S.bx) (bs := bIds S.bx ++ bIds [(S.p.last + 1, (S.b y).2.1 + 1, [])]) (m3 := S.tx) (m4 := S.bx ++ [(S.p.last + 1, (S.b y).2.1 + 1, [])]) (r := rs S.bx ++ [[]]) (n := 12 + (rs S.bx ++ [[]]).length) (Nat.le_refl _) (by unfold bIds; rw [List.length_map, List.length_append, hl2]; show S.bx.length + 1 ≤ _; omega)
    rw [kidF_new hrl.symm, dpO_app] at this
    rw [stQ_len]
    exact this
  case q14 =>
  have hml : nb.length ≤ 1 := by rw [hnb]; split <;> simp
  have hrow2 := list_at (CP := C_Page) (CH := C_History) (p := insP S.p (S.at y) (S.row y)) (st := stO (S.st ++ [(S.p.last + 1, S.sty y)])) (ks := ksO (S.ks ++ [(S.p.last + 1, !decide (zed y % 3 = 0))])) (kd := kidF 0 (bIds (S.bx ++ nb))) (tx := txO (S.tx ++ nt)) (dp := dpO (S.bx ++ nb)) (bs := bIds (S.bx ++ nb)) (e := nb.map fun b => b.2.2) hbat
  have hkidl : (S.b y).2.2.length ≤ 1000 := by
    obtain ⟨r0, k1, _, k3, _⟩ := hT.bxs _ hbmem
    rw [← k3]
    exact ((mok_all hT.pg hT.sty _ _ k1).kids k1).1
  refine gs_ins (d := .int (S.p.last + 1)) (i := ((S.at y : Nat) : Int)) rfl (er_var rfl (by rw [stQ_len, List.length_append]; omega)) hrow2 (ex_var rfl) (ex_var rfl) (by rw [List.length_map, List.length_map]; omega) (by omega) (by omega) ?_
  have ebx : (S.step y).bx = S.bx.set (S.j y) (S.b2 y) ++ nb := by rw [hnb]; rfl
  have etx : (S.step y).tx = S.tx ++ nt := by rw [hnt]; rfl
  have hsl2 : 0 < (S.bx.set (S.j y) (S.b2 y)).length := by rw [List.length_set]; exact hbp
  obtain ⟨hr1, hr2⟩ := rs_app hsl2 nb
  refine gs_is (os' := stR C_Page C_History (S.step y)) rfl ?r7 ?_
  case r7 =>
    rw [show SO.lst ((((S.b y).2.2.map PyData.int).map SV.i).take ((S.at y : Nat) : Int).toNat ++ [.i (.int (S.p.last + 1))] ++ (((S.b y).2.2.map PyData.int).map SV.i).drop ((S.at y : Nat) : Int).toNat) = lsO (S.b2 y).2.2 by unfold TS.b2 insL lsO; simp, list_set hjl (S.b2 y)]
    unfold stR
    rw [ebx, etx, hr1, hr2, bIds_app, bIds_app, dpO_app, dpO_app, bIds_set (b2 := S.b2 y) hbat rfl, dpO_set (b2 := S.b2 y) hbat rfl rfl]
    rfl
  rw [← hnext]
  have hT2 := hT.next (x := y) (by omega)
  rw [← hnext] at hT2
  refine g_next ?_
  intro ad σ H ok
  refine (show OkE _ _ _ _ _ from ⟨ad, ok.weak (by simp [WkE]) (WkO.refl _) ?r8 ?r9 ?r10⟩)
  case r8 => unfold stR; simp [EnLt, SvLt, stQ_len]; omega
  case r9 => exact stQ_lt (Nat.le_of_eq stQ_len.symm) (by have := rs_len hT2.bpos; unfold bIds; rw [List.length_map]; omega)
  case r10 => show (stR C_Page C_History (S0 x)).length ≤ (stR C_Page C_History _).length; rw [hlo]; unfold stR; rw [stQ_len]; omega
-- END _law_tree
theorem sc__law_measures : FnScope ["page", "styles", "kinds", "found", "node"] ["page", "styles", "kinds"] (defScope s__law_measures) := ⟨rfl, rfl, rfl, by decide +kernel, rfl, by decide +kernel, by decide +kernel⟩
def inM (st : St) (q : Int × Bool) : Bool := !q.2 || !isS (stOf st q.1) "display" "none"
def mea (p : Pg) (st : St) (ks : List (Int × Bool)) : List (Int × Int × Int) := (ks.filter (inM st)).map fun q => (q.1, msr p st 31 q.1)
def KsOk (p : Pg) (ks : List (Int × Bool)) : Prop := ∀ q ∈ ks, ∃ r, p.t q.1 = some r ∧ r.box = q.2
abbrev meO (m : List (Int × Int × Int)) : List (Key × SV) := m.map fun q => (ekI q.1, SV.i (dII q.2))
def R__law_measures : Addr → Addr → List PyData → PyData → Prop := fun CP CH ds d => ∃ (p : Pg) (st : St) (ks : List (Int × Bool)), ds = [pgD CP CH p, dSt st, frD ekI evB ks] ∧ PgOk p ∧ StyOk p st ∧ KsOk p ks ∧ (ks.map (·.1)).Nodup ∧ ks.length ≤ 1000 ∧ d = frD ekI dII (mea p st ks)
theorem R__law_measures_i {CP CH : Addr} {p : Pg} {st : St} {ks : List (Int × Bool)} (h1 : PgOk p) (h2 : StyOk p st) (h3 : KsOk p ks) (h4 : (ks.map (·.1)).Nodup) (h5 : ks.length ≤ 1000) : R__law_measures CP CH [pgD CP CH p, dSt st, frD ekI evB ks] (frD ekI dII (mea p st ks)) := ⟨p, st, ks, rfl, h1, h2, h3, h4, h5, rfl⟩
local macro_rules | `(tactic| walk_at "r2") => `(tactic| exact R__law_measures_i (by assumption) (by assumption) (by assumption) (by assumption) (by omega))
theorem R__law_measures_len : ∀ (C_Page C_History : Addr) ds d, R__law_measures C_Page C_History ds d → ds.length = 3 := by
  intro C_Page C_History ds d hh
  unfold R__law_measures at hh
  repeat (obtain ⟨_, hh⟩ := hh)
  subst_eqs
  rfl
theorem ok__law_measures {P : Program} {w : World} {K : PySem.W.Frag} {mg : Str → Option Value} {base : Heap} {f : Addr} {fd : FuncData} (F : FnP K "_law_measures" s__law_measures f fd) (g0 : mg "_law_measures" = some (.ref f)) {C_History : Addr} (kC_History : Cls K C_History) (n_History_cells : NoAttr K C_History "cells") (n_History__done : NoAttr K C_History "_done") (n_History__undone : NoAttr K C_History "_undone") {C_Page : Addr} (kC_Page : Cls K C_Page) (n_Page_width : NoAttr K C_Page "width") (n_Page_height : NoAttr K C_Page "height") (n_Page__last_id : NoAttr K C_Page "_last_id") (n_Page__moment : NoAttr K C_Page "_moment") (n_Page__marked : NoAttr K C_Page "_marked") (n_Page__history : NoAttr K C_Page "_history") (h_narrow : Cal P w K mg base 166 "narrow" ["page", "styles", "node"] (spD K  (R_narrow C_Page C_History))) (h_wide : Cal P w K mg base 166 "wide" ["page", "styles", "node"] (spD K  (R_wide C_Page C_History))) : Cal P w K mg base 167 "_law_measures" ["page", "styles", "kinds"] (spD K  (R__law_measures C_Page C_History)) := by
  refine cal_mk F sc__law_measures g0 (spD_len (R__law_measures_len C_Page C_History)) (fun _ _ _ _ _ _ us hl => match us, hl with | [_, _, _], _ => rfl) (fun cdv A outer s H vs Q E hr h => ⟨_,
    (pss_cons (ps_set (i := 3) sc__law_measures.nd rfl (by first | exact Or.inl rfl | exact Or.inr rfl) pe_dnewK)
     (pss_cons (ps_for PassesOwn.never rfl (pi_keys (pv 2)) (pg_name (i := 4) sc__law_measures.nd rfl (by first | exact Or.inl rfl | exact Or.inr rfl))
     (pss_cons (ps_if (PW.pt (pw_or (pt_cmpR op_eq (pe_dget (DL.u1 hr.units) (pv 2) (pv 4) (fun _ _ => rfl)) pe_str (nomark _)) (pw_or1 (pt_cmpR op_ne (pe_dget (DL.u1 hr.units) (pe_dget (DL.u1 hr.units) (pv 1) (pv 4) (fun _ _ => rfl)) pe_str (fun _ _ => rfl)) pe_str (nomark _)))))
     (pss_cons (ps_dput (DL.u1 hr.units) (pv 3) (pv 4) (pe_tup (pa_cons (DL.pe_cal h_narrow hr (by decide) (by rfl) pass0 (pa_cons (pv 0) (pa_cons (pv 1) (pa_cons (pv 4) pa_nil)))) (pa_cons (DL.pe_cal h_wide hr (by decide) (by rfl) pass0 (pa_cons (pv 0) (pa_cons (pv 1) (pa_cons (pv 4) pa_nil)))) pa_nil))) rfl)
     pss_nil)
     pss_nil)
     pss_nil))
     (pss_cons (ps_ret (DL.pe_frz (pv 3)))
     pss_nil))), ?_⟩)
  refine run_spD h fun N ds d hR hq => ?_
  obtain ⟨p, st, ks, rfl, hp, hs, hk, hn, hl, rfl⟩ := hR
  walk_at "env"
  refine gs_asgF (o := .dK []) ef_dnewK ?_
  walk_at "nf"
  refine gs_forL (xs := ks) (e := fun q => .i (.int q.1)) (fun _ => [some (.i (pgD C_Page C_History p)), some (.i (dSt st)), some (.i (frD ekI evB ks)), some (.r 0), none]) (fun pre => [.dK (meO (mea p st pre))]) (ew_keysFr (ex_var rfl)) rfl (fun i q hq => itD_map (f := fun p : Int × Bool => kdat (ekI p.1)) i q hq) (fun c' _ ad σ H ok => ok) (fun _ _ _ => True.intro) (fun fr up pre q post hx => ⟨_, _, tg_name, ?b1⟩) ?b2
  case b2 =>
    refine gs_retNG ((en_frz (i := 3) (k := 0) (m := (mea p st ks).map fun q => (ekI q.1, dII q.2)) rfl (by rw [List.map_map]; rfl)).asNG) hq (fun os' d' hP => by obtain ⟨_, rfl⟩ := hP; exact frD_map _)
  case b1 =>
  walk_at "nf"
  have hqm : q ∈ ks := by rw [hx]; simp
  obtain ⟨r, hr, hb⟩ := hk q hqm
  obtain ⟨m, hm, ho⟩ := hs _ _ hr
  have hmok := mok_all hp hs _ _ hr
  have hgk : getA ks q.1 = some q.2 := getA_nodup hn hqm
  have hst : stOf st q.1 = m := by unfold stOf; rw [hm]; rfl
  have hpl : pre.length ≤ 1000 := by have := congrArg List.length hx; rw [List.length_append, List.length_cons] at this; omega
  have hml : (mea p st pre).length ≤ 1000 := by unfold mea; rw [List.length_map]; exact Nat.le_trans (List.length_filter_le _ _) hpl
  have hms : mea p st (pre ++ [q]) = if inM st q then mea p st pre ++ [(q.1, msr p st 31 q.1)] else mea p st pre := by
    unfold mea
    rw [List.filter_append, List.filter_cons, List.map_append]
    by_cases h : inM st q = true
    · rw [if_pos h, if_pos h]; rfl
    · rw [if_neg h, if_neg h]; exact List.append_nil _
  have hnew : q.1 ∉ (mea p st pre).map (·.1) := fun z => by
    obtain ⟨a, ha, e⟩ := List.mem_map.mp z
    unfold mea at ha
    obtain ⟨b, hb2, e2⟩ := List.mem_map.mp ha
    have hbp := (List.mem_filter.mp hb2).1
    rw [hx, List.map_append, List.map_cons] at hn
    have := (List.nodup_append.mp hn).2.2 _ (List.mem_map.mpr ⟨b, hbp, rfl⟩) _ (List.mem_cons_self ..)
    exact this (by rw [← e, ← e2])
  have ht : ∀ {c : Cn}, c.K = K → EvT c [some (.i (pgD C_Page C_History p)), some (.i (dSt st)), some (.i (frD ekI evB ks)), some (.r 0), some (.i (.int q.1))] [.dK (meO (mea p st pre))] (tOr (tTest (tOp rEq (tDGet (tVar 2) (tVar 4)) (tC (.str "text")))) (tTest (tOp rNe (tDGet (tDGet (tVar 1) (tVar 4)) (tC (.str "display"))) (tC (.str "none"))))) (inM st q) := fun {c} hK => by
    subst hK
    refine EvT.is (et_or (a := !q.2) (b := !isS (stOf st q.1) "display" "none") (EvT.is (et_test (ex_eqS (ex_dgetFr (ek := ekI) (ev := evB) (a := q.1) (b := q.2) ekI_inj (ex_var rfl) (ex_var rfl) hgk) ex_str)) ?c1) (fun hb2 => ?c2)) ?c3
    case c1 => show (kdS q.2 == "text") = !q.2; cases q.2 <;> decide +kernel
    case c2 =>
      have hb2 : q.2 = true := by simpa using hb2
      rcases ho with ⟨z, _⟩ | ⟨_, ho, _⟩
      · rw [hb, hb2] at z; cases z
      · obtain ⟨di, hdi⟩ := ho.ok.di
        refine EvT.is (b := !(di == "none")) (et_test (ex_neS (ex_dgetD (ek := ekS) (ev := evS) (a := "display") ekS_inj (ex_dgetD (ek := ekI) (ev := dS) (a := q.1) ekI_inj (ex_var rfl) (ex_var rfl) hm) ex_str hdi) ex_str)) (b' := !isS (stOf st q.1) "display" "none") ?c4
        case c4 => rw [hst]; unfold isS; rw [hdi]
    case c3 => rfl
  refine gs_if (ht rfl) (fun h => ?y1) (fun h => ?n1)
  case y1 =>
    rw [h, if_pos rfl] at hms
    refine gs_dput (k := 0) (s := .i (dII (msr p st 31 q.1))) (kk := .inl q.1) (show EvX false _ _ _ _ (dII (msr p st 31 q.1)) from ex_tup (ea_cons (ex_call (ea_cons (ex_var rfl) (ea_cons (ex_var rfl) (ea_cons (ex_var rfl) ea_nil))) (R_narrow_i hp hmok)) (ea_cons (ex_call (ea_cons (ex_var rfl) (ea_cons (ex_var rfl) (ea_cons (ex_var rfl) ea_nil))) (R_wide_i hp hmok)) ea_nil)) (Nat.le_of_ble_eq_true rfl)) (er_var rfl (Nat.lt_succ_self 0)) rfl (ex_var rfl) (by rw [List.length_map]; omega) ?_
    refine gs_is (os' := [.dK (meO (mea p st (pre ++ [q])))]) rfl (by rw [hms]; show [SO.dK (setA (meO (mea p st pre)) _ _)] = [SO.dK (meO _)]; rw [show setA (meO (mea p st pre)) (.inl q.1) (.i (dII (msr p st 31 q.1))) = _ from setA_end (keyO (f := fun q : Int × Int => SV.i (dII q)) hnew)]; unfold meO; rw [List.map_append]; rfl) ?_
    refine g_nextU ?_
    refine g_next ?_
    intro ad σ H ok
    exact (show OkE _ _ _ _ _ from ⟨ad, ok.weak (by simp [WkE]) (WkO.refl _) (by simp [EnLt, SvLt]) ⟨mapO_lt _ _ _ _, True.intro⟩ (by simp)⟩)
  case n1 =>
    rw [h, if_neg Bool.false_ne_true] at hms
    refine g_nextU ?_
    refine g_next ?_
    intro ad σ H ok
    rw [← hms] at ok
    exact (show OkE _ _ _ _ _ from ⟨ad, ok.weak (by simp [WkE]) (WkO.refl _) (by simp [EnLt, SvLt]) ⟨mapO_lt _ _ _ _, True.intro⟩ (by simp)⟩)
-- END _law_measures
theorem sc__law_are_measures : FnScope ["found", "kinds", "styles", "node", "least", "most"] ["found", "kinds", "styles"] (defScope s__law_are_measures) := ⟨rfl, rfl, rfl, by decide +kernel, rfl, by decide +kernel, by decide +kernel⟩
def FsOk (fs : List (Int × Int × Int)) (ks : List (Int × Bool)) (st : St) : Prop := ∀ q ∈ fs, 0 ≤ q.2.1 ∧ q.2.1 ≤ q.2.2 ∧ ∃ b, getA ks q.1 = some b ∧ (b = true → ∃ m bo pa le, getA st q.1 = some m ∧ getA m "border" = some (.int bo) ∧ getA m "padding" = some (.int pa) ∧ getA m "least_width" = some (.int le) ∧ 2 * (bo + pa) ≤ q.2.1 ∧ le ≤ q.2.1)
def R__law_are_measures : List PyData → PyData → Prop := fun ds d => ∃ (fs : List (Int × Int × Int)) (ks : List (Int × Bool)) (st : St), ds = [frD ekI dII fs, frD ekI evB ks, dSt st] ∧ (fs.map (·.1)).Nodup ∧ FsOk fs ks st ∧ d = .bool true
theorem R__law_are_measures_i {fs : List (Int × Int × Int)} {ks : List (Int × Bool)} {st : St} (h1 : (fs.map (·.1)).Nodup) (h2 : FsOk fs ks st) : R__law_are_measures [frD ekI dII fs, frD ekI evB ks, dSt st] (.bool true) := ⟨fs, ks, st, rfl, h1, h2, rfl⟩
local macro_rules | `(tactic| walk_at "r2") => `(tactic| exact R__law_are_measures_i (by assumption) (by assumption))
theorem R__law_are_measures_len : ∀ ds d, R__law_are_measures ds d → ds.length = 3 := by
  intro ds d hh
  unfold R__law_are_measures at hh
  repeat (obtain ⟨_, hh⟩ := hh)
  subst_eqs
  rfl
theorem ok__law_are_measures {P : Program} {w : World} {K : PySem.W.Frag} {mg : Str → Option Value} {base : Heap} {f : Addr} {fd : FuncData} (F : FnP K "_law_are_measures" s__law_are_measures f fd) (g0 : mg "_law_are_measures" = some (.ref f)) (h__law_is_integer : Cal P w K mg base 1 "_law_is_integer" ["value"] (spD K  R__law_is_integer)) (h_frame : Cal P w K mg base 1 "frame" ["style"] (spD K  R_frame)) : Cal P w K mg base 2 "_law_are_measures" ["found", "kinds", "styles"] (spD K  R__law_are_measures) := by
  refine cal_mk F sc__law_are_measures g0 (spD_len R__law_are_measures_len) (fun _ _ _ _ _ _ us hl => match us, hl with | [_, _, _], _ => rfl) (fun cdv A outer s H vs Q E hr h => ⟨_,
    (pss_cons (ps_for PassesOwn.never rfl (pi_keys (pv 0)) (pg_name (i := 3) sc__law_are_measures.nd rfl (by first | exact Or.inl rfl | exact Or.inr rfl))
     (pss_cons (ps_asg (pe_dget (DL.u1 hr.units) (pv 0) (pv 3) (fun _ _ => rfl)) (DL.kTup (K := K) (n := 2) rfl (pgs_cons (pg_name (i := 4) sc__law_are_measures.nd rfl (by first | exact Or.inl rfl | exact Or.inr rfl)) (pgs_cons (pg_name (i := 5) sc__law_are_measures.nd rfl (by first | exact Or.inl rfl | exact Or.inr rfl)) pgs_nil))))
     (pss_cons (ps_if (PW.pt (pw_or (pt_not (pt_val (DL.pe_cal h__law_is_integer hr (by decide) (by rfl) pass0 (pa_cons (pv 4) pa_nil)))) (pw_or (pt_not (pt_val (DL.pe_cal h__law_is_integer hr (by decide) (by rfl) pass0 (pa_cons (pv 5) pa_nil)))) (pw_or (pt_cmpR op_lt (pv 4) pe_int (nomark _)) (pw_or1 (pt_cmpR op_gt (pv 4) (pv 5) (nomark _)))))))
     (pss_cons (ps_ret pe_bl)
     pss_nil)
     pss_nil)
     (pss_cons (ps_if (pt_cmpR op_eq (pe_dget (DL.u1 hr.units) (pv 1) (pv 3) (fun _ _ => rfl)) pe_str (nomark _))
     (pss_cons (ps_if (PW.pt (pw_or (pt_cmpR op_lt (pv 4) (pe_op op_mul pe_int (DL.pe_cal h_frame hr (by decide) (by rfl) pass0 (pa_cons (pe_dget (DL.u1 hr.units) (pv 2) (pv 3) (fun _ _ => rfl)) pa_nil))) (nomark _)) (pw_or1 (pt_cmpR op_lt (pv 4) (pe_dget (DL.u1 hr.units) (pe_dget (DL.u1 hr.units) (pv 2) (pv 3) (fun _ _ => rfl)) pe_str (fun _ _ => rfl)) (nomark _)))))
     (pss_cons (ps_ret pe_bl)
     pss_nil)
     pss_nil)
     pss_nil)
     pss_nil)
     pss_nil))))
     (pss_cons (ps_ret pe_bl)
     pss_nil)), ?_⟩)
  refine run_spD h fun N ds d hR hq => ?_
  obtain ⟨fs, ks, st, rfl, hn, hf, rfl⟩ := hR
  walk_at "env"
  refine gs_forL (xs := fs) (e := fun q => .i (.int q.1)) (fun _ => [some (.i (frD ekI dII fs)), some (.i (frD ekI evB ks)), some (.i (dSt st)), none, none, none]) (fun _ => []) (ew_keysFr (ex_var rfl)) rfl (fun i q hq => itD_map (f := fun p : Int × Int × Int => kdat (ekI p.1)) i q hq) (fun c' _ ad σ H ok => ok) (fun _ _ _ => True.intro) (fun fr up pre q post hx => ⟨_, _, tg_name, ?b1⟩) (gs_ret ex_bl hq)
  case b1 =>
  walk_at "nf"
  have hqm : q ∈ fs := by rw [hx]; simp
  obtain ⟨q1, q2, b, hb, hbx⟩ := hf q hqm
  have hg : getA fs q.1 = some q.2 := getA_nodup hn hqm
  refine gs_asgT (ex_dgetFr (ek := ekI) (ev := dII) (a := q.1) (b := q.2) ekI_inj (ex_var rfl) (ex_var rfl) hg) (tg_tup (ds := [.int q.2.1, .int q.2.2]) (tgs_cons tg_name (tgs_cons tg_name tgs_nil)) rfl) ?_
  walk_at "nf"
  refine gs_if (b := false) (EvT.is (et_or (et_not (et_B (ex_call (ea_cons (ex_var rfl) ea_nil) R__law_is_integer_i))) (fun _ => et_or (et_not (et_B (ex_call (ea_cons (ex_var rfl) ea_nil) R__law_is_integer_i))) (fun _ => et_or (et_test (ex_b2 (ex_var rfl) ex_int)) (fun _ => et_test (ex_b2 (ex_var rfl) (ex_var rfl)))))) (by simp; omega)) (fun z => nomatch z) fun _ => g_nextU ?_
  refine gs_if (b := b) (EvT.is (et_test (ex_eqS (ex_dgetFr (ek := ekI) (ev := evB) (a := q.1) (b := b) ekI_inj (ex_var rfl) (ex_var rfl) hb) ex_str)) ?c1) (fun h => ?y1) (fun h => ?n1)
  case c1 => show (kdS b == "box") = b; cases b <;> decide +kernel
  case y1 =>
    obtain ⟨m, bo, pa, le, h1, h2, h3, h4, h5, h6⟩ := hbx h
    refine' gs_if (b := false) (EvT.is (et_or (et_test (ex_b2 (ex_var rfl) (ex_i2c ex_int (ex_call (ea_cons (ex_dgetD (ek := ekI) (ev := dS) (a := q.1) ekI_inj (ex_var rfl) (ex_var rfl) h1) ea_nil) (R_frame_i h2 h3)) ?c2))) (fun _ => et_test (ex_b2 (ex_var rfl) (ex_dgetD (ek := ekS) (ev := evS) (a := "least_width") ekS_inj (ex_dgetD (ek := ekI) (ev := dS) (a := q.1) ekI_inj (ex_var rfl) (ex_var rfl) h1) ex_str h4)))) ?c3) (fun z => nomatch z) fun _ => g_nextU (g_nextU ?_)
    case c2 => exact Or.inl ⟨by decide, by decide⟩
    case c3 => simp; omega
    walk_at "wk"
  case n1 =>
    refine g_nextU ?_
    walk_at "wk"
-- END _law_are_measures
theorem sc_law : FnScope ["script", "number", "page", "styles", "kinds", "kids", "texts", "before", "boxes", "parent", "scale", "node", "after", "other"] ["script"] (defScope s_law) := ⟨rfl, rfl, rfl, by decide +kernel, rfl, by decide +kernel, by decide +kernel⟩
/-! What the measures of a text mean for its lines. -/
section
variable {l : List Nat} {s w : Int}
/-- a line that is wider than the room -/
def stk (l : List Nat) (s w : Int) : Bool := (lines l s w).any fun p => decide (w < sumsOf s l p.2 - sumsOf s l p.1)
theorem mem_wAll {q : NN} : q ∈ wAll l ↔ ∃ p ∈ paras l, q ∈ wordsP l p := by unfold wAll; exact List.mem_flatMap
/-- a part of ascending pairs lies within its line -/
theorem line_in {g : List NN} (ha : Asc g) {q : NN} (hq : q ∈ g) : (lineOf g).1 ≤ q.1 ∧ q.2 ≤ (lineOf g).2 := by
  constructor
  · cases g with
    | nil => cases hq
    | cons x r =>
      show x.1 ≤ q.1
      rcases List.mem_cons.mp hq with e | h
      · rw [e]; exact Nat.le_refl _
      · exact ((List.pairwise_cons.mp ha).1 q h).1
  · obtain ⟨i, t, e⟩ : ∃ i t, g = i ++ [t] := ⟨g.dropLast, g.getLast (List.ne_nil_of_mem hq), (List.dropLast_concat_getLast _).symm⟩
    subst e
    have e2 : (lineOf (i ++ [t])).2 = t.2 := lineOf_end
    rw [e2]
    rcases List.mem_append.mp hq with h | h
    · exact ((List.pairwise_append.mp ha).2.2 q h t (List.mem_cons_self ..)).2
    · rw [List.mem_singleton.mp h]; exact Nat.le_refl _
theorem words_asc (p : NN) : Asc (wordsP l p) := wok_asc (words_ok l p.1 p.2)
theorem naT_0 : 0 ≤ naT l s := (naW_spec (sumsOf s l) (wAll l) 0).1
theorem wiT_0 : 0 ≤ wiT l s := (wiF_spec l (sumsOf s l) (paras l) 0).1
theorem wiT_para {p : NN} (hp : p ∈ paras l) (h : wordsP l p ≠ []) : spanW (sumsOf s l) (wordsP l p) ≤ wiT l s := (wiF_spec l (sumsOf s l) (paras l) 0).2.1 p hp h
theorem na_le_wi (hs : 0 ≤ s) : naT l s ≤ wiT l s := by
  rcases (naW_spec (sumsOf s l) (wAll l) 0).2.2 with e | ⟨q, hq, e⟩
  · show naT l s ≤ _
    have e : naT l s = 0 := e
    rw [e]; exact wiT_0
  · have e : naT l s = sumsOf s l q.2 - sumsOf s l q.1 := e
    obtain ⟨p, hp, hqp⟩ := mem_wAll.mp hq
    have h1 := wiT_para (s := s) hp (List.ne_nil_of_mem hqp)
    obtain ⟨a, b⟩ := line_in (words_asc p) hqp
    have h2 := sums_mono hs l _ _ a
    have h3 := sums_mono hs l _ _ b
    unfold spanW at h1
    omega
end
/-! The measures are no less with one more node. -/
def good (q : Int × Int) : Prop := 0 ≤ q.1 ∧ q.1 ≤ q.2
def le2 (a b : Int × Int) : Prop := a.1 ≤ b.1 ∧ a.2 ≤ b.2
theorem le2_refl (a : Int × Int) : le2 a a := ⟨Int.le_refl _, Int.le_refl _⟩
def mx (l : List Int) : Int := l.foldr max 0
theorem mx_nn : ∀ l : List Int, 0 ≤ mx l
  | [] => Int.le_refl _
  | x :: l => by have := mx_nn l; show 0 ≤ max x (mx l); omega
theorem mx_up : ∀ {l : List Int} {x : Int}, x ∈ l → x ≤ mx l
  | y :: l, x, h => by
    show x ≤ max y (mx l)
    rcases List.mem_cons.mp h with z | z
    · omega
    · have := mx_up z; omega
theorem mx_in : ∀ {l : List Int}, l ≠ [] → (∀ x ∈ l, 0 ≤ x) → mx l ∈ l
  | [x], _, h => by
    have := h x (List.mem_cons_self ..)
    have e : mx [x] = x := by show max x 0 = x; omega
    rw [e]; exact List.mem_cons_self ..
  | x :: y :: l, _, h => by
    have ih := mx_in (l := y :: l) (List.cons_ne_nil _ _) fun z hz => h z (List.mem_cons_of_mem _ hz)
    show max x (mx (y :: l)) ∈ _
    by_cases e : mx (y :: l) ≤ x
    · rw [show max x (mx (y :: l)) = x by omega]; exact List.mem_cons_self ..
    · rw [show max x (mx (y :: l)) = mx (y :: l) by omega]; exact List.mem_cons_of_mem _ ih
theorem maxDf_mx {l : List Int} (h : ∀ x ∈ l, 0 ≤ x) : maxDf 0 l = mx l := by
  unfold maxDf
  by_cases e : l = []
  · rw [if_pos e, e]; rfl
  · rw [if_neg e]
    obtain ⟨h1, h2⟩ := maxL_spec e
    have h3 := mx_up h1
    have h4 := h2 _ (mx_in e h)
    omega
inductive LeL : List (Int × Int) → List (Int × Int) → Prop
  | nil {l : List (Int × Int)} (h : ∀ q ∈ l, good q) : LeL [] l
  | cons {a b : Int × Int} {x y : List (Int × Int)} : le2 a b → good a → good b → LeL x y → LeL (a :: x) (b :: y)
theorem LeL.gl : ∀ {x y : List (Int × Int)}, LeL x y → ∀ q ∈ x, good q
  | _, _, .nil _, q, h => absurd h List.not_mem_nil
  | _, _, .cons _ g _ t, q, h => by
    rcases List.mem_cons.mp h with z | z
    · rw [z]; exact g
    · exact t.gl q z
theorem LeL.gr : ∀ {x y : List (Int × Int)}, LeL x y → ∀ q ∈ y, good q
  | _, _, .nil h, q, z => h q z
  | _, _, .cons _ _ g t, q, h => by
    rcases List.mem_cons.mp h with z | z
    · rw [z]; exact g
    · exact t.gr q z
theorem LeL.refl : ∀ {x : List (Int × Int)}, (∀ q ∈ x, good q) → LeL x x
  | [], _ => .nil fun q h => absurd h List.not_mem_nil
  | a :: x, h => .cons (le2_refl a) (h a (List.mem_cons_self ..)) (h a (List.mem_cons_self ..)) (LeL.refl fun q hq => h q (List.mem_cons_of_mem _ hq))
theorem LeL.app {e : List (Int × Int)} (he : ∀ q ∈ e, good q) : ∀ {x y : List (Int × Int)}, LeL x y → LeL x (y ++ e)
  | _, _, .nil h => .nil fun q hq => (List.mem_append.mp hq).elim (h q) (he q)
  | _, _, .cons a b c t => .cons a b c (t.app he)
theorem LeL.map {α : Type} {f g : α → Int × Int} : ∀ {l : List α}, (∀ k ∈ l, le2 (f k) (g k) ∧ good (f k) ∧ good (g k)) → LeL (l.map f) (l.map g)
  | [], _ => .nil fun q h => absurd h List.not_mem_nil
  | k :: l, h => .cons (h k (List.mem_cons_self ..)).1 (h k (List.mem_cons_self ..)).2.1 (h k (List.mem_cons_self ..)).2.2 (LeL.map fun j hj => h j (List.mem_cons_of_mem _ hj))
theorem mx_le : ∀ {x y : List (Int × Int)}, LeL x y → mx (x.map (·.1)) ≤ mx (y.map (·.1)) ∧ mx (x.map (·.2)) ≤ mx (y.map (·.2))
  | _, _, .nil _ => ⟨mx_nn _, mx_nn _⟩
  | _, _, .cons (a := a) (b := b) (x := x) (y := y) h _ _ t => by
    obtain ⟨h1, h2⟩ := mx_le t
    obtain ⟨h3, h4⟩ := h
    exact ⟨by show max a.1 (mx (x.map (·.1))) ≤ max b.1 (mx (y.map (·.1))); omega, by show max a.2 (mx (x.map (·.2))) ≤ max b.2 (mx (y.map (·.2))); omega⟩
theorem gl1 {x : List (Int × Int)} (h : ∀ q ∈ x, good q) : (∀ i ∈ x.map (·.1), 0 ≤ i) ∧ (∀ i ∈ x.map (·.2), 0 ≤ i) := ⟨fun i hi => by
  obtain ⟨q, hq, rfl⟩ := List.mem_map.mp hi
  exact (h q hq).1, fun i hi => by
  obtain ⟨q, hq, rfl⟩ := List.mem_map.mp hi
  have := h q hq
  exact Int.le_trans this.1 this.2⟩
theorem grt_mx {x : List (Int × Int)} (h : ∀ q ∈ x, good q) : grt x = (mx (x.map (·.1)), mx (x.map (·.2))) := by
  unfold grt
  rw [maxDf_mx (gl1 h).1, maxDf_mx (gl1 h).2]
theorem mx_good : ∀ {x : List (Int × Int)}, (∀ q ∈ x, good q) → mx (x.map (·.1)) ≤ mx (x.map (·.2))
  | [], _ => Int.le_refl _
  | a :: x, h => by
    have h1 := mx_good fun q hq => h q (List.mem_cons_of_mem _ hq)
    have h2 := h a (List.mem_cons_self ..)
    have h3 := h2.2
    show max a.1 (mx (x.map (·.1))) ≤ max a.2 (mx (x.map (·.2)))
    omega
theorem grt_good {x : List (Int × Int)} (h : ∀ q ∈ x, good q) : good (grt x) := by
  rw [grt_mx h]
  exact ⟨mx_nn _, mx_good h⟩
theorem grt_le {x y : List (Int × Int)} (h : LeL x y) : le2 (grt x) (grt y) := by
  rw [grt_mx h.gl, grt_mx h.gr]
  exact mx_le h
theorem sum_good : ∀ {x : List (Int × Int)}, (∀ q ∈ x, good q) → 0 ≤ (x.map (·.1)).sum ∧ (x.map (·.1)).sum ≤ (x.map (·.2)).sum
  | [], _ => ⟨Int.le_refl _, Int.le_refl _⟩
  | a :: x, h => by
    obtain ⟨h1, h2⟩ := sum_good fun q hq => h q (List.mem_cons_of_mem _ hq)
    obtain ⟨h3, h4⟩ := h a (List.mem_cons_self ..)
    rw [List.map_cons, List.map_cons, List.sum_cons, List.sum_cons]
    exact ⟨by omega, by omega⟩
theorem sum_le : ∀ {x y : List (Int × Int)}, LeL x y → (x.map (·.1)).sum ≤ (y.map (·.1)).sum ∧ (x.map (·.2)).sum ≤ (y.map (·.2)).sum ∧ x.length ≤ y.length
  | _, _, .nil h => by
    obtain ⟨h1, h2⟩ := sum_good h
    exact ⟨h1, Int.le_trans h1 h2, Nat.zero_le _⟩
  | _, _, .cons h _ _ t => by
    obtain ⟨h1, h2, h3⟩ := sum_le t
    obtain ⟨h4, h5⟩ := h
    rw [List.map_cons, List.map_cons, List.map_cons, List.map_cons, List.sum_cons, List.sum_cons, List.sum_cons, List.sum_cons, List.length_cons, List.length_cons]
    exact ⟨by omega, by omega, by omega⟩
theorem gap_le {g : Int} (hg : 0 ≤ g) {a b : Nat} (h : a ≤ b) : g * max 0 ((a : Int) - 1) ≤ g * max 0 ((b : Int) - 1) := Int.mul_le_mul_of_nonneg_left (by omega) hg
theorem rowM_le {g : Int} (hg : 0 ≤ g) {x y : List (Int × Int)} (h : LeL x y) : le2 (rowM x g) (rowM y g) := by
  obtain ⟨h1, h2, h3⟩ := sum_le h
  have h4 := gap_le hg h3
  exact ⟨by show _ + _ ≤ _ + _; omega, by show _ + _ ≤ _ + _; omega⟩
theorem rowM_good {g : Int} (hg : 0 ≤ g) {x : List (Int × Int)} (h : ∀ q ∈ x, good q) : good (rowM x g) := by
  obtain ⟨h1, h2⟩ := sum_good h
  have h4 : 0 ≤ g * max 0 ((x.length : Int) - 1) := Int.mul_nonneg hg (by omega)
  exact ⟨by show 0 ≤ _ + _; omega, by show _ + _ ≤ _ + _; omega⟩
theorem evk_sub {α : Type} (k : Nat) : ∀ (l : List α) (j : Nat), ∀ q ∈ evk k j l, q ∈ l
  | [], j, q, h => by cases j <;> exact absurd h List.not_mem_nil
  | x :: r, 0, q, h => by
    have h : q ∈ x :: evk k (k - 1) r := h
    rcases List.mem_cons.mp h with z | z
    · rw [z]; exact List.mem_cons_self ..
    · exact List.mem_cons_of_mem _ (evk_sub k r _ q z)
  | x :: r, j + 1, q, h => List.mem_cons_of_mem _ (evk_sub k r j q h)
theorem evk_le (k : Nat) : ∀ {x y : List (Int × Int)}, LeL x y → ∀ j, LeL (evk k j x) (evk k j y)
  | _, _, .nil h, j => by
    rw [show evk k j ([] : List (Int × Int)) = [] by cases j <;> rfl]
    exact .nil fun q hq => h q (evk_sub k _ j q hq)
  | _, _, .cons a b c t, 0 => .cons a b c (evk_le k t (k - 1))
  | _, _, .cons a b c t, j + 1 => evk_le k t j
theorem colM_le {x y : List (Int × Int)} (h : LeL x y) (many : Nat) : LeL (colM x many) (colM y many) := LeL.map fun j _ => ⟨grt_le (evk_le many h j), grt_good (evk_le many h j).gl, grt_good (evk_le many h j).gr⟩
theorem gap_nn {m : Tb} (h : BxOk m) : 0 ≤ nmI m "gap" := by
  obtain ⟨i, hi, _⟩ := h.ga
  rw [nmI_of hi]
  omega
theorem insM_le {m : Tb} (hm : BxOk m) {x y : List (Int × Int)} (h : LeL x y) : le2 (insM m x) (insM m y) := by
  unfold insM
  split
  · exact rowM_le (gap_nn hm) h
  · split
    · exact rowM_le (gap_nn hm) (colM_le h _)
    · exact grt_le h
theorem insM_good {m : Tb} (hm : BxOk m) {x : List (Int × Int)} (h : ∀ q ∈ x, good q) : good (insM m x) := by
  unfold insM
  split
  · exact rowM_good (gap_nn hm) h
  · split
    · exact rowM_good (gap_nn hm) (colM_le (LeL.refl h) _).gl
    · exact grt_good h
theorem bdW_mono (m : Tb) {x y : Int} (h : x ≤ y) : bdW m x ≤ bdW m y := by unfold bdW; omega
theorem bdW_low (m : Tb) (x : Int) : 2 * (nmI m "border" + nmI m "padding") ≤ bdW m x ∧ nmI m "least_width" ≤ bdW m x := by unfold bdW; exact ⟨by omega, by omega⟩
theorem boxM_is (m : Tb) (qs : List (Int × Int)) : (∃ x, (boxM m qs).1 = bdW m x) := by
  unfold boxM
  split
  · exact ⟨_, rfl⟩
  · exact ⟨_, rfl⟩
theorem boxM_good {m : Tb} (h : BxN m) {x : List (Int × Int)} (hx : ∀ q ∈ x, good q) : good (boxM m x) := by
  have h1 := h.bo
  have h2 := h.pa
  have h3 := fun x => (bdW_low m x).1
  unfold boxM
  split
  · rename_i w _
    have := h3 w
    exact ⟨by show 0 ≤ bdW m w; omega, Int.le_refl _⟩
  · obtain ⟨g1, g2⟩ := insM_good h.ok hx
    have := h3 ((insM m x).1 + 2 * (nmI m "border" + nmI m "padding"))
    exact ⟨by show 0 ≤ bdW m _; omega, bdW_mono m (by omega)⟩
theorem boxM_le {m : Tb} (h : BxN m) {x y : List (Int × Int)} (hx : LeL x y) : le2 (boxM m x) (boxM m y) := by
  unfold boxM
  split
  · exact le2_refl _
  · obtain ⟨g1, g2⟩ := insM_le h.ok hx
    exact ⟨bdW_mono m (by omega), bdW_mono m (by omega)⟩
/-! the tree -/
theorem side_nn {r : Rw} {m : Tb} (h : NOk r m) : 0 ≤ sideM m := by
  rcases h with ⟨_, l, s, _, _, e, _⟩ | ⟨_, h, _⟩
  · rw [e]; exact Int.le_refl 0
  · have := h.ml
    have := h.mr
    unfold sideM
    omega
theorem stOf_of {st : St} {n : Int} {m : Tb} (h : getA st n = some m) : stOf st n = m := by unfold stOf; rw [h]; rfl
theorem msr_good {p : Pg} {st : St} (hs : StyOk p st) : ∀ (f : Nat) (n : Int), good (msr p st f n)
  | 0, n => ⟨Int.le_refl _, Int.le_refl _⟩
  | f + 1, n => by
    cases hr : p.t n with
    | none => show good (match p.t n with | none => (0, 0) | some r => _); rw [hr]; exact ⟨Int.le_refl _, Int.le_refl _⟩
    | some r =>
      rw [msr_succ hr]
      obtain ⟨m, hm, ho⟩ := hs n r hr
      unfold ownM
      rcases ho with ⟨hb, l, s, hc, hl, e, s1, s2⟩ | ⟨hb, ho, _⟩
      · rw [if_neg (by rw [hb]; decide)]
        have e2 : sizOf st n = s := by
          unfold sizOf
          rw [hm, e]
          rfl
        rw [e2]
        exact ⟨naT_0, na_le_wi (by omega)⟩
      · rw [if_pos hb, stOf_of hm]
        refine boxM_good ho fun q hq => ?_
        unfold outs at hq
        obtain ⟨k, hk, rfl⟩ := List.mem_map.mp hq
        obtain ⟨g1, g2⟩ := msr_good hs f k
        have hkt : ∃ r2, p.t k = some r2 := by
          have := (List.mem_filter.mp hk).2
          cases h : p.t k with
          | none => rw [h] at this; cases this
          | some r2 => exact ⟨r2, rfl⟩
        obtain ⟨r2, h2⟩ := hkt
        obtain ⟨m2, hm2, ho2⟩ := hs k r2 h2
        have := side_nn ho2
        rw [stOf_of hm2]
        exact ⟨by show 0 ≤ _ + _; omega, by show _ + _ ≤ _ + _; omega⟩
theorem outs_good {p : Pg} {st : St} (hs : StyOk p st) (f : Nat) (l : List Int) (hl : ∀ k ∈ l, ∃ r, p.t k = some r) : ∀ q ∈ l.map (fun k => ((msr p st f k).1 + sideM (stOf st k), (msr p st f k).2 + sideM (stOf st k))), good q := fun q hq => by
  obtain ⟨k, hk, rfl⟩ := List.mem_map.mp hq
  obtain ⟨g1, g2⟩ := msr_good hs f k
  obtain ⟨r2, h2⟩ := hl k hk
  obtain ⟨m2, hm2, ho2⟩ := hs k r2 h2
  have := side_nn ho2
  rw [stOf_of hm2]
  exact ⟨by show 0 ≤ _ + _; omega, by show _ + _ ≤ _ + _; omega⟩
def flP (p : Pg) (st : St) (k : Int) : Bool := match p.t k with
  | some r2 => inFl st k r2
  | none => false
theorem flK_eq (p : Pg) (st : St) (r : Rw) : flK p st r = r.kids.filter (flP p st) := rfl
structure Grow (p : Pg) (st : St) (p' : Pg) (st' : St) (N P : Int) : Prop where
  old : ∀ n r, p.t n = some r → n ≠ N
  sty : ∀ n, n ≠ N → getA st' n = getA st n
  tr : ∀ n r, p.t n = some r → n ≠ P → p'.t n = some r
  par : ∃ rp, p.t P = some rp ∧ rp.box = true ∧ p'.t P = some { rp with kids := rp.kids ++ [N] }
  kid : ∀ n r c, p.t n = some r → c ∈ r.kids → ∃ rc, p.t c = some rc
  new : ∃ rn, p'.t N = some rn
section
variable {p p' : Pg} {st st' : St} {N P : Int}
theorem Grow.node (G : Grow p st p' st' N P) {n : Int} {r : Rw} (h : p.t n = some r) : ∃ r', p'.t n = some r' ∧ r'.box = r.box ∧ r'.con = r.con := by
  by_cases e : n = P
  · obtain ⟨rp, h1, h2, h3⟩ := G.par
    rw [e] at h ⊢
    rw [h] at h1
    cases h1
    exact ⟨_, h3, rfl, rfl⟩
  · exact ⟨r, G.tr n r h e, rfl, rfl⟩
theorem Grow.fl (G : Grow p st p' st' N P) {k : Int} {rk : Rw} (h : p.t k = some rk) : flP p' st' k = flP p st k := by
  obtain ⟨r', h1, h2, h3⟩ := G.node h
  unfold flP
  rw [h, h1]
  show inFl st' k r' = inFl st k rk
  unfold inFl
  rw [h2, G.sty k (G.old k rk h)]
theorem Grow.flK (G : Grow p st p' st' N P) {n : Int} {r r' : Rw} (h : p.t n = some r) (h' : p'.t n = some r') : Q.flK p' st' r' = Q.flK p st r ∨ Q.flK p' st' r' = Q.flK p st r ++ [N] := by
  have same : r.kids.filter (flP p' st') = r.kids.filter (flP p st) := List.filter_congr fun k hk => by
    obtain ⟨rk, e⟩ := G.kid n r k h hk
    exact G.fl e
  rw [flK_eq, flK_eq]
  by_cases e : n = P
  · obtain ⟨rp, h1, h2, h3⟩ := G.par
    rw [e] at h h'
    rw [h] at h1
    cases h1
    rw [h'] at h3
    cases h3
    show (r.kids ++ [N]).filter (flP p' st') = r.kids.filter (flP p st) ∨ (r.kids ++ [N]).filter (flP p' st') = r.kids.filter (flP p st) ++ [N]
    rw [List.filter_append, same, List.filter_cons]
    split
    · exact Or.inr rfl
    · exact Or.inl (List.append_nil _)
  · have := G.tr n r h e
    rw [h'] at this
    cases this
    exact Or.inl same
theorem msr_grow (G : Grow p st p' st' N P) (hs : StyOk p st) (hs' : StyOk p' st') : ∀ (f : Nat) (n : Int) (r : Rw), p.t n = some r → le2 (msr p st f n) (msr p' st' f n)
  | 0, n, r, _ => le2_refl _
  | f + 1, n, r, h => by
    obtain ⟨r', h1, h2, h3⟩ := G.node h
    have hnN := G.old n r h
    rw [msr_succ h, msr_succ h1]
    obtain ⟨m, hm, ho⟩ := hs n r h
    unfold ownM
    rw [h2]
    rcases ho with ⟨hb, _⟩ | ⟨hb, ho, _⟩
    · rw [if_neg (by rw [hb]; decide), if_neg (by rw [hb]; decide)]
      have e1 : txtOf p' n = txtOf p n := by
        unfold txtOf
        rw [h, h1]
        show (match r'.con with | .str t => t.cps.toList | _ => []) = (match r.con with | .str t => t.cps.toList | _ => [])
        rw [h3]
      have e2 : sizOf st' n = sizOf st n := by
        unfold sizOf
        rw [G.sty n hnN]
      rw [e1, e2]
      exact le2_refl _
    · rw [if_pos hb, if_pos hb]
      have e1 : stOf st' n = stOf st n := by
        unfold stOf
        rw [G.sty n hnN]
      rw [e1, stOf_of hm]
      refine boxM_le ho ?_
      have hkk : ∀ k ∈ Q.flK p st r, ∃ rk, p.t k = some rk := fun k hk => G.kid n r k h (flK_sub hk)
      have hkk' : ∀ k ∈ Q.flK p' st' r', ∃ rk, p'.t k = some rk := fun k hk => by
        have := (List.mem_filter.mp hk).2
        cases h : p'.t k with
        | none => rw [h] at this; cases this
        | some r2 => exact ⟨r2, rfl⟩
      have base : LeL ((Q.flK p st r).map fun k => ((msr p st f k).1 + sideM (stOf st k), (msr p st f k).2 + sideM (stOf st k))) ((Q.flK p st r).map fun k => ((msr p' st' f k).1 + sideM (stOf st' k), (msr p' st' f k).2 + sideM (stOf st' k))) := LeL.map fun k hk => by
        obtain ⟨rk, hk2⟩ := hkk k hk
        obtain ⟨q1, q2⟩ := msr_grow G hs hs' f k rk hk2
        have e2 : stOf st' k = stOf st k := by
          unfold stOf
          rw [G.sty k (G.old k rk hk2)]
        obtain ⟨rk', hk3, _⟩ := G.node hk2
        have g1 := outs_good hs f [k] (fun j hj => by rw [List.mem_singleton.mp hj]; exact ⟨rk, hk2⟩) _ (List.mem_singleton.mpr rfl)
        have g2 := outs_good hs' f [k] (fun j hj => by rw [List.mem_singleton.mp hj]; exact ⟨rk', hk3⟩) _ (List.mem_singleton.mpr rfl)
        refine ⟨⟨?_, ?_⟩, g1, g2⟩
        · show _ + _ ≤ _ + _; rw [e2]; omega
        · show _ + _ ≤ _ + _; rw [e2]; omega
      unfold outs
      rcases G.flK h h1 with e | e
      · rw [e]; exact base
      · rw [e, List.map_append]
        refine base.app fun q hq => ?_
        exact outs_good hs' f [N] (fun j hj => by rw [List.mem_singleton.mp hj]; exact G.new) q hq
/-- a box with a width of its own -/
theorem msr_wide (G : Grow p st p' st' N P) {n : Int} {r : Rw} (h : p.t n = some r) (hb : r.box = true) {m : Tb} {w : Int} (hm : getA st n = some m) (hw : getA m "width" = some (.int w)) (f : Nat) : msr p' st' (f + 1) n = msr p st (f + 1) n := by
  obtain ⟨r', h1, h2, h3⟩ := G.node h
  have e1 : stOf st' n = stOf st n := by
    unfold stOf
    rw [G.sty n (G.old n r h)]
  rw [msr_succ h, msr_succ h1]
  unfold ownM
  rw [h2, if_pos hb, if_pos hb, e1, stOf_of hm]
  unfold boxM
  rw [hw]
end
theorem ins_grow {p : Pg} {st : St} {r rp : Rw} {sty : Tb} (h : InsOk p rp.kids.length r rp) : Grow p st (insP p rp.kids.length r) (st ++ [(p.last + 1, sty)]) (p.last + 1) r.par := by
  have ht := ins_t h
  obtain ⟨dep, W⟩ := h.ok.wf
  refine ⟨fun n q hq => old_ne h.ok hq, fun n hn => getA_app hn, fun n q hq hn => ?_, ⟨rp, h.par, h.box, ?_⟩, fun n q c hq hc => ?_, ⟨r, by rw [ht, if_pos rfl]⟩⟩
  · rw [ht, if_neg (old_ne h.ok hq), if_neg hn]; exact hq
  · rw [ht, if_neg (old_ne h.ok h.par), if_pos rfl]
    congr 1
    unfold insL
    rw [List.take_length, List.drop_length, List.append_nil]
  · obtain ⟨rc, e, _⟩ := W.kid n q c hq hc
    exact ⟨rc, e⟩
theorem ins_sty {p : Pg} {st : St} {r rp : Rw} {i : Nat} {sty : Tb} (h : InsOk p i r rp) (hs : StyOk p st) (hn : NOk r sty) (hf : p.last + 1 ∉ st.map (·.1)) : StyOk (insP p i r) (st ++ [(p.last + 1, sty)]) := fun n q hq => by
  rw [ins_t h] at hq
  split at hq
  · rename_i e
    cases hq
    rw [e]
    exact ⟨_, getA_new hf, hn⟩
  · rename_i e0
    rw [getA_app e0]
    split at hq
    · rename_i e
      cases hq
      rw [e]
      obtain ⟨m, m1, m2⟩ := hs _ _ h.par
      exact ⟨m, m1, m2⟩
    · exact hs _ _ hq
/-! What the law about the growing of measures asks. -/
theorem mea_nodup {p : Pg} {st : St} {ks : List (Int × Bool)} (h : (ks.map (·.1)).Nodup) : ((mea p st ks).map (·.1)).Nodup := by
  unfold mea
  rw [List.map_map]
  exact List.Nodup.sublist (List.Sublist.map _ List.filter_sublist) h
theorem mea_mem {p : Pg} {st : St} {ks : List (Int × Bool)} {q : Int × Int × Int} (h : q ∈ mea p st ks) : ∃ b, (q.1, b) ∈ ks ∧ inM st (q.1, b) = true ∧ q.2 = msr p st 31 q.1 := by
  unfold mea at h
  obtain ⟨a, ha, e⟩ := List.mem_map.mp h
  obtain ⟨h1, h2⟩ := List.mem_filter.mp ha
  rw [← e]
  exact ⟨a.2, h1, h2, rfl⟩
theorem mea_fs {p : Pg} {st : St} {ks : List (Int × Bool)} (hs : StyOk p st) (hk : KsOk p ks) (hn : (ks.map (·.1)).Nodup) : FsOk (mea p st ks) ks st := fun q hq => by
  obtain ⟨b, h1, h2, h3⟩ := mea_mem hq
  obtain ⟨g1, g2⟩ := msr_good hs 31 q.1
  rw [h3]
  refine ⟨g1, g2, b, getA_nodup hn h1, fun hb => ?_⟩
  obtain ⟨r, hr, hrb⟩ := hk _ h1
  obtain ⟨m, hm, ho⟩ := hs _ _ hr
  have hrb : r.box = b := hrb
  rcases ho with ⟨z, _⟩ | ⟨_, ho, _⟩
  · rw [hrb, hb] at z; cases z
  · obtain ⟨bo, hbo⟩ := ho.ok.bo
    obtain ⟨pa, hpa⟩ := ho.ok.pa
    obtain ⟨le, hle⟩ := ho.ok.le
    have e : msr p st 31 q.1 = boxM m (outs p st 30 r) := by
      rw [msr_succ hr]
      unfold ownM
      rw [if_pos (by rw [hrb, hb]), stOf_of hm]
    obtain ⟨x, hx⟩ := boxM_is m (outs p st 30 r)
    have hl := bdW_low m x
    rw [nmI_of hbo, nmI_of hpa, nmI_of hle] at hl
    rw [e, hx]
    exact ⟨m, bo, pa, le, hm, hbo, hpa, hle, hl.1, hl.2⟩
theorem mea_get {p : Pg} {st : St} {ks : List (Int × Bool)} (hn : (ks.map (·.1)).Nodup) {n : Int} {b : Bool} (h : (n, b) ∈ ks) (hi : inM st (n, b) = true) : getA (mea p st ks) n = some (msr p st 31 n) :=
  getA_nodup (mea_nodup hn) (p := (n, msr p st 31 n)) (by unfold mea; exact List.mem_map.mpr ⟨(n, b), List.mem_filter.mpr ⟨h, hi⟩, rfl⟩)
theorem ti_start {m : Tb} (h : BxN m) {s : Int} (hs : getA m "size" = some (.int s)) (s1 : 1 ≤ s) (s2 : s ≤ 20) : TI (S0 ⟨pgN 100 100, [(1, m)]⟩) := by
  have ht : ∀ n r, (pgN 100 100).t n = some r → n = 1 ∧ r = rootR := fun n r e => by
    rw [pgN_t] at e
    by_cases z : n = 1
    · simp only [z, if_true] at e; cases e; exact ⟨z, rfl⟩
    · simp only [z, if_false] at e; cases e
  have h1 : (pgN 100 100).t 1 = some rootR := by rw [pgN_t]; rfl
  refine ⟨pgN_ok _ _, rfl, rfl, pgN_count _ _, rfl, rfl, rfl, rfl, ⟨[], rfl⟩, fun n r e => ?_, fun q hq => ?_, fun n r e => ?_, fun q hq => ?_, fun q hq => absurd hq List.not_mem_nil⟩
  · obtain ⟨rfl, rfl⟩ := ht n r e
    exact List.mem_singleton.mpr rfl
  · rw [List.mem_singleton.mp hq]
    exact ⟨rootR, h1, rfl⟩
  · obtain ⟨rfl, rfl⟩ := ht n r e
    exact ⟨m, rfl, Or.inr ⟨rfl, h, s, hs, s1, s2⟩⟩
  · rw [List.mem_singleton.mp hq]
    exact ⟨rootR, h1, rfl, rfl, by show ((depth (pgN 100 100).t 1 : Nat) : Int) = 1; rw [pgN_depth]; rfl, by decide⟩
theorem plain_n (s : Int) : BxN (plainS s) := (plain_ok s).n ⟨_, rfl⟩ ⟨_, rfl⟩ (Or.inr (Or.inl ⟨_, rfl⟩)) (by decide) (by decide) (by decide) (by decide) ⟨by decide, by decide⟩ ⟨by decide, by decide⟩
theorem plain_size (s : Int) : getA (plainS s) "size" = some (.int s) := by
  unfold plainS
  rw [gS (by decide +kernel), gS (by decide +kernel), gS (by decide +kernel)]
  exact gE
theorem TI.insAt {S : TS} (h : TI S) (hn : S.ks.length ≤ 250) {b : Int × Int × List Int} (hb : b ∈ S.bx) {r0 : Rw} (h1 : r0.par = b.1) (h2 : r0.kids = []) (h3 : noList r0.d = true) : ∃ rp, rp.kids = b.2.2 ∧ InsOk S.p rp.kids.length r0 rp := by
  obtain ⟨r, k1, k2, k3, k4, k5⟩ := h.bxs b hb
  refine ⟨r, k3, h.pg, by rw [h1]; exact k1, k2, Nat.le_refl _, ?_, by rw [h.cnt]; omega, by have := h.done; omega, h2, h3⟩
  rw [h1]
  omega
theorem TI.szAt {S : TS} (h : TI S) {b : Int × Int × List Int} (hb : b ∈ S.bx) : ∃ m s, getA S.st b.1 = some m ∧ getA m "size" = some (.int s) ∧ 1 ≤ s ∧ s ≤ 20 := by
  obtain ⟨r, k1, k2, _⟩ := h.bxs b hb
  obtain ⟨m, h3, h4⟩ := h.sty _ _ k1
  rcases h4 with ⟨z, _⟩ | ⟨_, _, s, q1, q2, q3⟩
  · rw [k2] at z; cases z
  · exact ⟨m, s, h3, q1, q2, q3⟩
theorem kids_get {bx : List (Int × Int × List Int)} (nd : (bIds bx).Nodup) {b : Int × Int × List Int} (hb : b ∈ bx) : getA (bx.map fun b => (ekI b.1, PyData.list (b.2.2.map PyData.int))) (ekI b.1) = some (.list (b.2.2.map PyData.int)) :=
  getA_nodup (m := bx.map fun b => (ekI b.1, PyData.list (b.2.2.map PyData.int))) (by
    rw [List.map_map]
    show (bx.map fun b => ekI b.1).Nodup
    have : (bx.map fun b => ekI b.1) = (bIds bx).map ekI := by unfold bIds; rw [List.map_map]; rfl
    rw [this]
    exact List.Pairwise.map _ (fun a b hab e => hab (ekI_inj _ _ e)) nd) (p := (ekI b.1, PyData.list (b.2.2.map PyData.int))) (List.mem_map.mpr ⟨b, hb, rfl⟩)
def NWt : List Nat := [110, 101, 119]
theorem isW_new : Q.isW NWt := ⟨by decide, by decide, by decide⟩
theorem tree_inj {ns ns2 : List Int} {f f2 : Nat} (h : ([.i (dI ns), .i (.int (f : Int)), .r 0, .r 5] : List SV) = [.i (dI ns2), .i (.int (f2 : Int)), .r 0, .r 5]) : ns2 = ns ∧ f2 = f := by
  injection h with a h
  injection h with b _
  injection a with a
  injection a with a
  injection b with b
  injection b with b
  refine ⟨?_, (Int.ofNat.inj b).symm⟩
  have := congrArg intsOf a
  rw [intsOf_map, intsOf_map] at this
  exact (Option.some.inj this).symm
theorem noList_dII (m : List (Int × Int × Int)) : ∀ p ∈ m, noList (dII p.2) = true := fun p _ => rfl
theorem shaped_dII (p : Int × Int) : SeqAt.shaped (dII p) = true := by rfl
theorem ok_law {P : Program} {w : World} {K : PySem.W.Frag} {mg : Str → Option Value} {base : Heap} {f : Addr} {fd : FuncData} (F : FnP K "law" s_law f fd) {C_History : Addr} (kC_History : Cls K C_History) (n_History_cells : NoAttr K C_History "cells") (n_History__done : NoAttr K C_History "_done") (n_History__undone : NoAttr K C_History "_undone") {C_Measures : Addr} (kC_Measures : Cls K C_Measures) (n_Measures__page : NoAttr K C_Measures "_page") (n_Measures__styles : NoAttr K C_Measures "_styles") (n_Measures_known : NoAttr K C_Measures "known") {C_Page : Addr} (kC_Page : Cls K C_Page) (n_Page_width : NoAttr K C_Page "width") (n_Page_height : NoAttr K C_Page "height") (n_Page__last_id : NoAttr K C_Page "_last_id") (n_Page__moment : NoAttr K C_Page "_moment") (n_Page__marked : NoAttr K C_Page "_marked") (n_Page__history : NoAttr K C_Page "_history") (h__law_source : Cal P w K mg base 2 "_law_source" ["cell"] (spD K  R__law_source)) (h__law_cell : Cal P w K mg base 1 "_law_cell" ["script", "k"] (spD K  R__law_cell)) (h_Page___init__ : DL.MakN P w K mg base 4 "Page" C_Page ["self", "width", "height"] (DL.spK K 1 5 (fun _ : Unit => [SO.ob C_Page []]) (shapeP C_Page C_History) R_Page___init__)) (h__law_plain_style : Cal P w K mg base 1 "_law_plain_style" ["scale"] (DL.spI K ekS evS R__law_plain_style)) (h__law_tree : Cal P w K mg base 6 "_law_tree" ["script", "first", "page", "styles"] (DL.spS K 6 (shapePT C_Page C_History) R__law_tree)) (h__law_measures : Cal P w K mg base 167 "_law_measures" ["page", "styles", "kinds"] (spD K  (R__law_measures C_Page C_History))) (h__law_are_measures : Cal P w K mg base 2 "_law_are_measures" ["found", "kinds", "styles"] (spD K  R__law_are_measures)) (h_Page_insert_text : DL.MetP P w K mg base 5 C_Page "insert_text" ["self", "parent", "index", "string"] (DL.spS K 5 (shapeP C_Page C_History) R_Page_insert_text)) (h__law_text_style : Cal P w K mg base 1 "_law_text_style" ["scale"] (DL.spI K ekS evS R__law_text_style)) (ke_Page_insert_box_marks : ∀ N H, Dn K N H (.ref (DL.kwAt ("Page", some "insert_box") "marks" K)) (.tuple [])) (h_Page_insert_box : DL.MetQ P w K mg base 5 C_Page "insert_box" ["self", "parent", "index", "name", "marks"] (DL.spS K 5 (shapeP C_Page C_History) R_Page_insert_box) [(4, [], [("marks", .ref (DL.kwAt ("Page", some "insert_box") "marks" K))])]) (h__law_box_style : Cal P w K mg base 2 "_law_box_style" ["number", "scale"] (DL.spI K ekS evS R__law_box_style)) (h__law_string : Cal P w K mg base 2 "_law_string" ["number"] (spD K  R__law_string)) (z_int : mg "int" = none) (z_len : mg "len" = none) (z_isinstance : mg "isinstance" = none) : FnOk P w K mg base CX0 168 f fd ["script"] (spD K RLaw) := by
  refine fnok_mk F sc_law (spD_len RLaw_len) (fun cdv A outer s H vs Q E hr h => ⟨_,
    (pss_cons (ps_set (i := 1) sc_law.nd rfl (by first | exact Or.inl rfl | exact Or.inr rfl) (DL.pe_cal h__law_source hr (by decide) (by rfl) pass0 (pa_cons (DL.pe_cal h__law_cell hr (by decide) (by rfl) pass0 (pa_cons (pv 0) (pa_cons pe_int pa_nil))) pa_nil)))
     (pss_cons (ps_set (i := 2) sc_law.nd rfl (by first | exact Or.inl rfl | exact Or.inr rfl) (DL.pe_makN h_Page___init__ hr (by decide) (by rfl) pass0 (pa_cons pe_int (pa_cons pe_int pa_nil))))
     (pss_cons (ps_set (i := 3) sc_law.nd rfl (by first | exact Or.inl rfl | exact Or.inr rfl) (pe_disp (pps_cons pe_int (DL.pe_cal h__law_plain_style hr (by decide) (by rfl) pass0 (pa_cons (pe_op op_add pe_int (pe_op op_mod (pe_callTy call_int1 (by rfl) z_int (by decide +kernel) (pa_cons (pv 1) pa_nil)) pe_int)) pa_nil)) pps_nil) (by rfl) (by rfl) (by simp) (by decide)))
     (pss_cons (ps_asg (DL.pe_cal h__law_tree hr (by decide) (by rfl) pass0 (pa_cons (pv 0) (pa_cons pe_int (pa_cons (pv 2) (pa_cons (pv 3) pa_nil))))) (DL.kTup (K := K) (n := 3) rfl (pgs_cons (pg_name (i := 4) sc_law.nd rfl (by first | exact Or.inl rfl | exact Or.inr rfl)) (pgs_cons (pg_name (i := 5) sc_law.nd rfl (by first | exact Or.inl rfl | exact Or.inr rfl)) (pgs_cons (pg_name (i := 6) sc_law.nd rfl (by first | exact Or.inl rfl | exact Or.inr rfl)) pgs_nil)))))
     (pss_cons (ps_set (i := 7) sc_law.nd rfl (by first | exact Or.inl rfl | exact Or.inr rfl) (DL.pe_cal h__law_measures hr (by decide) (by rfl) pass0 (pa_cons (pv 2) (pa_cons (pv 3) (pa_cons (pv 4) pa_nil)))))
     (pss_cons (ps_if (pt_not (pt_val (DL.pe_cal h__law_are_measures hr (by decide) (by rfl) pass0 (pa_cons (pv 7) (pa_cons (pv 4) (pa_cons (pv 3) pa_nil))))))
     (pss_cons (ps_ret pe_bl)
     pss_nil)
     pss_nil)
     (pss_cons (ps_setLc (i := 8) (own := [("node", 11)]) (by rfl) sc_law.nd rfl rfl (sw_true rfl rfl rfl (by decide +kernel)) (pi_keys (pv 4)) (blkOk_by (own := [("node", 11)]) (N := ["script", "number", "page", "styles", "kinds", "kids", "texts", "before", "boxes", "parent", "scale", "node", "after", "other"]) (sc := defScope s_law) (by decide +kernel)) (fun _ _ _ _ _ => (pg_name (i := 11) sc_law.nd rfl (by first | exact Or.inl rfl | exact Or.inr rfl))) (fun _ _ _ _ _ => (pts_one (pt_cmpR op_eq (pe_dget (DL.u1 hr.units) (pv 4) (pv 11) (fun _ _ => rfl)) pe_str (nomark _)))) (fun _ _ _ _ _ => (pv 11)))
     (pss_cons (ps_set (i := 9) sc_law.nd rfl (by first | exact Or.inl rfl | exact Or.inr rfl) (pe_ix (DL.kIxL (K := K)) (pv 8) (pe_op op_mod (pe_callTy call_int1 (by rfl) z_int (by decide +kernel) (pa_cons (pe_op op_fdiv (pv 1) pe_int) pa_nil)) (pe_callB (DL.kLen (K := K)) (by rfl) z_len (by decide +kernel) (pa_cons (pv 8) pa_nil))) (fun _ _ => rfl)))
     (pss_cons (ps_set (i := 10) sc_law.nd rfl (by first | exact Or.inl rfl | exact Or.inr rfl) (pe_dget (DL.u1 hr.units) (pe_dget (DL.u1 hr.units) (pv 3) (pv 9) (fun _ _ => rfl)) pe_str (fun _ _ => rfl)))
     (pss_cons (ps_if (pt_cmpR op_eq (pe_op op_mod (pe_callTy call_int1 (by rfl) z_int (by decide +kernel) (pa_cons (pe_op op_fdiv (pv 1) pe_int) pa_nil)) pe_int) pe_int (nomark _))
     (pss_cons (ps_set (i := 11) sc_law.nd rfl (by first | exact Or.inl rfl | exact Or.inr rfl) (DL.pe_metP h_Page_insert_text hr (by decide) pass0 (pv 2) (pa_cons (pv 9) (pa_cons (pe_callB (DL.kLen (K := K)) (by rfl) z_len (by decide +kernel) (pa_cons (pe_dget (DL.u1 hr.units) (pv 5) (pv 9) (fun _ _ => rfl)) pa_nil)) (pa_cons (DL.pe_cal h__law_string hr (by decide) (by rfl) pass0 (pa_cons (pe_op op_fdiv (pv 1) pe_int) pa_nil)) pa_nil)))))
     (pss_cons (ps_dput (DL.u1 hr.units) (pv 3) (pv 11) (DL.pe_cal h__law_text_style hr (by decide) (by rfl) pass0 (pa_cons (pv 10) pa_nil)) rfl)
     pss_nil))
     (pss_cons (ps_set (i := 11) sc_law.nd rfl (by first | exact Or.inl rfl | exact Or.inr rfl) (DL.pe_metQ h_Page_insert_box (List.mem_of_getElem? (i := 0) (a := ((4, [], [("marks", .ref (DL.kwAt ("Page", some "insert_box") "marks" K))]) : DL.CForm)) rfl) hr (by decide) pass0 (pv 2) (pa_cons (pv 9) (pa_cons (pe_callB (DL.kLen (K := K)) (by rfl) z_len (by decide +kernel) (pa_cons (pe_dget (DL.u1 hr.units) (pv 5) (pv 9) (fun _ _ => rfl)) pa_nil)) (pa_cons pe_str pa_nil))) pk_nil))
     (pss_cons (ps_dput (DL.u1 hr.units) (pv 3) (pv 11) (DL.pe_cal h__law_box_style hr (by decide) (by rfl) pass0 (pa_cons (pe_op op_fdiv (pv 1) pe_int) (pa_cons (pv 10) pa_nil))) rfl)
     pss_nil)))
     (pss_cons (ps_set (i := 12) sc_law.nd rfl (by first | exact Or.inl rfl | exact Or.inr rfl) (DL.pe_cal h__law_measures hr (by decide) (by rfl) pass0 (pa_cons (pv 2) (pa_cons (pv 3) (pa_cons (pv 4) pa_nil)))))
     (pss_cons (ps_if (pt_not (pt_val (DL.pe_cal h__law_are_measures hr (by decide) (by rfl) pass0 (pa_cons (pv 12) (pa_cons (pv 4) (pa_cons (pv 3) pa_nil))))))
     (pss_cons (ps_ret pe_bl)
     pss_nil)
     pss_nil)
     (pss_cons (ps_for PassesOwn.never rfl (pi_keys (pv 7)) (pg_name (i := 13) sc_law.nd rfl (by first | exact Or.inl rfl | exact Or.inr rfl))
     (pss_cons (ps_if (PW.pt (pw_or (pt_cmpR op_lt (pe_ix (DL.kIxT (K := K)) (pe_dget (DL.u1 hr.units) (pv 12) (pv 13) (fun _ _ => rfl)) pe_int (fun _ _ => rfl)) (pe_ix (DL.kIxT (K := K)) (pe_dget (DL.u1 hr.units) (pv 7) (pv 13) (fun _ _ => rfl)) pe_int (fun _ _ => rfl)) (nomark _)) (pw_or1 (pt_cmpR op_lt (pe_ix (DL.kIxT (K := K)) (pe_dget (DL.u1 hr.units) (pv 12) (pv 13) (fun _ _ => rfl)) pe_int (fun _ _ => rfl)) (pe_ix (DL.kIxT (K := K)) (pe_dget (DL.u1 hr.units) (pv 7) (pv 13) (fun _ _ => rfl)) pe_int (fun _ _ => rfl)) (nomark _)))))
     (pss_cons (ps_ret pe_bl)
     pss_nil)
     pss_nil)
     (pss_cons (ps_if (PW.pt (pw_and (pt_cmpR op_eq (pe_dget (DL.u1 hr.units) (pv 4) (pv 13) (fun _ _ => rfl)) pe_str (nomark _)) (pw_and (pt_val (pe_callB (DL.kIsi (K := K)) (by rfl) z_isinstance (by decide +kernel) (pa_cons (pe_dget (DL.u1 hr.units) (pe_dget (DL.u1 hr.units) (pv 3) (pv 13) (fun _ _ => rfl)) pe_str (fun _ _ => rfl)) (pa_cons (pe_bltn (v := .ty "int") (u := .type "int") (by rfl) z_int (by decide +kernel) rfl) pa_nil)))) (pw_and1 (pt_cmpR (DL.kNeD (K := K) hr.units) (pe_dget (DL.u1 hr.units) (pv 12) (pv 13) (fun _ _ => rfl)) (pe_dget (DL.u1 hr.units) (pv 7) (pv 13) (fun _ _ => rfl)) (nomark _))))))
     (pss_cons (ps_ret pe_bl)
     pss_nil)
     pss_nil)
     pss_nil)))
     (pss_cons (ps_ret pe_bl)
     pss_nil)))))))))))))), ?_⟩)
  refine run_spD h fun N ds d hR hq => ?_
  obtain ⟨ns, hl, rfl, rfl⟩ := hR
  walk_at "env"
  walk_at "set"
  walk_at "nf"
  have hn0 := source_nn (ns.getD 0 0)
  generalize source (ns.getD 0 0) = n at *
  have m1 : n % 20 < 20 := Int.emod_lt_of_pos _ (by decide)
  have m2 : 0 ≤ n % 20 := Int.emod_nonneg _ (by decide)
  refine gs_asgGN (egn_makeN (f := fun i => i) (x := ()) (ds := [.i (.int 100), .i (.int 100)]) (os2 := []) (G := shapeP C_Page C_History) (EvAS.asG (eas_cons (show EvX false _ _ _ _ _ from ex_int) (eas_cons (show EvX false _ _ _ _ _ from ex_int) eas_nil))) rfl (by decide) (by intro s hs; simp at hs; rw [hs]; exact True.intro) (segPgN C_Page C_History) ⟨_, 100, 100, by decide, by decide, by decide, by decide, rfl, rfl⟩) ?_
  rintro k os' ⟨rfl, y, ⟨w, h, _, _, _, _, e1, rfl⟩, rfl⟩
  cases e1
  refine gs_is (env' := [some (.i (dI ns)), some (.i (.int n)), some (.r 0), none, none, none, none, none, none, none, none, none, none, none]) (os' := shapeP C_Page C_History (pgN 100 100)) rfl rfl ?_
  refine' gs_asgG (eg_dispG (os := shapeP C_Page C_History (pgN 100 100)) (fun _ => epg_f (kk := .inl 1) (o := .dK (eS (plainS (1 + n % 20)))) ex_int (ef_callI (ek := ekS) (ev := evS) (ea_cons (ex_i2 ex_int (ex_i2c (ex_int1 rfl (ex_var rfl)) ex_int ?a1)) ea_nil) R__law_plain_style_i) fun _ => epg_nil) rfl (show ([.inl 1] : List Key).Nodup by decide) (Nat.le_of_ble_eq_true rfl)) ?_
  case a1 => walk_at "cc"
  have s1 : 1 ≤ 1 + n % 20 := by omega
  have s2 : 1 + n % 20 ≤ 20 := by omega
  generalize 1 + n % 20 = s at *
  refine gs_is (env' := [some (.i (dI ns)), some (.i (.int n)), some (.r 0), some (.r 5), none, none, none, none, none, none, none, none, none, none]) (os' := shapeP C_Page C_History (pgN 100 100) ++ [.dK [(.inl 1, .r 6)], .dK (eS (plainS s))]) rfl rfl ?_
  refine gs_ownDK (k := 5) (j := 6) (i0 := 0) (kk := .inl 1) (m := kS (plainS s)) rfl (by rw [← eS_kS]; rfl) rfl (by decide) ?_
  have hti := ti_start (plain_n s) (plain_size s) s1 s2
  generalize plainS s = m0 at *
  refine gs_is (os' := shapePT C_Page C_History ⟨pgN 100 100, [(1, m0)]⟩ ++ [.x]) rfl (by rw [dK0_kS]; rfl) ?_
  refine gs_weak (env' := [some (.i (dI ns)), some (.i (.int n)), some (.r 0), some (.r 5), none, none, none, none, none, none, none, none, none, none]) (os' := shapePT C_Page C_History ⟨pgN 100 100, [(1, m0)]⟩) (by simp [WkE]) wkO_end (by simp [EnLt, SvLt, shapePT, shapeP]) (shapePT_ok _ _ _).lt (Nat.zero_le _) ?_
  refine gs_asgNT (en_call (ds := [.i (dI ns), .i (.int ((1 : Nat) : Int)), .r 0, .r 5]) (x := ⟨pgN 100 100, [(1, m0)]⟩) (segAt_self (shapePT_ok C_Page C_History)) (by intro s hs; simp at hs; rcases hs with rfl | rfl | rfl | rfl; exact True.intro; exact True.intro; exact Nat.succ_pos _; exact Nat.lt_succ_self 5) (eas_cons (show EvX false _ _ _ _ _ from ex_var rfl) (eas_cons (show EvX false _ _ _ _ (.int 1) from ex_int) (eas_cons (show EvR _ _ _ _ _ from er_var rfl (by simp [shapePT, shapeP])) (eas_cons (show EvR _ _ _ _ _ from er_var rfl (by simp [shapePT, shapeP])) eas_nil)))) ⟨_, _, ns, 1, rfl, hl, by decide, hti, rfl, rfl⟩) ?_
  rintro os' d ⟨x', ⟨ns2, f2, e2, _, _, _, rfl, rfl⟩, rfl⟩
  obtain ⟨rfl, rfl⟩ := tree_inj e2
  clear e2
  have hS : treeOf ⟨pgN 100 100, [(1, m0)]⟩ ns2 1 = runT (S0 ⟨pgN 100 100, [(1, m0)]⟩) (numsOf ns2 1) := rfl
  have hnl := numsOf_len (f := 1) hl
  have hT : TI (treeOf ⟨pgN 100 100, [(1, m0)]⟩ ns2 1) := runT_ok _ hti (by have : (S0 ⟨pgN 100 100, [(1, m0)]⟩).ks.length = 1 := rfl; omega)
  have hkl : (treeOf ⟨pgN 100 100, [(1, m0)]⟩ ns2 1).ks.length = 1 + (numsOf ns2 1).length := by rw [hS, runT_len]; rfl
  generalize treeOf ⟨pgN 100 100, [(1, m0)]⟩ ns2 1 = S at *
  clear hS hti
  refine ⟨_, _, tg_tup (ds := [frD ekI evB S.ks, kidsD S.bx, textsD S.tx]) (tgs_cons tg_name (tgs_cons tg_name (tgs_cons tg_name tgs_nil))) rfl, ?_⟩
  have hPg := hT.pg
  have hSt := hT.sty
  have hKs : KsOk S.p S.ks := hT.has
  have hnd := hT.ndk
  have hkl2 : S.ks.length ≤ 72 := by omega
  have hndb := hT.ndb
  have hbpos := hT.bpos
  have hbxl := hT.bxl
  refine gs_weak (env' := [none, some (.i (.int n)), some (.r 0), some (.r 5), some (.i (frD ekI evB S.ks)), some (.i (kidsD S.bx)), none, none, none, none, none, none, none, none]) (os' := shapePT C_Page C_History ⟨S.p, S.st⟩) (by simp [WkE]) (WkO.refl _) (by simp [EnLt, SvLt, shapePT, shapeP]) (shapePT_ok _ _ _).lt (Nat.zero_le _) ?_
  have dpg : ∀ (p : Pg) (st : St), DatO (shapePT C_Page C_History ⟨p, st⟩) (.r 0) (pgD C_Page C_History p) := fun p st => pg_dat (m := 1) (k := 3) (cl := 2) (dn := 4) rfl rfl rfl rfl rfl
  have dst : ∀ (p : Pg) (st : St), DatO (shapePT C_Page C_History ⟨p, st⟩) (.r 5) (dSt st) := fun p st => dat_st rfl
  have lpt : ∀ (p : Pg) (st : St), (shapePT C_Page C_History ⟨p, st⟩).length = 6 := fun p st => rfl
  refine gs_asg (d := frD ekI dII (mea S.p S.st S.ks)) (EvX.strongZ (noList_dII _) (ex_call (ea_cons (ex_dat (er_var rfl (by rw [lpt]; decide)) (dpg _ _)) (ea_cons (ex_dat (er_var rfl (by rw [lpt]; decide)) (dst _ _)) (ea_cons (ex_var rfl) ea_nil))) (R__law_measures_i hPg hSt hKs hnd (by omega)))) ?_
  walk_at "nf"
  refine gs_if (b := false) (EvT.is (et_not (et_B (ex_call (ea_cons (ex_var rfl) (ea_cons (ex_var rfl) (ea_cons (ex_dat (er_var rfl (by rw [lpt]; decide)) (dst _ _)) ea_nil))) (R__law_are_measures_i (mea_nodup hnd) (mea_fs hSt hKs hnd))))) rfl) (fun z => nomatch z) fun _ => g_nextU ?_
  refine' gs_asg (d := .list ((bIds S.bx).map PyData.int)) (EvF.ev (EvF.is (ef_lc (xs := S.ks) (e := fun q => .i (.int q.1)) (fun q => q.2) (fun q => .int q.1) (ew_keysFr (ex_var rfl)) rfl (fun i q hq => itD_map (f := fun p : Int × Bool => kdat (ekI p.1)) i q hq) (fun _ => True.intro) (by omega) (fun fr lo up acc q hq => ⟨_, _, ?b1, tg_name, ?b2, fun _ => ?b3⟩)) ?b4)) ?_
  case b1 => walk_at "js"
  case b2 =>
    walk_at "we"
    refine EvT.is (et_test (ex_eqS (ex_dgetFr (ek := ekI) (ev := evB) (a := q.1) (b := q.2) ekI_inj (ex_var rfl) (ex_var rfl) (getA_nodup hnd hq)) ex_str)) ?b5
    case b5 => show (kdS q.2 == "box") = q.2; cases q.2 <;> decide +kernel
  case b3 =>
    walk_at "we"
    exact ex_var rfl
  case b4 =>
    have e3 : bIds S.bx = (S.ks.filter fun q => q.2).map fun q => q.1 := hT.bids
    rw [e3, List.map_map (f := fun q : Int × Bool => q.1) (g := PyData.int)]
    rfl
  walk_at "nf"
  have hidl : (bIds S.bx).length = S.bx.length := List.length_map _
  obtain ⟨jx, hjx⟩ : ∃ jx : Nat, jx = (n / 20 % (S.bx.length : Int)).toNat := ⟨_, rfl⟩
  have hjl : jx < S.bx.length := by
    have := Int.emod_nonneg (n / 20) (show (S.bx.length : Int) ≠ 0 by omega)
    have := Int.emod_lt_of_pos (n / 20) (show 0 < (S.bx.length : Int) by omega)
    omega
  have hji : n / 20 % (S.bx.length : Int) = (jx : Int) := by
    have := Int.emod_nonneg (n / 20) (show (S.bx.length : Int) ≠ 0 by omega)
    omega
  obtain ⟨b, hb⟩ : ∃ b, S.bx[jx]? = some b := ⟨S.bx[jx], List.getElem?_eq_getElem hjl⟩
  have hbm : b ∈ S.bx := List.mem_of_getElem? hb
  refine' gs_asg (d := .int b.1) (ex_ixLD (ex_var rfl) (EvX.is (ex_i2c (ex_int1 rfl (ex_i2c (ex_var rfl) ex_int ?c1)) (ex_lenK (EvX.it (ex_var rfl))) ?c2) ?c3) (atI_nat (j := jx) ?c4)) ?_
  case c1 => walk_at "cc"
  case c2 => show 0 < (((((bIds S.bx).map PyData.int).map SV.i).length : Nat) : Int); rw [List.length_map, List.length_map, hidl]; omega
  case c3 => show PyData.int (n / 20 % ((((bIds S.bx).map PyData.int).map SV.i).length : Int)) = _; rw [List.length_map, List.length_map, hidl, hji]
  case c4 => unfold bIds; rw [List.getElem?_map, List.getElem?_map, hb]; rfl
  walk_at "nf"
  obtain ⟨mb, sz, hmb, hsz, z1, z2⟩ := hT.szAt hbm
  refine gs_asg (d := .int sz) (ex_dgetD (ek := ekS) (ev := evS) (a := "size") ekS_inj (ex_dget (k := 5) (kk := .inl b.1) (er_var rfl (by rw [lpt]; decide)) rfl (ex_var rfl) (st_get hmb)) ex_str hsz) ?_
  refine gs_weak (env' := [none, some (.i (.int n)), some (.r 0), some (.r 5), some (.i (frD ekI evB S.ks)), some (.i (kidsD S.bx)), none, some (.i (frD ekI dII (mea S.p S.st S.ks))), none, some (.i (.int b.1)), some (.i (.int sz)), none, none, none]) (os' := shapePT C_Page C_History ⟨S.p, S.st⟩) (by simp [WkE]) (WkO.refl _) (by simp [EnLt, SvLt, shapePT, shapeP]) (shapePT_ok _ _ _).lt (Nat.zero_le _) ?_
  obtain ⟨r0, hr0⟩ : ∃ r0, r0 = if n / 7 % 3 = 0 then txR b.1 (strOf (n / 21)) else bxR b.1 NWt (mkR []) := ⟨_, rfl⟩
  obtain ⟨t0, ht0⟩ : ∃ t0, t0 = if n / 7 % 3 = 0 then textS sz else boxOf (n / 21) sz := ⟨_, rfl⟩
  have hr1 : r0.par = b.1 := by rw [hr0]; split <;> rfl
  have hr2 : r0.kids = [] := by rw [hr0]; split <;> rfl
  have hr3 : noList r0.d = true := by rw [hr0, mkR_nil]; split <;> rfl
  have htl := strOf_len (n / 21)
  have hno : NOk r0 t0 := by
    rw [hr0, ht0]
    split
    · exact Or.inl ⟨rfl, strOf (n / 21), sz, rfl, by omega, rfl, z1, z2⟩
    · exact Or.inr ⟨rfl, boxOf_n _ _, _, boxOf_size _ _, z1, z2⟩
  obtain ⟨rp, hrk, hins⟩ := hT.insAt (by omega) hbm hr1 hr2 hr3
  have hG := ins_grow (st := S.st) (sty := t0) hins
  have hS2 := ins_sty hins hSt hno hT.freshS
  have hP2 := hins.pg
  have hfreshS := hT.freshS
  have hlen2 : S.st.length ≤ 72 := by rw [hT.stl]; omega
  have hkg : ∀ {c : Cn} {wb : Bool} {os : List SO} {e : Sy}, e[5]? = some (some (.i (kidsD S.bx))) → e[9]? = some (some (.i (.int b.1))) → EvX wb c e os (tCB (rLenK c.K) (tCons (tDGet (tVar 5) (tVar 9)) tNil)) (.int ((rp.kids.length : Nat) : Int)) := fun h1 h2 => EvX.is (ex_lenK (EvX.it (ex_dgetD (ek := fun k : Key => k) (ev := fun d : PyData => d) (a := ekI b.1) (fun _ _ h => h) (ex_var h1) (ex_var h2) (kids_get hndb hbm)))) (by rw [List.length_map, List.length_map, hrk])
  generalize hp2 : insP S.p rp.kids.length r0 = p2 at *
  generalize hst2 : S.st ++ [(S.p.last + 1, t0)] = st2 at *
  refine' gs_ifJ [none, none, some (.r 0), some (.r 5), some (.i (frD ekI evB S.ks)), none, none, some (.i (frD ekI dII (mea S.p S.st S.ks))), none, none, none, none, none, none] (shapePT C_Page C_History ⟨p2, st2⟩) (b := decide (n / 7 % 3 = 0)) (et_test (ex_eqI (ex_i2c (ex_int1 rfl (ex_i2c (ex_var rfl) ex_int ?d1)) ex_int ?d2) ex_int)) ?d3 (fun hc hk => ?d4) (fun hc hk => ?d5)
  case d1 => walk_at "cc"
  case d2 => walk_at "cc"
  case d4 =>
    have hc : n / 7 % 3 = 0 := of_decide_eq_true hc
    rw [if_pos hc] at hr0 ht0
    subst hr0 ht0
    refine' gs_asgN (en_meth (k := 0) (ds := [.i (.int b.1), .i (.int ((rp.kids.length : Nat) : Int)), .i (dT (strOf (n / 21)))]) (x := S.p) (segAt_post [.dK (stO S.st)] (shapeP_ok C_Page C_History)) (er_var rfl (by simp [shapeP])) rfl rfl (by decide) (by intro s hs; simp at hs; rcases hs with rfl | rfl | rfl <;> exact True.intro) (eas_cons (show EvX false _ _ _ _ _ from ex_var rfl) (eas_cons (show EvX false _ _ _ _ _ from hkg rfl rfl) (eas_cons (show EvX false _ _ _ _ _ from ex_call (ea_cons (ex_i2c (ex_var rfl) ex_int ?d6) ea_nil) R__law_string_i) eas_nil))) ⟨_, _, b.1, rp.kids.length, strOf (n / 21), rfl, ⟨_, hins⟩, strOf_ok _, by omega, rfl, rfl⟩) ?_
    case d6 => walk_at "cc"
    rintro _ _ ⟨_, ⟨n2, i2, l2, e3, _, _, _, rfl, rfl⟩, rfl⟩
    obtain ⟨rfl, rfl, rfl⟩ := tx_inj e3
    rw [hp2]
    refine gs_is (env' := [none, some (.i (.int n)), some (.r 0), some (.r 5), some (.i (frD ekI evB S.ks)), some (.i (kidsD S.bx)), none, some (.i (frD ekI dII (mea S.p S.st S.ks))), none, some (.i (.int b.1)), some (.i (.int sz)), some (.i (.int (S.p.last + 1))), none, none]) (os' := shapePT C_Page C_History ⟨p2, S.st⟩) rfl rfl ?_
    refine gs_dputF (k := 5) (kk := .inl (S.p.last + 1)) (o := .dK (eS (textS sz))) (ef_callI (ek := ekS) (ev := evS) (ea_cons (ex_var rfl) ea_nil) R__law_text_style_i) (er_var rfl (by rw [lpt]; decide)) rfl (ex_var rfl) (by rw [List.length_map]; exact Nat.lt_of_le_of_lt hlen2 (by decide)) ?_
    refine gs_is (os' := shapeP C_Page C_History p2 ++ [.dK (stO S.st ++ [(.inl (S.p.last + 1), .r 6)]), .dK (eS (textS sz))]) rfl (by rw [stO_new hfreshS]; rfl) ?_
    refine gs_ownDK (k := 5) (j := 6) (i0 := S.st.length) (kk := .inl (S.p.last + 1)) (m := kS (textS sz)) rfl (by rw [← eS_kS]; rfl) (get_last (List.length_map _)) (by decide) ?_
    refine gs_is (os' := shapePT C_Page C_History ⟨p2, st2⟩ ++ [.x]) rfl (by rw [set_last (List.length_map _), dK0_kS, ← hst2]; unfold shapePT; rw [stO_app]; rfl) ?_
    exact g_nextU (gs_weak (by simp [WkE]) wkO_end (by simp [EnLt, SvLt, shapePT, shapeP]) (shapePT_ok _ _ _).lt (Nat.zero_le _) hk)
  case d5 =>
    have hc : ¬ n / 7 % 3 = 0 := of_decide_eq_false hc
    rw [if_neg hc] at hr0 ht0
    subst hr0 ht0
    refine gs_asgN (en_methQ (k := 0) (ds := [.i (.int b.1), .i (.int ((rp.kids.length : Nat) : Int)), .i (dT NWt)]) (es := []) (dd := [.tuple []]) (x := S.p) (segAt_post [.dK (stO S.st)] (shapeP_ok C_Page C_History)) (er_var rfl (by simp [shapeP])) rfl rfl (by decide) (by intro s hs; simp at hs; rcases hs with rfl | rfl | rfl <;> exact True.intro) (eas_cons (show EvX false _ _ _ _ _ from ex_var rfl) (eas_cons (show EvX false _ _ _ _ _ from hkg rfl rfl) (eas_cons (show EvX false _ _ _ _ _ from ex_txt (l := NWt) (by decide +kernel)) eas_nil))) eas_nil (fun N H => .cons (ke_Page_insert_box_marks N H) .nil) rfl rfl ⟨_, _, b.1, rp.kids.length, NWt, [], rfl, ⟨_, hins⟩, isW_new, (fun _ h => absurd h List.not_mem_nil), by decide, ?d7, rfl, rfl⟩) ?_
    case d7 => rw [show sortT [] = [] from List.Perm.eq_nil (sortT_perm [])]; decide
    rintro _ _ ⟨_, ⟨n2, i2, l2, ms2, e3, _, _, _, _, _, rfl, rfl⟩, rfl⟩
    obtain ⟨rfl, rfl, rfl, rfl⟩ := bx_inj e3
    rw [hp2]
    refine gs_is (env' := [none, some (.i (.int n)), some (.r 0), some (.r 5), some (.i (frD ekI evB S.ks)), some (.i (kidsD S.bx)), none, some (.i (frD ekI dII (mea S.p S.st S.ks))), none, some (.i (.int b.1)), some (.i (.int sz)), some (.i (.int (S.p.last + 1))), none, none]) (os' := shapePT C_Page C_History ⟨p2, S.st⟩) rfl rfl ?_
    refine' gs_dputF (k := 5) (kk := .inl (S.p.last + 1)) (o := .dK (eS (boxOf (n / 21) sz))) (ef_callI (ek := ekS) (ev := evS) (ea_cons (ex_i2c (ex_var rfl) ex_int ?d8) (ea_cons (ex_var rfl) ea_nil)) R__law_box_style_i) (er_var rfl (by rw [lpt]; decide)) rfl (ex_var rfl) (by rw [List.length_map]; exact Nat.lt_of_le_of_lt hlen2 (by decide)) ?_
    case d8 => walk_at "cc"
    refine gs_is (os' := shapeP C_Page C_History p2 ++ [.dK (stO S.st ++ [(.inl (S.p.last + 1), .r 6)]), .dK (eS (boxOf (n / 21) sz))]) rfl (by rw [stO_new hfreshS]; rfl) ?_
    refine gs_ownDK (k := 5) (j := 6) (i0 := S.st.length) (kk := .inl (S.p.last + 1)) (m := kS (boxOf (n / 21) sz)) rfl (by rw [← eS_kS]; rfl) (get_last (List.length_map _)) (by decide) ?_
    refine gs_is (os' := shapePT C_Page C_History ⟨p2, st2⟩ ++ [.x]) rfl (by rw [set_last (List.length_map _), dK0_kS, ← hst2]; unfold shapePT; rw [stO_app]; rfl) ?_
    exact g_nextU (gs_weak (by simp [WkE]) wkO_end (by simp [EnLt, SvLt, shapePT, shapeP]) (shapePT_ok _ _ _).lt (Nat.zero_le _) hk)
  case d3 =>
  have hK2 : KsOk p2 S.ks := fun q hq => by
    obtain ⟨r, h1, h2⟩ := hKs q hq
    obtain ⟨r', h3, h4, _⟩ := hG.node h1
    exact ⟨r', h3, h4.trans h2⟩
  refine gs_asg (d := frD ekI dII (mea p2 st2 S.ks)) (EvX.strongZ (noList_dII _) (ex_call (ea_cons (ex_dat (er_var rfl (by rw [lpt]; decide)) (dpg _ _)) (ea_cons (ex_dat (er_var rfl (by rw [lpt]; decide)) (dst _ _)) (ea_cons (ex_var rfl) ea_nil))) (R__law_measures_i hP2 hS2 hK2 hnd (by omega)))) ?_
  walk_at "nf"
  refine gs_if (b := false) (EvT.is (et_not (et_B (ex_call (ea_cons (ex_var rfl) (ea_cons (ex_var rfl) (ea_cons (ex_dat (er_var rfl (by rw [lpt]; decide)) (dst _ _)) ea_nil))) (R__law_are_measures_i (mea_nodup hnd) (mea_fs hS2 hK2 hnd))))) rfl) (fun z => nomatch z) fun _ => g_nextU ?_
  have hndm := mea_nodup (p := S.p) (st := S.st) hnd
  refine gs_forL (xs := mea S.p S.st S.ks) (e := fun q => .i (.int q.1)) (fun _ => [none, none, some (.r 0), some (.r 5), some (.i (frD ekI evB S.ks)), none, none, some (.i (frD ekI dII (mea S.p S.st S.ks))), none, none, none, none, some (.i (frD ekI dII (mea p2 st2 S.ks))), none]) (fun _ => shapePT C_Page C_History ⟨p2, st2⟩) (ew_keysFr (ex_var rfl)) rfl (fun i q hq => itD_map (f := fun p : Int × Int × Int => kdat (ekI p.1)) i q hq) (fun c' _ ad σ H ok => ok) (fun _ _ _ => True.intro) (fun fr up pre q post hx => ⟨_, _, tg_name, ?f1⟩) (gs_ret ex_bl hq)
  case f1 =>
  walk_at "nf"
  have hqm : q ∈ mea S.p S.st S.ks := by rw [hx]; simp
  obtain ⟨bq, k1, k2, k3⟩ := mea_mem hqm
  obtain ⟨rq, k4, k5⟩ := hKs _ k1
  have k5 : rq.box = bq := k5
  have hqN := hG.old _ _ k4
  obtain ⟨mq, hmq, hoq⟩ := hSt _ _ k4
  have hmq2 : getA st2 q.1 = some mq := by rw [hG.sty _ hqN]; exact hmq
  have k6 : inM st2 (q.1, bq) = true := by
    unfold inM at k2 ⊢
    rw [show stOf st2 (q.1, bq).1 = stOf S.st (q.1, bq).1 by unfold stOf; rw [hG.sty _ hqN]]
    exact k2
  have hg1 : getA (mea S.p S.st S.ks) q.1 = some (msr S.p S.st 31 q.1) := mea_get hnd k1 k2
  have hg2 : getA (mea p2 st2 S.ks) q.1 = some (msr p2 st2 31 q.1) := mea_get hnd k1 k6
  obtain ⟨l1, l2⟩ := msr_grow hG hSt hS2 31 q.1 rq k4
  have hwide : bq = true → ∀ w, getA mq "width" = some (.int w) → msr p2 st2 31 q.1 = msr S.p S.st 31 q.1 := fun hb w hw => msr_wide hG k4 (k5.trans hb) hmq hw 30
  generalize msr S.p S.st 31 q.1 = A at *
  generalize msr p2 st2 31 q.1 = B at *
  refine gs_if (b := false) (EvT.is (et_or (et_test (ex_b2 (ex_ixT (ds := [.int B.1, .int B.2]) (ex_dgetFr (ek := ekI) (ev := dII) (a := q.1) (b := B) ekI_inj (ex_var rfl) (ex_var rfl) hg2) ex_int (atI_nat (j := 0) rfl)) (ex_ixT (ds := [.int A.1, .int A.2]) (ex_dgetFr (ek := ekI) (ev := dII) (a := q.1) (b := A) ekI_inj (ex_var rfl) (ex_var rfl) hg1) ex_int (atI_nat (j := 0) rfl)))) (fun _ => et_test (ex_b2 (ex_ixT (ds := [.int B.1, .int B.2]) (ex_dgetFr (ek := ekI) (ev := dII) (a := q.1) (b := B) ekI_inj (ex_var rfl) (ex_var rfl) hg2) ex_int (atI_nat (j := 1) rfl)) (ex_ixT (ds := [.int A.1, .int A.2]) (ex_dgetFr (ek := ekI) (ev := dII) (a := q.1) (b := A) ekI_inj (ex_var rfl) (ex_var rfl) hg1) ex_int (atI_nat (j := 1) rfl))))) (by simp; omega)) (fun z => nomatch z) fun _ => g_nextU ?_
  refine gs_if (b := false) ?f2 (fun z => nomatch z) fun _ => g_nextU ?f3
  case f3 =>
    refine g_next ?_
    intro ad σ H ok
    exact (show OkE _ _ _ _ _ from ⟨ad, ok.weak (by simp [WkE]) (WkO.refl _) (by simp [EnLt, SvLt, shapePT, shapeP]) (shapePT_ok _ _ _).lt (Nat.le_refl _)⟩)
  case f2 =>
  have hbx : (kdS bq == ("box" : Str)) = bq := by cases bq <;> decide +kernel
  have tk := fun (c : Cn) (wb : Bool) (hc : c.K = K) => (ex_dgetFr (w := wb) (c := c) (env := [none, none, some (.r 0), some (.r 5), some (.i (frD ekI evB S.ks)), none, none, some (.i (frD ekI dII (mea S.p S.st S.ks))), none, none, none, none, some (.i (frD ekI dII (mea p2 st2 S.ks))), some (.i (.int q.1))]) (os := shapePT C_Page C_History ⟨p2, st2⟩) (td := tVar 4) (ty := tVar 13) (ek := ekI) (ev := evB) (a := q.1) (b := bq) ekI_inj (ex_var rfl) (ex_var rfl) (getA_nodup hnd k1))
  cases hbq : bq with
  | false => exact EvT.is (et_and (a := false) (b := false) (EvT.is (et_test (ex_eqS (tk _ _ rfl) ex_str)) (by rw [hbx, hbq])) (fun z => nomatch z)) rfl
  | true =>
    rcases hoq with ⟨z, _⟩ | ⟨_, ho, _⟩
    · rw [k5, hbq] at z; cases z
    · have tw := fun (c : Cn) (dw : PyData) (hdw : getA mq "width" = some dw) => (ex_dgetD (w := true) (c := c) (env := [none, none, some (.r 0), some (.r 5), some (.i (frD ekI evB S.ks)), none, none, some (.i (frD ekI dII (mea S.p S.st S.ks))), none, none, none, none, some (.i (frD ekI dII (mea p2 st2 S.ks))), some (.i (.int q.1))]) (os := shapePT C_Page C_History ⟨p2, st2⟩) (td := tDGet (tVar 3) (tVar 13)) (ty := tC (.str "width")) (ek := ekS) (ev := evS) (a := "width") (b := dw) ekS_inj (ex_dget (k := 5) (kk := .inl q.1) (er_var rfl (by rw [lpt]; decide)) rfl (ex_var rfl) (st_get hmq2)) ex_str hdw)
      obtain ⟨dw, bw, hdw, hkit, hAB⟩ : ∃ dw bw, getA mq "width" = some dw ∧ kitD (tyN dw) "int" = some bw ∧ (bw = true → A = B) := by
        rcases ho.ok.wi with ⟨w, hw⟩ | ⟨y, hw⟩ | ⟨l, hw⟩
        · exact ⟨_, true, hw, kit_int_int, fun _ => (hwide hbq w hw).symm⟩
        · exact ⟨_, false, hw, kit_str_int, fun z => nomatch z⟩
        · exact ⟨_, false, hw, kit_tuple_int, fun z => nomatch z⟩
      exact EvT.is (et_and (a := true) (b := false) (EvT.is (et_test (ex_eqS (tk _ _ rfl) ex_str)) (by rw [hbx, hbq])) (fun _ => EvT.is (et_and (a := bw) (b := !decide (bw = true)) (et_B (ex_isi (tw _ dw hdw) hkit)) (fun hbw => EvT.is (et_test (ex_neD (ex_dgetFr (ek := ekI) (ev := dII) (a := q.1) (b := B) ekI_inj (ex_var rfl) (ex_var rfl) hg2) (ex_dgetFr (ek := ekI) (ev := dII) (a := q.1) (b := A) ekI_inj (ex_var rfl) (ex_var rfl) hg1) (shaped_dII B) (shaped_dII A))) (by rw [hAB hbw, eqv_self (shaped_dII B), hbw]; rfl))) (by cases bw <;> rfl))) rfl
-- END law
theorem facts {P : Program} (w : World) (mg : Str → Option Value) (K : PySem.W.Frag) (h : Heap) (KX : K.In h) (G : h.Ns mainGlobals mg) (c : He.SaysX fa fn ts [] ex w h K) : mg "law" = some (.ref (He.ga K "law")) ∧ ∃ fd, FnP K "law" s_law (He.ga K "law") fd ∧
    ∀ base : Heap, K.In base → base.Ns mainGlobals mg → FnOk P w K mg base CX0 168 (He.ga K "law") fd ["script"] (spD K RLaw) := by
  have cd := c.t.d
  have q_History : mg "History" = some (.ref (He.ga K "History")) := He.glo_ok KX G (cd.fact 96 (f := .glo "History") rfl)
  have kC_History : Cls K (He.ga K "History") := He.cls_ok (cd.fact 97 (f := .cls "History") rfl)
  have n_History_cells : NoAttr K (He.ga K "History") "cells" := He.noat_ok (cd.fact 98 (f := .noat "History" "cells") rfl)
  have n_History__done : NoAttr K (He.ga K "History") "_done" := He.noat_ok (cd.fact 99 (f := .noat "History" "_done") rfl)
  have n_History__undone : NoAttr K (He.ga K "History") "_undone" := He.noat_ok (cd.fact 100 (f := .noat "History" "_undone") rfl)
  have q_Measures : mg "Measures" = some (.ref (He.ga K "Measures")) := He.glo_ok KX G (cd.fact 101 (f := .glo "Measures") rfl)
  have kC_Measures : Cls K (He.ga K "Measures") := He.cls_ok (cd.fact 102 (f := .cls "Measures") rfl)
  have n_Measures__page : NoAttr K (He.ga K "Measures") "_page" := He.noat_ok (cd.fact 103 (f := .noat "Measures" "_page") rfl)
  have n_Measures__styles : NoAttr K (He.ga K "Measures") "_styles" := He.noat_ok (cd.fact 104 (f := .noat "Measures" "_styles") rfl)
  have n_Measures_known : NoAttr K (He.ga K "Measures") "known" := He.noat_ok (cd.fact 105 (f := .noat "Measures" "known") rfl)
  have q_Page : mg "Page" = some (.ref (He.ga K "Page")) := He.glo_ok KX G (cd.fact 106 (f := .glo "Page") rfl)
  have kC_Page : Cls K (He.ga K "Page") := He.cls_ok (cd.fact 107 (f := .cls "Page") rfl)
  have n_Page_width : NoAttr K (He.ga K "Page") "width" := He.noat_ok (cd.fact 108 (f := .noat "Page" "width") rfl)
  have n_Page_height : NoAttr K (He.ga K "Page") "height" := He.noat_ok (cd.fact 109 (f := .noat "Page" "height") rfl)
  have n_Page__last_id : NoAttr K (He.ga K "Page") "_last_id" := He.noat_ok (cd.fact 110 (f := .noat "Page" "_last_id") rfl)
  have n_Page__moment : NoAttr K (He.ga K "Page") "_moment" := He.noat_ok (cd.fact 111 (f := .noat "Page" "_moment") rfl)
  have n_Page__marked : NoAttr K (He.ga K "Page") "_marked" := He.noat_ok (cd.fact 112 (f := .noat "Page" "_marked") rfl)
  have n_Page__history : NoAttr K (He.ga K "Page") "_history" := He.noat_ok (cd.fact 113 (f := .noat "Page" "_history") rfl)
  have q_advance : mg "advance" = some (.ref (He.ga K "advance")) := He.glo_ok KX G (cd.fact 0 (f := .glo "advance") rfl)
  obtain ⟨d_advance, e_advance⟩ := cd.def_ 0 (d := dD "advance" s_advance) rfl
  have F_advance : FnP K "advance" s_advance (He.ga K "advance") d_advance := e_advance
  have q_offsets : mg "offsets" = some (.ref (He.ga K "offsets")) := He.glo_ok KX G (cd.fact 1 (f := .glo "offsets") rfl)
  obtain ⟨d_offsets, e_offsets⟩ := cd.def_ 1 (d := dD "offsets" s_offsets) rfl
  have F_offsets : FnP K "offsets" s_offsets (He.ga K "offsets") d_offsets := e_offsets
  have q_paragraphs : mg "paragraphs" = some (.ref (He.ga K "paragraphs")) := He.glo_ok KX G (cd.fact 2 (f := .glo "paragraphs") rfl)
  obtain ⟨d_paragraphs, e_paragraphs⟩ := cd.def_ 2 (d := dD "paragraphs" s_paragraphs) rfl
  have F_paragraphs : FnP K "paragraphs" s_paragraphs (He.ga K "paragraphs") d_paragraphs := e_paragraphs
  have q_words : mg "words" = some (.ref (He.ga K "words")) := He.glo_ok KX G (cd.fact 3 (f := .glo "words") rfl)
  obtain ⟨d_words, e_words⟩ := cd.def_ 3 (d := dD "words" s_words) rfl
  have F_words : FnP K "words" s_words (He.ga K "words") d_words := e_words
  have q_frame : mg "frame" = some (.ref (He.ga K "frame")) := He.glo_ok KX G (cd.fact 4 (f := .glo "frame") rfl)
  obtain ⟨d_frame, e_frame⟩ := cd.def_ 4 (d := dD "frame" s_frame) rfl
  have F_frame : FnP K "frame" s_frame (He.ga K "frame") d_frame := e_frame
  have q_side_margins : mg "side_margins" = some (.ref (He.ga K "side_margins")) := He.glo_ok KX G (cd.fact 5 (f := .glo "side_margins") rfl)
  obtain ⟨d_side_margins, e_side_margins⟩ := cd.def_ 5 (d := dD "side_margins" s_side_margins) rfl
  have F_side_margins : FnP K "side_margins" s_side_margins (He.ga K "side_margins") d_side_margins := e_side_margins
  have q_bounded : mg "bounded" = some (.ref (He.ga K "bounded")) := He.glo_ok KX G (cd.fact 6 (f := .glo "bounded") rfl)
  obtain ⟨d_bounded, e_bounded⟩ := cd.def_ 6 (d := dD "bounded" s_bounded) rfl
  have F_bounded : FnP K "bounded" s_bounded (He.ga K "bounded") d_bounded := e_bounded
  have q_flow_children : mg "flow_children" = some (.ref (He.ga K "flow_children")) := He.glo_ok KX G (cd.fact 7 (f := .glo "flow_children") rfl)
  obtain ⟨d_flow_children, e_flow_children⟩ := cd.def_ 7 (d := dD "flow_children" s_flow_children) rfl
  have F_flow_children : FnP K "flow_children" s_flow_children (He.ga K "flow_children") d_flow_children := e_flow_children
  have q_narrow : mg "narrow" = some (.ref (He.ga K "narrow")) := He.glo_ok KX G (cd.fact 8 (f := .glo "narrow") rfl)
  obtain ⟨d_narrow, e_narrow⟩ := cd.def_ 8 (d := dD "narrow" s_narrow) rfl
  have F_narrow : FnP K "narrow" s_narrow (He.ga K "narrow") d_narrow := e_narrow
  have q_wide : mg "wide" = some (.ref (He.ga K "wide")) := He.glo_ok KX G (cd.fact 9 (f := .glo "wide") rfl)
  obtain ⟨d_wide, e_wide⟩ := cd.def_ 9 (d := dD "wide" s_wide) rfl
  have F_wide : FnP K "wide" s_wide (He.ga K "wide") d_wide := e_wide
  have q_Measures___init__ : Mk K (He.ga K "Measures") (He.ma K (He.ga K "Measures") "__init__") := He.mkr_ok (cd.fact 10 (f := .mkr "Measures") rfl)
  obtain ⟨d_Measures___init__, e_Measures___init__⟩ := cd.def_ 10 rfl
  have F_Measures___init__ : DL.FnM K "__init__" "Measures.__init__" s_Measures___init__ [] (He.ma K (He.ga K "Measures") "__init__") d_Measures___init__ := e_Measures___init__
  have q_Measures_pair : Meth K (He.ga K "Measures") "pair" (He.ma K (He.ga K "Measures") "pair") := He.meth_ok (cd.fact 11 (f := .meth "Measures" "pair") rfl)
  obtain ⟨d_Measures_pair, e_Measures_pair⟩ := cd.def_ 11 rfl
  have F_Measures_pair : DL.FnM K "pair" "Measures.pair" s_Measures_pair [] (He.ma K (He.ga K "Measures") "pair") d_Measures_pair := e_Measures_pair
  have q_Measures_columns : Meth K (He.ga K "Measures") "columns" (He.ma K (He.ga K "Measures") "columns") := He.meth_ok (cd.fact 12 (f := .meth "Measures" "columns") rfl)
  obtain ⟨d_Measures_columns, e_Measures_columns⟩ := cd.def_ 12 rfl
  have F_Measures_columns : DL.FnM K "columns" "Measures.columns" s_Measures_columns [] (He.ma K (He.ga K "Measures") "columns") d_Measures_columns := e_Measures_columns
  have q_Measures__measured : Meth K (He.ga K "Measures") "_measured" (He.ma K (He.ga K "Measures") "_measured") := He.meth_ok (cd.fact 13 (f := .meth "Measures" "_measured") rfl)
  obtain ⟨d_Measures__measured, e_Measures__measured⟩ := cd.def_ 13 rfl
  have F_Measures__measured : DL.FnM K "_measured" "Measures._measured" s_Measures__measured [] (He.ma K (He.ga K "Measures") "_measured") d_Measures__measured := e_Measures__measured
  have q_Measures__inside : Meth K (He.ga K "Measures") "_inside" (He.ma K (He.ga K "Measures") "_inside") := He.meth_ok (cd.fact 14 (f := .meth "Measures" "_inside") rfl)
  obtain ⟨d_Measures__inside, e_Measures__inside⟩ := cd.def_ 14 rfl
  have F_Measures__inside : DL.FnM K "_inside" "Measures._inside" s_Measures__inside [] (He.ma K (He.ga K "Measures") "_inside") d_Measures__inside := e_Measures__inside
  have q_Measures__outer_pairs : Meth K (He.ga K "Measures") "_outer_pairs" (He.ma K (He.ga K "Measures") "_outer_pairs") := He.meth_ok (cd.fact 15 (f := .meth "Measures" "_outer_pairs") rfl)
  obtain ⟨d_Measures__outer_pairs, e_Measures__outer_pairs⟩ := cd.def_ 15 rfl
  have F_Measures__outer_pairs : DL.FnM K "_outer_pairs" "Measures._outer_pairs" s_Measures__outer_pairs [] (He.ma K (He.ga K "Measures") "_outer_pairs") d_Measures__outer_pairs := e_Measures__outer_pairs
  have q__is_in_flow : mg "_is_in_flow" = some (.ref (He.ga K "_is_in_flow")) := He.glo_ok KX G (cd.fact 16 (f := .glo "_is_in_flow") rfl)
  obtain ⟨d__is_in_flow, e__is_in_flow⟩ := cd.def_ 16 (d := dD "_is_in_flow" s__is_in_flow) rfl
  have F__is_in_flow : FnP K "_is_in_flow" s__is_in_flow (He.ga K "_is_in_flow") d__is_in_flow := e__is_in_flow
  have q__text_pair : mg "_text_pair" = some (.ref (He.ga K "_text_pair")) := He.glo_ok KX G (cd.fact 17 (f := .glo "_text_pair") rfl)
  obtain ⟨d__text_pair, e__text_pair⟩ := cd.def_ 17 (d := dD "_text_pair" s__text_pair) rfl
  have F__text_pair : FnP K "_text_pair" s__text_pair (He.ga K "_text_pair") d__text_pair := e__text_pair
  have q__greatest : mg "_greatest" = some (.ref (He.ga K "_greatest")) := He.glo_ok KX G (cd.fact 18 (f := .glo "_greatest") rfl)
  obtain ⟨d__greatest, e__greatest⟩ := cd.def_ 18 (d := dD "_greatest" s__greatest) rfl
  have F__greatest : FnP K "_greatest" s__greatest (He.ga K "_greatest") d__greatest := e__greatest
  have q__in_a_row : mg "_in_a_row" = some (.ref (He.ga K "_in_a_row")) := He.glo_ok KX G (cd.fact 19 (f := .glo "_in_a_row") rfl)
  obtain ⟨d__in_a_row, e__in_a_row⟩ := cd.def_ 19 (d := dD "_in_a_row" s__in_a_row) rfl
  have F__in_a_row : FnP K "_in_a_row" s__in_a_row (He.ga K "_in_a_row") d__in_a_row := e__in_a_row
  have q_is_number : mg "is_number" = some (.ref (He.ga K "is_number")) := He.glo_ok KX G (cd.fact 20 (f := .glo "is_number") rfl)
  obtain ⟨d_is_number, e_is_number⟩ := cd.def_ 20 (d := dD "is_number" s_is_number) rfl
  have F_is_number : FnP K "is_number" s_is_number (He.ga K "is_number") d_is_number := e_is_number
  have q_is_within : mg "is_within" = some (.ref (He.ga K "is_within")) := He.glo_ok KX G (cd.fact 21 (f := .glo "is_within") rfl)
  obtain ⟨d_is_within, e_is_within⟩ := cd.def_ 21 (d := dD "is_within" s_is_within) rfl
  have F_is_within : FnP K "is_within" s_is_within (He.ga K "is_within") d_is_within := e_is_within
  have q_is_word : mg "is_word" = some (.ref (He.ga K "is_word")) := He.glo_ok KX G (cd.fact 22 (f := .glo "is_word") rfl)
  obtain ⟨d_is_word, e_is_word⟩ := cd.def_ 22 (d := dD "is_word" s_is_word) rfl
  have F_is_word : FnP K "is_word" s_is_word (He.ga K "is_word") d_is_word := e_is_word
  have q_is_string : mg "is_string" = some (.ref (He.ga K "is_string")) := He.glo_ok KX G (cd.fact 23 (f := .glo "is_string") rfl)
  obtain ⟨d_is_string, e_is_string⟩ := cd.def_ 23 (d := dD "is_string" s_is_string) rfl
  have F_is_string : FnP K "is_string" s_is_string (He.ga K "is_string") d_is_string := e_is_string
  have q__is_allowed : mg "_is_allowed" = some (.ref (He.ga K "_is_allowed")) := He.glo_ok KX G (cd.fact 24 (f := .glo "_is_allowed") rfl)
  obtain ⟨d__is_allowed, e__is_allowed⟩ := cd.def_ 24 (d := dD "_is_allowed" s__is_allowed) rfl
  have F__is_allowed : FnP K "_is_allowed" s__is_allowed (He.ga K "_is_allowed") d__is_allowed := e__is_allowed
  have q_check_number : mg "check_number" = some (.ref (He.ga K "check_number")) := He.glo_ok KX G (cd.fact 25 (f := .glo "check_number") rfl)
  obtain ⟨d_check_number, e_check_number⟩ := cd.def_ 25 (d := dD "check_number" s_check_number) rfl
  have F_check_number : FnP K "check_number" s_check_number (He.ga K "check_number") d_check_number := e_check_number
  have q_check_index : mg "check_index" = some (.ref (He.ga K "check_index")) := He.glo_ok KX G (cd.fact 26 (f := .glo "check_index") rfl)
  obtain ⟨d_check_index, e_check_index⟩ := cd.def_ 26 (d := dD "check_index" s_check_index) rfl
  have F_check_index : FnP K "check_index" s_check_index (He.ga K "check_index") d_check_index := e_check_index
  have q_check_word : mg "check_word" = some (.ref (He.ga K "check_word")) := He.glo_ok KX G (cd.fact 27 (f := .glo "check_word") rfl)
  obtain ⟨d_check_word, e_check_word⟩ := cd.def_ 27 (d := dD "check_word" s_check_word) rfl
  have F_check_word : FnP K "check_word" s_check_word (He.ga K "check_word") d_check_word := e_check_word
  have q_check_string : mg "check_string" = some (.ref (He.ga K "check_string")) := He.glo_ok KX G (cd.fact 28 (f := .glo "check_string") rfl)
  obtain ⟨d_check_string, e_check_string⟩ := cd.def_ 28 (d := dD "check_string" s_check_string) rfl
  have F_check_string : FnP K "check_string" s_check_string (He.ga K "check_string") d_check_string := e_check_string
  have q_read_marks : mg "read_marks" = some (.ref (He.ga K "read_marks")) := He.glo_ok KX G (cd.fact 29 (f := .glo "read_marks") rfl)
  obtain ⟨d_read_marks, e_read_marks⟩ := cd.def_ 29 (d := dD "read_marks" s_read_marks) rfl
  have F_read_marks : FnP K "read_marks" s_read_marks (He.ga K "read_marks") d_read_marks := e_read_marks
  have q_History___init__ : Mk K (He.ga K "History") (He.ma K (He.ga K "History") "__init__") := He.mkr_ok (cd.fact 30 (f := .mkr "History") rfl)
  obtain ⟨d_History___init__, e_History___init__⟩ := cd.def_ 30 rfl
  have F_History___init__ : DL.FnM K "__init__" "History.__init__" s_History___init__ [] (He.ma K (He.ga K "History") "__init__") d_History___init__ := e_History___init__
  have q_History_write : Meth K (He.ga K "History") "write" (He.ma K (He.ga K "History") "write") := He.meth_ok (cd.fact 31 (f := .meth "History" "write") rfl)
  obtain ⟨d_History_write, e_History_write⟩ := cd.def_ 31 rfl
  have F_History_write : DL.FnM K "write" "History.write" s_History_write [] (He.ma K (He.ga K "History") "write") d_History_write := e_History_write
  have q_History__put : Meth K (He.ga K "History") "_put" (He.ma K (He.ga K "History") "_put") := He.meth_ok (cd.fact 32 (f := .meth "History" "_put") rfl)
  obtain ⟨d_History__put, e_History__put⟩ := cd.def_ 32 rfl
  have F_History__put : DL.FnM K "_put" "History._put" s_History__put [] (He.ma K (He.ga K "History") "_put") d_History__put := e_History__put
  have q_new_row : mg "new_row" = some (.ref (He.ga K "new_row")) := He.glo_ok KX G (cd.fact 33 (f := .glo "new_row") rfl)
  obtain ⟨d_new_row, e_new_row⟩ := cd.def_ 33 (d := dD "new_row" s_new_row) rfl
  have F_new_row : FnP K "new_row" s_new_row (He.ga K "new_row") d_new_row := e_new_row
  have q_replaced : mg "replaced" = some (.ref (He.ga K "replaced")) := He.glo_ok KX G (cd.fact 34 (f := .glo "replaced") rfl)
  obtain ⟨d_replaced, e_replaced⟩ := cd.def_ 34 (d := dD "replaced" s_replaced) rfl
  have F_replaced : FnP K "replaced" s_replaced (He.ga K "replaced") d_replaced := e_replaced
  have q_with_child : mg "with_child" = some (.ref (He.ga K "with_child")) := He.glo_ok KX G (cd.fact 35 (f := .glo "with_child") rfl)
  obtain ⟨d_with_child, e_with_child⟩ := cd.def_ 35 (d := dD "with_child" s_with_child) rfl
  have F_with_child : FnP K "with_child" s_with_child (He.ga K "with_child") d_with_child := e_with_child
  have q_branch : mg "branch" = some (.ref (He.ga K "branch")) := He.glo_ok KX G (cd.fact 36 (f := .glo "branch") rfl)
  obtain ⟨d_branch, e_branch⟩ := cd.def_ 36 (d := dD "branch" s_branch) rfl
  have F_branch : FnP K "branch" s_branch (He.ga K "branch") d_branch := e_branch
  have q_depth_of : mg "depth_of" = some (.ref (He.ga K "depth_of")) := He.glo_ok KX G (cd.fact 37 (f := .glo "depth_of") rfl)
  obtain ⟨d_depth_of, e_depth_of⟩ := cd.def_ 37 (d := dD "depth_of" s_depth_of) rfl
  have F_depth_of : FnP K "depth_of" s_depth_of (He.ga K "depth_of") d_depth_of := e_depth_of
  have q_Page___init__ : Mk K (He.ga K "Page") (He.ma K (He.ga K "Page") "__init__") := He.mkr_ok (cd.fact 38 (f := .mkr "Page") rfl)
  obtain ⟨d_Page___init__, e_Page___init__⟩ := cd.def_ 38 rfl
  have F_Page___init__ : DL.FnM K "__init__" "Page.__init__" s_Page___init__ [] (He.ma K (He.ga K "Page") "__init__") d_Page___init__ := e_Page___init__
  have q_Page_kind : Meth K (He.ga K "Page") "kind" (He.ma K (He.ga K "Page") "kind") := He.meth_ok (cd.fact 39 (f := .meth "Page" "kind") rfl)
  obtain ⟨d_Page_kind, e_Page_kind⟩ := cd.def_ 39 rfl
  have F_Page_kind : DL.FnM K "kind" "Page.kind" s_Page_kind [] (He.ma K (He.ga K "Page") "kind") d_Page_kind := e_Page_kind
  have q_Page_children : Meth K (He.ga K "Page") "children" (He.ma K (He.ga K "Page") "children") := He.meth_ok (cd.fact 40 (f := .meth "Page" "children") rfl)
  obtain ⟨d_Page_children, e_Page_children⟩ := cd.def_ 40 rfl
  have F_Page_children : DL.FnM K "children" "Page.children" s_Page_children [] (He.ma K (He.ga K "Page") "children") d_Page_children := e_Page_children
  have q_Page_text : Meth K (He.ga K "Page") "text" (He.ma K (He.ga K "Page") "text") := He.meth_ok (cd.fact 41 (f := .meth "Page" "text") rfl)
  obtain ⟨d_Page_text, e_Page_text⟩ := cd.def_ 41 rfl
  have F_Page_text : DL.FnM K "text" "Page.text" s_Page_text [] (He.ma K (He.ga K "Page") "text") d_Page_text := e_Page_text
  have q_Page_depth : Meth K (He.ga K "Page") "depth" (He.ma K (He.ga K "Page") "depth") := He.meth_ok (cd.fact 42 (f := .meth "Page" "depth") rfl)
  obtain ⟨d_Page_depth, e_Page_depth⟩ := cd.def_ 42 rfl
  have F_Page_depth : DL.FnM K "depth" "Page.depth" s_Page_depth [] (He.ma K (He.ga K "Page") "depth") d_Page_depth := e_Page_depth
  have q_Page_nodes : Meth K (He.ga K "Page") "nodes" (He.ma K (He.ga K "Page") "nodes") := He.meth_ok (cd.fact 43 (f := .meth "Page" "nodes") rfl)
  obtain ⟨d_Page_nodes, e_Page_nodes⟩ := cd.def_ 43 rfl
  have F_Page_nodes : DL.FnM K "nodes" "Page.nodes" s_Page_nodes [] (He.ma K (He.ga K "Page") "nodes") d_Page_nodes := e_Page_nodes
  have q_Page_insert_box : Meth K (He.ga K "Page") "insert_box" (He.ma K (He.ga K "Page") "insert_box") := He.meth_ok (cd.fact 44 (f := .meth "Page" "insert_box") rfl)
  obtain ⟨d_Page_insert_box, e_Page_insert_box⟩ := cd.def_ 44 rfl
  have F_Page_insert_box : DL.FnM K "insert_box" "Page.insert_box" s_Page_insert_box [("marks", .ref (DL.kwAt ("Page", some "insert_box") "marks" K))] (He.ma K (He.ga K "Page") "insert_box") d_Page_insert_box := e_Page_insert_box
  have q_Page_insert_text : Meth K (He.ga K "Page") "insert_text" (He.ma K (He.ga K "Page") "insert_text") := He.meth_ok (cd.fact 45 (f := .meth "Page" "insert_text") rfl)
  obtain ⟨d_Page_insert_text, e_Page_insert_text⟩ := cd.def_ 45 rfl
  have F_Page_insert_text : DL.FnM K "insert_text" "Page.insert_text" s_Page_insert_text [] (He.ma K (He.ga K "Page") "insert_text") d_Page_insert_text := e_Page_insert_text
  have q_Page__row : Meth K (He.ga K "Page") "_row" (He.ma K (He.ga K "Page") "_row") := He.meth_ok (cd.fact 46 (f := .meth "Page" "_row") rfl)
  obtain ⟨d_Page__row, e_Page__row⟩ := cd.def_ 46 rfl
  have F_Page__row : DL.FnM K "_row" "Page._row" s_Page__row [] (He.ma K (He.ga K "Page") "_row") d_Page__row := e_Page__row
  have q_Page__box : Meth K (He.ga K "Page") "_box" (He.ma K (He.ga K "Page") "_box") := He.meth_ok (cd.fact 47 (f := .meth "Page" "_box") rfl)
  obtain ⟨d_Page__box, e_Page__box⟩ := cd.def_ 47 rfl
  have F_Page__box : DL.FnM K "_box" "Page._box" s_Page__box [] (He.ma K (He.ga K "Page") "_box") d_Page__box := e_Page__box
  have q_Page__insert : Meth K (He.ga K "Page") "_insert" (He.ma K (He.ga K "Page") "_insert") := He.meth_ok (cd.fact 48 (f := .meth "Page" "_insert") rfl)
  obtain ⟨d_Page__insert, e_Page__insert⟩ := cd.def_ 48 rfl
  have F_Page__insert : DL.FnM K "_insert" "Page._insert" s_Page__insert [] (He.ma K (He.ga K "Page") "_insert") d_Page__insert := e_Page__insert
  have q_Page__write : Meth K (He.ga K "Page") "_write" (He.ma K (He.ga K "Page") "_write") := He.meth_ok (cd.fact 49 (f := .meth "Page" "_write") rfl)
  obtain ⟨d_Page__write, e_Page__write⟩ := cd.def_ 49 rfl
  have F_Page__write : DL.FnM K "_write" "Page._write" s_Page__write [] (He.ma K (He.ga K "Page") "_write") d_Page__write := e_Page__write
  have q_Page__follow : Meth K (He.ga K "Page") "_follow" (He.ma K (He.ga K "Page") "_follow") := He.meth_ok (cd.fact 50 (f := .meth "Page" "_follow") rfl)
  obtain ⟨d_Page__follow, e_Page__follow⟩ := cd.def_ 50 rfl
  have F_Page__follow : DL.FnM K "_follow" "Page._follow" s_Page__follow [] (He.ma K (He.ga K "Page") "_follow") d_Page__follow := e_Page__follow
  have q__check_depth : mg "_check_depth" = some (.ref (He.ga K "_check_depth")) := He.glo_ok KX G (cd.fact 51 (f := .glo "_check_depth") rfl)
  obtain ⟨d__check_depth, e__check_depth⟩ := cd.def_ 51 (d := dD "_check_depth" s__check_depth) rfl
  have F__check_depth : FnP K "_check_depth" s__check_depth (He.ga K "_check_depth") d__check_depth := e__check_depth
  have q__law_cell : mg "_law_cell" = some (.ref (He.ga K "_law_cell")) := He.glo_ok KX G (cd.fact 52 (f := .glo "_law_cell") rfl)
  obtain ⟨d__law_cell, e__law_cell⟩ := cd.def_ 52 (d := dD "_law_cell" s__law_cell) rfl
  have F__law_cell : FnP K "_law_cell" s__law_cell (He.ga K "_law_cell") d__law_cell := e__law_cell
  have q__law_mixed : mg "_law_mixed" = some (.ref (He.ga K "_law_mixed")) := He.glo_ok KX G (cd.fact 53 (f := .glo "_law_mixed") rfl)
  obtain ⟨d__law_mixed, e__law_mixed⟩ := cd.def_ 53 (d := dD "_law_mixed" s__law_mixed) rfl
  have F__law_mixed : FnP K "_law_mixed" s__law_mixed (He.ga K "_law_mixed") d__law_mixed := e__law_mixed
  have q__law_source : mg "_law_source" = some (.ref (He.ga K "_law_source")) := He.glo_ok KX G (cd.fact 54 (f := .glo "_law_source") rfl)
  obtain ⟨d__law_source, e__law_source⟩ := cd.def_ 54 (d := dD "_law_source" s__law_source) rfl
  have F__law_source : FnP K "_law_source" s__law_source (He.ga K "_law_source") d__law_source := e__law_source
  have q__law_is_integer : mg "_law_is_integer" = some (.ref (He.ga K "_law_is_integer")) := He.glo_ok KX G (cd.fact 55 (f := .glo "_law_is_integer") rfl)
  obtain ⟨d__law_is_integer, e__law_is_integer⟩ := cd.def_ 55 (d := dD "_law_is_integer" s__law_is_integer) rfl
  have F__law_is_integer : FnP K "_law_is_integer" s__law_is_integer (He.ga K "_law_is_integer") d__law_is_integer := e__law_is_integer
  have q__law_plain_style : mg "_law_plain_style" = some (.ref (He.ga K "_law_plain_style")) := He.glo_ok KX G (cd.fact 56 (f := .glo "_law_plain_style") rfl)
  obtain ⟨d__law_plain_style, e__law_plain_style⟩ := cd.def_ 56 (d := dD "_law_plain_style" s__law_plain_style) rfl
  have F__law_plain_style : FnP K "_law_plain_style" s__law_plain_style (He.ga K "_law_plain_style") d__law_plain_style := e__law_plain_style
  have q__law_text_style : mg "_law_text_style" = some (.ref (He.ga K "_law_text_style")) := He.glo_ok KX G (cd.fact 57 (f := .glo "_law_text_style") rfl)
  obtain ⟨d__law_text_style, e__law_text_style⟩ := cd.def_ 57 (d := dD "_law_text_style" s__law_text_style) rfl
  have F__law_text_style : FnP K "_law_text_style" s__law_text_style (He.ga K "_law_text_style") d__law_text_style := e__law_text_style
  have q__law_box_style : mg "_law_box_style" = some (.ref (He.ga K "_law_box_style")) := He.glo_ok KX G (cd.fact 58 (f := .glo "_law_box_style") rfl)
  obtain ⟨d__law_box_style, e__law_box_style⟩ := cd.def_ 58 (d := dD "_law_box_style" s__law_box_style) rfl
  have F__law_box_style : FnP K "_law_box_style" s__law_box_style (He.ga K "_law_box_style") d__law_box_style := e__law_box_style
  have q__law_string : mg "_law_string" = some (.ref (He.ga K "_law_string")) := He.glo_ok KX G (cd.fact 59 (f := .glo "_law_string") rfl)
  obtain ⟨d__law_string, e__law_string⟩ := cd.def_ 59 (d := dD "_law_string" s__law_string) rfl
  have F__law_string : FnP K "_law_string" s__law_string (He.ga K "_law_string") d__law_string := e__law_string
  have q__law_tree : mg "_law_tree" = some (.ref (He.ga K "_law_tree")) := He.glo_ok KX G (cd.fact 60 (f := .glo "_law_tree") rfl)
  obtain ⟨d__law_tree, e__law_tree⟩ := cd.def_ 60 (d := dD "_law_tree" s__law_tree) rfl
  have F__law_tree : FnP K "_law_tree" s__law_tree (He.ga K "_law_tree") d__law_tree := e__law_tree
  have q__law_measures : mg "_law_measures" = some (.ref (He.ga K "_law_measures")) := He.glo_ok KX G (cd.fact 61 (f := .glo "_law_measures") rfl)
  obtain ⟨d__law_measures, e__law_measures⟩ := cd.def_ 61 (d := dD "_law_measures" s__law_measures) rfl
  have F__law_measures : FnP K "_law_measures" s__law_measures (He.ga K "_law_measures") d__law_measures := e__law_measures
  have q__law_are_measures : mg "_law_are_measures" = some (.ref (He.ga K "_law_are_measures")) := He.glo_ok KX G (cd.fact 62 (f := .glo "_law_are_measures") rfl)
  obtain ⟨d__law_are_measures, e__law_are_measures⟩ := cd.def_ 62 (d := dD "_law_are_measures" s__law_are_measures) rfl
  have F__law_are_measures : FnP K "_law_are_measures" s__law_are_measures (He.ga K "_law_are_measures") d__law_are_measures := e__law_are_measures
  have q_law : mg "law" = some (.ref (He.ga K "law")) := He.glo_ok KX G (cd.fact 63 (f := .glo "law") rfl)
  obtain ⟨d_law, e_law⟩ := cd.def_ 63 (d := dD "law" s_law) rfl
  have F_law : FnP K "law" s_law (He.ga K "law") d_law := e_law
  have z_all : mg "all" = none := He.free_ok KX G (cd.fact 64 (f := .free "all") rfl)
  have z_bool : mg "bool" = none := He.free_ok KX G (cd.fact 65 (f := .free "bool") rfl)
  have z_int : mg "int" = none := He.free_ok KX G (cd.fact 66 (f := .free "int") rfl)
  have z_isinstance : mg "isinstance" = none := He.free_ok KX G (cd.fact 67 (f := .free "isinstance") rfl)
  have z_len : mg "len" = none := He.free_ok KX G (cd.fact 68 (f := .free "len") rfl)
  have z_list : mg "list" = none := He.free_ok KX G (cd.fact 69 (f := .free "list") rfl)
  have z_max : mg "max" = none := He.free_ok KX G (cd.fact 70 (f := .free "max") rfl)
  have z_min : mg "min" = none := He.free_ok KX G (cd.fact 71 (f := .free "min") rfl)
  have z_ord : mg "ord" = none := He.free_ok KX G (cd.fact 72 (f := .free "ord") rfl)
  have z_range : mg "range" = none := He.free_ok KX G (cd.fact 73 (f := .free "range") rfl)
  have z_set : mg "set" = none := He.free_ok KX G (cd.fact 74 (f := .free "set") rfl)
  have z_sorted : mg "sorted" = none := He.free_ok KX G (cd.fact 75 (f := .free "sorted") rfl)
  have z_str : mg "str" = none := He.free_ok KX G (cd.fact 76 (f := .free "str") rfl)
  have z_sum : mg "sum" = none := He.free_ok KX G (cd.fact 77 (f := .free "sum") rfl)
  have z_tuple : mg "tuple" = none := He.free_ok KX G (cd.fact 78 (f := .free "tuple") rfl)
  have hex : ex K = true := c.more
  unfold ex at hex
  try simp only [Bool.and_eq_true] at hex
  have hem0 := hex
  have ke_Page_insert_box_marks : ∀ N H, Dn K N H (.ref (DL.kwAt ("Page", some "insert_box") "marks" K)) (.tuple []) := fun N H => DL.emB_ok hem0 N H
  have c_NARROW : ∃ t, mg "NARROW" = some (.str " .,':;!|ijl" t) := He.str_ok KX G (cd.fact 79 (f := .str "NARROW" " .,':;!|ijl") rfl)
  have c_WIDE : ∃ t, mg "WIDE" = some (.str "mwMW@" t) := He.str_ok KX G (cd.fact 80 (f := .str "WIDE" "mwMW@") rfl)
  have c_LONGEST_WORD : ∃ t, mg "LONGEST_WORD" = some (.int 12 t) := He.int_ok KX G (cd.fact 81 (f := .int "LONGEST_WORD" 12) rfl)
  have c_PERCENT : ∃ t, mg "PERCENT" = some (.int 37 t) := He.int_ok KX G (cd.fact 82 (f := .int "PERCENT" 37) rfl)
  have c_MOST_CHARACTERS : ∃ t, mg "MOST_CHARACTERS" = some (.int 500 t) := He.int_ok KX G (cd.fact 83 (f := .int "MOST_CHARACTERS" 500) rfl)
  have c_MOST_MARKS : ∃ t, mg "MOST_MARKS" = some (.int 8 t) := He.int_ok KX G (cd.fact 84 (f := .int "MOST_MARKS" 8) rfl)
  have c_ROOT : ∃ t, mg "ROOT" = some (.int 1 t) := He.int_ok KX G (cd.fact 85 (f := .int "ROOT" 1) rfl)
  have c_NOBODY : ∃ t, mg "NOBODY" = some (.int 0 t) := He.int_ok KX G (cd.fact 86 (f := .int "NOBODY" 0) rfl)
  have c_PARENT : ∃ t, mg "PARENT" = some (.int 0 t) := He.int_ok KX G (cd.fact 87 (f := .int "PARENT" 0) rfl)
  have c_KIND : ∃ t, mg "KIND" = some (.int 1 t) := He.int_ok KX G (cd.fact 88 (f := .int "KIND" 1) rfl)
  have c_CONTENT : ∃ t, mg "CONTENT" = some (.int 2 t) := He.int_ok KX G (cd.fact 89 (f := .int "CONTENT" 2) rfl)
  have c_CHILDREN : ∃ t, mg "CHILDREN" = some (.int 6 t) := He.int_ok KX G (cd.fact 90 (f := .int "CHILDREN" 6) rfl)
  have c_MOST_WINDOW : ∃ t, mg "MOST_WINDOW" = some (.int 1000 t) := He.int_ok KX G (cd.fact 91 (f := .int "MOST_WINDOW" 1000) rfl)
  have c_MOST_DEPTH : ∃ t, mg "MOST_DEPTH" = some (.int 30 t) := He.int_ok KX G (cd.fact 92 (f := .int "MOST_DEPTH" 30) rfl)
  have c_MOST_NODES : ∃ t, mg "MOST_NODES" = some (.int 300 t) := He.int_ok KX G (cd.fact 93 (f := .int "MOST_NODES" 300) rfl)
  have c_WINDOW : ∃ t, mg "WINDOW" = some (.str "window" t) := He.str_ok KX G (cd.fact 94 (f := .str "WINDOW" "window") rfl)
  have c_RULES : ∃ t, mg "RULES" = some (.str "rules" t) := He.str_ok KX G (cd.fact 95 (f := .str "RULES" "rules") rfl)
  refine ⟨q_law, d_law, F_law, fun base hb hg => ?_⟩
  have h_advance := ok_advance (P := P) (w := w) (mg := mg) (base := base) F_advance q_advance c_NARROW c_WIDE
  have h_offsets := ok_offsets (P := P) (w := w) (mg := mg) (base := base) F_offsets q_offsets h_advance
  have h_paragraphs := ok_paragraphs (P := P) (w := w) (mg := mg) (base := base) F_paragraphs q_paragraphs z_len
  have h_words := ok_words (P := P) (w := w) (mg := mg) (base := base) F_words q_words z_min z_len z_range z_max
  have h_frame := ok_frame (P := P) (w := w) (mg := mg) (base := base) F_frame q_frame
  have h_side_margins := ok_side_margins (P := P) (w := w) (mg := mg) (base := base) F_side_margins q_side_margins
  have h_bounded := ok_bounded (P := P) (w := w) (mg := mg) (base := base) F_bounded q_bounded h_frame z_max z_min
  have h_is_number := ok_is_number (P := P) (w := w) (mg := mg) (base := base) F_is_number q_is_number z_isinstance z_int z_bool
  have h_Page__row := ok_Page__row (P := P) (w := w) (mg := mg) (base := base) F_Page__row kC_History n_History_cells n_History__done n_History__undone kC_Page n_Page_width n_Page_height n_Page__last_id n_Page__moment n_Page__marked n_Page__history h_is_number q_Page__row
  have h_Page_children := ok_Page_children (P := P) (w := w) (mg := mg) (base := base) F_Page_children kC_History n_History_cells n_History__done n_History__undone kC_Page n_Page_width n_Page_height n_Page__last_id n_Page__moment n_Page__marked n_Page__history h_Page__row z_list c_CHILDREN q_Page_children
  have h_Page_kind := ok_Page_kind (P := P) (w := w) (mg := mg) (base := base) F_Page_kind kC_History n_History_cells n_History__done n_History__undone kC_Page n_Page_width n_Page_height n_Page__last_id n_Page__moment n_Page__marked n_Page__history h_Page__row c_KIND q_Page_kind
  have h__is_in_flow := ok__is_in_flow (P := P) (w := w) (mg := mg) (base := base) F__is_in_flow q__is_in_flow kC_History n_History_cells n_History__done n_History__undone kC_Page n_Page_width n_Page_height n_Page__last_id n_Page__moment n_Page__marked n_Page__history h_Page_kind
  have h_flow_children := ok_flow_children (P := P) (w := w) (mg := mg) (base := base) F_flow_children q_flow_children kC_History n_History_cells n_History__done n_History__undone kC_Page n_Page_width n_Page_height n_Page__last_id n_Page__moment n_Page__marked n_Page__history h_Page_children h__is_in_flow
  have h__text_pair := ok__text_pair (P := P) (w := w) (mg := mg) (base := base) F__text_pair q__text_pair h_offsets h_paragraphs h_words z_max
  have h_Page_text := ok_Page_text (P := P) (w := w) (mg := mg) (base := base) F_Page_text kC_History n_History_cells n_History__done n_History__undone kC_Page n_Page_width n_Page_height n_Page__last_id n_Page__moment n_Page__marked n_Page__history h_Page__row c_CONTENT c_KIND q_Page_text
  have h__in_a_row := ok__in_a_row (P := P) (w := w) (mg := mg) (base := base) F__in_a_row q__in_a_row z_max z_len z_sum
  have h__greatest := ok__greatest (P := P) (w := w) (mg := mg) (base := base) F__greatest q__greatest z_max
  have rec_Measures_pair : ∀ hgt : Nat, DL.MetP P w K mg base (9 + 5 * hgt + 1) (He.ga K "Measures") "pair" ["self", "node"] (DL.spS K 2 (shapeM (He.ga K "Measures") (He.ga K "Page") (He.ga K "History")) (R_Measures_pair hgt)) := by
    intro hgt
    induction hgt with
    | zero => exact DL.met_voidS F_Measures_pair sc_Measures_pair kC_Measures q_Measures_pair (DL.spS_len (R_Measures_pair_len 0)) (fun _ _ _ _ _ _ us hl => match us, hl with | [_, _], _ => rfl) R_Measures_pair_0
    | succ hgt h_Measures_pair =>
      have h_Measures__outer_pairs := ok_Measures__outer_pairs (P := P) (w := w) (mg := mg) (base := base) F_Measures__outer_pairs hgt kC_History n_History_cells n_History__done n_History__undone kC_Measures n_Measures__page n_Measures__styles n_Measures_known kC_Page n_Page_width n_Page_height n_Page__last_id n_Page__moment n_Page__marked n_Page__history h_flow_children h_side_margins h_Measures_pair q_Measures__outer_pairs
      have h_Measures_columns := ok_Measures_columns (P := P) (w := w) (mg := mg) (base := base) F_Measures_columns hgt kC_History n_History_cells n_History__done n_History__undone kC_Measures n_Measures__page n_Measures__styles n_Measures_known kC_Page n_Page_width n_Page_height n_Page__last_id n_Page__moment n_Page__marked n_Page__history h_Measures__outer_pairs h__greatest z_range q_Measures_columns
      have h_Measures__inside := ok_Measures__inside (P := P) (w := w) (mg := mg) (base := base) F_Measures__inside hgt kC_History n_History_cells n_History__done n_History__undone kC_Measures n_Measures__page n_Measures__styles n_Measures_known kC_Page n_Page_width n_Page_height n_Page__last_id n_Page__moment n_Page__marked n_Page__history h__in_a_row h_Measures__outer_pairs h_Measures_columns h__greatest q_Measures__inside
      have h_Measures__measured := ok_Measures__measured (P := P) (w := w) (mg := mg) (base := base) F_Measures__measured hgt kC_History n_History_cells n_History__done n_History__undone kC_Measures n_Measures__page n_Measures__styles n_Measures_known kC_Page n_Page_width n_Page_height n_Page__last_id n_Page__moment n_Page__marked n_Page__history h_Page_kind h__text_pair h_Page_text h_bounded h_Measures__inside h_frame z_isinstance z_int q_Measures__measured
      have h_Measures_pair' := ok_Measures_pair (P := P) (w := w) (mg := mg) (base := base) F_Measures_pair hgt kC_History n_History_cells n_History__done n_History__undone kC_Measures n_Measures__page n_Measures__styles n_Measures_known kC_Page n_Page_width n_Page_height n_Page__last_id n_Page__moment n_Page__marked n_Page__history h_Measures__measured q_Measures_pair
      exact h_Measures_pair'
  have h_Measures_pair := rec_Measures_pair 30
  have h_Measures__outer_pairs := ok_Measures__outer_pairs (P := P) (w := w) (mg := mg) (base := base) F_Measures__outer_pairs 30 kC_History n_History_cells n_History__done n_History__undone kC_Measures n_Measures__page n_Measures__styles n_Measures_known kC_Page n_Page_width n_Page_height n_Page__last_id n_Page__moment n_Page__marked n_Page__history h_flow_children h_side_margins h_Measures_pair q_Measures__outer_pairs
  have h_Measures_columns := ok_Measures_columns (P := P) (w := w) (mg := mg) (base := base) F_Measures_columns 30 kC_History n_History_cells n_History__done n_History__undone kC_Measures n_Measures__page n_Measures__styles n_Measures_known kC_Page n_Page_width n_Page_height n_Page__last_id n_Page__moment n_Page__marked n_Page__history h_Measures__outer_pairs h__greatest z_range q_Measures_columns
  have h_Measures__inside := ok_Measures__inside (P := P) (w := w) (mg := mg) (base := base) F_Measures__inside 30 kC_History n_History_cells n_History__done n_History__undone kC_Measures n_Measures__page n_Measures__styles n_Measures_known kC_Page n_Page_width n_Page_height n_Page__last_id n_Page__moment n_Page__marked n_Page__history h__in_a_row h_Measures__outer_pairs h_Measures_columns h__greatest q_Measures__inside
  have h_Measures__measured := ok_Measures__measured (P := P) (w := w) (mg := mg) (base := base) F_Measures__measured 30 kC_History n_History_cells n_History__done n_History__undone kC_Measures n_Measures__page n_Measures__styles n_Measures_known kC_Page n_Page_width n_Page_height n_Page__last_id n_Page__moment n_Page__marked n_Page__history h_Page_kind h__text_pair h_Page_text h_bounded h_Measures__inside h_frame z_isinstance z_int q_Measures__measured
  have h_Measures_pair := ok_Measures_pair (P := P) (w := w) (mg := mg) (base := base) F_Measures_pair 30 kC_History n_History_cells n_History__done n_History__undone kC_Measures n_Measures__page n_Measures__styles n_Measures_known kC_Page n_Page_width n_Page_height n_Page__last_id n_Page__moment n_Page__marked n_Page__history h_Measures__measured q_Measures_pair
  have h_Measures___init__ := ok_Measures___init__ (P := P) (w := w) (mg := mg) (base := base) F_Measures___init__ kC_History n_History_cells n_History__done n_History__undone kC_Measures n_Measures__page n_Measures__styles n_Measures_known kC_Page n_Page_width n_Page_height n_Page__last_id n_Page__moment n_Page__marked n_Page__history q_Measures___init__ q_Measures
  have h_is_within := ok_is_within (P := P) (w := w) (mg := mg) (base := base) F_is_within q_is_within h_is_number
  have h_is_word := ok_is_word (P := P) (w := w) (mg := mg) (base := base) F_is_word q_is_word z_isinstance z_str z_len z_all c_LONGEST_WORD
  have h__is_allowed := ok__is_allowed (P := P) (w := w) (mg := mg) (base := base) F__is_allowed q__is_allowed z_ord c_PERCENT
  have h_is_string := ok_is_string (P := P) (w := w) (mg := mg) (base := base) F_is_string q_is_string h__is_allowed z_isinstance z_str z_all
  have h_check_number := ok_check_number (P := P) (w := w) (mg := mg) (base := base) F_check_number q_check_number h_is_within
  have h_check_index := ok_check_index (P := P) (w := w) (mg := mg) (base := base) F_check_index q_check_index h_is_within
  have h_check_word := ok_check_word (P := P) (w := w) (mg := mg) (base := base) F_check_word q_check_word h_is_word
  have h_check_string := ok_check_string (P := P) (w := w) (mg := mg) (base := base) F_check_string q_check_string h_is_string z_len c_MOST_CHARACTERS
  have h_read_marks := ok_read_marks (P := P) (w := w) (mg := mg) (base := base) F_read_marks q_read_marks h_check_word z_isinstance z_list z_tuple z_sorted z_set z_len c_MOST_MARKS
  have h_History___init__ := ok_History___init__ (P := P) (w := w) (mg := mg) (base := base) F_History___init__ kC_History n_History_cells n_History__done n_History__undone q_History___init__ q_History
  have h_History__put := ok_History__put (P := P) (w := w) (mg := mg) (base := base) F_History__put kC_History n_History_cells n_History__done n_History__undone q_History__put
  have h_History_write := ok_History_write (P := P) (w := w) (mg := mg) (base := base) F_History_write kC_History n_History_cells n_History__done n_History__undone h_History__put q_History_write
  have h_new_row := ok_new_row (P := P) (w := w) (mg := mg) (base := base) F_new_row q_new_row
  have h_replaced := ok_replaced (P := P) (w := w) (mg := mg) (base := base) F_replaced q_replaced
  have h_with_child := ok_with_child (P := P) (w := w) (mg := mg) (base := base) F_with_child q_with_child h_replaced c_CHILDREN
  have h_branch := ok_branch (P := P) (w := w) (mg := mg) (base := base) F_branch q_branch c_CHILDREN
  have h_depth_of := ok_depth_of (P := P) (w := w) (mg := mg) (base := base) F_depth_of q_depth_of c_NOBODY c_PARENT
  have h_Page___init__ := ok_Page___init__ (P := P) (w := w) (mg := mg) (base := base) F_Page___init__ kC_History n_History_cells n_History__done n_History__undone kC_Page n_Page_width n_Page_height n_Page__last_id n_Page__moment n_Page__marked n_Page__history h_check_number h_new_row h_History___init__ c_MOST_WINDOW c_NOBODY c_ROOT c_WINDOW c_RULES q_Page___init__ q_Page
  have h_Page_depth := ok_Page_depth (P := P) (w := w) (mg := mg) (base := base) F_Page_depth kC_History n_History_cells n_History__done n_History__undone kC_Page n_Page_width n_Page_height n_Page__last_id n_Page__moment n_Page__marked n_Page__history h_Page__row h_depth_of q_Page_depth
  have h_Page_nodes := ok_Page_nodes (P := P) (w := w) (mg := mg) (base := base) F_Page_nodes kC_History n_History_cells n_History__done n_History__undone kC_Page n_Page_width n_Page_height n_Page__last_id n_Page__moment n_Page__marked n_Page__history h_branch c_ROOT q_Page_nodes
  have h_Page__box := ok_Page__box (P := P) (w := w) (mg := mg) (base := base) F_Page__box kC_History n_History_cells n_History__done n_History__undone kC_Page n_Page_width n_Page_height n_Page__last_id n_Page__moment n_Page__marked n_Page__history h_Page__row c_KIND q_Page__box
  have h__check_depth := ok__check_depth (P := P) (w := w) (mg := mg) (base := base) F__check_depth q__check_depth c_MOST_DEPTH
  have h_Page__follow := ok_Page__follow (P := P) (w := w) (mg := mg) (base := base) F_Page__follow kC_History n_History_cells n_History__done n_History__undone kC_Page n_Page_width n_Page_height n_Page__last_id n_Page__moment n_Page__marked n_Page__history h_branch c_WINDOW q_Page__follow
  have h_Page__write := ok_Page__write (P := P) (w := w) (mg := mg) (base := base) F_Page__write kC_History n_History_cells n_History__done n_History__undone kC_Page n_Page_width n_Page_height n_Page__last_id n_Page__moment n_Page__marked n_Page__history h_History_write h_Page__follow q_Page__write
  have h_Page__insert := ok_Page__insert (P := P) (w := w) (mg := mg) (base := base) F_Page__insert kC_History n_History_cells n_History__done n_History__undone kC_Page n_Page_width n_Page_height n_Page__last_id n_Page__moment n_Page__marked n_Page__history h_Page__row h_check_index h__check_depth h_Page_depth h_Page_nodes h_Page__write h_with_child z_len c_PARENT c_CHILDREN c_MOST_NODES q_Page__insert
  have h_Page_insert_box := ok_Page_insert_box (P := P) (w := w) (mg := mg) (base := base) F_Page_insert_box kC_History n_History_cells n_History__done n_History__undone kC_Page n_Page_width n_Page_height n_Page__last_id n_Page__moment n_Page__marked n_Page__history h_Page__box h_check_word h_Page__insert h_new_row h_read_marks q_Page_insert_box
  have h_Page_insert_text := ok_Page_insert_text (P := P) (w := w) (mg := mg) (base := base) F_Page_insert_text kC_History n_History_cells n_History__done n_History__undone kC_Page n_Page_width n_Page_height n_Page__last_id n_Page__moment n_Page__marked n_Page__history h_Page__box h_check_string h_Page__insert h_new_row q_Page_insert_text
  have h__law_cell := ok__law_cell (P := P) (w := w) (mg := mg) (base := base) F__law_cell q__law_cell z_len
  have h__law_mixed := ok__law_mixed (P := P) (w := w) (mg := mg) (base := base) F__law_mixed q__law_mixed z_int
  have h__law_source := ok__law_source (P := P) (w := w) (mg := mg) (base := base) F__law_source q__law_source h__law_mixed
  have h__law_is_integer := ok__law_is_integer (P := P) (w := w) (mg := mg) (base := base) F__law_is_integer q__law_is_integer z_isinstance z_int z_bool
  have h__law_plain_style := ok__law_plain_style (P := P) (w := w) (mg := mg) (base := base) F__law_plain_style q__law_plain_style
  have h__law_text_style := ok__law_text_style (P := P) (w := w) (mg := mg) (base := base) F__law_text_style q__law_text_style
  have h__law_box_style := ok__law_box_style (P := P) (w := w) (mg := mg) (base := base) F__law_box_style q__law_box_style h__law_plain_style h__law_mixed z_int
  have h__law_string := ok__law_string (P := P) (w := w) (mg := mg) (base := base) F__law_string q__law_string h__law_mixed z_int z_range
  have h__law_tree := ok__law_tree (P := P) (w := w) (mg := mg) (base := base) F__law_tree q__law_tree kC_History n_History_cells n_History__done n_History__undone kC_Page n_Page_width n_Page_height n_Page__last_id n_Page__moment n_Page__marked n_Page__history h__law_source h__law_cell h__law_mixed h__law_string h_Page_insert_text h__law_text_style ke_Page_insert_box_marks h_Page_insert_box h__law_box_style z_range z_int z_len
  have h__law_are_measures := ok__law_are_measures (P := P) (w := w) (mg := mg) (base := base) F__law_are_measures q__law_are_measures h__law_is_integer h_frame
  have h_narrow := ok_narrow (P := P) (w := w) (mg := mg) (base := base) F_narrow q_narrow kC_History n_History_cells n_History__done n_History__undone kC_Measures n_Measures__page n_Measures__styles n_Measures_known kC_Page n_Page_width n_Page_height n_Page__last_id n_Page__moment n_Page__marked n_Page__history h_Measures_pair h_Measures___init__
  have h_wide := ok_wide (P := P) (w := w) (mg := mg) (base := base) F_wide q_wide kC_History n_History_cells n_History__done n_History__undone kC_Measures n_Measures__page n_Measures__styles n_Measures_known kC_Page n_Page_width n_Page_height n_Page__last_id n_Page__moment n_Page__marked n_Page__history h_Measures_pair h_Measures___init__
  have h__law_measures := ok__law_measures (P := P) (w := w) (mg := mg) (base := base) F__law_measures q__law_measures kC_History n_History_cells n_History__done n_History__undone kC_Page n_Page_width n_Page_height n_Page__last_id n_Page__moment n_Page__marked n_Page__history h_narrow h_wide
  have h_law := ok_law (P := P) (w := w) (mg := mg) (base := base) F_law kC_History n_History_cells n_History__done n_History__undone kC_Measures n_Measures__page n_Measures__styles n_Measures_known kC_Page n_Page_width n_Page_height n_Page__last_id n_Page__moment n_Page__marked n_Page__history h__law_source h__law_cell h_Page___init__ h__law_plain_style h__law_tree h__law_measures h__law_are_measures h_Page_insert_text h__law_text_style ke_Page_insert_box_marks h_Page_insert_box h__law_box_style h__law_string z_int z_len z_isinstance
  exact h_law
end Q
open PySem PySem.W PySem.Calls PyProof.Rows
set_option maxHeartbeats 0 in
theorem PySem.Challenge.cw_quirekiln_k25_measures_grow_with_childre_holds : PySem.Challenge.rw_quirekiln_k25_measures_grow_with_childre.Holds := by
  w_on; o_law
  refine HandSHeadRun.head_any (r := OpenLaw.row PySem.Challenge.rw_quirekiln_k25_measures_grow_with_childre) (q := view (OpenLaw.row PySem.Challenge.rw_quirekiln_k25_measures_grow_with_childre).prog [81]) (H := QH.hk) (ob := QH.ob) (M := 11320) (loose := ("_wall" :: "NARROW" :: "WIDE" :: "advance" :: "offsets" :: "paragraphs" :: "words" :: "frame" :: "side_margins" :: "bounded" :: "flow_children" :: "narrow" :: "wide" :: "Measures" :: "_is_in_flow" :: "_text_pair" :: "_greatest" :: "_in_a_row" :: "PageError" :: "NoNode" :: "WrongKind" :: "BadWord" :: "BadValue" :: "BadPlace" :: "TooDeep" :: "TooMany" :: "LONGEST_WORD" :: "PERCENT" :: "is_number" :: "is_within" :: "is_word" :: "is_string" :: "_is_allowed" :: "MOST_CHARACTERS" :: "MOST_MARKS" :: "check_number" :: "check_index" :: "check_word" :: "check_string" :: "read_marks" :: "History" :: "ROOT" :: "NOBODY" :: "PARENT" :: "KIND" :: "CONTENT" :: "MARKS" :: "CHILDREN" :: "new_row" :: "replaced" :: "with_child" :: "branch" :: "depth_of" :: "MOST_WINDOW" :: "MOST_DEPTH" :: "MOST_NODES" :: "WINDOW" :: "RULES" :: "Page" :: "_check_depth" :: "_law_cell" :: "_law_mixed" :: "_law_source" :: "_law_is_integer" :: "_law_plain_style" :: "_law_text_style" :: "_law_box_style" :: "_law_string" :: "_law_tree" :: "_law_measures" :: "_law_are_measures" :: [])) (d := HandSHeadRun.topDef (OpenLaw.row PySem.Challenge.rw_quirekiln_k25_measures_grow_with_childre).prog 81) (kwd := []) QH.ob_eq
    (by kernel_rfl) (fun s => by kernel_rfl) QH.run (by kernel_rfl) (by kernel_rfl) (by kernel_rfl) (by rfl) (by first | assumption | decide +kernel) (by decide +kernel) ⟨rfl, rfl, rfl, rfl, rfl, by decide +kernel⟩ ?hw ?hc
  case hw => w_witness2
  case hc =>
    exact DL.walk_end (l := PySem.Challenge.rw_quirekiln_k25_measures_grow_with_childre) (k := 168) (st := QH.s_law) rfl (by kernel_rfl) ⟨rfl, by decide, by decide⟩ (by kernel_rfl) (fun _ _ _ _ _ _ us hl => match us, hl with | [_], _ => rfl) (fun w mg K h KX G c => Q.facts w mg K h KX G c)
