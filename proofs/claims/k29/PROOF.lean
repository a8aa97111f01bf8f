import PyProof.Rows.All
import Wide.All
import OpenK.AllK
import Wide.FinOn
import HandS.ForMost
import HandS.Walk
import HandS.Evl
import HandS.Flow
import HandS.IsInst
import HandS.SortInts
import KE.DataEq
import HandS.ForExc
import HandS.Defaults
import HandS.Head0
import HandS.Head1
import HandS.Head2
import HandS.HeadEnd
import HandS.HeadHook1
import HandS.HeadHook2
import HandS.HeadHook3
import HandS.HeadHook4
import HandS.More
import HandS.Style
import KE.SortData
import HandS.Strs
import HandS.Comp
import HandS.SetBool
import HandS.Dict
import HandS.TupLen
import HandS.WordsDict
import HandS.Iter
import HandS.Star
import HandS.Text
import HandS.Codes
import PyProof.StrOps2
import HandS.StrMore
import PyProof.Rows.StrCountLaw
import PyProof.Rows.StrCut
import PyProof.StrLawsFrom
import PyProof.Draws
import PyProof.EnumMake
import HandS.GenList
import KE.KDictCopyH
import HandS.Wide
import HandS.DictComp
import HandS.Flt
import KE.LtData
import KE.KDictZip
import HandS.MakeKwOnly
import HandS.OwnIter
import HandS.IterNext
import HandS.Property
import HandS.Conv
import PyProof.StrLawsLast
import KE.KUnpack
import PyProof.CollectIter
import HandS.TupAny
import KE.KRevSl
import HandS.ReplaceLit
import KE.DataMinMax
import HandS.SortKw
import HandS.Set
import KE.GoesEnum
import KE.GoesMore
import HandS.Lambda
import KE.SortKeyHeap
import KE.KDictPairs
import HandS.DictTup
import PyProof.DictUpdate
import HandS.List
import HandS.HeadWalk
import KE.KEqNest
import HandS.ExcInit
import HandS.ExcIs
import HandS.ExcField
import HandS.TryMany
import HandS.RaiseMore
import HandS.FStr
import PySem.Challenge.RW_quirekiln_k29_depth_and_number_of_nodes
set_option Elab.async false
set_option linter.all false
set_option maxRecDepth 100000
set_option maxHeartbeats 4000000
/-! Heads whose defs have keyword-only defaults that are objects. -/
namespace DL
open PySem PySem.Spec PyProof.Rows L2
/-- the keyword-only default x of the def at f, if it is an object -/
def kwAt (f : Str × Option Str) (x : Str) (K : PySem.W.Frag) : Addr := match K.lookup (He.fAd K f) with
  | some ⟨_, _, .func fd, _⟩ => (match fd.kwdefaults with
    | .ref D => (match PySem.W.nsIn K D x with
      | some (some (.ref a)) => a
      | _ => 0)
    | _ => 0)
  | _ => 0
/-- an empty tuple stands there -/
def emB (K : PySem.W.Frag) (a : Addr) : Bool := match K.lookup a with
  | some ⟨.type c, _, .seq its _, _⟩ => decide (c = "tuple") && decide (its.toList = [])
  | _ => false
end DL
namespace DL
open PySem PySem.Spec PyProof.Rows L2 He
/-- the addresses of a head: four steps from the module's names, and what the keyword-only defaults of its defs hold -/
def asE (g : Addr → Option Obj) : List Addr :=
  let as := asD g 4
  as ++ as.flatMap fun a => match g a with
    | some ⟨_, _, .func fd, _⟩ => (match fd.kwdefaults with
      | .ref D => (match g D with
        | some o => refsD o
        | none => [])
      | _ => [])
    | _ => []
def obsE (fa : List Fa) (fn : List DefD) (ts : List Tab) (ex : PySem.W.Frag → Bool) (g : Addr → Option Obj) : AlX := (obsT fa fn ts (frT g (asE g)), ex (frT g (asE g)))
def hookE (fa : List Fa) (fn : List DefD) (ts : List Tab) (ex : PySem.W.Frag → Bool) : PySem.W.Hook where
  α := AlX
  obs := fun s => obsE fa fn ts ex s.heap.get?
  val := fun w => valX fn ts w
  says := fun w h => ∃ K : PySem.W.Frag, K.In h ∧ SaysX fa fn ts [] ex w h K
  of := fun _ _ e => ⟨_, frT_in, congrArg (fun z : AlX => z.1) e, congrArg (fun z : AlX => z.2) e, fun _ hp => absurd hp List.not_mem_nil, fun _ hp => absurd hp List.not_mem_nil, fun _ hp => absurd hp List.not_mem_nil⟩
  keeps := fun _ _ _ ⟨K, hK, c⟩ k => ⟨K, PySem.W.Frag.In.keeps hK k, ⟨c.t, c.more, c.hd, c.out, fun p hp => k _ _ (c.empty p hp)⟩⟩
theorem obsE_eq {fa : List Fa} {fn : List DefD} {ts : List Tab} {ex : PySem.W.Frag → Bool} {g : Addr → Option Obj} {s : Shared} (h : ∀ a, g a = s.heap.get? a) : obsE fa fn ts ex g = (hookE fa fn ts ex).obs s := by
  have e : g = s.heap.get? := funext h
  rw [e] <;> rfl
end DL
-- END DLA
section
set_option Elab.async false
set_option linter.all false
set_option maxRecDepth 100000
set_option maxHeartbeats 4000000
namespace DL
open PySem PySem.Spec PyProof.Rows L2 He
def exoB (K : PySem.W.Frag) (C : Addr) : Bool := match K.lookup C with
  | some ⟨.type "type", _, .cls cd, sl⟩ => (match cd.mro, sl.toList with
    | .ref C' :: bm, [_, _, _, _, some (.builtin n), _] => C' == C && n == "ValueError.__new__" && !cd.hasDel && cd.hasDict && PySem.HandSPX.refsVE bm
    | _, _ => false)
  | _ => false
def erB (K : PySem.W.Frag) (C fI : Addr) : Bool :=
  exoB K C && (decide (PySem.W.findIn K (.ref C) "__setattr__" = some (some (.builtin "object.__setattr__"))) && (decide (PySem.W.subIn K (.ref C) (.type "BaseException") = some true) &&
  (decide (PySem.W.typeIn K (.ref C) = some (.type "type")) && (PySem.W.keepIn K (.ref C) && (decide (PySem.W.findIn K (.ref C) "__init__" = some (some (.ref fI))) && (decide (PySem.W.typeIn K (.ref fI) = some (.type "function")) &&
  (decide (PySem.W.findIn K (.ref C) "value" = some none) && (xfB K C && (decide (PySem.W.findIn K (.ref C) "__class__" = some (some (.builtin "object.__class__"))) &&
  (decide (PySem.W.specialIn K (.builtin "object.__class__") "__get__" = some (some (.builtin "getset_descriptor.__get__"))) && (decide (PySem.W.takesIn K (.builtin "object.__class__") = some true) && decide (PySem.W.mroIn K C (.type "object") = some true))))))))))))
def veB (K : PySem.W.Frag) : Bool := match PySem.W.findCls K (.type "ValueError") (.type "type") "__init__" with
  | some (.val v) => decide (v = .builtin "ValueError.__init__")
  | _ => false
end DL
end
section
set_option Elab.async false
set_option linter.all false
set_option maxRecDepth 100000
set_option maxHeartbeats 4000000
open PySem PySem.Spec PyProof.Rows L2
namespace QH
def topS (i : Nat) : Stmt := PySem.Challenge.pw_quirekiln_k29_depth_and_number_of_nodes.main.body.getD i (.Pass ⟨0, 0, 0, 0⟩)
abbrev dD (x : Str) (s : Stmt) : He.DefD := ⟨(x, none), x, x, defArgs s, defBody s, defScope s, [], []⟩
abbrev s_PageError___init__ : Stmt := inClass (topS 2) 0
abbrev s_is_number : Stmt := topS 13
abbrev s_is_within : Stmt := topS 14
abbrev s_is_word : Stmt := topS 15
abbrev s__is_allowed : Stmt := topS 17
abbrev s_is_string : Stmt := topS 16
abbrev s_check_number : Stmt := topS 21
abbrev s_check_index : Stmt := topS 22
abbrev s_check_word : Stmt := topS 23
abbrev s_check_string : Stmt := topS 24
abbrev s_read_marks : Stmt := topS 25
abbrev s_History___init__ : Stmt := inClass (topS 27) 0
abbrev s_History__put : Stmt := inClass (topS 27) 4
abbrev s_History_write : Stmt := inClass (topS 27) 1
abbrev s_new_row : Stmt := topS 36
abbrev s_replaced : Stmt := topS 37
abbrev s_with_child : Stmt := topS 38
abbrev s_without_child : Stmt := topS 39
abbrev s_branch : Stmt := topS 40
abbrev s_depth_of : Stmt := topS 41
abbrev s_height_of : Stmt := topS 42
abbrev s_Page___init__ : Stmt := inClass (topS 49) 0
abbrev s_Page__row : Stmt := inClass (topS 49) 29
abbrev s_Page_parent : Stmt := inClass (topS 49) 2
abbrev s_Page_depth : Stmt := inClass (topS 49) 9
abbrev s_Page_nodes : Stmt := inClass (topS 49) 10
abbrev s_Page__box : Stmt := inClass (topS 49) 30
abbrev s__check_depth : Stmt := topS 51
abbrev s_Page__follow : Stmt := inClass (topS 49) 33
abbrev s_Page__write : Stmt := inClass (topS 49) 32
abbrev s_Page__insert : Stmt := inClass (topS 49) 31
abbrev s_Page_insert_box : Stmt := inClass (topS 49) 12
abbrev s_Page_insert_text : Stmt := inClass (topS 49) 13
abbrev s__refuse_root : Stmt := topS 50
abbrev s_Page_remove : Stmt := inClass (topS 49) 14
abbrev s_Page_move : Stmt := inClass (topS 49) 15
abbrev s_Page_snapshot : Stmt := inClass (topS 49) 27
abbrev s__law_next : Stmt := topS 53
abbrev s__law_chain : Stmt := topS 54
abbrev s__law_insert : Stmt := topS 55
abbrev s__law_move : Stmt := topS 56
abbrev s__law_deep : Stmt := topS 57
abbrev s__law_moved : Stmt := topS 58
abbrev s__law_many : Stmt := topS 59
abbrev s_law : Stmt := topS 60
def fn : List He.DefD := [dD "is_number" s_is_number, dD "is_within" s_is_within, dD "is_word" s_is_word, dD "is_string" s_is_string, dD "_is_allowed" s__is_allowed, dD "check_number" s_check_number, dD "check_index" s_check_index, dD "check_word" s_check_word, dD "check_string" s_check_string, dD "read_marks" s_read_marks, ⟨("History", some "__init__"), "__init__", "History.__init__", defArgs s_History___init__, defBody s_History___init__, defScope s_History___init__, [], []⟩, ⟨("History", some "write"), "write", "History.write", defArgs s_History_write, defBody s_History_write, defScope s_History_write, [], []⟩, ⟨("History", some "_put"), "_put", "History._put", defArgs s_History__put, defBody s_History__put, defScope s_History__put, [], []⟩, dD "new_row" s_new_row, dD "replaced" s_replaced, dD "with_child" s_with_child, dD "without_child" s_without_child, dD "branch" s_branch, dD "depth_of" s_depth_of, dD "height_of" s_height_of, ⟨("Page", some "__init__"), "__init__", "Page.__init__", defArgs s_Page___init__, defBody s_Page___init__, defScope s_Page___init__, [], []⟩, ⟨("Page", some "parent"), "parent", "Page.parent", defArgs s_Page_parent, defBody s_Page_parent, defScope s_Page_parent, [], []⟩, ⟨("Page", some "depth"), "depth", "Page.depth", defArgs s_Page_depth, defBody s_Page_depth, defScope s_Page_depth, [], []⟩, ⟨("Page", some "nodes"), "nodes", "Page.nodes", defArgs s_Page_nodes, defBody s_Page_nodes, defScope s_Page_nodes, [], []⟩, ⟨("Page", some "insert_box"), "insert_box", "Page.insert_box", defArgs s_Page_insert_box, defBody s_Page_insert_box, defScope s_Page_insert_box, [], [("marks", .adr (DL.kwAt ("Page", some "insert_box") "marks"))]⟩, ⟨("Page", some "insert_text"), "insert_text", "Page.insert_text", defArgs s_Page_insert_text, defBody s_Page_insert_text, defScope s_Page_insert_text, [], []⟩, ⟨("Page", some "remove"), "remove", "Page.remove", defArgs s_Page_remove, defBody s_Page_remove, defScope s_Page_remove, [], []⟩, ⟨("Page", some "move"), "move", "Page.move", defArgs s_Page_move, defBody s_Page_move, defScope s_Page_move, [], []⟩, ⟨("Page", some "snapshot"), "snapshot", "Page.snapshot", defArgs s_Page_snapshot, defBody s_Page_snapshot, defScope s_Page_snapshot, [], []⟩, ⟨("Page", some "_row"), "_row", "Page._row", defArgs s_Page__row, defBody s_Page__row, defScope s_Page__row, [], []⟩, ⟨("Page", some "_box"), "_box", "Page._box", defArgs s_Page__box, defBody s_Page__box, defScope s_Page__box, [], []⟩, ⟨("Page", some "_insert"), "_insert", "Page._insert", defArgs s_Page__insert, defBody s_Page__insert, defScope s_Page__insert, [], []⟩, ⟨("Page", some "_write"), "_write", "Page._write", defArgs s_Page__write, defBody s_Page__write, defScope s_Page__write, [], []⟩, ⟨("Page", some "_follow"), "_follow", "Page._follow", defArgs s_Page__follow, defBody s_Page__follow, defScope s_Page__follow, [], []⟩, dD "_refuse_root" s__refuse_root, dD "_check_depth" s__check_depth, dD "_law_next" s__law_next, dD "_law_chain" s__law_chain, dD "_law_insert" s__law_insert, dD "_law_move" s__law_move, dD "_law_deep" s__law_deep, dD "_law_moved" s__law_moved, dD "_law_many" s__law_many, dD "law" s_law, ⟨("PageError", some "__init__"), "__init__", "PageError.__init__", defArgs s_PageError___init__, defBody s_PageError___init__, defScope s_PageError___init__, [], []⟩]
def ts : List He.Tab := []
def fa : List He.Fa := [.glo "is_number", .glo "is_within", .glo "is_word", .glo "is_string", .glo "_is_allowed", .glo "check_number", .glo "check_index", .glo "check_word", .glo "check_string", .glo "read_marks", .mkr "History", .meth "History" "write", .meth "History" "_put", .glo "new_row", .glo "replaced", .glo "with_child", .glo "without_child", .glo "branch", .glo "depth_of", .glo "height_of", .mkr "Page", .meth "Page" "parent", .meth "Page" "depth", .meth "Page" "nodes", .meth "Page" "insert_box", .meth "Page" "insert_text", .meth "Page" "remove", .meth "Page" "move", .meth "Page" "snapshot", .meth "Page" "_row", .meth "Page" "_box", .meth "Page" "_insert", .meth "Page" "_write", .meth "Page" "_follow", .glo "_refuse_root", .glo "_check_depth", .glo "_law_next", .glo "_law_chain", .glo "_law_insert", .glo "_law_move", .glo "_law_deep", .glo "_law_moved", .glo "_law_many", .glo "law", .glo "PageError", .free "ValueError", .free "all", .free "bool", .free "int", .free "isinstance", .free "len", .free "list", .free "max", .free "min", .free "ord", .free "range", .free "set", .free "sorted", .free "str", .free "tuple", .int "LONGEST_WORD" 12, .int "PERCENT" 37, .int "MOST_CHARACTERS" 500, .int "MOST_MARKS" 8, .int "ROOT" 1, .int "NOBODY" 0, .int "PARENT" 0, .int "KIND" 1, .int "CHILDREN" 6, .int "MOST_WINDOW" 1000, .int "MOST_DEPTH" 30, .int "MOST_NODES" 300, .str "WINDOW" "window", .str "RULES" "rules", .glo "History", .cls "History", .noat "History" "cells", .noat "History" "_done", .noat "History" "_undone", .glo "Page", .cls "Page", .noat "Page" "width", .noat "Page" "height", .noat "Page" "_last_id", .noat "Page" "_moment", .noat "Page" "_marked", .noat "Page" "_history", .glo "BadPlace", .glo "TooDeep", .glo "TooMany"]
def exE (K : PySem.W.Frag) : List Bool := [DL.erB K (He.ga K "BadPlace") (He.ma K (He.ga K "PageError") "__init__"), DL.erB K (He.ga K "TooDeep") (He.ma K (He.ga K "PageError") "__init__"), DL.erB K (He.ga K "TooMany") (He.ma K (He.ga K "PageError") "__init__"), decide (PySem.W.exmOne K (.ref (He.ga K "BadPlace")) (.ref (He.ga K "BadPlace")) = some true), decide (PySem.W.exmOne K (.ref (He.ga K "BadPlace")) (.ref (He.ga K "TooDeep")) = some false), decide (PySem.W.exmOne K (.ref (He.ga K "BadPlace")) (.ref (He.ga K "TooMany")) = some false), decide (PySem.W.exmOne K (.ref (He.ga K "TooDeep")) (.ref (He.ga K "BadPlace")) = some false), decide (PySem.W.exmOne K (.ref (He.ga K "TooDeep")) (.ref (He.ga K "TooDeep")) = some true), decide (PySem.W.exmOne K (.ref (He.ga K "TooDeep")) (.ref (He.ga K "TooMany")) = some false), decide (PySem.W.exmOne K (.ref (He.ga K "TooMany")) (.ref (He.ga K "BadPlace")) = some false), decide (PySem.W.exmOne K (.ref (He.ga K "TooMany")) (.ref (He.ga K "TooDeep")) = some false), decide (PySem.W.exmOne K (.ref (He.ga K "TooMany")) (.ref (He.ga K "TooMany")) = some true), DL.veB K]
def ex (K : PySem.W.Frag) : Bool := (exE K).all id && DL.emB K (DL.kwAt ("Page", some "insert_box") "marks" K)
abbrev R : PySem.W.OpenRow := PySem.W.OpenLaw.row PySem.Challenge.rw_quirekiln_k29_depth_and_number_of_nodes
abbrev hk : PySem.W.Hook := DL.hookE fa fn ts ex
def ob (s : PySem.W.SharedT) : He.AlX := DL.obsE fa fn ts ex (HandSHeadRun.getT s)
theorem ob_eq (s : PySem.W.SharedT) : ob s = hk.obs s.abs := DL.obsE_eq (HandSHeadRun.getT_eq s)
def wb (b : Bool) (w : World) : World := { w with params := { w.params with followText := fun r => if r = "special-get-raises" then b else w.params.followText r } }
theorem wb_eq (w : World) : wb (w.params.followText "special-get-raises") w = w := by
  unfold wb
  have e : (fun r => if r = "special-get-raises" then w.params.followText "special-get-raises" else w.params.followText r) = w.params.followText := by
    funext r
    split
    · rename_i h
      rw [h]
    · rfl
  rw [e]
set_option maxHeartbeats 0 in
theorem run_true (w : World) : HandSHeadRun.RunEq R (PySem.W.view R.prog [60]) hk ob 9720 ("_wall" :: "PageError" :: "NoNode" :: "WrongKind" :: "BadWord" :: "BadValue" :: "BadPlace" :: "TooDeep" :: "TooMany" :: "LONGEST_WORD" :: "PERCENT" :: "is_number" :: "is_within" :: "is_word" :: "is_string" :: "_is_allowed" :: "MOST_CHARACTERS" :: "MOST_MARKS" :: "check_number" :: "check_index" :: "check_word" :: "check_string" :: "read_marks" :: "History" :: "ROOT" :: "NOBODY" :: "PARENT" :: "KIND" :: "CONTENT" :: "MARKS" :: "CHILDREN" :: "new_row" :: "replaced" :: "with_child" :: "without_child" :: "branch" :: "depth_of" :: "height_of" :: "MOST_WINDOW" :: "MOST_DEPTH" :: "MOST_NODES" :: "WINDOW" :: "RULES" :: "Page" :: "_refuse_root" :: "_check_depth" :: "_law_next" :: "_law_chain" :: "_law_insert" :: "_law_move" :: "_law_deep" :: "_law_moved" :: "_law_many" :: []) (wb true w) := by
  intro os
  kernel_rfl
set_option maxHeartbeats 0 in
theorem run_false (w : World) : HandSHeadRun.RunEq R (PySem.W.view R.prog [60]) hk ob 9720 ("_wall" :: "PageError" :: "NoNode" :: "WrongKind" :: "BadWord" :: "BadValue" :: "BadPlace" :: "TooDeep" :: "TooMany" :: "LONGEST_WORD" :: "PERCENT" :: "is_number" :: "is_within" :: "is_word" :: "is_string" :: "_is_allowed" :: "MOST_CHARACTERS" :: "MOST_MARKS" :: "check_number" :: "check_index" :: "check_word" :: "check_string" :: "read_marks" :: "History" :: "ROOT" :: "NOBODY" :: "PARENT" :: "KIND" :: "CONTENT" :: "MARKS" :: "CHILDREN" :: "new_row" :: "replaced" :: "with_child" :: "without_child" :: "branch" :: "depth_of" :: "height_of" :: "MOST_WINDOW" :: "MOST_DEPTH" :: "MOST_NODES" :: "WINDOW" :: "RULES" :: "Page" :: "_refuse_root" :: "_check_depth" :: "_law_next" :: "_law_chain" :: "_law_insert" :: "_law_move" :: "_law_deep" :: "_law_moved" :: "_law_many" :: []) (wb false w) := by
  intro os
  kernel_rfl
theorem run (w : World) : HandSHeadRun.RunEq R (PySem.W.view R.prog [60]) hk ob 9720 ("_wall" :: "PageError" :: "NoNode" :: "WrongKind" :: "BadWord" :: "BadValue" :: "BadPlace" :: "TooDeep" :: "TooMany" :: "LONGEST_WORD" :: "PERCENT" :: "is_number" :: "is_within" :: "is_word" :: "is_string" :: "_is_allowed" :: "MOST_CHARACTERS" :: "MOST_MARKS" :: "check_number" :: "check_index" :: "check_word" :: "check_string" :: "read_marks" :: "History" :: "ROOT" :: "NOBODY" :: "PARENT" :: "KIND" :: "CONTENT" :: "MARKS" :: "CHILDREN" :: "new_row" :: "replaced" :: "with_child" :: "without_child" :: "branch" :: "depth_of" :: "height_of" :: "MOST_WINDOW" :: "MOST_DEPTH" :: "MOST_NODES" :: "WINDOW" :: "RULES" :: "Page" :: "_refuse_root" :: "_check_depth" :: "_law_next" :: "_law_chain" :: "_law_insert" :: "_law_move" :: "_law_deep" :: "_law_moved" :: "_law_many" :: []) w := by
  have e := wb_eq w
  cases h : w.params.followText "special-get-raises" with
  | true => rw [h] at e; rw [← e]; exact run_true w
  | false => rw [h] at e; rw [← e]; exact run_false w
end QH
end

set_option Elab.async false
set_option linter.all false
set_option maxRecDepth 100000
set_option maxHeartbeats 2000000
/-! The data layer: what a piece of a def does, told by data (PyData) and by a small symbolic store, over the readings of HandS. -/
namespace DL
open PySem L2

/-! ### data at an address -/
def SqK (K : PySem.W.Frag) (a : Addr) (xs : List V) : Prop :=
  ∃ (o : Obj) (its : Array Value) (n : Nat), K.lookup a = some o ∧ o.cls = .type "list" ∧ o.dict = none ∧ o.data = .seq its n ∧ its.size ≤ sizeLine ∧ Vals xs its.toList
/-- a key as data -/
def kdat : Key → PyData
  | .inl i => .int i
  | .inr x => .str x
def tdat (ks : List Key) : PyData := .tuple (ks.map kdat)
mutual
/-- v stands for the data d at the heap H; no list and no dict of it lies at an address of N -/
inductive Dn (K : PySem.W.Frag) (N : Addr → Prop) (H : Hp) : V → PyData → Prop
  | non : Dn K N H .non .none
  | bl (b : Bool) : Dn K N H (.bl b) (.bool b)
  | int (i : Int) : Dn K N H (.int i) (.int i)
  | str (x : Str) : Dn K N H (.str x) (.str x)
  | lst {a : Addr} {xs : List V} {ds : List PyData} : Rd H a (.lst xs) → ¬ N a → DnAll K N H xs ds → Dn K N H (.ref a) (.list ds)
  | lstK {a : Addr} {xs : List V} {ds : List PyData} : SqK K a xs → DnAll K N H xs ds → Dn K N H (.ref a) (.list ds)
  | tup {a : Addr} {xs : List V} {ds : List PyData} : SqT K H a xs → DnAll K N H xs ds → Dn K N H (.ref a) (.tuple ds)
  | dkk {a : Addr} {ws : List (Key × V)} {kvs : List (PyData × PyData)} : Rd H a (.dK ws) → ¬ N a → DnPs K N H (ws.map fun p => (kdat p.1, p.2)) kvs → Dn K N H (.ref a) (.dict kvs)
  | dkt {a : Addr} {ws : List (List Key × V)} {kvs : List (PyData × PyData)} : H a = some (.dT ws) → ¬ N a → DnPs K N H ((.none, .non) :: ws.map fun p => (tdat p.1, p.2)) kvs → Dn K N H (.ref a) (.dict kvs)
  | dkz {a : Addr} {od : Obj} {ws : List (Key × V)} {kvs : List (PyData × PyData)} : H a = some (.frz od (.dK ws)) → ¬ N a → DnPs K N H ((.bool false, .non) :: ws.map fun p => (kdat p.1, p.2)) kvs → Dn K N H (.ref a) (.dict kvs)
  | ins {a C dx : Addr} {fs : List (Str × V)} {kvs : List (PyData × PyData)} : H a = some (.ins C dx fs) → ¬ N a → DnPs K N H ((.bool true, .int (C : Int)) :: fs.map fun p => (.str p.1, p.2)) kvs → Dn K N H (.ref a) (.dict kvs)
  | ft {a : Addr} {o : Obj} {xs : List V} {kvs : List (PyData × PyData)} : H a = some (.frz o (.tup xs)) → o.dict = none → DnPs K N H [(.list [], .ref a)] kvs → Dn K N H (.ref a) (.dict kvs)
inductive DnAll (K : PySem.W.Frag) (N : Addr → Prop) (H : Hp) : List V → List PyData → Prop
  | nil : DnAll K N H [] []
  | cons {v : V} {vs : List V} {d : PyData} {ds : List PyData} : Dn K N H v d → DnAll K N H vs ds → DnAll K N H (v :: vs) (d :: ds)
inductive DnPs (K : PySem.W.Frag) (N : Addr → Prop) (H : Hp) : List (PyData × V) → List (PyData × PyData) → Prop
  | nil : DnPs K N H [] []
  | cons {k : PyData} {v : V} {vs : List (PyData × V)} {d : PyData} {ds : List (PyData × PyData)} : Dn K N H v d → DnPs K N H vs ds → DnPs K N H ((k, v) :: vs) ((k, d) :: ds)
end

/-- tuples, and tuples that are told by their object, stay -/
structure TP (K : PySem.W.Frag) (H H' : Hp) : Prop where
  t : ∀ a xs, SqT K H a xs → SqT K H' a xs
  f : ∀ a o xs, H a = some (.frz o (.tup xs)) → H' a = some (.frz o (.tup xs))
theorem TP.refl {K : PySem.W.Frag} {H : Hp} : TP K H H := ⟨fun _ _ r => r, fun _ _ _ r => r⟩
section
variable {K : PySem.W.Frag} {N N' : Addr → Prop} {H H' : Hp}
mutual
theorem Dn.go (hl : ∀ a u, Rd H a u → ¬ N a → Rd H' a u ∧ ¬ N' a) (hw : ∀ a u, H a = some u → ¬ N a → H' a = some u) (ht : TP K H H') : ∀ (d : PyData) (v : V), Dn K N H v d → Dn K N' H' v d
  | .none, _, h => by cases h; exact .non
  | .bool b, _, h => by cases h; exact .bl b
  | .int i, _, h => by cases h; exact .int i
  | .str x, _, h => by cases h; exact .str x
  | .list ds, _, h => by
    cases h with
    | lst r n a => exact .lst (hl _ _ r n).1 (hl _ _ r n).2 (DnAll.go hl hw ht ds _ a)
    | lstK r a => exact .lstK r (DnAll.go hl hw ht ds _ a)
  | .tuple ds, _, h => by
    cases h with
    | tup r a => exact .tup (ht.t _ _ r) (DnAll.go hl hw ht ds _ a)
  | .dict kvs, _, h => by
    cases h with
    | dkk r n a => exact .dkk (hl _ _ r n).1 (hl _ _ r n).2 (DnPs.go hl hw ht kvs _ a)
    | dkt r n a => exact .dkt (hw _ _ r n) (hl _ _ (Or.inl r) n).2 (DnPs.go hl hw ht kvs _ a)
    | dkz r n a => exact .dkz (hw _ _ r n) (hl _ _ (Or.inr ⟨_, r⟩) n).2 (DnPs.go hl hw ht kvs _ a)
    | ins r n a => exact .ins (hw _ _ r n) (hl _ _ (Or.inl r) n).2 (DnPs.go hl hw ht kvs _ a)
    | ft r n a => exact .ft (ht.f _ _ _ r) n (DnPs.go hl hw ht kvs _ a)
theorem DnAll.go (hl : ∀ a u, Rd H a u → ¬ N a → Rd H' a u ∧ ¬ N' a) (hw : ∀ a u, H a = some u → ¬ N a → H' a = some u) (ht : TP K H H') : ∀ (ds : List PyData) (vs : List V), DnAll K N H vs ds → DnAll K N' H' vs ds
  | [], _, h => by cases h; exact .nil
  | d :: ds, _, h => by
    cases h with
    | cons a b => exact .cons (Dn.go hl hw ht d _ a) (DnAll.go hl hw ht ds _ b)
theorem DnPs.go (hl : ∀ a u, Rd H a u → ¬ N a → Rd H' a u ∧ ¬ N' a) (hw : ∀ a u, H a = some u → ¬ N a → H' a = some u) (ht : TP K H H') : ∀ (ds : List (PyData × PyData)) (vs : List (PyData × V)), DnPs K N H vs ds → DnPs K N' H' vs ds
  | [], _, h => by cases h; exact .nil
  | (k, d) :: ds, _, h => by
    cases h with
    | cons a b => exact .cons (Dn.go hl hw ht d _ a) (DnPs.go hl hw ht ds _ b)
end
end
/-- the mark of a tuple that is told by its object -/
def isFt : PyData → Bool
  | .list [] => true
  | _ => false
mutual
/-- no list in it -/
def noList : PyData → Bool
  | .list _ => false
  | .tuple ds => noLists ds
  | .dict kvs => noListP kvs
  | _ => true
def noLists : List PyData → Bool
  | [] => true
  | d :: ds => noList d && noLists ds
def noListP : List (PyData × PyData) → Bool
  | [] => false
  | (k, d) :: ps => (isFt k && ps.isEmpty) && noList d
end
/-- the data of a tuple that is told by its object -/
def fT (ds : List PyData) : PyData := .dict [(.list [], .tuple ds)]
section
variable {K : PySem.W.Frag} {N N' : Addr → Prop} {H H' : Hp}
mutual
theorem Dn.goF (ht : TP K H H') : ∀ (d : PyData) (v : V), noList d = true → Dn K N H v d → Dn K N' H' v d
  | .none, _, _, h => by cases h; exact .non
  | .bool b, _, _, h => by cases h; exact .bl b
  | .int i, _, _, h => by cases h; exact .int i
  | .str x, _, _, h => by cases h; exact .str x
  | .list ds, _, q, _ => by simp [noList] at q
  | .tuple ds, _, q, h => by
    cases h with
    | tup r a => exact .tup (ht.t _ _ r) (DnAll.goF ht ds _ (by simpa [noList] using q) a)
  | .dict kvs, _, q, h => by
    have q : noListP kvs = true := by simpa [noList] using q
    cases h with
    | ft r n a => exact .ft (ht.f _ _ _ r) n (DnPs.goF ht kvs _ q a)
    | @dkk _ ws _ r n a =>
      cases ws with
      | nil => cases a; cases q
      | cons x ws =>
        rw [List.map_cons] at a
        generalize hk : kdat x.1 = kd at a
        cases a
        obtain ⟨k, y⟩ := x
        cases k <;> cases hk <;> simp [noListP, isFt, kdat] at q
    | dkt r n a => cases a; simp [noListP, isFt] at q
    | dkz r n a => cases a; simp [noListP, isFt] at q
    | ins r n a => cases a; simp [noListP, isFt] at q
theorem DnAll.goF (ht : TP K H H') : ∀ (ds : List PyData) (vs : List V), noLists ds = true → DnAll K N H vs ds → DnAll K N' H' vs ds
  | [], _, _, h => by cases h; exact .nil
  | d :: ds, _, q, h => by
    cases h with
    | cons a b =>
      have q' : noList d = true ∧ noLists ds = true := by simpa [noLists] using q
      exact .cons (Dn.goF ht d _ q'.1 a) (DnAll.goF ht ds _ q'.2 b)
theorem DnPs.goF (ht : TP K H H') : ∀ (ds : List (PyData × PyData)) (vs : List (PyData × V)), noListP ds = true → DnPs K N H vs ds → DnPs K N' H' vs ds
  | [], _, _, h => by cases h; exact .nil
  | (k, d) :: ps, _, q, h => by
    cases h with
    | cons a b =>
      have q' : (isFt k && ps.isEmpty) = true ∧ noList d = true := by simpa [noListP] using q
      have q1 := q'.2
      have q2 : ps = [] := by
        have := q'.1
        simp at this
        exact this.2
      subst q2
      cases b
      exact .cons (Dn.goF ht d _ q1 a) .nil
end
mutual
theorem Dn.dp : ∀ (d : PyData) (v : V), d.plain = true → Dn K N H v d → Dp K H v d
  | .none, _, _, h => by cases h; exact .non
  | .bool b, _, _, h => by cases h; exact .bl b
  | .int i, _, _, h => by cases h; exact .int i
  | .str x, _, _, h => by cases h; exact .str x
  | .list ds, _, q, h => by
    cases h with
    | lst r n a => exact .lst (Or.inl r) (DnAll.dp ds _ (by simpa [PyData.plain] using q) a)
    | lstK r a => exact .lst (Or.inr r) (DnAll.dp ds _ (by simpa [PyData.plain] using q) a)
  | .tuple ds, _, q, h => by
    cases h with
    | tup r a => exact .tup r (DnAll.dp ds _ (by simpa [PyData.plain] using q) a)
  | .dict _, _, q, _ => by simp [PyData.plain] at q
theorem DnAll.dp : ∀ (ds : List PyData) (vs : List V), PyData.plainAll ds = true → DnAll K N H vs ds → DpAll K H vs ds
  | [], _, _, h => by cases h; exact .nil
  | d :: ds, _, q, h => by
    cases h with
    | cons a b =>
      have q' : d.plain = true ∧ PyData.plainAll ds = true := by simpa [PyData.plainAll] using q
      exact .cons (Dn.dp d _ q'.1 a) (DnAll.dp ds _ q'.2 b)
end
theorem DnAll.length : ∀ {vs : List V} {ds : List PyData}, DnAll K N H vs ds → vs.length = ds.length
  | _, _, .nil => rfl
  | _, _, .cons _ t => congrArg (· + 1) (DnAll.length t)
theorem DnAll.get : ∀ {vs : List V} {ds : List PyData} {i : Nat} {d : PyData}, DnAll K N H vs ds → ds[i]? = some d → ∃ v, vs[i]? = some v ∧ Dn K N H v d
  | _, _, _, _, .nil, e => by simp at e
  | _, _, 0, _, .cons r _, e => by simp at e; subst e; exact ⟨_, rfl, r⟩
  | _, _, i + 1, _, .cons _ t, e => by
    obtain ⟨v, h1, h2⟩ := DnAll.get (i := i) t (by simpa using e)
    exact ⟨v, by simpa using h1, h2⟩
theorem DnAll.getV : ∀ {vs : List V} {ds : List PyData} {i : Nat} {v : V}, DnAll K N H vs ds → vs[i]? = some v → ∃ d, ds[i]? = some d ∧ Dn K N H v d
  | _, _, _, _, .nil, e => by simp at e
  | _, _, 0, _, .cons r _, e => by simp at e; subst e; exact ⟨_, rfl, r⟩
  | _, _, i + 1, _, .cons _ t, e => by
    obtain ⟨v, h1, h2⟩ := DnAll.getV (i := i) t (by simpa using e)
    exact ⟨v, by simpa using h1, h2⟩
theorem DnAll.append : ∀ {vs ws : List V} {ds es : List PyData}, DnAll K N H vs ds → DnAll K N H ws es → DnAll K N H (vs ++ ws) (ds ++ es)
  | _, _, _, _, .nil, s => s
  | _, _, _, _, .cons r t, s => .cons r (DnAll.append t s)
theorem DnAll.take : ∀ {vs : List V} {ds : List PyData} (n : Nat), DnAll K N H vs ds → DnAll K N H (vs.take n) (ds.take n)
  | _, _, 0, _ => .nil
  | _, _, _ + 1, .nil => .nil
  | _, _, n + 1, .cons r t => .cons r (DnAll.take n t)
theorem DnAll.drop : ∀ {vs : List V} {ds : List PyData} (n : Nat), DnAll K N H vs ds → DnAll K N H (vs.drop n) (ds.drop n)
  | _, _, 0, r => r
  | _, _, _ + 1, .nil => .nil
  | _, _, n + 1, .cons _ t => DnAll.drop n t
theorem DnAll.reverse : ∀ {vs : List V} {ds : List PyData}, DnAll K N H vs ds → DnAll K N H vs.reverse ds.reverse
  | _, _, .nil => .nil
  | _, _, .cons r t => by rw [List.reverse_cons, List.reverse_cons]; exact DnAll.append (DnAll.reverse t) (.cons r .nil)
theorem DnAll.ints : ∀ {vs : List V} {ns : List Int}, DnAll K N H vs (ns.map PyData.int) → vs = ns.map V.int
  | _, [], h => by cases h; rfl
  | _, n :: ns, h => by
    cases h with
    | cons a b => cases a; rw [DnAll.ints b]; rfl
end

/-! ### heaps -/
open Evl (Ex Ex.refl Ex.trans Ex.new)
end DL
theorem Evl.Ex.rd {H H' : L2.Hp} {a : PySem.Addr} {u : L2.HO} (e : Evl.Ex H H') (h : L2.Rd H a u) : L2.Rd H' a u := Evl.ex_rd e h
theorem Evl.Ex.sqt {K : PySem.W.Frag} {H H' : L2.Hp} {a : PySem.Addr} {xs : List L2.V} (e : Evl.Ex H H') (h : L2.SqT K H a xs) : L2.SqT K H' a xs := Evl.ex_t e h
theorem Evl.Ex.sql {K : PySem.W.Frag} {H H' : L2.Hp} {a : PySem.Addr} {xs : List L2.V} (e : Evl.Ex H H') (h : L2.SqL K H a xs) : L2.SqL K H' a xs := Evl.ex_l e h
theorem Evl.Ex.free {H H' : L2.Hp} {p : PySem.Addr} (e : Evl.Ex H H') (h : H' p = none) : H p = none := Evl.fresh_back e h
theorem Evl.Ex.some {H H' : L2.Hp} {p : PySem.Addr} (e : Evl.Ex H H') (h : H p ≠ none) : H' p ≠ none := fun z => h (e.free z)
namespace DL
open PySem L2
open Evl (Ex Ex.refl Ex.trans Ex.new)
theorem Dn.ext {K : PySem.W.Frag} {N : Addr → Prop} {H H' : Hp} {v : V} {d : PyData} (e : Ex H H') (h : Dn K N H v d) : Dn K N H' v d :=
  Dn.go (fun _ _ r n => ⟨e.rd r, n⟩) (fun a u r _ => e a u r) ⟨fun _ _ r => e.sqt r, fun _ _ _ r => e _ _ r⟩ d v h
theorem DnAll.ext {K : PySem.W.Frag} {N : Addr → Prop} {H H' : Hp} {v : List V} {d : List PyData} (e : Ex H H') (h : DnAll K N H v d) : DnAll K N H' v d :=
  DnAll.go (fun _ _ r n => ⟨e.rd r, n⟩) (fun a u r _ => e a u r) ⟨fun _ _ r => e.sqt r, fun _ _ _ r => e _ _ r⟩ d v h
theorem Dn.sub {K : PySem.W.Frag} {N N' : Addr → Prop} {H : Hp} {v : V} {d : PyData} (e : ∀ a, N' a → N a) (h : Dn K N H v d) : Dn K N' H v d :=
  Dn.go (fun _ _ r n => ⟨r, fun z => n (e _ z)⟩) (fun _ _ r _ => r) TP.refl d v h
theorem DnAll.sub {K : PySem.W.Frag} {N N' : Addr → Prop} {H : Hp} {v : List V} {d : List PyData} (e : ∀ a, N' a → N a) (h : DnAll K N H v d) : DnAll K N' H v d :=
  DnAll.go (fun _ _ r n => ⟨r, fun z => n (e _ z)⟩) (fun _ _ r _ => r) TP.refl d v h
theorem Rd.some {H : Hp} {a : Addr} {u : HO} (h : Rd H a u) : H a ≠ none := by
  rcases h with h | ⟨o, h⟩
  · rw [h]; exact fun z => nomatch z
  · rw [h]; exact fun z => nomatch z
/-- an address that is free is not met -/
theorem Dn.add {K : PySem.W.Frag} {N : Addr → Prop} {H : Hp} {v : V} {d : PyData} {p : Addr} (hp : H p = none) (h : Dn K N H v d) : Dn K (fun a => N a ∨ a = p) H v d :=
  Dn.go (fun a _ r n => ⟨r, fun z => z.elim n fun q => by subst q; exact Rd.some r hp⟩) (fun _ _ r _ => r) TP.refl d v h
/-- what is no tuple and is not frozen, or is a locked dict -/
def Wr : HO → Bool
  | .tup _ => false
  | .frz _ (.dK _) => true
  | .frz _ _ => false
  | _ => true
theorem mut_t {K : PySem.W.Frag} {H : Hp} {p : Addr} {o o' : HO} (hp : H p = some o) (hw : Wr o = true) : ∀ a xs, SqT K H a xs → SqT K (upd H p o') a xs := by
  intro a xs h
  rcases h with (h | ⟨u, h⟩) | h
  · refine Or.inl (Or.inl ?_)
    rw [upd_ne]
    · exact h
    · intro z; subst z; rw [hp] at h; cases h; cases hw
  · refine Or.inl (Or.inr ⟨u, ?_⟩)
    rw [upd_ne]
    · exact h
    · intro z; subst z; rw [hp] at h; cases h; cases hw
  · exact Or.inr h
theorem mut_f {H : Hp} {p : Addr} {o o' : HO} (hp : H p = some o) (hw : Wr o = true) : ∀ a u xs, H a = some (.frz u (.tup xs)) → upd H p o' a = some (.frz u (.tup xs)) := by
  intro a u xs h
  rw [upd_ne]
  · exact h
  · intro z; subst z; rw [hp] at h; cases h; cases hw
theorem Dn.mut {K : PySem.W.Frag} {N : Addr → Prop} {H : Hp} {v : V} {d : PyData} {p : Addr} {o o' : HO} (hp : H p = some o) (hw : Wr o = true) (hn : N p) (h : Dn K N H v d) : Dn K N (upd H p o') v d := by
  refine Dn.go (fun a xs r n => ⟨?_, n⟩) (fun a u r n => by rw [upd_ne (show a ≠ p from fun z => n (z ▸ hn))]; exact r) ⟨mut_t hp hw, mut_f hp hw⟩ d v h
  have ne : a ≠ p := fun z => n (z ▸ hn)
  rcases r with r | ⟨u, r⟩
  · exact Or.inl (by rw [upd_ne ne]; exact r)
  · exact Or.inr ⟨u, by rw [upd_ne ne]; exact r⟩
theorem DnAll.mut {K : PySem.W.Frag} {N : Addr → Prop} {H : Hp} {v : List V} {d : List PyData} {p : Addr} {o o' : HO} (hp : H p = some o) (hw : Wr o = true) (hn : N p) (h : DnAll K N H v d) : DnAll K N (upd H p o') v d := by
  refine DnAll.go (fun a xs r n => ⟨?_, n⟩) (fun a u r n => by rw [upd_ne (show a ≠ p from fun z => n (z ▸ hn))]; exact r) ⟨mut_t hp hw, mut_f hp hw⟩ d v h
  have ne : a ≠ p := fun z => n (z ▸ hn)
  rcases r with r | ⟨u, r⟩
  · exact Or.inl (by rw [upd_ne ne]; exact r)
  · exact Or.inr ⟨u, by rw [upd_ne ne]; exact r⟩

/-! ### the symbolic store -/
/-- an instance that is only read: its fields stand for the data m -/
def ObOk (K : PySem.W.Frag) (N : Addr → Prop) (H : Hp) (v : V) (C : Addr) (m : List (Str × PyData)) : Prop := ∃ (a dx : Addr) (fs : List (Str × V)), v = .ref a ∧ H a = some (.ins C dx fs) ∧ ¬ N a ∧ Paired (fun (p : Str × V) (q : Str × PyData) => p.1 = q.1 ∧ Dn K N H p.2 q.2) fs m
/-- a dict of data that no one writes any more -/
def ZOk (K : PySem.W.Frag) (N : Addr → Prop) (H : Hp) (v : V) (m : List (Key × PyData)) : Prop := ∃ (a : Addr) (dx : Obj) (fs : List (Key × V)), v = .ref a ∧ H a = some (.frz dx (.dK fs)) ∧ ¬ N a ∧ Paired (fun (p : Key × V) (q : Key × PyData) => p.1 = q.1 ∧ Dn K N H p.2 q.2) fs m
/-- an object that stays as it is and is none of the store's -/
def TOk (N : Addr → Prop) (H : Hp) (v : V) (u : HO) : Prop := ∃ b, v = .ref b ∧ H b = some u ∧ (Wr u = false ∨ ¬ N b)
/-- a value: data, or the k-th object of the store -/
inductive SV where
  | i (d : PyData)
  | r (k : Nat)
  | t (u : HO)
  | ob (C : Addr) (m : List (Str × PyData))
  | z (m : List (Key × PyData))
/-- what stands where a dict is locked -/
def LkO : Type := Unit → Obj × List (Key × V)
def LkO.od (l : LkO) : Obj := (l ()).1
def LkO.ws (l : LkO) : List (Key × V) := (l ()).2
def LkO.ho (l : LkO) : HO := .frz l.od (.dK l.ws)
def LkO.mk (od : Obj) (ws : List (Key × V)) : LkO := fun _ => (od, ws)
/-- an object of the store; x: forgotten -/
inductive SO where
  | x
  | lst (xs : List SV)
  | dK (kvs : List (Key × SV))
  | dT (kvs : List (List Key × SV))
  | ho (f : Addr → HO)
  | nums
  | stt (k : Nat)
  | ob (C : Addr) (fs : List (Str × SV))
  | lk (lo : LkO) (kvs : List (Key × SV))
  | tb (P : Addr)
/-- neither locked nor told by its object -/
def SO.noZ : SO → Bool
  | .lk .. => false
  | .ho _ => false
  | _ => true
def SO.live : SO → Bool
  | .x => false
  | _ => true
abbrev Sy := List (Option SV)
def SvOk (K : PySem.W.Frag) (N : Addr → Prop) (ad : Nat → Addr) (n : Nat) (H : Hp) (v : V) : SV → Prop
  | .i d => Dn K N H v d
  | .t u => TOk N H v u
  | .ob C m => ObOk K N H v C m
  | .z m => ZOk K N H v m
  | .r k => v = .ref (ad k) ∧ k < n
def SoOk (K : PySem.W.Frag) (N : Addr → Prop) (ad : Nat → Addr) (n : Nat) (H : Hp) (l : Addr) : SO → Prop
  | .x => True
  | .lst xs => ∃ vs, H l = some (.lst vs) ∧ Paired (SvOk K N ad n H) vs xs
  | .dK kvs => ∃ ws, H l = some (.dK ws) ∧ Paired (fun (p : Key × V) (q : Key × SV) => p.1 = q.1 ∧ SvOk K N ad n H p.2 q.2) ws kvs
  | .dT kvs => ∃ ws, H l = some (.dT ws) ∧ Paired (fun (p : List Key × V) (q : List Key × SV) => p.1 = q.1 ∧ SvOk K N ad n H p.2 q.2) ws kvs
  | .ho f => H l = some (f l) ∧ Wr (f l) = true
  | .tb P => l = P ∧ ∃ ps : Array Value, H l = some (.tbl ps) ∧ PySem.TriplesOk ps.toList ∧ ∀ (pos : Pos) (cv : Value), codeAmong pos ps.toList = some cv → ∃ c, cv = .ref c
  | .nums => ∃ ns : List Int, H l = some (.lst (ns.map V.int))
  | .stt k => ∃ (v : V) (a m : Int), H l = some (.lst [v, .int a, .int m]) ∧ SvOk K N ad n H v (.r k)
  | .lk lo kvs => H l = some lo.ho ∧ Paired (fun (p : Key × V) (q : Key × SV) => p.1 = q.1 ∧ SvOk K N ad n H p.2 q.2) lo.ws kvs
  | .ob C fs => ∃ (dx : Addr) (vs : List (Str × V)), H l = some (.ins C dx vs) ∧ Paired (fun (p : Str × V) (q : Str × SV) => p.1 = q.1 ∧ SvOk K N ad n H p.2 q.2) vs fs

structure Cn where
  K : PySem.W.Frag
  H0 : Hp
  N0 : Addr → Prop
  M : Addr → Prop := fun _ => False
  fr : List (V × SV) := []
  lo : Nat := 0
def Lv (os : List SO) (k : Nat) : Prop := ∃ o, os[k]? = some o ∧ o.live = true
def Nof (c : Cn) (ad : Nat → Addr) (os : List SO) : Addr → Prop := fun a => c.N0 a ∨ ∃ k, Lv os k ∧ a = ad k
structure Ok (c : Cn) (ad : Nat → Addr) (env : Sy) (os : List SO) (σ : St) (H : Hp) : Prop where
  len : σ.length = env.length
  ex : ∀ a o, c.H0 a = some o → ¬ c.M a → H a = some o
  n0 : ∀ a, c.N0 a → H a ≠ none
  val : ∀ (i : Nat) s, env[i]? = some (some s) → ∃ v, σ[i]? = some (some v) ∧ SvOk c.K (Nof c ad os) ad os.length H v s
  obj : ∀ (k : Nat) o, os[k]? = some o → o.live = true → (c.H0 (ad k) = none ∨ c.M (ad k)) ∧ SoOk c.K (Nof c ad os) ad os.length H (ad k) o
  inj : ∀ k j, Lv os k → Lv os j → ad k = ad j → k = j
  nn : ∀ k, Lv os k → ¬ c.N0 (ad k)
  frm : ∀ p ∈ c.fr, SvOk c.K (Nof c ad os) ad c.lo H p.1 p.2
  low : c.lo ≤ os.length

section
variable {c : Cn} {ad : Nat → Addr} {env : Sy} {os : List SO} {σ : St} {H H' : Hp}
theorem Paired.imp {α β : Type} {F G : α → β → Prop} : ∀ {l₁ : List α} {l₂ : List β}, Paired F l₁ l₂ → (∀ a b, F a b → G a b) → Paired G l₁ l₂
  | _, _, .nil, _ => .nil
  | _, _, .cons r t, f => .cons (f _ _ r) (Paired.imp t f)
theorem ObOk.ext {K : PySem.W.Frag} {N : Addr → Prop} {v : V} {C : Addr} {m : List (Str × PyData)} (e : Ex H H') (h : ObOk K N H v C m) : ObOk K N H' v C m := by
  obtain ⟨a, dx, fs, h1, h2, h3, h4⟩ := h
  exact ⟨a, dx, fs, h1, e _ _ h2, h3, Paired.imp h4 fun _ _ z => ⟨z.1, Dn.ext e z.2⟩⟩
theorem ObOk.sub {K : PySem.W.Frag} {N N' : Addr → Prop} {v : V} {C : Addr} {m : List (Str × PyData)} (e : ∀ a, N' a → N a) (h : ObOk K N H v C m) : ObOk K N' H v C m := by
  obtain ⟨a, dx, fs, h1, h2, h3, h4⟩ := h
  exact ⟨a, dx, fs, h1, h2, fun z => h3 (e _ z), Paired.imp h4 fun _ _ z => ⟨z.1, Dn.sub e z.2⟩⟩
theorem ObOk.mut {K : PySem.W.Frag} {N : Addr → Prop} {v : V} {C : Addr} {m : List (Str × PyData)} {p : Addr} {o o' : HO} (hp : H p = some o) (hw : Wr o = true) (hn : N p) (h : ObOk K N H v C m) : ObOk K N (upd H p o') v C m := by
  obtain ⟨a, dx, fs, h1, h2, h3, h4⟩ := h
  exact ⟨a, dx, fs, h1, by rw [upd_ne (show a ≠ p from fun z => h3 (z ▸ hn))]; exact h2, h3, Paired.imp h4 fun _ _ z => ⟨z.1, Dn.mut hp hw hn z.2⟩⟩
theorem ObOk.add {K : PySem.W.Frag} {N : Addr → Prop} {v : V} {C : Addr} {m : List (Str × PyData)} {p : Addr} (hp : H p = none) (h : ObOk K N H v C m) : ObOk K (fun a => N a ∨ a = p) H v C m := by
  obtain ⟨a, dx, fs, h1, h2, h3, h4⟩ := h
  refine ⟨a, dx, fs, h1, h2, fun z => z.elim h3 fun z => ?_, Paired.imp h4 fun _ _ z => ⟨z.1, Dn.add hp z.2⟩⟩
  rw [z, hp] at h2
  cases h2
theorem ZOk.ext {K : PySem.W.Frag} {N : Addr → Prop} {v : V} {m : List (Key × PyData)} (e : Ex H H') (h : ZOk K N H v m) : ZOk K N H' v m := by
  obtain ⟨a, dx, fs, h1, h2, h3, h4⟩ := h
  exact ⟨a, dx, fs, h1, e _ _ h2, h3, Paired.imp h4 fun _ _ z => ⟨z.1, Dn.ext e z.2⟩⟩
theorem ZOk.sub {K : PySem.W.Frag} {N N' : Addr → Prop} {v : V} {m : List (Key × PyData)} (e : ∀ a, N' a → N a) (h : ZOk K N H v m) : ZOk K N' H v m := by
  obtain ⟨a, dx, fs, h1, h2, h3, h4⟩ := h
  exact ⟨a, dx, fs, h1, h2, fun z => h3 (e _ z), Paired.imp h4 fun _ _ z => ⟨z.1, Dn.sub e z.2⟩⟩
theorem ZOk.mut {K : PySem.W.Frag} {N : Addr → Prop} {v : V} {m : List (Key × PyData)} {p : Addr} {o o' : HO} (hp : H p = some o) (hw : Wr o = true) (hn : N p) (h : ZOk K N H v m) : ZOk K N (upd H p o') v m := by
  obtain ⟨a, dx, fs, h1, h2, h3, h4⟩ := h
  exact ⟨a, dx, fs, h1, by rw [upd_ne (show a ≠ p from fun z => h3 (z ▸ hn))]; exact h2, h3, Paired.imp h4 fun _ _ z => ⟨z.1, Dn.mut hp hw hn z.2⟩⟩
theorem ZOk.add {K : PySem.W.Frag} {N : Addr → Prop} {v : V} {m : List (Key × PyData)} {p : Addr} (hp : H p = none) (h : ZOk K N H v m) : ZOk K (fun a => N a ∨ a = p) H v m := by
  obtain ⟨a, dx, fs, h1, h2, h3, h4⟩ := h
  refine ⟨a, dx, fs, h1, h2, fun z => z.elim h3 fun z => ?_, Paired.imp h4 fun _ _ z => ⟨z.1, Dn.add hp z.2⟩⟩
  rw [z, hp] at h2
  cases h2
theorem TOk.ext {N : Addr → Prop} {v : V} {u : HO} (e : Ex H H') (h : TOk N H v u) : TOk N H' v u := by
  obtain ⟨b, e1, e2, e3⟩ := h
  exact ⟨b, e1, e _ _ e2, e3⟩
theorem TOk.sub {N N' : Addr → Prop} {v : V} {u : HO} (e : ∀ a, N' a → N a) (h : TOk N H v u) : TOk N' H v u := by
  obtain ⟨b, e1, e2, e3⟩ := h
  exact ⟨b, e1, e2, e3.imp id fun e3 z => e3 (e _ z)⟩
theorem TOk.mut {N : Addr → Prop} {v : V} {u : HO} {p : Addr} {o o' : HO} (hp : H p = some o) (hw : Wr o = true) (hn : N p) (h : TOk N H v u) : TOk N (upd H p o') v u := by
  obtain ⟨b, e1, e2, e3⟩ := h
  exact ⟨b, e1, by rw [upd_ne (show b ≠ p from fun z => e3.elim (fun y => by subst z; rw [hp] at e2; cases e2; rw [hw] at y; cases y) fun y => y (z ▸ hn))]; exact e2, e3⟩
theorem TOk.add {N : Addr → Prop} {v : V} {u : HO} {p : Addr} (hp : H p = none) (h : TOk N H v u) : TOk (fun a => N a ∨ a = p) H v u := by
  obtain ⟨b, e1, e2, e3⟩ := h
  refine ⟨b, e1, e2, e3.imp id fun e3 z => z.elim e3 fun z => ?_⟩
  rw [z, hp] at e2
  cases e2
theorem SvOk.ext {K : PySem.W.Frag} {N : Addr → Prop} {n : Nat} {v : V} {s : SV} (e : Ex H H') (h : SvOk K N ad n H v s) : SvOk K N ad n H' v s := by
  cases s with
  | i d => exact Dn.ext e h
  | t ks => exact TOk.ext e h
  | ob C m => exact ObOk.ext e h
  | z m => exact ZOk.ext e h
  | r k => exact h
theorem SvOk.sub {K : PySem.W.Frag} {N N' : Addr → Prop} {n : Nat} {v : V} {s : SV} (e : ∀ a, N' a → N a) (h : SvOk K N ad n H v s) : SvOk K N' ad n H v s := by
  cases s with
  | i d => exact Dn.sub e h
  | t ks => exact TOk.sub e h
  | ob C m => exact ObOk.sub e h
  | z m => exact ZOk.sub e h
  | r k => exact h
theorem SvOk.mut {K : PySem.W.Frag} {N : Addr → Prop} {n : Nat} {v : V} {s : SV} {p : Addr} {o o' : HO} (hp : H p = some o) (hw : Wr o = true) (hn : N p) (h : SvOk K N ad n H v s) : SvOk K N ad n (upd H p o') v s := by
  cases s with
  | i d => exact Dn.mut hp hw hn h
  | ob C m => exact ObOk.mut hp hw hn h
  | z m => exact ZOk.mut hp hw hn h
  | t ks => exact TOk.mut hp hw hn h
  | r k => exact h
theorem SoOk.map {K : PySem.W.Frag} {N N' : Addr → Prop} {ad ad' : Nat → Addr} {n n' : Nat} {l : Addr} {o : SO} (f : ∀ v s, SvOk K N ad n H v s → SvOk K N' ad' n' H' v s) (hl : ∀ u, H l = some u → H' l = some u) (h : SoOk K N ad n H l o) : SoOk K N' ad' n' H' l o := by
  cases o with
  | x => exact True.intro
  | lst xs => obtain ⟨vs, e, p⟩ := h; exact ⟨vs, hl _ e, Paired.imp p f⟩
  | dK kvs => obtain ⟨vs, e, p⟩ := h; exact ⟨vs, hl _ e, Paired.imp p fun a b q => ⟨q.1, f _ _ q.2⟩⟩
  | dT kvs => obtain ⟨vs, e, p⟩ := h; exact ⟨vs, hl _ e, Paired.imp p fun a b q => ⟨q.1, f _ _ q.2⟩⟩
  | ho g => exact ⟨hl _ h.1, h.2⟩
  | tb P => obtain ⟨e, ps, e1, e2⟩ := h; exact ⟨e, ps, hl _ e1, e2⟩
  | nums => obtain ⟨ns, e⟩ := h; exact ⟨ns, hl _ e⟩
  | lk lo kvs => exact ⟨hl _ h.1, Paired.imp h.2 fun a b q => ⟨q.1, f _ _ q.2⟩⟩
  | stt k => obtain ⟨v, a, m, e, r⟩ := h; exact ⟨v, a, m, hl _ e, f _ _ r⟩
  | ob C fs => obtain ⟨dx, vs, e, p⟩ := h; exact ⟨dx, vs, hl _ e, Paired.imp p fun a b q => ⟨q.1, f _ _ q.2⟩⟩
theorem SoOk.some {K : PySem.W.Frag} {N : Addr → Prop} {n : Nat} {l : Addr} {o : SO} (h : SoOk K N ad n H l o) (hl : o.live = true) : ∃ u, H l = some u ∧ Wr u = true := by
  cases o with
  | lk lo kvs => exact ⟨_, h.1, rfl⟩
  | x => cases hl
  | lst xs => obtain ⟨vs, e, p⟩ := h; exact ⟨_, e, rfl⟩
  | dK kvs => obtain ⟨vs, e, p⟩ := h; exact ⟨_, e, rfl⟩
  | dT kvs => obtain ⟨vs, e, p⟩ := h; exact ⟨_, e, rfl⟩
  | ho g => exact ⟨_, h.1, h.2⟩
  | tb P => obtain ⟨e, ps, e1, e2⟩ := h; exact ⟨_, e1, rfl⟩
  | nums => obtain ⟨ns, e⟩ := h; exact ⟨_, e, rfl⟩
  | stt k => obtain ⟨v, a, m, e, r⟩ := h; exact ⟨_, e, rfl⟩
  | ob C fs => obtain ⟨dx, vs, e, p⟩ := h; exact ⟨_, e, rfl⟩
theorem Ok.nof (ok : Ok c ad env os σ H) {a : Addr} (h : Nof c ad os a) : H a ≠ none := by
  rcases h with h | ⟨k, ⟨o, e, l⟩, rfl⟩
  · exact ok.n0 a h
  · obtain ⟨u, q, _⟩ := (ok.obj k o e l).2.some l
    rw [q]; exact fun z => nomatch z
theorem Ok.ext (ok : Ok c ad env os σ H) (e : Ex H H') : Ok c ad env os σ H' where
  len := ok.len
  ex := fun a o h m => e a o (ok.ex a o h m)
  n0 := fun a h => e.some (ok.n0 a h)
  val := fun i s h => let ⟨v, h1, h2⟩ := ok.val i s h; ⟨v, h1, h2.ext e⟩
  obj := fun k o h l => let ⟨h1, h2⟩ := ok.obj k o h l; ⟨h1, h2.map (fun _ _ q => q.ext e) fun u q => e _ _ q⟩
  inj := ok.inj
  nn := ok.nn
  frm := fun p hp => (ok.frm p hp).ext e
  low := ok.low
theorem Ok.set {i : Nat} {v : V} {s : SV} (ok : Ok c ad env os σ H) (h : SvOk c.K (Nof c ad os) ad os.length H v s) : Ok c ad (env.set i (some s)) os (σ.set i (some v)) H where
  len := by simp [ok.len]
  ex := ok.ex
  n0 := ok.n0
  val := fun j t e => by
    by_cases q : i = j
    · subst q
      by_cases hi : i < env.length
      · rw [List.getElem?_set_self hi] at e
        have e' : s = t := Option.some.inj (Option.some.inj e)
        subst e'
        exact ⟨v, List.getElem?_set_self (by rw [ok.len]; exact hi), h⟩
      · rw [List.getElem?_eq_none (by simp; omega)] at e
        cases e
    · rw [List.getElem?_set_ne q] at e
      obtain ⟨w, h1, h2⟩ := ok.val j t e
      exact ⟨w, by rw [List.getElem?_set_ne q]; exact h1, h2⟩
  obj := ok.obj
  inj := ok.inj
  nn := ok.nn
  frm := ok.frm
  low := ok.low
/-- a slot is forgotten -/
theorem Ok.setU {i : Nat} {v : Option V} (ok : Ok c ad env os σ H) : Ok c ad (env.set i none) os (σ.set i v) H where
  len := by simp [ok.len]
  ex := ok.ex
  n0 := ok.n0
  val := fun j t e => by
    by_cases q : i = j
    · subst q
      by_cases hi : i < env.length
      · rw [List.getElem?_set_self hi] at e
        cases Option.some.inj e
      · rw [List.getElem?_eq_none (by simp; omega)] at e
        cases e
    · rw [List.getElem?_set_ne q] at e
      obtain ⟨w, h1, h2⟩ := ok.val j t e
      exact ⟨w, by rw [List.getElem?_set_ne q]; exact h1, h2⟩
  obj := ok.obj
  inj := ok.inj
  nn := ok.nn
  frm := ok.frm
  low := ok.low

/-! ### more in the store -/
def adN (ad : Nat → Addr) (n : Nat) (p : Addr) : Nat → Addr := fun j => if j = n then p else ad j
theorem adN_same {n : Nat} {p : Addr} : adN ad n p n = p := by unfold adN; rw [if_pos rfl]
theorem adN_ne {n j : Nat} {p : Addr} (h : j ≠ n) : adN ad n p j = ad j := by unfold adN; rw [if_neg h]
theorem SvOk.adN {K : PySem.W.Frag} {N : Addr → Prop} {n : Nat} {v : V} {s : SV} {p : Addr} (h : SvOk K N ad n H v s) : SvOk K N (adN ad n p) (n + 1) H v s := by
  cases s with
  | i d => exact h
  | t ks => exact h
  | ob C m => exact h
  | z m => exact h
  | r k => exact ⟨by rw [adN_ne (by have := h.2; omega)]; exact h.1, by have := h.2; omega⟩
theorem Lv_app {o : SO} {k : Nat} (h : Lv (os ++ [o]) k) : (Lv os k ∧ k < os.length) ∨ (k = os.length ∧ o.live = true) := by
  obtain ⟨u, e, l⟩ := h
  by_cases hk : k < os.length
  · rw [List.getElem?_append_left hk] at e
    exact Or.inl ⟨⟨u, e, l⟩, hk⟩
  · have hk2 : k = os.length := by
      have := (List.getElem?_eq_some_iff.mp e).1
      simp at this
      omega
    subst hk2
    rw [List.getElem?_append_right (Nat.le_refl _)] at e
    simp at e
    subst e
    exact Or.inr ⟨rfl, l⟩
theorem Nof_app {o : SO} {p : Addr} {a : Addr} (h : Nof c (adN ad os.length p) (os ++ [o]) a) : Nof c ad os a ∨ a = p := by
  rcases h with h | ⟨k, l, e⟩
  · exact Or.inl (Or.inl h)
  · rcases Lv_app l with ⟨l', hk⟩ | ⟨rfl, _⟩
    · rw [adN_ne (by omega)] at e
      exact Or.inl (Or.inr ⟨k, l', e⟩)
    · rw [adN_same] at e
      exact Or.inr e
/-- a new object -/
theorem Ok.new {o : SO} {p : Addr} (ok : Ok c ad env os σ H) (hp : H p = none) (e : Ex H H') (h0 : c.H0 p = none ∨ c.M p)
    (ho : SoOk c.K (fun a => Nof c ad os a ∨ a = p) ad os.length H' p o) : Ok c (adN ad os.length p) env (os ++ [o]) σ H' := by
  have hN : ∀ a, Nof c (adN ad os.length p) (os ++ [o]) a → Nof c ad os a ∨ a = p := fun a h => Nof_app h
  have hv : ∀ v s, SvOk c.K (Nof c ad os) ad os.length H v s → SvOk c.K (Nof c (adN ad os.length p) (os ++ [o])) (adN ad os.length p) (os ++ [o]).length H' v s := fun v s h => by
    have h1 : SvOk c.K (Nof c (adN ad os.length p) (os ++ [o])) ad os.length H' v s := by
      cases s with
      | i d => exact ((Dn.add hp h).sub hN).ext e
      | t ks => exact ((TOk.add hp h).sub hN).ext e
      | ob C m => exact ((ObOk.add hp h).sub hN).ext e
      | z m => exact ((ZOk.add hp h).sub hN).ext e
      | r k => exact h
    have h2 := h1.adN (p := p)
    simpa using h2
  have hv2 : ∀ v s, SvOk c.K (fun a => Nof c ad os a ∨ a = p) ad os.length H' v s → SvOk c.K (Nof c (adN ad os.length p) (os ++ [o])) (adN ad os.length p) (os ++ [o]).length H' v s := fun v s h => by
    have h2 := (h.sub hN).adN (p := p)
    simpa using h2
  refine ⟨ok.len, fun a u h m => e a u (ok.ex a u h m), fun a h => e.some (ok.n0 a h), fun i s h => ?_, fun k u h l => ?_, fun k j hk hj q => ?_, fun k hk => ?_, fun q hq => ?_, Nat.le_trans ok.low (by simp)⟩
  · obtain ⟨v, h1, h2⟩ := ok.val i s h
    exact ⟨v, h1, hv v s h2⟩
  · rcases Lv_app ⟨u, h, l⟩ with ⟨⟨u', e', l'⟩, hk⟩ | ⟨rfl, lo⟩
    · rw [List.getElem?_append_left hk] at h
      rw [adN_ne (by omega)]
      obtain ⟨h1, h2⟩ := ok.obj k u h l
      exact ⟨h1, h2.map hv fun w q => e _ _ q⟩
    · rw [List.getElem?_append_right (Nat.le_refl _)] at h
      simp at h
      subst h
      rw [adN_same]
      exact ⟨h0, ho.map hv2 fun w q => q⟩
  · rcases Lv_app hk with ⟨lk, hk'⟩ | ⟨rfl, _⟩
    · rcases Lv_app hj with ⟨lj, hj'⟩ | ⟨rfl, _⟩
      · rw [adN_ne (by omega), adN_ne (by omega)] at q
        exact ok.inj k j lk lj q
      · rw [adN_ne (by omega), adN_same] at q
        exact absurd hp (ok.nof (Or.inr ⟨k, lk, q.symm⟩))
    · rcases Lv_app hj with ⟨lj, hj'⟩ | ⟨rfl, _⟩
      · rw [adN_same, adN_ne (by omega)] at q
        exact absurd hp (ok.nof (Or.inr ⟨j, lj, q⟩))
      · rfl
  · rcases Lv_app hk with ⟨lk, hk'⟩ | ⟨rfl, _⟩
    · rw [adN_ne (by omega)]
      exact ok.nn k lk
    · rw [adN_same]
      intro z
      exact ok.n0 p z hp
  · have hf := ok.frm q hq
    obtain ⟨q1, q2⟩ := q
    cases q2 with
    | i d => exact ((Dn.add hp hf).sub hN).ext e
    | t ks => exact ((TOk.add hp hf).sub hN).ext e
    | ob C m => exact ((ObOk.add hp hf).sub hN).ext e
    | z m => exact ((ZOk.add hp hf).sub hN).ext e
    | r k => exact ⟨by rw [adN_ne (by have h1 := hf.2; have h2 := ok.low; omega)]; exact hf.1, hf.2⟩
theorem Lv_set {o o' : SO} {k j : Nat} (h0 : os[k]? = some o) (l0 : o.live = true) (l : o'.live = true) : Lv (os.set k o') j ↔ Lv os j := by
  constructor
  · rintro ⟨u, e, hu⟩
    by_cases q : k = j
    · subst q; exact ⟨o, h0, l0⟩
    · rw [List.getElem?_set_ne q] at e; exact ⟨u, e, hu⟩
  · rintro ⟨u, e, hu⟩
    by_cases q : k = j
    · subst q; exact ⟨o', List.getElem?_set_self (List.getElem?_eq_some_iff.mp h0).1, l⟩
    · exact ⟨u, by rw [List.getElem?_set_ne q]; exact e, hu⟩
theorem Nof_set {o o' : SO} {k : Nat} (h0 : os[k]? = some o) (l0 : o.live = true) (l : o'.live = true) : Nof c ad (os.set k o') = Nof c ad os := by
  funext a
  refine propext ⟨fun h => ?_, fun h => ?_⟩
  · rcases h with h | ⟨j, lj, e⟩
    · exact Or.inl h
    · exact Or.inr ⟨j, (Lv_set h0 l0 l).mp lj, e⟩
  · rcases h with h | ⟨j, lj, e⟩
    · exact Or.inl h
    · exact Or.inr ⟨j, (Lv_set h0 l0 l).mpr lj, e⟩
/-- an object of the store is changed -/
theorem Ok.mut {o o' : SO} {k : Nat} {u' : HO} (ok : Ok c ad env os σ H) (h0 : os[k]? = some o) (l0 : o.live = true) (l : o'.live = true)
    (ho : SoOk c.K (Nof c ad os) ad os.length (upd H (ad k) u') (ad k) o') : Ok c ad env (os.set k o') σ (upd H (ad k) u') := by
  obtain ⟨hk0, hk1⟩ := ok.obj k o h0 l0
  obtain ⟨u, eu, wu⟩ := hk1.some l0
  have hN : Nof c ad os (ad k) := Or.inr ⟨k, ⟨o, h0, l0⟩, rfl⟩
  have hv : ∀ v s, SvOk c.K (Nof c ad os) ad os.length H v s → SvOk c.K (Nof c ad (os.set k o')) ad (os.set k o').length (upd H (ad k) u') v s := fun v s h => by
    rw [Nof_set h0 l0 l, List.length_set]
    exact h.mut eu wu hN
  refine ⟨ok.len, fun a w h m => ?_, fun a h => ?_, fun i s h => ?_, fun j w h lw => ?_, fun i j hi hj q => ok.inj i j ((Lv_set h0 l0 l).mp hi) ((Lv_set h0 l0 l).mp hj) q, fun j hj => ok.nn j ((Lv_set h0 l0 l).mp hj), fun q hq => ?_, by rw [List.length_set]; exact ok.low⟩
  · by_cases q : a = ad k
    · subst q
      rcases hk0 with z | z
      · rw [z] at h; cases h
      · exact absurd z m
    · rw [upd_ne q]; exact ok.ex a w h m
  · by_cases q : a = ad k
    · rw [q, upd_same]; exact fun z => nomatch z
    · rw [upd_ne q]; exact ok.n0 a h
  · obtain ⟨v, h1, h2⟩ := ok.val i s h
    exact ⟨v, h1, hv v s h2⟩
  · by_cases q : k = j
    · subst q
      rw [List.getElem?_set_self (List.getElem?_eq_some_iff.mp h0).1] at h
      cases h
      rw [Nof_set h0 l0 l, List.length_set]
      exact ⟨hk0, ho⟩
    · rw [List.getElem?_set_ne q] at h
      obtain ⟨h1, h2⟩ := ok.obj j w h lw
      refine ⟨h1, h2.map hv fun x hx => ?_⟩
      rw [upd_ne]
      · exact hx
      · intro z
        exact q (ok.inj k j ⟨o, h0, l0⟩ ⟨w, h, lw⟩ z.symm)
  · rw [Nof_set h0 l0 l]
    exact (ok.frm q hq).mut eu wu hN

/-! ### less known -/
def WkE : Sy → Sy → Prop
  | [], [] => True
  | s :: e, t :: e' => (t = none ∨ s = t) ∧ WkE e e'
  | _, _ => False
def WkO : List SO → List SO → Prop
  | _, [] => True
  | o :: r, o' :: r' => (o' = .x ∨ o = o') ∧ WkO r r'
  | [], _ :: _ => False
theorem WkE.len : ∀ {e e' : Sy}, WkE e e' → e.length = e'.length
  | [], [], _ => rfl
  | _ :: _, _ :: _, h => congrArg (· + 1) (WkE.len h.2)
theorem WkE.get : ∀ {e e' : Sy} {i : Nat} {s : SV}, WkE e e' → e'[i]? = some (some s) → e[i]? = some (some s)
  | [], [], _, _, _, q => by simp at q
  | a :: e, b :: e', 0, s, h, q => by
    simp at q ⊢
    rcases h.1 with z | z
    · rw [z] at q; cases q
    · rw [z]; exact q
  | a :: e, b :: e', i + 1, s, h, q => by
    simp at q ⊢
    exact WkE.get h.2 q
theorem WkO.refl : ∀ e : List SO, WkO e e
  | [] => True.intro
  | _ :: e => ⟨Or.inr rfl, WkO.refl e⟩
theorem WkO.get : ∀ {e e' : List SO} {i : Nat} {s : SO}, WkO e e' → e'[i]? = some s → s.live = true → e[i]? = some s
  | _, [], _, _, _, q, _ => by simp at q
  | a :: e, b :: e', 0, s, h, q, l => by
    simp at q ⊢
    rcases h.1 with z | z
    · rw [z] at q; subst q; cases l
    · rw [z]; exact q
  | a :: e, b :: e', i + 1, s, h, q, l => by
    simp at q ⊢
    exact WkO.get h.2 q l
theorem WkO.lv {e e' : List SO} {k : Nat} (h : WkO e e') (l : Lv e' k) : Lv e k := by
  obtain ⟨o, q, lo⟩ := l
  exact ⟨o, h.get q lo, lo⟩
/-- no place n or above it is named -/
def SvLt (n : Nat) : SV → Prop
  | .i _ => True
  | .t _ => True
  | .ob _ _ => True
  | .z _ => True
  | .r k => k < n
def SoLt (n : Nat) : SO → Prop
  | .x => True
  | .lst xs => ∀ s ∈ xs, SvLt n s
  | .dK kvs => ∀ p ∈ kvs, SvLt n p.2
  | .dT kvs => ∀ p ∈ kvs, SvLt n p.2
  | .ho _ => True
  | .tb _ => True
  | .nums => True
  | .lk _ kvs => ∀ p ∈ kvs, SvLt n p.2
  | .stt k => k < n
  | .ob _ fs => ∀ p ∈ fs, SvLt n p.2
def EnLt (n : Nat) : Sy → Prop
  | [] => True
  | none :: e => EnLt n e
  | some s :: e => SvLt n s ∧ EnLt n e
def OsLt (n : Nat) : List SO → Prop
  | [] => True
  | o :: r => SoLt n o ∧ OsLt n r
theorem EnLt.get : ∀ {n : Nat} {e : Sy} {i : Nat} {s : SV}, EnLt n e → e[i]? = some (some s) → SvLt n s
  | _, [], _, _, _, q => by simp at q
  | n, none :: e, 0, s, h, q => by simp at q
  | n, some t :: e, 0, s, h, q => by simp at q; subst q; exact h.1
  | n, none :: e, i + 1, s, h, q => by simp at q; exact EnLt.get (e := e) h q
  | n, some t :: e, i + 1, s, h, q => by simp at q; exact EnLt.get h.2 q
theorem OsLt.get : ∀ {n : Nat} {e : List SO} {i : Nat} {s : SO}, OsLt n e → e[i]? = some s → SoLt n s
  | _, [], _, _, _, q => by simp at q
  | n, t :: e, 0, s, h, q => by simp at q; subst q; exact h.1
  | n, t :: e, i + 1, s, h, q => by simp at q; exact OsLt.get h.2 q
theorem Paired.impR {α β : Type} {F G : α → β → Prop} : ∀ {l₁ : List α} {l₂ : List β}, Paired F l₁ l₂ → (∀ a b, b ∈ l₂ → F a b → G a b) → Paired G l₁ l₂
  | _, _, .nil, _ => .nil
  | _, _, .cons r t, f => .cons (f _ _ (List.mem_cons_self ..) r) (Paired.impR t fun a b m => f a b (List.mem_cons_of_mem _ m))
theorem Ok.weak {env' : Sy} {os' : List SO} (ok : Ok c ad env os σ H) (he : WkE env env') (ho : WkO os os') (l1 : EnLt os'.length env') (l2 : OsLt os'.length os') (l3 : c.lo ≤ os'.length) : Ok c ad env' os' σ H := by
  have hN : ∀ a, Nof c ad os' a → Nof c ad os a := fun a h => by
    rcases h with h | ⟨k, l, e⟩
    · exact Or.inl h
    · exact Or.inr ⟨k, ho.lv l, e⟩
  have hv : ∀ v s, SvLt os'.length s → SvOk c.K (Nof c ad os) ad os.length H v s → SvOk c.K (Nof c ad os') ad os'.length H v s := fun v s l h => by
    cases s with
    | i d => exact Dn.sub hN h
    | t ks => exact TOk.sub hN h
    | ob C m => exact ObOk.sub hN h
    | z m => exact ZOk.sub hN h
    | r k => exact ⟨h.1, l⟩
  refine ⟨ok.len.trans he.len, ok.ex, ok.n0, fun i s h => ?_, fun k o h l => ?_, fun k j lk lj => ok.inj k j (ho.lv lk) (ho.lv lj), fun k lk => ok.nn k (ho.lv lk), fun p hp => (ok.frm p hp).sub hN, l3⟩
  · obtain ⟨v, h1, h2⟩ := ok.val i s (he.get h)
    exact ⟨v, h1, hv v s (l1.get h) h2⟩
  · obtain ⟨h1, h2⟩ := ok.obj k o (ho.get h l) l
    refine ⟨h1, ?_⟩
    have lt := l2.get h
    cases o with
    | x => exact True.intro
    | lst xs => obtain ⟨vs, e, p⟩ := h2; exact ⟨vs, e, Paired.impR p fun a b m q => hv _ _ (lt b m) q⟩
    | dK kvs => obtain ⟨vs, e, p⟩ := h2; exact ⟨vs, e, Paired.impR p fun a b m q => ⟨q.1, hv _ _ (lt b m) q.2⟩⟩
    | dT kvs => obtain ⟨vs, e, p⟩ := h2; exact ⟨vs, e, Paired.impR p fun a b m q => ⟨q.1, hv _ _ (lt b m) q.2⟩⟩
    | ho g => exact h2
    | tb P => exact h2
    | nums => exact h2
    | lk lo kvs => exact ⟨h2.1, Paired.impR h2.2 fun a b m q => ⟨q.1, hv _ _ (lt b m) q.2⟩⟩
    | stt k => obtain ⟨v, a, m, e, r⟩ := h2; exact ⟨v, a, m, e, hv _ _ lt r⟩
    | ob C fs => obtain ⟨dx, vs, e, p⟩ := h2; exact ⟨dx, vs, e, Paired.impR p fun a b m q => ⟨q.1, hv _ _ (lt b m) q.2⟩⟩
theorem paired_dn {K : PySem.W.Frag} {N : Addr → Prop} {n : Nat} : ∀ {vs : List V} {ds : List PyData}, Paired (SvOk K N ad n H) vs (ds.map SV.i) → DnAll K N H vs ds
  | _, [], h => by cases h; exact .nil
  | _, d :: ds, h => by
    cases h with
    | cons a b => exact .cons a (paired_dn b)
theorem dn_paired {K : PySem.W.Frag} {N : Addr → Prop} {n : Nat} : ∀ {vs : List V} {ds : List PyData}, DnAll K N H vs ds → Paired (SvOk K N ad n H) vs (ds.map SV.i)
  | _, _, .nil => .nil
  | _, _, .cons a b => .cons a (dn_paired b)
/-- the same with other facts carried along -/
abbrev Cn.w (c : Cn) (fr : List (V × SV)) (lo : Nat) : Cn := ⟨c.K, c.H0, c.N0, c.M, fr, lo⟩
theorem SvOk.lift {K : PySem.W.Frag} {N : Addr → Prop} {n n' : Nat} {v : V} {s : SV} (e : n ≤ n') (h : SvOk K N ad n H v s) : SvOk K N ad n' H v s := by
  cases s with
  | i d => exact h
  | t ks => exact h
  | ob C m => exact h
  | z m => exact h
  | r k => exact ⟨h.1, Nat.lt_of_lt_of_le h.2 e⟩
/-- facts are carried along from here -/
theorem Ok.pin {v : V} {s : SV} (ok : Ok c ad env os σ H) (h : SvOk c.K (Nof c ad os) ad os.length H v s) : Ok (c.w ((v, s) :: c.fr) os.length) ad env os σ H :=
  ⟨ok.len, ok.ex, ok.n0, ok.val, ok.obj, ok.inj, ok.nn, fun p hp => by
    rcases List.mem_cons.mp hp with z | z
    · subst z; exact h
    · exact (ok.frm p z).lift ok.low, Nat.le_refl _⟩
theorem Ok.pin0 (ok : Ok c ad env os σ H) : Ok (c.w c.fr os.length) ad env os σ H :=
  ⟨ok.len, ok.ex, ok.n0, ok.val, ok.obj, ok.inj, ok.nn, fun p hp => (ok.frm p hp).lift ok.low, Nat.le_refl _⟩
end
end DL

set_option Elab.async false
set_option linter.all false
set_option maxRecDepth 100000
set_option maxHeartbeats 2000000
/-! The data layer: judgements and rules. -/
namespace DL
open PySem L2
open Evl (Ex Ex.refl Ex.trans Ex.new)

/-! ### judgements -/
/-- what is avoided: all of the store, or (w) what the caller wants avoided alone -/
def Nw (w : Bool) (c : Cn) (ad : Nat → Addr) (os : List SO) : Addr → Prop := fun a => c.N0 a ∨ (w = false ∧ ∃ k, Lv os k ∧ a = ad k)
theorem Nw_false {c : Cn} {ad : Nat → Addr} {os : List SO} : Nw false c ad os = Nof c ad os := by
  funext a
  exact propext ⟨fun h => h.elim Or.inl fun z => Or.inr z.2, fun h => h.elim Or.inl fun z => Or.inr ⟨rfl, z⟩⟩
theorem Nw_le {w : Bool} {c : Cn} {ad : Nat → Addr} {os : List SO} : ∀ a, Nw w c ad os a → Nof c ad os a := fun a h => h.elim Or.inl fun z => Or.inr z.2
theorem Nw_n0 {w : Bool} {c : Cn} {ad : Nat → Addr} {os : List SO} : ∀ a, c.N0 a → Nw w c ad os a := fun a h => Or.inl h
theorem Nw_true {c : Cn} {ad : Nat → Addr} {os : List SO} : ∀ a, Nw true c ad os a → c.N0 a := fun a h => h.elim id fun z => nomatch z.1

/-- te gives the data d; the heap is only added to -/
def EvX (w : Bool) (c : Cn) (env : Sy) (os : List SO) (te : TE) (d : PyData) : Prop := ∀ ad σ H, Ok c ad env os σ H → ∀ Q : VK, (∀ v H2, Ex H H2 → Dn c.K (Nw w c ad os) H2 v d → Q v H2) → te σ H Q
/-- te gives the k-th object -/
def EvR (c : Cn) (env : Sy) (os : List SO) (te : TE) (k : Nat) : Prop := k < os.length ∧ ∀ ad σ H, Ok c ad env os σ H → ∀ Q : VK, (∀ H2, Ex H H2 → Q (.ref (ad k)) H2) → te σ H Q
/-- te gives an object that stays as it is -/
def EvK (c : Cn) (env : Sy) (os : List SO) (te : TE) (u : HO) : Prop := Wr u = false ∧ ∀ ad σ H, Ok c ad env os σ H → ∀ Q : VK, (∀ b H2, Ex H H2 → H2 b = some u → Q (.ref b) H2) → te σ H Q
/-- gives an instance -/
def EvB (c : Cn) (env : Sy) (os : List SO) (te : TE) (C : Addr) (m : List (Str × PyData)) : Prop := ∀ ad σ H, Ok c ad env os σ H → ∀ Q : VK, (∀ v H2, Ex H H2 → ObOk c.K (Nof c ad os) H2 v C m → Q v H2) → te σ H Q
/-- gives a dict of data that no one writes any more -/
def EvZ (c : Cn) (env : Sy) (os : List SO) (te : TE) (m : List (Key × PyData)) : Prop := ∀ ad σ H, Ok c ad env os σ H → ∀ Q : VK, (∀ v H2, Ex H H2 → ZOk c.K (Nof c ad os) H2 v m → Q v H2) → te σ H Q
def EvS (c : Cn) (env : Sy) (os : List SO) (te : TE) : SV → Prop
  | .i d => EvX false c env os te d
  | .t u => EvK c env os te u
  | .ob C m => EvB c env os te C m
  | .z m => EvZ c env os te m
  | .r k => EvR c env os te k
/-- te gives a new object -/
def EvF (c : Cn) (env : Sy) (os : List SO) (te : TE) (o : SO) : Prop := ∀ ad σ H, Ok c ad env os σ H → ∀ Q : VK, (∀ p H2, H p = none → Ex H H2 → SoOk c.K (fun a => Nof c ad os a ∨ a = p) ad os.length H2 p o → Q (.ref p) H2) → te σ H Q
/-- te gives a list that may be read -/
def EvI (c : Cn) (env : Sy) (os : List SO) (te : TE) (ss : List SV) : Prop := ∀ ad σ H, Ok c ad env os σ H → ∀ Q : VK, (∀ p vs H2, Ex H H2 → SqL c.K H2 p vs → Paired (SvOk c.K (Nof c ad os) ad os.length H2) vs ss → Q (.ref p) H2) → te σ H Q
def EvT (c : Cn) (env : Sy) (os : List SO) (tt : TT) (b : Bool) : Prop := ∀ ad σ H, Ok c ad env os σ H → ∀ Q : Bool → Hp → Prop, (∀ H2, Ex H H2 → Q b H2) → tt σ H Q
def EvA (w : Bool) (c : Cn) (env : Sy) (os : List SO) (ta : TA) (ds : List PyData) : Prop := ∀ ad σ H, Ok c ad env os σ H → ∀ Q : List V → Hp → Prop, (∀ vs H2, Ex H H2 → DnAll c.K (Nw w c ad os) H2 vs ds → Q vs H2) → ta σ H Q
def EvAS (c : Cn) (env : Sy) (os : List SO) (ta : TA) (ss : List SV) : Prop := ∀ ad σ H, Ok c ad env os σ H → ∀ Q : List V → Hp → Prop, (∀ vs H2, Ex H H2 → Paired (SvOk c.K (Nof c ad os) ad os.length H2) vs ss → Q vs H2) → ta σ H Q
def EvO (c : Cn) (env : Sy) (os : List SO) (to : TO) (o : Option Int) : Prop := ∀ ad σ H, Ok c ad env os σ H → ∀ Q : Option Int → Hp → Prop, (∀ H2, Ex H H2 → Q o H2) → to σ H Q

section
variable {w : Bool} {c : Cn} {env : Sy} {os : List SO} {te ta tb tl : TE} {d : PyData} {tt tu : TT}

/-! ### conversions -/
theorem EvX.weak (h : EvX false c env os te d) : EvX w c env os te d := fun ad σ H ok Q q => h ad σ H ok Q fun v H2 e r => q v H2 e (r.sub (by rw [Nw_false]; exact Nw_le))
theorem EvX.strong (hd : noList d = true) (h : EvX true c env os te d) : EvX w c env os te d := fun ad σ H ok Q q => h ad σ H ok Q fun v H2 e r => q v H2 e (Dn.goF TP.refl d v hd r)
theorem EvX.n0 (h : EvX w c env os te d) : EvX true c env os te d := fun ad σ H ok Q q => h ad σ H ok Q fun v H2 e r => q v H2 e (r.sub fun a z => Nw_n0 a (Nw_true a z))
theorem EvX.is {d' : PyData} (h : EvX w c env os te d) (e : d = d') : EvX w c env os te d' := e ▸ h
theorem EvT.is {b b' : Bool} (h : EvT c env os tt b) (e : b = b') : EvT c env os tt b' := e ▸ h
theorem EvF.ev {ds : List PyData} (h : EvF c env os te (.lst (ds.map SV.i))) : EvX w c env os te (.list ds) := EvX.weak fun ad σ H ok Q q => h ad σ H ok Q fun p H2 hp e r => by
  obtain ⟨vs, h1, h2⟩ := r
  refine q _ H2 e ?_
  rw [Nw_false]
  exact .lst (Or.inl h1) (fun z => ok.nof z hp) ((paired_dn h2).sub fun a z => Or.inl z)
theorem EvX.it {ds : List PyData} (h : EvX false c env os te (.list ds)) : EvI c env os te (ds.map SV.i) := fun ad σ H ok Q q => h ad σ H ok Q fun v H2 e r => by
  rw [Nw_false] at r
  cases r with
  | lst r n a => exact q _ _ H2 e (Or.inl r) (dn_paired a)
  | lstK r a => exact q _ _ H2 e (Or.inr r) (dn_paired a)
theorem EvR.it {k : Nat} {ss : List SV} (h : EvR c env os te k) (hk : os[k]? = some (.lst ss)) : EvI c env os te ss := fun ad σ H ok Q q => h.2 ad σ H ok Q fun H2 e => by
  obtain ⟨_, vs, h1, h2⟩ := (ok.ext e).obj k _ hk rfl
  exact q _ vs H2 e (Or.inl (Or.inl h1)) h2
theorem EvF.it {ss : List SV} (h : EvF c env os te (.lst ss)) : EvI c env os te ss := fun ad σ H ok Q q => h ad σ H ok Q fun p H2 hp e r => by
  obtain ⟨vs, h1, h2⟩ := r
  exact q _ vs H2 e (Or.inl (Or.inl h1)) (Paired.imp h2 fun _ _ z => z.sub fun a y => Or.inl y)
/-! ### names, constants -/
theorem ex_var {i : Nat} (h : env[i]? = some (some (.i d))) : EvX w c env os (tVar i) d := EvX.weak fun ad σ H ok Q q => by
  obtain ⟨v, h1, h2⟩ := ok.val i _ h
  exact ⟨v, h1, q v H (Ex.refl H) (by rw [Nw_false]; exact h2)⟩
theorem er_var {i k : Nat} (h : env[i]? = some (some (.r k))) (hk : k < os.length) : EvR c env os (tVar i) k := ⟨hk, fun ad σ H ok Q q => by
  obtain ⟨v, h1, h2⟩ := ok.val i _ h
  obtain ⟨rfl, _⟩ := h2
  exact ⟨_, h1, q H (Ex.refl H)⟩⟩
theorem ex_int {i : Int} : EvX w c env os (tC (.int i)) (.int i) := fun ad σ H ok Q q => q _ H (Ex.refl H) (.int i)
theorem ex_bl {i : Bool} : EvX w c env os (tC (.bl i)) (.bool i) := fun ad σ H ok Q q => q _ H (Ex.refl H) (.bl i)
theorem ex_str {i : Str} : EvX w c env os (tC (.str i)) (.str i) := fun ad σ H ok Q q => q _ H (Ex.refl H) (.str i)
theorem ex_non : EvX w c env os (tC .non) .none := fun ad σ H ok Q q => q _ H (Ex.refl H) .non
/-! ### operators on ints -/
theorem dn_int {K : PySem.W.Frag} {N : Addr → Prop} {H : Hp} {v : V} {i : Int} (h : Dn K N H v (.int i)) : v = .int i := by cases h; rfl
theorem dn_bool {K : PySem.W.Frag} {N : Addr → Prop} {H : Hp} {v : V} {i : Bool} (h : Dn K N H v (.bool i)) : v = .bl i := by cases h; rfl
theorem dn_str {K : PySem.W.Frag} {N : Addr → Prop} {H : Hp} {v : V} {i : Str} (h : Dn K N H v (.str i)) : v = .str i := by cases h; rfl
theorem ex_i2 {f : Int → Int → Int} {i j : Int} (ha : EvX true c env os ta (.int i)) (hb : EvX true c env os tb (.int j)) : EvX w c env os (tOp (rI0 fun i j => .int (f i j)) ta tb) (.int (f i j)) := fun ad σ H ok Q q =>
  ha ad σ H ok _ fun v H1 e1 r1 => hb ad σ H1 (ok.ext e1) _ fun u H2 e2 r2 => ⟨i, j, dn_int r1, dn_int r2, q _ H2 (e1.trans e2) (.int _)⟩
theorem ex_i2c {C : Int → Int → Prop} {f : Int → Int → Int} {i j : Int} (ha : EvX true c env os ta (.int i)) (hb : EvX true c env os tb (.int j)) (hc : C i j) : EvX w c env os (tOp (rI C fun i j => .int (f i j)) ta tb) (.int (f i j)) := fun ad σ H ok Q q =>
  ha ad σ H ok _ fun v H1 e1 r1 => hb ad σ H1 (ok.ext e1) _ fun u H2 e2 r2 => ⟨i, j, dn_int r1, dn_int r2, hc, q _ H2 (e1.trans e2) (.int _)⟩
theorem ex_b2 {f : Int → Int → Bool} {i j : Int} (ha : EvX true c env os ta (.int i)) (hb : EvX true c env os tb (.int j)) : EvX w c env os (tOp (rI0 fun i j => .bl (f i j)) ta tb) (.bool (f i j)) := fun ad σ H ok Q q =>
  ha ad σ H ok _ fun v H1 e1 r1 => hb ad σ H1 (ok.ext e1) _ fun u H2 e2 r2 => ⟨i, j, dn_int r1, dn_int r2, q _ H2 (e1.trans e2) (.bl _)⟩
theorem ex_u {f : Int → Int} {i : Int} (ha : EvX true c env os ta (.int i)) : EvX w c env os (tUn (rU fun i => .int (f i)) ta) (.int (f i)) := fun ad σ H ok Q q =>
  ha ad σ H ok _ fun v H1 e1 r1 => ⟨i, dn_int r1, q _ H1 e1 (.int _)⟩
theorem ex_eqI {i j : Int} (ha : EvX true c env os ta (.int i)) (hb : EvX true c env os tb (.int j)) : EvX w c env os (tOp rEq ta tb) (.bool (decide (i = j))) := fun ad σ H ok Q q =>
  ha ad σ H ok _ fun v H1 e1 r1 => hb ad σ H1 (ok.ext e1) _ fun u H2 e2 r2 => by
    cases dn_int r1; cases dn_int r2
    refine ⟨rfl, q _ H2 (e1.trans e2) ?_⟩
    rw [dec_int, Bool.beq_eq_decide_eq]
    exact .bl _
theorem ex_neI {i j : Int} (ha : EvX true c env os ta (.int i)) (hb : EvX true c env os tb (.int j)) : EvX w c env os (tOp rNe ta tb) (.bool (!decide (i = j))) := fun ad σ H ok Q q =>
  ha ad σ H ok _ fun v H1 e1 r1 => hb ad σ H1 (ok.ext e1) _ fun u H2 e2 r2 => by
    cases dn_int r1; cases dn_int r2
    refine ⟨rfl, q _ H2 (e1.trans e2) ?_⟩
    rw [dec_int, Bool.beq_eq_decide_eq]
    exact .bl _
theorem ex_eqS {i j : Str} (ha : EvX true c env os ta (.str i)) (hb : EvX true c env os tb (.str j)) : EvX w c env os (tOp rEq ta tb) (.bool (i == j)) := fun ad σ H ok Q q =>
  ha ad σ H ok _ fun v H1 e1 r1 => hb ad σ H1 (ok.ext e1) _ fun u H2 e2 r2 => by
    cases dn_str r1; cases dn_str r2
    refine ⟨rfl, q _ H2 (e1.trans e2) ?_⟩
    rw [dec_str]
    exact .bl _
theorem ex_neS {i j : Str} (ha : EvX true c env os ta (.str i)) (hb : EvX true c env os tb (.str j)) : EvX w c env os (tOp rNe ta tb) (.bool (!(i == j))) := fun ad σ H ok Q q =>
  ha ad σ H ok _ fun v H1 e1 r1 => hb ad σ H1 (ok.ext e1) _ fun u H2 e2 r2 => by
    cases dn_str r1; cases dn_str r2
    refine ⟨rfl, q _ H2 (e1.trans e2) ?_⟩
    rw [dec_str]
    exact .bl _
theorem plain_of {d : PyData} (h : SeqAt.shaped d = true) : d.plain = true := PyData.plain_of_canLay0 d (by
  unfold SeqAt.shaped at h
  rw [Bool.and_eq_true] at h
  exact h.1)
/-- == of data -/
theorem ex_eqD {d e : PyData} (ha : EvX true c env os ta d) (hb : EvX true c env os tb e) (s1 : SeqAt.shaped d = true) (s2 : SeqAt.shaped e = true) : EvX w c env os (tOp (rEqD c.K) ta tb) (.bool (PyData.eqv d e)) := fun ad σ H ok Q q =>
  ha ad σ H ok _ fun v H1 e1 r1 => hb ad σ H1 (ok.ext e1) _ fun u H2 e2 r2 => ⟨d, e, Dn.dp _ _ (plain_of s1) (r1.ext e2), Dn.dp _ _ (plain_of s2) r2, s1, s2, q _ H2 (e1.trans e2) (.bl _)⟩
theorem ex_neD {d e : PyData} (ha : EvX true c env os ta d) (hb : EvX true c env os tb e) (s1 : SeqAt.shaped d = true) (s2 : SeqAt.shaped e = true) : EvX w c env os (tOp (rNeD c.K) ta tb) (.bool (!PyData.eqv d e)) := fun ad σ H ok Q q =>
  ha ad σ H ok _ fun v H1 e1 r1 => hb ad σ H1 (ok.ext e1) _ fun u H2 e2 r2 => ⟨d, e, Dn.dp _ _ (plain_of s1) (r1.ext e2), Dn.dp _ _ (plain_of s2) r2, s1, s2, q _ H2 (e1.trans e2) (.bl _)⟩
theorem ex_isN {r : R2} (hr : r = (fun x y H Q => y = .non ∧ Q (.bl (decide (x = .non))) H)) (ha : EvX true c env os ta d) : EvX w c env os (tOp r ta (tC .non)) (.bool (match d with | .none => true | _ => false)) := fun ad σ H ok Q q => by
  subst hr
  refine ha ad σ H ok _ fun v H1 e1 r1 => ⟨rfl, q _ H1 e1 ?_⟩
  cases r1 <;> exact .bl _
theorem ex_notN {r : R2} (hr : r = (fun x y H Q => y = .non ∧ Q (.bl (!decide (x = .non))) H)) (ha : EvX true c env os ta d) : EvX w c env os (tOp r ta (tC .non)) (.bool (match d with | .none => false | _ => true)) := fun ad σ H ok Q q => by
  subst hr
  refine ha ad σ H ok _ fun v H1 e1 r1 => ⟨rfl, q _ H1 e1 ?_⟩
  cases r1 <;> exact .bl _
/-- a op b op c -/
theorem ex_chain {r r' : R2} {ta tb tc : TE} {f g : Int → Int → Bool} {i j k : Int} (hr : r = rI0 fun i j => .bl (f i j)) (hr' : r' = rI0 fun i j => .bl (g i j)) (ha : EvX true c env os ta (.int i)) (hb : EvX true c env os tb (.int j)) (hc : EvX true c env os tc (.int k)) :
    EvX w c env os (tChain r r' ta tb tc) (.bool (f i j && g j k)) := fun ad σ H ok Q q => by
  subst hr hr'
  refine ha ad σ H ok _ fun v H1 e1 r1 => hb ad σ H1 (ok.ext e1) _ fun u H2 e2 r2 => ⟨i, j, dn_int r1, dn_int r2, f i j, rfl, ?_⟩
  cases hf : f i j with
  | true =>
    rw [if_pos rfl]
    exact hc ad σ H2 ((ok.ext e1).ext e2) _ fun z H3 e3 r3 => ⟨j, k, dn_int r2, dn_int r3, q _ H3 ((e1.trans e2).trans e3) (by rw [hf]; exact .bl _)⟩
  | false =>
    rw [if_neg (by decide)]
    exact q _ H2 (e1.trans e2) (by rw [hf]; exact .bl _)

/-! ### tests -/
theorem et_test {b : Bool} (h : EvX true c env os te (.bool b)) : EvT c env os (tTest te) b := fun ad σ H ok Q q => h ad σ H ok _ fun v H2 e r => ⟨b, dn_bool r, q H2 e⟩
theorem et_B {b : Bool} (h : EvX true c env os te (.bool b)) : EvT c env os (tB te) b := fun ad σ H ok Q q => h ad σ H ok _ fun v H2 e r => ⟨b, dn_bool r, q H2 e⟩
theorem et_or {a b : Bool} (h1 : EvT c env os tt a) (h2 : a = false → EvT c env os tu b) : EvT c env os (tOr tt tu) (a || b) := fun ad σ H ok Q q => h1 ad σ H ok _ fun H2 e2 => by
  cases a with
  | true =>
    show Q true H2
    exact q H2 e2
  | false =>
    show tu σ H2 Q
    exact h2 rfl ad σ H2 (ok.ext e2) Q fun H3 e3 => q H3 (e2.trans e3)
theorem et_not {a : Bool} (h1 : EvT c env os tt a) : EvT c env os (tNot tt) (!a) := fun ad σ H ok Q q => h1 ad σ H ok _ fun H2 e2 => q H2 e2
theorem ex_and {a b : Bool} (h1 : EvX true c env os ta (.bool a)) (h2 : a = true → EvX true c env os tb (.bool b)) : EvX w c env os (tAndV ta tb) (.bool (a && b)) := fun ad σ H ok Q q => h1 ad σ H ok _ fun v H2 e2 r2 => ⟨a, dn_bool r2, by
  cases a with
  | true =>
    rw [if_pos rfl]
    exact h2 rfl ad σ H2 (ok.ext e2) Q fun u H3 e3 r3 => q u H3 (e2.trans e3) (by cases r3; exact .bl _)
  | false =>
    rw [if_neg (by decide)]
    exact q _ H2 e2 (.bl _)⟩
theorem ex_or {a b : Bool} (h1 : EvX true c env os ta (.bool a)) (h2 : a = false → EvX true c env os tb (.bool b)) : EvX w c env os (tOrV ta tb) (.bool (a || b)) := fun ad σ H ok Q q => h1 ad σ H ok _ fun v H2 e2 r2 => ⟨a, dn_bool r2, by
  cases a with
  | true =>
    rw [if_pos rfl]
    exact q _ H2 e2 (.bl _)
  | false =>
    rw [if_neg (by decide)]
    exact h2 rfl ad σ H2 (ok.ext e2) Q fun u H3 e3 r3 => q u H3 (e2.trans e3) (by cases r3; exact .bl _)⟩
theorem ex_not {a : Bool} (h1 : EvX true c env os ta (.bool a)) : EvX w c env os (tNotV ta) (.bool (!a)) := fun ad σ H ok Q q => h1 ad σ H ok _ fun v H2 e2 r2 => ⟨a, dn_bool r2, q _ H2 e2 (.bl _)⟩
theorem ex_if {b : Bool} (h : EvT c env os tt b) (h1 : b = true → EvX w c env os ta d) (h2 : b = false → EvX w c env os tb d) : EvX w c env os (tIf tt ta tb) d := fun ad σ H ok Q q => h ad σ H ok _ fun H2 e2 => by
  cases b with
  | true =>
    show ta σ H2 Q
    exact h1 rfl ad σ H2 (ok.ext e2) Q fun v H3 e3 => q v H3 (e2.trans e3)
  | false =>
    show tb σ H2 Q
    exact h2 rfl ad σ H2 (ok.ext e2) Q fun v H3 e3 => q v H3 (e2.trans e3)
/-- the truth of a list -/
theorem et_truL {r : V → Hp → (Bool → Hp → Prop) → Prop} {ss : List SV} (hr : r = fun x H Q => ∃ k, TruV c.K x H k ∧ Q k H) (h : EvI c env os te ss) : EvT c env os (fun σ H Q => te σ H fun x H' => r x H' Q) (!ss.isEmpty) := fun ad σ H ok Q q => by
  subst hr
  refine h ad σ H ok _ fun p vs H2 e s r => ⟨!ss.isEmpty, Or.inl ⟨vs, s, ?_⟩, q H2 e⟩
  cases r <;> rfl

/-! ### argument lists -/
theorem ea_nil : EvA w c env os tNil [] := fun ad σ H ok Q q => q [] H (Ex.refl H) .nil
theorem ea_cons {tr : TA} {ds : List PyData} (h : EvX w c env os te d) (hr : EvA w c env os tr ds) : EvA w c env os (tCons te tr) (d :: ds) := fun ad σ H ok Q q =>
  h ad σ H ok _ fun v H2 e2 r2 => hr ad σ H2 (ok.ext e2) _ fun vs H3 e3 r3 => q _ H3 (e2.trans e3) (.cons (r2.ext e3) r3)
theorem eas_nil : EvAS c env os tNil [] := fun ad σ H ok Q q => q [] H (Ex.refl H) .nil
theorem eas_cons {tr : TA} {s : SV} {ss : List SV} (h : EvS c env os te s) (hr : EvAS c env os tr ss) : EvAS c env os (tCons te tr) (s :: ss) := fun ad σ H ok Q q => by
  cases s with
  | i d => exact (show EvX false c env os te d from h) ad σ H ok _ fun v H2 e2 r2 => hr ad σ H2 (ok.ext e2) _ fun vs H3 e3 r3 => q _ H3 (e2.trans e3) (.cons (show Dn _ _ _ _ _ by rw [Nw_false] at r2; exact r2.ext e3) r3)
  | t ks => exact (show EvK c env os te ks from h).2 ad σ H ok _ fun b H2 e2 r2 => hr ad σ H2 (ok.ext e2) _ fun vs H3 e3 r3 => q _ H3 (e2.trans e3) (.cons ⟨b, rfl, e3 _ _ r2, .inl (show EvK c env os te ks from h).1⟩ r3)
  | ob C m => exact (show EvB c env os te C m from h) ad σ H ok _ fun v H2 e2 r2 => hr ad σ H2 (ok.ext e2) _ fun vs H3 e3 r3 => q _ H3 (e2.trans e3) (.cons (ObOk.ext e3 r2) r3)
  | z m => exact (show EvZ c env os te m from h) ad σ H ok _ fun v H2 e2 r2 => hr ad σ H2 (ok.ext e2) _ fun vs H3 e3 r3 => q _ H3 (e2.trans e3) (.cons (ZOk.ext e3 r2) r3)
  | r k =>
    obtain ⟨hk, h⟩ := (show EvR c env os te k from h)
    exact h ad σ H ok _ fun H2 e2 => hr ad σ H2 (ok.ext e2) _ fun vs H3 e3 r3 => q _ H3 (e2.trans e3) (.cons ⟨rfl, hk⟩ r3)
/-! ### displays -/
theorem ex_tup {ta : TA} {ds : List PyData} (h : EvA w c env os ta ds) (hl : ds.length ≤ 100000) : EvX w c env os (tTup ta) (.tuple ds) := fun ad σ H ok Q q =>
  h ad σ H ok _ fun vs H2 e r => ⟨Nat.le_trans (by rw [r.length]; exact hl) (by decide), fun p hp => q _ _ (e.trans (Ex.new hp)) (.tup (SqT.of upd_same) (r.ext (Ex.new hp)))⟩
theorem ef_lst {ta : TA} {ss : List SV} (h : EvAS c env os ta ss) (hl : ss.length ≤ 100000) : EvF c env os (tLst ta) (.lst ss) := fun ad σ H ok Q q =>
  h ad σ H ok _ fun vs H2 e r => ⟨Nat.le_trans (by rw [Paired.length r]; exact hl) (by decide), fun p hp => q p _ (e.free hp) (e.trans (Ex.new hp)) ⟨vs, upd_same, Paired.imp r fun v s z => by
    cases s with
    | i d => exact (Dn.add hp z).ext (Ex.new hp)
    | t ks => exact (TOk.add hp z).ext (Ex.new hp)
    | ob C m => exact (ObOk.add hp z).ext (Ex.new hp)
    | z m => exact (ZOk.add hp z).ext (Ex.new hp)
    | r k => exact z⟩⟩

/-! ### subscripts -/
theorem ex_ixT {tb : TE} {ds : List PyData} {i : Int} (h : EvX w c env os ta (.tuple ds)) (hi : EvX true c env os tb (.int i)) (hd : atI ds i = some d) : EvX w c env os (tOp (rIxT c.K) ta tb) d := fun ad σ H ok Q q =>
  h ad σ H ok _ fun v H1 e1 r1 => hi ad σ H1 (ok.ext e1) _ fun u H2 e2 r2 => by
    have r1' := r1.ext e2
    cases dn_int r2
    cases r1' with
    | tup r a =>
      obtain ⟨j, z1, z2⟩ : ∃ j, ixN ds.length i = some j ∧ ds[j]? = some d := by
        unfold atI at hd
        cases hx : ixN ds.length i with
        | none => rw [hx] at hd; cases hd
        | some j => rw [hx] at hd; exact ⟨j, rfl, hd⟩
      obtain ⟨v, y1, y2⟩ := a.get z2
      refine ⟨_, _, i, v, rfl, rfl, r, ?_, q v H2 (e1.trans e2) y2⟩
      unfold atI
      rw [a.length, z1]
      exact y1
theorem paired_get {α β : Type} {F : α → β → Prop} : ∀ {l₁ : List α} {l₂ : List β} {i : Nat} {b : β}, Paired F l₁ l₂ → l₂[i]? = some b → ∃ a, l₁[i]? = some a ∧ F a b
  | _, _, _, _, .nil, e => by simp at e
  | _, _, 0, _, .cons r _, e => by simp at e; subst e; exact ⟨_, rfl, r⟩
  | _, _, i + 1, _, .cons _ t, e => by
    obtain ⟨v, h1, h2⟩ := paired_get (i := i) t (by simpa using e)
    exact ⟨v, by simpa using h1, h2⟩
theorem paired_getL {α β : Type} {F : α → β → Prop} : ∀ {l₁ : List α} {l₂ : List β} {i : Nat} {a : α}, Paired F l₁ l₂ → l₁[i]? = some a → ∃ b, l₂[i]? = some b ∧ F a b
  | _, _, _, _, .nil, e => by simp at e
  | _, _, 0, _, .cons r _, e => by simp at e; subst e; exact ⟨_, rfl, r⟩
  | _, _, i + 1, _, .cons _ t, e => by
    obtain ⟨v, h1, h2⟩ := paired_getL (i := i) t (by simpa using e)
    exact ⟨v, by simpa using h1, h2⟩
theorem paired_at {α β : Type} {F : α → β → Prop} {l₁ : List α} {l₂ : List β} {i : Int} {b : β} (p : Paired F l₁ l₂) (h : atI l₂ i = some b) : ∃ a, atI l₁ i = some a ∧ F a b := by
  unfold atI at h
  cases hx : ixN l₂.length i with
  | none => rw [hx] at h; cases h
  | some j =>
    rw [hx] at h
    obtain ⟨a, h1, h2⟩ := paired_get p (show l₂[j]? = some b from h)
    refine ⟨a, ?_, h2⟩
    unfold atI
    rw [Paired.length p, hx]
    exact h1
/-- xs[i] of a list -/
theorem ex_ixL {tb : TE} {ss : List SV} {i : Int} (h : EvI c env os ta ss) (hi : EvX true c env os tb (.int i)) (hd : atI ss i = some (.i d)) : EvX w c env os (tOp (rIxL c.K) ta tb) d := EvX.weak fun ad σ H ok Q q =>
  h ad σ H ok _ fun p vs H1 e1 s1 r1 => hi ad σ H1 (ok.ext e1) _ fun u H2 e2 r2 => by
    cases dn_int r2
    obtain ⟨v, h1, h2⟩ := paired_at r1 hd
    exact ⟨p, vs, i, v, rfl, rfl, e2.sql s1, h1, q v H2 (e1.trans e2) (by rw [Nw_false]; exact Dn.ext e2 h2)⟩
theorem eo_none : EvO c env os tNoPart none := fun ad σ H ok Q q => q H (Ex.refl H)
theorem eo_some {i : Int} (h : EvX true c env os te (.int i)) : EvO c env os (tPart te) (some i) := fun ad σ H ok Q q => h ad σ H ok _ fun v H2 e r => ⟨i, dn_int r, q H2 e⟩
def cutG {α : Type} (xs : List α) (lo hi : Option Int) : List α := (xs.drop (HT.sIx xs.length 0 lo)).take (HT.sIx xs.length xs.length hi - HT.sIx xs.length 0 lo)
theorem Paired.take {α β : Type} {F : α → β → Prop} : ∀ {l₁ : List α} {l₂ : List β} (n : Nat), Paired F l₁ l₂ → Paired F (l₁.take n) (l₂.take n)
  | _, _, 0, r => .nil
  | _, _, _ + 1, .nil => .nil
  | _, _, n + 1, .cons r t => .cons r (Paired.take n t)
/-! ### built-ins -/
theorem ex_len {r : List V → Hp → VK → Prop} {ss : List SV} (hr : r = fun xs H Q => ∃ p ys, xs = [.ref p] ∧ (SqL c.K H p ys ∨ SqT c.K H p ys) ∧ Q (.int ys.length) H) (h : EvI c env os te ss) : EvX w c env os (tCB r (tCons te tNil)) (.int (ss.length : Int)) := fun ad σ H ok Q q => by
  subst hr
  refine h ad σ H ok _ fun p vs H2 e s r => ⟨p, vs, rfl, Or.inl s, ?_⟩
  rw [Paired.length r]
  exact q _ H2 e (.int _)
theorem ex_lenT {r : List V → Hp → VK → Prop} {ds : List PyData} (hr : r = fun xs H Q => ∃ p ys, xs = [.ref p] ∧ (SqL c.K H p ys ∨ SqT c.K H p ys) ∧ Q (.int ys.length) H) (h : EvX true c env os te (.tuple ds)) : EvX w c env os (tCB r (tCons te tNil)) (.int (ds.length : Int)) := fun ad σ H ok Q q => by
  subst hr
  refine h ad σ H ok _ fun v H2 e s => ?_
  cases s with
  | tup s a =>
    refine ⟨_, _, rfl, Or.inr s, ?_⟩
    rw [a.length]
    exact q _ H2 e (.int _)
theorem ef_list {r : List V → Hp → VK → Prop} {ss : List SV} (hr : r = fun xs H Q => ∃ p ys, xs = [.ref p] ∧ (SqL c.K H p ys ∨ SqT c.K H p ys) ∧ ∀ l, H l = none → Q (.ref l) (upd H l (.lst ys))) (h : EvI c env os te ss) : EvF c env os (tCB r (tCons te tNil)) (.lst ss) := fun ad σ H ok Q q => by
  subst hr
  refine h ad σ H ok _ fun p vs H2 e s r => ⟨p, vs, rfl, Or.inl s, fun l hl => q l _ (e.free hl) (e.trans (Ex.new hl)) ⟨vs, upd_same, Paired.imp r fun v s z => by
    cases s with
    | i d => exact (Dn.add hl z).ext (Ex.new hl)
    | t ks => exact (TOk.add hl z).ext (Ex.new hl)
    | ob C m => exact (ObOk.add hl z).ext (Ex.new hl)
    | z m => exact (ZOk.add hl z).ext (Ex.new hl)
    | r k => exact z⟩⟩
theorem ex_int1 {r : List V → Hp → VK → Prop} {i : Int} (hr : r = fun xs H Q => (∃ i, xs = [.int i] ∧ Q (.int i) H) ∨ ∃ k, xs = [.bl k] ∧ Q (.int (if k then 1 else 0)) H) (h : EvX true c env os te (.int i)) : EvX w c env os (tCB r (tCons te tNil)) (.int i) := fun ad σ H ok Q q => by
  subst hr
  exact h ad σ H ok _ fun v H2 e a => Or.inl ⟨i, by rw [dn_int a], q _ H2 e (.int i)⟩
theorem ex_min2 {r : List V → Hp → VK → Prop} {i j : Int} (hr : r = fun xs H Q => ∃ i j, xs = [.int i, .int j] ∧ Q (.int (if j < i then j else i)) H) (ha : EvX true c env os ta (.int i)) (hb : EvX true c env os tb (.int j)) : EvX w c env os (tCB r (tCons ta (tCons tb tNil))) (.int (min i j)) := fun ad σ H ok Q q => by
  subst hr
  refine ha ad σ H ok _ fun v H1 e1 a => hb ad σ H1 (ok.ext e1) _ fun u H2 e2 b => ⟨i, j, by rw [dn_int a, dn_int b], q _ H2 (e1.trans e2) ?_⟩
  have : (if j < i then j else i) = min i j := by split <;> omega
  rw [this]
  exact .int _
end

/-! ### promises -/
/-- data in, data out; nothing that stands is changed -/
def spD (K : PySem.W.Frag) (R : List PyData → PyData → Prop) : Sp := fun vs H Q _ => ∃ (N : Addr → Prop) (ds : List PyData) (d : PyData), (∀ a, N a → H a ≠ none) ∧ DnAll K N H vs ds ∧ R ds d ∧ ∀ v H', Ex H H' → Dn K N H' v d → Q v H'
/-- data in, a new list of data out -/
def spF (K : PySem.W.Frag) (R : List PyData → List PyData → Prop) : Sp := fun vs H Q _ => ∃ (N : Addr → Prop) (ds : List PyData) (rs : List PyData), (∀ a, N a → H a ≠ none) ∧ DnAll K N H vs ds ∧ R ds rs ∧
  ∀ p H' ws, H p = none → Ex H H' → H' p = some (.lst ws) → DnAll K (fun a => N a ∨ a = p) H' ws rs → Q (.ref p) H'
section
variable {w : Bool} {c : Cn} {env : Sy} {os : List SO} {te : TE} {ta : TA} {d : PyData}
theorem ex_call {R : List PyData → PyData → Prop} {E : XK} {ds : List PyData} (h : EvA w c env os ta ds) (hR : R ds d) : EvX w c env os (tCall (spD c.K R) [] E ta) d := fun ad σ H ok Q q =>
  h ad σ H ok _ fun vs H2 e a => by
    rw [List.append_nil]
    exact ⟨Nw w c ad os, ds, d, fun b z => (ok.ext e).nof (Nw_le b z), a, hR, fun v H' e' r => q v H' (e.trans e') r⟩
theorem ef_call {R : List PyData → List PyData → Prop} {E : XK} {ds rs : List PyData} (h : EvA false c env os ta ds) (hR : R ds rs) : EvF c env os (tCall (spF c.K R) [] E ta) (.lst (rs.map SV.i)) := fun ad σ H ok Q q =>
  h ad σ H ok _ fun vs H2 e a => by
    rw [List.append_nil]
    rw [Nw_false] at a
    exact ⟨Nof c ad os, ds, rs, fun b z => (ok.ext e).nof z, a, hR, fun p H' ws hp e' h1 h2 => q p H' (e.free hp) (e.trans e') ⟨ws, h1, dn_paired h2⟩⟩
/-- .. where an argument is a list of the store: told where the answer has no list in its items -/
theorem ef_callW {R : List PyData → List PyData → Prop} {E : XK} {ds rs : List PyData} (h : EvA true c env os ta ds) (hR : R ds rs) (hn : noLists rs = true) : EvF c env os (tCall (spF c.K R) [] E ta) (.lst (rs.map SV.i)) := fun ad σ H ok Q q =>
  h ad σ H ok _ fun vs H2 e a => by
    rw [List.append_nil]
    exact ⟨Nw true c ad os, ds, rs, fun b z => (ok.ext e).nof (Nw_le b z), a, hR, fun p H' ws hp e' h1 h2 => q p H' (e.free hp) (e.trans e') ⟨ws, h1, dn_paired (DnAll.goF TP.refl rs ws hn h2)⟩⟩
end

/-! ### statements -/
def Go (c : Cn) (env : Sy) (os : List SO) (t : TS) (D : Ends) : Prop := ∀ ad σ H, Ok c ad env os σ H → t D σ H
def Ret (c : Cn) (d : PyData) (D : Ends) : Prop := ∀ v H2, (∀ a o, c.H0 a = some o → ¬ c.M a → H2 a = some o) → Dn c.K c.N0 H2 v d → D.rt v H2
def RetF (c : Cn) (ds : List PyData) (D : Ends) : Prop := ∀ p H2 ws, c.H0 p = none → (∀ a o, c.H0 a = some o → ¬ c.M a → H2 a = some o) → H2 p = some (.lst ws) → DnAll c.K (fun a => c.N0 a ∨ a = p) H2 ws ds → D.rt (.ref p) H2
/-- such a state -/
def OkE (c : Cn) (env : Sy) (os : List SO) : St → Hp → Prop := fun σ H => ∃ ad, Ok c ad env os σ H
/-- a target takes a value -/
def Tg (c : Cn) (env : Sy) (os : List SO) (g : TG) (s : SV) (env' : Sy) (js : List Nat) : Prop := ∀ ad σ H v, Ok c ad env os σ H → SvOk c.K (Nof c ad os) ad os.length H v s → ∀ Q : St → Hp → Prop,
  (∀ σ', Ok c ad env' os σ' H → (∀ vs : List Nat, (∀ j ∈ js, j ∈ vs) → wipe σ' vs = wipe σ vs) → Q σ' H) → g v σ H Q
def Tgs (c : Cn) (env : Sy) (os : List SO) (g : TGs) (ds : List PyData) (env' : Sy) (js : List Nat) : Prop := ∀ ad σ H vs, Ok c ad env os σ H → DnAll c.K (Nof c ad os) H vs ds → ∀ Q : St → Hp → Prop,
  (∀ σ', Ok c ad env' os σ' H → (∀ vs : List Nat, (∀ j ∈ js, j ∈ vs) → wipe σ' vs = wipe σ vs) → Q σ' H) → g vs σ H Q
theorem wipe_set {σ : St} {j : Nat} {x : Option V} : ∀ {vs : List Nat}, j ∈ vs → wipe (σ.set j x) vs = wipe σ vs
  | v :: vs, h => by
    show (wipe (σ.set j x) vs).set v none = (wipe σ vs).set v none
    by_cases hj : j ∈ vs
    · rw [wipe_set hj]
    · have e : j = v := by
        rcases List.mem_cons.mp h with z | z
        · exact z
        · exact absurd z hj
      subst e
      have key : ∀ us : List Nat, j ∉ us → wipe (σ.set j x) us = (wipe σ us).set j x := by
        intro us
        induction us with
        | nil => intro _; rfl
        | cons u us ih =>
          intro hu
          have h1 : j ≠ u := fun z => hu (z ▸ List.mem_cons_self ..)
          have h2 : j ∉ us := fun z => hu (List.mem_cons_of_mem _ z)
          show (wipe (σ.set j x) us).set u none = ((wipe σ us).set u none).set j x
          rw [ih h2, List.set_comm _ _ h1]
      rw [key vs hj, List.set_set]
section
variable {w : Bool} {c : Cn} {env env' env'' : Sy} {os : List SO} {te ta tl : TE} {d : PyData} {g : TG} {u t v : TS} {D : Ends} {tt : TT}
theorem tg_name {j : Nat} {s : SV} : Tg c env os (gName j) s (env.set j (some s)) [j] := fun ad σ H v ok h Q q => q _ (ok.set h) fun vs hv => wipe_set (hv j (List.mem_cons_self ..))
theorem gs_asg {i : Nat} (h : EvX false c env os te d) (k : Go c (env.set i (some (.i d))) os u D) : Go c env os (tSeq (tAsg te (gName i)) u) D := fun ad σ H ok =>
  h ad σ H ok _ fun v H2 e r => k ad _ H2 ((ok.ext e).set (by rw [Nw_false] at r; exact r))
theorem gs_asgF {i : Nat} {o : SO} (h : EvF c env os te o) (k : Go c (env.set i (some (.r os.length))) (os ++ [o]) u D) : Go c env os (tSeq (tAsg te (gName i)) u) D := fun ad σ H ok =>
  h ad σ H ok _ fun p H2 hp e r => by
    have h0 : c.H0 p = none ∨ c.M p := by
      by_cases hm : c.M p
      · exact Or.inr hm
      · refine Or.inl ?_
        cases hz : c.H0 p with
        | none => rfl
        | some o => rw [ok.ex p o hz hm] at hp; cases hp
    have ok2 := ok.new hp e h0 r
    refine k _ _ H2 (ok2.set (v := .ref p) (s := .r os.length) ⟨congrArg V.ref adN_same.symm, by simp⟩)
theorem gs_asgR {i k : Nat} (h : EvR c env os te k) (kk : Go c (env.set i (some (.r k))) os u D) : Go c env os (tSeq (tAsg te (gName i)) u) D := fun ad σ H ok =>
  h.2 ad σ H ok _ fun H2 e => kk ad _ H2 ((ok.ext e).set ⟨rfl, h.1⟩)
theorem gs_if {b : Bool} (h : EvT c env os tt b) (h1 : b = true → Go c env os t { D with nx := u D }) (h2 : b = false → Go c env os v { D with nx := u D }) : Go c env os (tSeq (tIfS tt t v) u) D := fun ad σ H ok =>
  h ad σ H ok _ fun H2 e => by
    cases b with
    | true => exact h1 rfl ad σ H2 (ok.ext e)
    | false => exact h2 rfl ad σ H2 (ok.ext e)
theorem g_next (h : ∀ ad σ H, Ok c ad env os σ H → D.nx σ H) : Go c env os tNext D := h
theorem g_nextU (h : Go c env os u D) : Go c env os tNext { D with nx := u D } := h
theorem gs_ret (h : EvX true c env os te d) (k : Ret c d D) : Go c env os (tSeq (tRet te) u) D := fun ad σ H ok =>
  h ad σ H ok _ fun v H2 e r => k v H2 (ok.ext e).ex (r.sub fun a z => Or.inl z)
theorem gs_retF {ds : List PyData} (h : EvF c env os te (.lst (ds.map SV.i))) (hM : ∀ a, ¬ c.M a) (k : RetF c ds D) : Go c env os (tSeq (tRet te) u) D := fun ad σ H ok =>
  h ad σ H ok _ fun p H2 hp e r => by
    obtain ⟨vs, h1, h2⟩ := r
    refine k p H2 vs ?_ (ok.ext e).ex h1 ((paired_dn h2).sub fun a z => z.elim (fun y => Or.inl (Or.inl y)) Or.inr)
    cases hz : c.H0 p with
    | none => rfl
    | some o => rw [ok.ex p o hz (hM p)] at hp; cases hp
theorem gs_retO {k : Nat} {ds : List PyData} (h : EvR c env os te k) (hk : os[k]? = some (.lst (ds.map SV.i))) (hM : ∀ a, ¬ c.M a) (q : RetF c ds D) : Go c env os (tSeq (tRet te) u) D := fun ad σ H ok =>
  h.2 ad σ H ok _ fun H2 e => by
    have ok2 := ok.ext e
    obtain ⟨h0, vs, h1, h2⟩ := ok2.obj k _ hk rfl
    refine q (ad k) H2 vs (h0.resolve_right (hM _)) ok2.ex h1 ((paired_dn h2).sub fun a z => ?_)
    rcases z with z | z
    · exact Or.inl z
    · exact Or.inr ⟨k, ⟨_, hk, rfl⟩, z⟩
theorem gs_drop (h : EvX w c env os te d) (k : Go c env os u D) : Go c env os (tSeq (tDrop te) u) D := fun ad σ H ok => h ad σ H ok _ fun v H2 e r => k ad σ H2 (ok.ext e)
theorem paired_snoc {α β : Type} {F : α → β → Prop} {a : α} {b : β} : ∀ {l₁ : List α} {l₂ : List β}, Paired F l₁ l₂ → F a b → Paired F (l₁ ++ [a]) (l₂ ++ [b])
  | _, _, .nil, h => .cons h .nil
  | _, _, .cons r t, h => .cons r (paired_snoc t h)
/-- xs.append(e) -/
theorem gs_app {k : Nat} {ss : List SV} {s : SV} (hl : EvR c env os tl k) (hk : os[k]? = some (.lst ss)) (h : EvS c env os te s) (hz : ss.length < 100000) (kk : Go c env (os.set k (.lst (ss ++ [s]))) u D) : Go c env os (tSeq (tDrop (tBM c.K "list" rAppend tl (tCons te tNil))) u) D := fun ad σ H ok =>
  hl.2 ad σ H ok _ fun H1 e1 => by
    have ok1 := ok.ext e1
    obtain ⟨_, vs, hvs, pv⟩ := ok1.obj k _ hk rfl
    refine ⟨Or.inl ⟨rfl, vs, SqL.of hvs⟩, ?_⟩
    have fin : ∀ v H2, Ex H1 H2 → SvOk c.K (Nof c ad os) ad os.length H2 v s → tNil σ H2 fun xs H3 => rAppend (.ref (ad k)) (v :: xs) H3 fun _ H4 => u D σ H4 := fun v H2 e2 r => by
      have ok2 := ok1.ext e2
      have hv2 := e2 _ _ hvs
      refine ⟨ad k, vs, v, rfl, rfl, hv2, Nat.lt_of_lt_of_le (by rw [Paired.length pv]; exact hz) (by decide), ?_⟩
      refine kk ad σ _ (ok2.mut hk rfl rfl ⟨vs ++ [v], upd_same, ?_⟩)
      have hN : Nof c ad os (ad k) := Or.inr ⟨k, ⟨_, hk, rfl⟩, rfl⟩
      exact paired_snoc (Paired.imp pv fun _ _ z => (z.ext e2).mut hv2 rfl hN) (r.mut hv2 rfl hN)
    cases s with
    | i d => exact (show EvX false c env os te d from h) ad σ H1 ok1 _ fun v H2 e2 r => fin v H2 e2 (by rw [Nw_false] at r; exact r)
    | t ks => exact (show EvK c env os te ks from h).2 ad σ H1 ok1 _ fun b H2 e2 r => fin _ H2 e2 ⟨b, rfl, r, .inl (show EvK c env os te ks from h).1⟩
    | ob C m => exact (show EvB c env os te C m from h) ad σ H1 ok1 _ fun v H2 e2 r => fin v H2 e2 r
    | z m => exact (show EvZ c env os te m from h) ad σ H1 ok1 _ fun v H2 e2 r => fin v H2 e2 r
    | r j => exact (show EvR c env os te j from h).2 ad σ H1 ok1 _ fun H2 e2 => fin _ H2 e2 ⟨rfl, (show EvR c env os te j from h).1⟩
/-- x += e, ints -/
theorem gs_aug {i : Nat} {f : Int → Int → Int} {a b : Int} (hx : env[i]? = some (some (.i (.int a)))) (h : EvX true c env os te (.int b)) (k : Go c (env.set i (some (.i (.int (f a b))))) os u D) : Go c env os (tSeq (tAug i te (ipI f)) u) D := fun ad σ H ok => by
  obtain ⟨v, h1, h2⟩ := ok.val i _ hx
  cases dn_int (show Dn _ _ _ _ _ from h2)
  exact ⟨.int a, h1, h ad σ H ok _ fun v H2 e r => ⟨a, b, rfl, dn_int r, k ad _ H2 ((ok.ext e).set (show Dn _ _ _ _ _ from .int _))⟩⟩
/-- less is known -/
theorem gs_weak {os' : List SO} (he : WkE env env') (ho : WkO os os') (l1 : EnLt os'.length env') (l2 : OsLt os'.length os') (l3 : c.lo ≤ os'.length) (k : Go c env' os' u D) : Go c env os u D := fun ad σ H ok => k ad σ H (ok.weak he ho l1 l2 l3)
/-- the state as it is told elsewhere -/
theorem gs_is {os' : List SO} (h1 : env = env') (h2 : os = os') (k : Go c env' os' u D) : Go c env os u D := by subst h1 h2; exact k
end

/-! ### what is walked -/
structure WalkD (c : Cn) (J : It) (n : Nat) (it : Nat → SV) (G : List SO → Prop) : Prop where
  goes : ∀ i ad env os σ H, i < n → Ok c ad env os σ H → G os → J.go i H
  stops : ∀ ad env os σ H, Ok c ad env os σ H → G os → J.stop n H
  yields : ∀ i ad env os σ H x H', i < n → Ok c ad env os σ H → G os → J.yld i H x H' → Ex H H' ∧ SvOk c.K (Nof c ad os) ad os.length H' x (it i)
/-- wi walks the n things it -/
def EvW (c : Cn) (env : Sy) (os : List SO) (wi : TI) (n : Nat) (it : Nat → SV) (G : List SO → Prop) : Prop := ∀ ad σ H, Ok c ad env os σ H → ∀ R : It → Hp → Prop,
  (∀ J H1 fr, Ex H H1 → Ok (c.w fr os.length) ad env os σ H1 → (∀ ad' env' os' σ' H', Ok (c.w fr os.length) ad' env' os' σ' H' → Ok c ad' env' os' σ' H') → WalkD (c.w fr os.length) J n it G → R J H1) → wi σ H R
/-- what is known outside is known inside -/
def Up (c c' : Cn) : Prop := ∀ ad env os σ H, Ok c' ad env os σ H → Ok c ad env os σ H
section
variable {c : Cn} {env : Sy} {os : List SO} {te tl : TE} {ad : Nat → Addr} {σ : St} {H : Hp}
theorem up_pin (ok : Ok c ad env os σ H) {v : V} {s : SV} : Up c (c.w ((v, s) :: c.fr) os.length) := fun ad' env' os' σ' H' o => ⟨o.len, o.ex, o.n0, o.val, o.obj, o.inj, o.nn, fun p hp => by
  have h1 := o.frm p (List.mem_cons_of_mem _ hp)
  have h2 := ok.frm p hp
  obtain ⟨x, y⟩ := p
  cases y with
  | i d => exact h1
  | t ks => exact h1
  | ob C m => exact h1
  | z m => exact h1
  | r k => exact ⟨h1.1, h2.2⟩, Nat.le_trans ok.low o.low⟩
theorem up_pin0 (ok : Ok c ad env os σ H) : Up c (c.w c.fr os.length) := fun ad' env' os' σ' H' o => ⟨o.len, o.ex, o.n0, o.val, o.obj, o.inj, o.nn, fun p hp => by
  have h1 := o.frm p hp
  have h2 := ok.frm p hp
  obtain ⟨x, y⟩ := p
  cases y with
  | i d => exact h1
  | t ks => exact h1
  | ob C m => exact h1
  | z m => exact h1
  | r k => exact ⟨h1.1, h2.2⟩, Nat.le_trans ok.low o.low⟩
theorem sql_of_dn {K : PySem.W.Frag} {N : Addr → Prop} {H : Hp} {a : Addr} {ds : List PyData} (h : Dn K N H (.ref a) (.list ds)) : ∃ xs, SqL K H a xs ∧ DnAll K N H xs ds := by
  cases h with
  | lst r n a => exact ⟨_, Or.inl r, a⟩
  | lstK r a => exact ⟨_, Or.inr r, a⟩
theorem dn_list_ref {K : PySem.W.Frag} {N : Addr → Prop} {H : Hp} {v : V} {ds : List PyData} (h : Dn K N H v (.list ds)) : ∃ a, v = .ref a := by cases h <;> exact ⟨_, rfl⟩
theorem dn_tup_ref {K : PySem.W.Frag} {N : Addr → Prop} {H : Hp} {v : V} {ds : List PyData} (h : Dn K N H v (.tuple ds)) : ∃ a xs, v = .ref a ∧ SqT K H a xs ∧ DnAll K N H xs ds := by
  cases h with
  | tup r a => exact ⟨_, _, rfl, r, a⟩
def itD (ds : List PyData) : Nat → SV := fun i => .i (ds.getD i .none)
theorem itD_at {ds : List PyData} {i : Nat} {d : PyData} (h : ds[i]? = some d) : itD ds i = .i d := by
  unfold itD
  rw [List.getD_eq_getElem?_getD, h]
  rfl
/-- a list of data -/
theorem ew_list {ds : List PyData} (h : EvX false c env os tl (.list ds)) : EvW c env os (iList c.K tl) ds.length (itD ds) (fun _ => True) := fun ad σ H ok R q =>
  h ad σ H ok _ fun v H1 e r => by
    rw [Nw_false] at r
    obtain ⟨a, rfl⟩ := dn_list_ref r
    obtain ⟨xs, hs, _⟩ := sql_of_dn r
    refine ⟨a, rfl, ⟨xs, hs⟩, q _ H1 ((.ref a, .i (.list ds)) :: c.fr) e ((ok.ext e).pin r) (up_pin (ok.ext e)) ⟨fun i ad' env' os' σ' H' hi o _ => ?_, fun ad' env' os' σ' H' o _ => ?_, fun i ad' env' os' σ' H' x H'' hi o _ y => ?_⟩⟩
    all_goals
      have r' : Dn c.K (Nof c ad' os') H' (.ref a) (.list ds) := o.frm _ (List.mem_cons_self ..)
      obtain ⟨ys, hy, ay⟩ := sql_of_dn r'
    · exact ⟨ys, ys[i]'(by rw [ay.length]; exact hi), hy, List.getElem?_eq_getElem _⟩
    · exact ⟨ys, hy, by rw [ay.length]; exact Nat.le_refl _⟩
    · obtain ⟨rfl, y⟩ := y
      refine ⟨Ex.refl _, ?_⟩
      obtain ⟨d, h1, h2⟩ := ay.getV (y ys hy)
      rw [itD_at h1]
      exact h2
/-- a tuple -/
theorem ew_tup {ds : List PyData} (h : EvX false c env os tl (.tuple ds)) : EvW c env os (iTup c.K tl) ds.length (itD ds) (fun _ => True) := fun ad σ H ok R q =>
  h ad σ H ok _ fun v H1 e r => by
    rw [Nw_false] at r
    obtain ⟨a, xs, rfl, hs, _⟩ := dn_tup_ref r
    refine ⟨a, rfl, ⟨xs, hs⟩, q _ H1 ((.ref a, .i (.tuple ds)) :: c.fr) e ((ok.ext e).pin r) (up_pin (ok.ext e)) ⟨fun i ad' env' os' σ' H' hi o _ => ?_, fun ad' env' os' σ' H' o _ => ?_, fun i ad' env' os' σ' H' x H'' hi o _ y => ?_⟩⟩
    all_goals
      have r' : Dn c.K (Nof c ad' os') H' (.ref a) (.tuple ds) := o.frm _ (List.mem_cons_self ..)
      obtain ⟨a', ys, ea, hy, ay⟩ := dn_tup_ref r'
      cases ea
    · exact ⟨ys, ys[i]'(by rw [ay.length]; exact hi), hy, List.getElem?_eq_getElem _⟩
    · exact ⟨ys, hy, by rw [ay.length]; exact Nat.le_refl _⟩
    · obtain ⟨rfl, y⟩ := y
      refine ⟨Ex.refl _, ?_⟩
      obtain ⟨d, h1, h2⟩ := ay.getV (y ys hy)
      rw [itD_at h1]
      exact h2
theorem ew_range1 {ta : TA} {n : Int} (h : EvA true c env os ta [.int n]) (hn : -1000000000000 ≤ n ∧ n ≤ 1000000000000) : EvW c env os (iRng1 ta) n.toNat (fun i => .i (.int (i : Int))) (fun _ => True) := fun ad σ H ok R q =>
  h ad σ H ok _ fun vs H1 e r => by
    cases r with
    | cons a b =>
      cases b
      cases dn_int a
      refine ⟨n, rfl, by omega, by omega, q _ H1 c.fr e (ok.ext e).pin0 (up_pin0 (ok.ext e)) ⟨fun i ad' env' os' σ' H' hi o _ => hi, fun ad' env' os' σ' H' o _ => Nat.le_refl _, fun i ad' env' os' σ' H' x H'' hi o _ y => ?_⟩⟩
      obtain ⟨rfl, rfl⟩ := y
      refine ⟨Ex.refl _, ?_⟩
      rw [Int.zero_add]
      exact Dn.int _
end

/-! ### loops -/
section
variable {c : Cn} {env : Sy} {os : List SO} {g : TG} {tb u : TS} {D : Ends}
/-- a for: E, O the slots and the store by the number of turns done -/
theorem gs_for {wi : TI} {n : Nat} {it : Nat → SV} {G : List SO → Prop} (E : Nat → Sy) (O : Nat → List SO) (hw : EvW c env os wi n it G)
    (h0 : ∀ c' : Cn, c'.lo = os.length → ∀ ad σ H, Ok c' ad env os σ H → Ok c' ad (E 0) (O 0) σ H) (hG : ∀ i, i ≤ n → G (O i))
    (hs : ∀ fr, Up c (c.w fr os.length) → ∀ i, i < n → ∃ env' js, Tg (c.w fr os.length) (E i) (O i) g (it i) env' js ∧ Go (c.w fr os.length) env' (O i) tb { D with nx := OkE (c.w fr os.length) (E (i + 1)) (O (i + 1)), ct := OkE (c.w fr os.length) (E (i + 1)) (O (i + 1)), bk := u D })
    (hd : Go c (E n) (O n) u D) : Go c env os (tSeq (tFor wi g tb) u) D := fun ad σ H ok => by
  refine hw ad σ H ok _ fun J H1 fr e ok1 up W => ?_
  refine ⟨fun i m σ H => m = n - i ∧ i ≤ n ∧ OkE (c.w fr os.length) (E i) (O i) σ H, ⟨n, by simp, Nat.zero_le _, ad, h0 _ rfl ad σ H1 ok1⟩, ?_⟩
  rintro i m σ H ⟨rfl, hi, ad', ok'⟩
  by_cases hlt : i < n
  · refine .inr ⟨W.goes i _ _ _ _ _ hlt ok' (hG i hi), OkE (c.w fr os.length) (E (i + 1)) (O (i + 1)), fun σ' H' p' => ⟨n - (i + 1), by omega, rfl, hlt, p'⟩, fun x H' y => ?_⟩
    obtain ⟨e2, r⟩ := W.yields i _ _ _ _ _ x H' hlt ok' (hG i hi) y
    obtain ⟨env', js, ht, hb⟩ := hs fr up i hlt
    exact ht ad' σ H' x (ok'.ext e2) r _ fun σ2 ok2 _ => hb ad' σ2 H' ok2
  · have q : i = n := by omega
    subst q
    exact .inl ⟨W.stops _ _ _ _ _ ok' (hG i hi), hd ad' σ H (up _ _ _ _ _ ok')⟩
/-- .. over the list of the e x, x in xs; E, O by the part that is done -/
theorem gs_forL {α : Type} {wi : TI} {xs : List α} {e : α → SV} {n : Nat} {it : Nat → SV} {G : List SO → Prop} (E : List α → Sy) (O : List α → List SO) (hw : EvW c env os wi n it G) (hn : n = xs.length) (hit : ∀ i x, xs[i]? = some x → it i = e x)
    (h0 : ∀ c' : Cn, c'.lo = os.length → ∀ ad σ H, Ok c' ad env os σ H → Ok c' ad (E []) (O []) σ H) (hG : ∀ pre post, xs = pre ++ post → G (O pre))
    (hs : ∀ fr, Up c (c.w fr os.length) → ∀ pre x post, xs = pre ++ x :: post → ∃ env' js, Tg (c.w fr os.length) (E pre) (O pre) g (e x) env' js ∧ Go (c.w fr os.length) env' (O pre) tb { D with nx := OkE (c.w fr os.length) (E (pre ++ [x])) (O (pre ++ [x])), ct := OkE (c.w fr os.length) (E (pre ++ [x])) (O (pre ++ [x])), bk := u D })
    (hd : Go c (E xs) (O xs) u D) : Go c env os (tSeq (tFor wi g tb) u) D := by
  subst hn
  refine gs_for (fun i => E (xs.take i)) (fun i => O (xs.take i)) hw (fun c' hc => by simpa using h0 c' hc) (fun i hi => hG _ (xs.drop i) (List.take_append_drop i xs).symm) (fun fr up i hi => ?_) (by simpa using hd)
  have e1 : xs = xs.take i ++ xs[i] :: xs.drop (i + 1) := by
    rw [List.getElem_cons_drop]; exact (List.take_append_drop i xs).symm
  obtain ⟨env', js, h1, h2⟩ := hs fr up (xs.take i) xs[i] (xs.drop (i + 1)) e1
  rw [hit i xs[i] (List.getElem?_eq_getElem hi)]
  refine ⟨env', js, h1, ?_⟩
  have e2 : xs.take (i + 1) = xs.take i ++ [xs[i]] := by rw [List.take_succ, List.getElem?_eq_getElem hi]; rfl
  simp only [e2]
  exact h2
/-- break: what is behind the loop -/
theorem gs_break {c' : Cn} {v : TS} (up : Up c c') (h : Go c env os u D) {D' : Ends} (hD : D'.bk = u D) : Go c' env os (tSeq tBreak v) D' := fun ad σ H ok => by
  show D'.bk σ H
  rw [hD]
  exact h ad σ H (up _ _ _ _ _ ok)
/-- while -/
theorem gs_while {S : Type} {tc : TT} (E : S → Sy) (O : S → List SO) (P : S → Prop) (b : S → Bool) (μ : S → Nat) (s0 : S) (h0 : ∀ c' : Cn, c'.lo = os.length → ∀ ad σ H, Ok c' ad env os σ H → Ok c' ad (E s0) (O s0) σ H) (p0 : P s0)
    (ht : ∀ fr, Up c (c.w fr os.length) → ∀ s, P s → EvT (c.w fr os.length) (E s) (O s) tc (b s))
    (hs : ∀ fr, Up c (c.w fr os.length) → ∀ s, P s → b s = true → Go (c.w fr os.length) (E s) (O s) tb { D with nx := fun σ H => ∃ s', P s' ∧ μ s' < μ s ∧ OkE (c.w fr os.length) (E s') (O s') σ H, ct := fun σ H => ∃ s', P s' ∧ μ s' < μ s ∧ OkE (c.w fr os.length) (E s') (O s') σ H, bk := u D })
    (hd : ∀ s, P s → b s = false → Go c (E s) (O s) u D) : Go c env os (tSeq (tWhile tc tb) u) D := fun ad σ H ok => by
  have up := up_pin0 ok
  refine ⟨fun m σ H => ∃ s, P s ∧ m = μ s ∧ OkE (c.w c.fr os.length) (E s) (O s) σ H, ⟨_, s0, p0, rfl, ad, h0 _ rfl ad σ H ok.pin0⟩, ?_⟩
  rintro m σ H ⟨s, ps, rfl, ad', ok'⟩
  refine ht _ up s ps ad' σ H ok' _ fun H2 e2 => ?_
  cases hb : b s with
  | true =>
    rw [if_pos rfl]
    refine ⟨fun σ H => ∃ s', P s' ∧ μ s' < μ s ∧ OkE (c.w c.fr os.length) (E s') (O s') σ H, ?_, hs _ up s ps hb ad' σ H2 (ok'.ext e2)⟩
    rintro σ' H' ⟨s', p', hm, ok2⟩
    exact ⟨μ s', hm, s', p', rfl, ok2⟩
  | false =>
    rw [if_neg (by decide)]
    exact hd s ps hb ad' σ H2 (up _ _ _ _ _ (ok'.ext e2))
end
end DL

set_option Elab.async false
set_option linter.all false
set_option maxRecDepth 100000
set_option maxHeartbeats 2000000
/-! The data layer: comprehensions, types, a def's start. -/
namespace DL
open PySem L2
open Evl (Ex Ex.refl Ex.trans Ex.new)

/-! ### comprehensions -/
def wipeE (env : Sy) : List Nat → Sy
  | [] => env
  | v :: vs => (wipeE env vs).set v none
theorem Ok.wipe {c : Cn} {ad : Nat → Addr} {env : Sy} {os : List SO} {σ : St} {H : Hp} (ok : Ok c ad env os σ H) : ∀ vs : List Nat, Ok c ad (wipeE env vs) os (wipe σ vs) H
  | [] => ok
  | _ :: vs => (Ok.wipe ok vs).setU
section
variable {c : Cn} {env : Sy} {os : List SO} {g : TG} {tt : TT} {te : TE}
theorem ef_lc {α : Type} {wi : TI} {n : Nat} {it : Nat → SV} {G : List SO → Prop} {xs : List α} {e : α → SV} {vs : List Nat} (p : α → Bool) (f : α → PyData) (hw : EvW c env os wi n it G) (hn : n = xs.length) (hit : ∀ i x, xs[i]? = some x → it i = e x)
    (hG : ∀ o, G (os ++ [o])) (hz : xs.length ≤ 40000)
    (hs : ∀ fr lo, Up c (c.w fr lo) → ∀ acc x, x ∈ xs → ∃ env' js, (∀ j ∈ js, j ∈ vs) ∧ Tg (c.w fr lo) (wipeE env vs) (os ++ [.lst acc]) g (e x) env' js ∧ EvT (c.w fr lo) env' (os ++ [.lst acc]) tt (p x) ∧ (p x = true → EvX false (c.w fr lo) env' (os ++ [.lst acc]) te (f x))) :
    EvF c env os (tLc wi g tt te vs) (.lst (((xs.filter p).map f).map SV.i)) := fun ad σ H ok Q q => by
  subst hn
  refine hw ad σ H ok _ fun J H1 fr e1 ok1 up W D hD => ?_
  have h0 : (c.w fr os.length).H0 D = none ∨ (c.w fr os.length).M D := by
    by_cases hm : c.M D
    · exact Or.inr hm
    · refine Or.inl ?_
      show c.H0 D = none
      cases hz : c.H0 D with
      | none => rfl
      | some o => rw [ok1.ex D o hz hm] at hD; cases hD
  have ok2 := ok1.new (o := .lst []) hD (Ex.new (o := .lst []) hD) h0 ⟨[], upd_same, .nil⟩
  have ok3 := ok2.pin (v := .ref D) (s := .r os.length) ⟨congrArg V.ref adN_same.symm, by simp⟩
  have ok4 := ok3.wipe vs
  have up2 := up_pin (v := .ref D) (s := .r os.length) ok2
  generalize hlo : (os ++ [SO.lst []]).length = lo at ok4 up2
  generalize hfr : ((V.ref D, SV.r os.length) :: fr) = fr' at ok4 up2
  have upc : Up c (c.w fr' lo) := fun a b d e f z => up _ _ _ _ _ (up2 _ _ _ _ _ z)
  let acc : Nat → List SV := fun i => (((xs.take i).filter p).map f).map SV.i
  have hacc : ∀ i, (acc i).length ≤ i := fun i => by
    show ((((xs.take i).filter p).map f).map SV.i).length ≤ i
    rw [List.length_map, List.length_map]
    have h1 := List.length_filter_le p (xs.take i)
    rw [List.length_take] at h1
    omega
  refine ⟨fun i m H => m = xs.length - i ∧ i ≤ xs.length ∧ Ok (c.w fr' lo) (adN ad os.length D) (wipeE env vs) (os ++ [.lst (acc i)]) (wipe σ vs) H ∧ Ex H1 H, ⟨xs.length, by simp, Nat.zero_le _, ok4, Ex.new hD⟩, ?_⟩
  rintro i m H' ⟨rfl, hi, ok', ex1⟩
  have hget : (os ++ [SO.lst (acc i)])[os.length]? = some (.lst (acc i)) := by simp
  by_cases hlt : i < xs.length
  · have e0 : xs[i]? = some xs[i] := List.getElem?_eq_getElem hlt
    have et : xs.take (i + 1) = xs.take i ++ [xs[i]] := by rw [List.take_succ, e0]; rfl
    refine .inr ⟨W.goes i _ _ _ _ _ hlt (up2 _ _ _ _ _ ok') (hG _), fun H'' => Ok (c.w fr' lo) (adN ad os.length D) (wipeE env vs) (os ++ [.lst (acc (i + 1))]) (wipe σ vs) H'' ∧ Ex H1 H'', fun H'' p' => ⟨xs.length - (i + 1), by omega, rfl, hlt, p'.1, p'.2⟩, fun x H'' y => ?_⟩
    obtain ⟨e2, r⟩ := W.yields i _ _ _ _ _ x H'' hlt (up2 _ _ _ _ _ ok') (hG _) y
    rw [hit i xs[i] e0] at r
    have ok5 := ok'.ext e2
    obtain ⟨env', js, hjs, ht, hb, he⟩ := hs fr' lo upc (acc i) xs[i] (List.getElem_mem hlt)
    refine ht _ _ H'' x ok5 r _ fun σ2 ok6 hwp => ⟨?_, hb _ σ2 H'' ok6 _ fun H3 e3 => ?_⟩
    · rw [hwp vs hjs]
      have idem : ∀ (us : List Nat) (τ : St), (∀ j ∈ us, τ[j]? = some none ∨ τ[j]? = none) → wipe τ us = τ := by
        intro us
        induction us with
        | nil => intro τ _; rfl
        | cons u us ih =>
          intro τ h
          show (wipe τ us).set u none = τ
          rw [ih τ fun j hj => h j (List.mem_cons_of_mem _ hj)]
          rcases h u (List.mem_cons_self ..) with z | z
          · obtain ⟨h1, h2⟩ := List.getElem?_eq_some_iff.mp z
            exact List.ext_getElem? fun k => by
              by_cases q : u = k
              · subst q; rw [List.getElem?_set_self h1, z]
              · rw [List.getElem?_set_ne q]
          · exact List.set_eq_of_length_le (List.getElem?_eq_none_iff.mp z)
      refine idem vs _ fun j hj => ?_
      cases hx : (wipe σ vs)[j]? with
      | none => exact Or.inr rfl
      | some o =>
        cases o with
        | none => exact Or.inl rfl
        | some v => exact absurd hj (wipe_some hx).2
    · cases hp : p xs[i] with
      | false =>
        rw [if_neg (by decide)]
        have ea : acc (i + 1) = acc i := by
          show (((xs.take (i + 1)).filter p).map f).map SV.i = _
          rw [et, List.filter_append, List.filter_cons, if_neg (by rw [hp]; decide), List.filter_nil, List.append_nil]
        rw [ea]
        exact ⟨ok5.ext e3, (ex1.trans e2).trans e3⟩
      | true =>
        rw [if_pos rfl]
        refine he hp _ σ2 H3 (ok6.ext e3) _ fun y H4 e4 ry => ?_
        have ok7 := (ok5.ext e3).ext e4
        obtain ⟨_, ws, hws, pws⟩ := ok7.obj os.length _ hget rfl
        rw [adN_same] at hws
        have ea : acc (i + 1) = acc i ++ [SV.i (f xs[i])] := by
          show (((xs.take (i + 1)).filter p).map f).map SV.i = _
          rw [et, List.filter_append, List.filter_cons, if_pos hp, List.filter_nil, List.map_append, List.map_append]
          rfl
        refine ⟨ws, hws, ?_, ?_⟩
        · rw [Paired.length pws]
          exact Nat.lt_of_le_of_lt (hacc i) (Nat.lt_of_lt_of_le (show i < 40000 by omega) (by decide))
        · have hN : Nof (c.w fr' lo) (adN ad os.length D) (os ++ [SO.lst (acc i)]) D := Or.inr ⟨os.length, ⟨_, hget, rfl⟩, adN_same.symm⟩
          rw [Nw_false] at ry
          have m := ok7.mut (o' := .lst (acc (i + 1))) (u' := .lst (ws ++ [y])) hget rfl rfl (by
            rw [adN_same]
            refine ⟨_, upd_same, ?_⟩
            rw [ea]
            exact paired_snoc (Paired.imp pws fun _ _ z => z.mut hws rfl hN) (show Dn _ _ _ _ _ from Dn.mut hws rfl hN ry))
          rw [adN_same] at m
          have es : (os ++ [SO.lst (acc i)]).set os.length (SO.lst (acc (i + 1))) = os ++ [SO.lst (acc (i + 1))] := by
            rw [List.set_append_right _ _ (Nat.le_refl _), Nat.sub_self]
            rfl
          rw [es] at m
          refine ⟨m, fun a o h => ?_⟩
          rw [upd_ne (ne_of_none h hD)]
          exact ((ex1.trans e2).trans e3).trans e4 a o h
  · have q : i = xs.length := by omega
    subst q
    have ea : acc xs.length = ((xs.filter p).map f).map SV.i := by
      show (((xs.take xs.length).filter p).map f).map SV.i = _
      rw [List.take_length]
    refine .inl ⟨W.stops _ _ _ _ _ (up2 _ _ _ _ _ ok') (hG _), ?_⟩
    obtain ⟨_, ws, hws, pws⟩ := ok'.obj os.length _ hget rfl
    rw [adN_same] at hws
    refine q D H' (e1.free hD) (e1.trans ex1) ⟨ws, hws, ?_⟩
    have hget2 := hget
    rw [ea] at pws hget2
    refine dn_paired ((paired_dn pws).sub fun a z => ?_)
    rcases z with z | z
    · rcases z with z | ⟨k, ⟨o, h1, h2⟩, z⟩
      · exact Or.inl z
      · have hk : k < os.length := (List.getElem?_eq_some_iff.mp h1).1
        exact Or.inr ⟨k, ⟨o, by rw [List.getElem?_append_left hk]; exact h1, h2⟩, by rw [adN_ne (by omega)]; exact z⟩
    · exact Or.inr ⟨os.length, ⟨_, hget2, rfl⟩, by rw [adN_same]; exact z⟩
end

/-! ### types -/
def tyN : PyData → String
  | .none => "NoneType"
  | .bool _ => "bool"
  | .int _ => "int"
  | .str _ => "str"
  | .list _ => "list"
  | .tuple _ => "tuple"
  | .dict ((.bool true, _) :: _) => "@ins"
  | .dict ((.list [], _) :: _) => "@ins"
  | .dict _ => "dict"
/-- as kitB, for kinds of data alone -/
def kitD (a b : String) : Option Bool := if a = "@ins" then none else kitB a b
theorem tyx_of {K : PySem.W.Frag} {N : Addr → Prop} {H : Hp} {v : V} {d : PyData} (h : Dn K N H v d) (hi : tyN d ≠ "@ins") : TyX K H v (.type (tyN d)) := by
  cases h with
  | non => exact .base .non
  | bl b => exact .base (.bl b)
  | int i => exact .base (.int i)
  | str x => exact .base (.str x)
  | lst r n a =>
    rcases r with r | ⟨o, r⟩
    · exact .base (.lst r)
    · exact .base (.frz r)
  | lstK r a =>
    obtain ⟨o, its, n, h1, h2, _⟩ := r
    exact .kList h1 h2
  | tup r a =>
    rcases r with (r | ⟨o, r⟩) | ⟨o, its, n, h1, h2, _⟩
    · exact .base (.tup r)
    · exact .fTuple r
    · exact .kTuple h1 h2
  | @dkk _ ws kvs r n a =>
    have e : tyN (.dict kvs) = "dict" := by
      cases ws with
      | nil => cases a; rfl
      | cons x ws =>
        rw [List.map_cons] at a
        generalize hk : kdat x.1 = kd at a
        cases a
        obtain ⟨k, y⟩ := x
        cases k <;> cases hk <;> rfl
    rw [e]
    rcases r with r | ⟨o, r⟩
    · exact .base (.dK r)
    · exact .fDict r
  | dkt r n a =>
    cases a
    exact .base (.dT r)
  | dkz r n a =>
    cases a
    exact .fDict r
  | ft r n a =>
    cases a
    exact absurd rfl hi
  | ins r n a =>
    cases a
    exact absurd rfl hi
theorem kitD_ins {a b : String} {r : Bool} (h : kitD a b = some r) : a ≠ "@ins" := fun e => by
  unfold kitD at h
  rw [if_pos e] at h
  cases h
theorem kitD_b {a b : String} {r : Bool} (h : kitD a b = some r) : kitB a b = some r := by
  have e := kitD_ins h
  unfold kitD at h
  rwa [if_neg e] at h
theorem kit_int_int : kitD "int" "int" = some true := by decide +kernel
theorem kit_int_bool : kitD "int" "bool" = some false := by decide +kernel
theorem kit_str_str : kitD "str" "str" = some true := by decide +kernel
theorem kit_tuple_tuple : kitD "tuple" "tuple" = some true := by decide +kernel
theorem kit_tuple_list : kitD "tuple" "list" = some false := by decide +kernel
section
variable {w : Bool} {c : Cn} {env : Sy} {os : List SO} {te tl : TE} {d : PyData}
theorem ex_isi {T : String} {b : Bool} (h : EvX true c env os te d) (hb : kitD (tyN d) T = some b) : EvX w c env os (tCB (rIsi c.K) (tCons te (tCons (tC (.ty T)) tNil))) (.bool b) := fun ad σ H ok Q q =>
  h ad σ H ok _ fun v H2 e r => ⟨v, .ty T, .type (tyN d), .type T, b, rfl, .ty T, tyx_of r (kitD_ins hb), kit_ty (kitD_b hb), q _ H2 e (.bl b)⟩
def maxL : List Int → Int
  | [] => 0
  | x :: xs => xs.foldl max x
def minL : List Int → Int
  | [] => 0
  | x :: xs => xs.foldl min x
theorem foldl_max : ∀ (xs : List Int) (a : Int), a ≤ xs.foldl max a ∧ (∀ y ∈ xs, y ≤ xs.foldl max a) ∧ (xs.foldl max a = a ∨ xs.foldl max a ∈ xs)
  | [], a => ⟨Int.le_refl _, (fun _ h => absurd h (List.not_mem_nil)), Or.inl rfl⟩
  | x :: xs, a => by
    obtain ⟨h1, h2, h3⟩ := foldl_max xs (max a x)
    refine ⟨by simp only [List.foldl_cons]; omega, fun y hy => ?_, ?_⟩
    · simp only [List.foldl_cons]
      rcases List.mem_cons.mp hy with z | z
      · subst z; omega
      · exact h2 y z
    · simp only [List.foldl_cons]
      rcases h3 with z | z
      · rw [z]
        by_cases hx : a ≤ x
        · exact Or.inr (by rw [show max a x = x by omega]; exact List.mem_cons_self ..)
        · exact Or.inl (by omega)
      · exact Or.inr (List.mem_cons_of_mem _ z)
theorem maxL_spec : ∀ {xs : List Int}, xs ≠ [] → maxL xs ∈ xs ∧ ∀ y ∈ xs, y ≤ maxL xs
  | [], h => absurd rfl h
  | x :: xs, _ => by
    obtain ⟨h1, h2, h3⟩ := foldl_max xs x
    refine ⟨?_, fun y hy => ?_⟩
    · show xs.foldl max x ∈ _
      rcases h3 with z | z
      · rw [z]; exact List.mem_cons_self ..
      · exact List.mem_cons_of_mem _ z
    · rcases List.mem_cons.mp hy with z | z
      · subst z; exact h1
      · exact h2 y z
theorem ints_of {K : PySem.W.Frag} {N : Addr → Prop} {ad : Nat → Addr} {n : Nat} {H : Hp} : ∀ {vs : List V} {ns : List Int}, Paired (SvOk K N ad n H) vs ((ns.map PyData.int).map SV.i) → vs = ns.map V.int
  | _, [], h => by cases h; rfl
  | _, x :: ns, h => by
    cases h with
    | cons a b => rw [ints_of b, dn_int (show Dn _ _ _ _ _ from a)]; rfl
theorem bls_of {K : PySem.W.Frag} {N : Addr → Prop} {ad : Nat → Addr} {n : Nat} {H : Hp} : ∀ {vs : List V} {ns : List Bool}, Paired (SvOk K N ad n H) vs ((ns.map PyData.bool).map SV.i) → vs = ns.map V.bl
  | _, [], h => by cases h; rfl
  | _, x :: ns, h => by
    cases h with
    | cons a b => rw [bls_of b, dn_bool (show Dn _ _ _ _ _ from a)]; rfl
theorem ex_all {ns : List Bool} (h : EvI c env os tl ((ns.map PyData.bool).map SV.i)) : EvX w c env os (tCB (rAll c.K) (tCons tl tNil)) (.bool (ns.all id)) := fun ad σ H ok Q q =>
  h ad σ H ok _ fun p vs H2 e s r => by
    rw [bls_of r] at s
    exact ⟨p, ns, rfl, s, q _ H2 e (.bl _)⟩
end

/-! ### a def's start -/
def env0 (n : Nat) (ds : List PyData) : Sy := ds.map (fun d => some (SV.i d)) ++ List.replicate (n - ds.length) none
theorem ok_start {K : PySem.W.Frag} {H : Hp} {N : Addr → Prop} {vs : List V} {ds : List PyData} {Nm : List Str} (hN : ∀ a, N a → H a ≠ none) (h : DnAll K N H vs ds) : Ok ⟨K, H, N, fun _ => False, [], 0⟩ (fun _ => 0) (env0 Nm.length ds) [] (L2.start Nm vs) H where
  len := by unfold L2.start env0; simp [h.length]
  ex := fun a o e _ => e
  n0 := hN
  val := fun i s e => by
    unfold env0 at e
    by_cases hi : i < ds.length
    · rw [List.getElem?_append_left (by simpa using hi), List.getElem?_map] at e
      cases hd : ds[i]? with
      | none => rw [hd] at e; cases e
      | some d =>
        rw [hd] at e
        cases e
        obtain ⟨v, h1, h2⟩ := h.get hd
        refine ⟨v, ?_, h2.sub fun a z => z.elim id fun ⟨k, ⟨o, y, _⟩, _⟩ => by simp at y⟩
        unfold L2.start
        rw [List.getElem?_append_left (by rw [List.length_map, h.length]; exact hi), List.getElem?_map, h1]
        rfl
    · rw [List.getElem?_append_right (by simpa using hi)] at e
      rw [List.getElem?_replicate] at e
      split at e <;> cases e
  obj := fun k o e _ => by simp at e
  inj := fun k j ⟨o, e, _⟩ => by simp at e
  nn := fun k ⟨o, e, _⟩ => by simp at e
  frm := fun p hp => by cases hp
  low := Nat.le_refl _
theorem spD_len {K : PySem.W.Frag} {R : List PyData → PyData → Prop} {n : Nat} (hR : ∀ ds d, R ds d → ds.length = n) : ∀ vs H Q E, spD K R vs H Q E → vs.length = n := fun vs H Q E ⟨N, ds, d, _, h, r, _⟩ => h.length.trans (hR ds d r)
theorem spF_len {K : PySem.W.Frag} {R : List PyData → List PyData → Prop} {n : Nat} (hR : ∀ ds d, R ds d → ds.length = n) : ∀ vs H Q E, spF K R vs H Q E → vs.length = n := fun vs H Q E ⟨N, ds, d, _, h, r, _⟩ => h.length.trans (hR ds d r)
/-- the ends of a def's body -/
abbrev De (Q : VK) : Ends := { nx := fun _ H' => Q .non H', rt := Q }
theorem run_spD {K : PySem.W.Frag} {R : List PyData → PyData → Prop} {vs : List V} {H : Hp} {Q : VK} {E : XK} {Nm : List Str} {t : TS} (h : spD K R vs H Q E)
    (g : ∀ N ds d, R ds d → Ret ⟨K, H, N, fun _ => False, [], 0⟩ d (De Q) → Go ⟨K, H, N, fun _ => False, [], 0⟩ (env0 Nm.length ds) [] t (De Q)) : t (De Q) (L2.start Nm vs) H := by
  obtain ⟨N, ds, d, hN, hv, hR, hq⟩ := h
  exact g N ds d hR (fun v H2 e r => hq v H2 (fun a o z => e a o z fun y => y) r) _ _ _ (ok_start hN hv)
theorem run_spF {K : PySem.W.Frag} {R : List PyData → List PyData → Prop} {vs : List V} {H : Hp} {Q : VK} {E : XK} {Nm : List Str} {t : TS} (h : spF K R vs H Q E)
    (g : ∀ N ds rs, R ds rs → RetF ⟨K, H, N, fun _ => False, [], 0⟩ rs (De Q) → Go ⟨K, H, N, fun _ => False, [], 0⟩ (env0 Nm.length ds) [] t (De Q)) : t (De Q) (L2.start Nm vs) H := by
  obtain ⟨N, ds, d, hN, hv, hR, hq⟩ := h
  exact g N ds d hR (fun p H2 ws hp e h1 h2 => hq p H2 ws hp (fun a o z => e a o z fun y => y) h1 h2) _ _ _ (ok_start hN hv)
end DL

set_option Elab.async false
set_option linter.all false
set_option maxRecDepth 100000
set_option maxHeartbeats 2000000
/-! The data layer: a def that is called, the law's end. -/
namespace DL
open PySem PySem.Spec PyProof.Rows L2

/-- the module's name x stands for a def that keeps the promise sp -/
def Cal (P : Program) (w : World) (K : PySem.W.Frag) (mg : Str → Option Value) (base : Heap) (k : Nat) (x : Str) (ps : List Str) (sp : Sp) : Prop :=
  ∃ f fd, FnOk P w K mg base CX0 k f fd ps sp ∧ Binds K fd ps [] ∧ mg x = some (.ref f) ∧ PySem.W.keepIn K (.ref f) = true
theorem pe_cal {X : Cx} {k j : Nat} {ps : List Str} {sp : Sp} {x : Str} {p pos : Pos} {e : Expr} {es : List Expr} {t : TA} (h : Cal X.prog X.w X.K X.mg X.base k x ps sp) (hr : Room j X.A) (hj : k ≤ j) (hg : Gl X x) (hx : Passes CX0 X E0) (ha : PA X (e :: es) t)
    (hdb : (x == ("__debug__" : Str)) = false := by decide) (he : starEach (e :: es) X.env = (false, eval e X.env) :: starEach es X.env := by rfl) (hpl : (backTo pos (starEach es X.env)).any (·.1) = false := by rfl) :
    PE X (.Call (.Name x p) (e :: es) [] pos) (tCall sp [] E0 t) := by
  obtain ⟨f, fd, G, b, g, kp⟩ := h
  exact pe_call G (hr.mono hj) hg g kp b .nil hx ha hdb he hpl
section
variable {P : Program} {w : World} {K : PySem.W.Frag} {mg : Str → Option Value} {base : Heap}
abbrev FnP (K : PySem.W.Frag) (x : Str) (st : Stmt) (f : Addr) (fd : FuncData) : Prop := FunD K x x (defArgs st) (defBody st) (defScope st) [] [] f fd
theorem cal_mk {x : Str} {st : Stmt} {f : Addr} {fd : FuncData} {N ps : List Str} {k : Nat} {sp : Sp} (F : FnP K x st f fd) (S : FnScope N ps (defScope st)) (g : mg x = some (.ref f)) (len : ∀ vs H Q E, sp vs H Q E → vs.length = ps.length)
    (hb : ∀ (kV doc pm : Value) (an : Option Addr) (cdv ct : Value) (us : List Value), us.length = ps.length → bindArgs (PySem.W.fnOf x x (defArgs st) (defBody st) (defScope st) .none kV doc pm an cdv ct) ⟨us, []⟩ = pure (ps.zip us))
    (hbody : ∀ (cdv : Value) (A : Around) (outer : List Env) (s : Shared) (H : Hp) (vs : List V) (Q : VK) (E : XK), Room k (A.deeper (envOfC x (defScope st) s.heap.objs.size f cdv)) → sp vs H Q E →
      ∃ t, PSs (cxOf CX0 P w K mg base N x (defScope st) f cdv A outer s H E).nox (defBody st) t ∧ t (De Q) (L2.start N vs) H) : Cal P w K mg base (k + 1) x ps sp :=
  ⟨f, fd, F.ok S len fun cdv A outer s H vs Q E hr h => let ⟨t, a, b⟩ := hbody cdv A outer s H vs Q E hr h; ⟨t, a.nox, b⟩, F.bindsN hb, g, F.kp⟩
end
/-- the script's promise -/
def RLaw : List PyData → PyData → Prop := fun ds d => ∃ ns : List Int, ns.length ≤ 63 ∧ ds = [.list (ns.map PyData.int)] ∧ d = .bool true
theorem RLaw_len : ∀ ds d, RLaw ds d → ds.length = 1 := fun ds d ⟨ns, _, e, _⟩ => by rw [e]; rfl
theorem ints_dn {K : PySem.W.Frag} {N : Addr → Prop} {H : Hp} : ∀ ns : List Int, DnAll K N H (ns.map V.int) (ns.map PyData.int)
  | [] => .nil
  | n :: ns => .cons (.int n) (ints_dn ns)
theorem law_sp {K : PySem.W.Frag} {H : Hp} {a : Addr} {ns : List Int} (hl : ns.length ≤ 63) (h : SqL K H a (ns.map V.int)) : spD K RLaw [.ref a] H (fun v _ => v = .bl true) fun _ _ _ => False := by
  refine ⟨fun _ => False, [.list (ns.map PyData.int)], .bool true, fun _ z => z.elim, .cons ?_ .nil, ⟨ns, hl, rfl, rfl⟩, fun v H' _ r => dn_bool r⟩
  rcases h with h | h
  · exact .lst h id (ints_dn ns)
  · exact .lstK h (ints_dn ns)
theorem fnok_mk {P : Program} {w : World} {K : PySem.W.Frag} {mg : Str → Option Value} {base : Heap} {x : Str} {st : Stmt} {f : Addr} {fd : FuncData} {N ps : List Str} {k : Nat} {sp : Sp} (F : FnP K x st f fd) (S : FnScope N ps (defScope st)) (len : ∀ vs H Q E, sp vs H Q E → vs.length = ps.length)
    (hbody : ∀ (cdv : Value) (A : Around) (outer : List Env) (s : Shared) (H : Hp) (vs : List V) (Q : VK) (E : XK), Room k (A.deeper (envOfC x (defScope st) s.heap.objs.size f cdv)) → sp vs H Q E →
      ∃ t, PSs (cxOf CX0 P w K mg base N x (defScope st) f cdv A outer s H E).nox (defBody st) t ∧ t (De Q) (L2.start N vs) H) : FnOk P w K mg base CX0 (k + 1) f fd ps sp :=
  F.ok S len fun cdv A outer s H vs Q E hr h => let ⟨t, a, b⟩ := hbody cdv A outer s H vs Q E hr h; ⟨t, a.nox, b⟩
/-- THE END: of a law whose top holds defs and constants -/
theorem walk_end {l : PySem.W.OpenLaw} {k : Nat} {q : Program} {loose : List Str} {XP : (Str → Option Value) → Heap → Prop} {d : DefRec} {fa : List He.Fa} {fn : List He.DefD} {ts : List He.Tab} {tf : List He.Defn} {ex : PySem.W.Frag → Bool} {st : Stmt}
    (hn : l.most = some 63) (hdf : d.params.defaults = []) (hr : Room k callerA) (hd : d.name = ("law" : Str))
    (hba : ∀ (kV doc pm : Value) (an : Option Addr) (cdv ct : Value) (us : List Value), us.length = 1 → bindArgs (PySem.W.fnOf "law" "law" (defArgs st) (defBody st) (defScope st) .none kV doc pm an cdv ct) ⟨us, []⟩ = pure ((["script"] : List Str).zip us))
    (F : ∀ (w : World) (mg : Str → Option Value) (K : PySem.W.Frag) (h : Heap), K.In h → h.Ns mainGlobals mg → He.SaysX fa fn ts tf ex w h K → mg "law" = some (.ref (He.ga K "law")) ∧ ∃ fd, FnP K "law" st (He.ga K "law") fd ∧
      ∀ base : Heap, K.In base → base.Ns mainGlobals mg → FnOk l.prog w K mg base CX0 k (He.ga K "law") fd ["script"] (spD K RLaw)) :
    PySem.W.WalkO q loose XP (He.hookX 4 fa fn ts tf ex).says l.row.toRowW d [] (fun f vs => PySem.call f vs) := by
  refine L2.walk_ofE (k := k) (x := "script") (CX := CX0) hn (by decide) hdf hr ?_ (fun _ _ _ _ z => z)
  intro w mg fa' h Y G hmg
  obtain ⟨K, KX, c⟩ := Y
  rw [hd] at hmg
  obtain ⟨h0, fd, h1, h2⟩ := F w mg K h KX G c
  rw [h0] at hmg
  cases hmg
  exact ⟨K, fd, spD K RLaw, KX, fun s u => FunD.bindsA (ps := ["script"]) h1 hba s [u] rfl, fun H a ns hl _ hS => law_sp hl hS, h2⟩

/-! ### tables -/
theorem itD_map {α : Type} {f : α → PyData} {xs : List α} (i : Nat) (x : α) (h : xs[i]? = some x) : itD (xs.map f) i = .i (f x) := itD_at (by rw [List.getElem?_map, h]; rfl)
/-- .. over a tuple -/
theorem gs_forTu {α : Type} {c : Cn} {env : Sy} {os : List SO} {g : TG} {tb u : TS} {D : Ends} {tl : TE} {xs : List α} {f : α → PyData} (E : List α → Sy) (O : List α → List SO) (h : EvX false c env os tl (.tuple (xs.map f)))
    (h0 : ∀ c' : Cn, c'.lo = os.length → ∀ ad σ H, Ok c' ad env os σ H → Ok c' ad (E []) (O []) σ H)
    (hs : ∀ fr, Up c (c.w fr os.length) → ∀ pre x post, xs = pre ++ x :: post → ∃ env' js, Tg (c.w fr os.length) (E pre) (O pre) g (.i (f x)) env' js ∧ Go (c.w fr os.length) env' (O pre) tb { D with nx := OkE (c.w fr os.length) (E (pre ++ [x])) (O (pre ++ [x])), ct := OkE (c.w fr os.length) (E (pre ++ [x])) (O (pre ++ [x])), bk := u D })
    (hd : Go c (E xs) (O xs) u D) : Go c env os (tSeq (tFor (iTup c.K tl) g tb) u) D :=
  gs_forL (e := fun x => .i (f x)) E O (ew_tup h) (by simp) itD_map h0 (fun _ _ _ => True.intro) hs hd
/-- a join behind an if -/
theorem gs_ifJ {c : Cn} {env : Sy} {os : List SO} {tt : TT} {t v u : TS} {D : Ends} {b : Bool} (env' : Sy) (os' : List SO) (h : EvT c env os tt b) (k : Go c env' os' u D) (h1 : b = true → Go c env' os' u D → Go c env os t { D with nx := u D }) (h2 : b = false → Go c env' os' u D → Go c env os v { D with nx := u D }) : Go c env os (tSeq (tIfS tt t v) u) D :=
  gs_if h (fun e => h1 e k) fun e => h2 e k
theorem EvF.is {c : Cn} {env : Sy} {os : List SO} {te : TE} {o o' : SO} (h : EvF c env os te o) (e : o = o') : EvF c env os te o' := e ▸ h
/-! ### equal data -/
end DL

set_option Elab.async false
set_option linter.all false
set_option maxRecDepth 100000
set_option maxHeartbeats 2000000
/-! The data layer: lists of rectangles and the like. -/
namespace DL
open PySem PySem.Spec PyProof.Rows L2
open Evl (Ex Ex.refl Ex.trans Ex.new)

/-! ### shapes of data -/
theorem eqv_self {d : PyData} (h : SeqAt.shaped d = true) : PyData.eqv d d = true := SeqAt.eqv_refl d (SeqAt.canLay_of_shaped h)

/-! ### rectangles -/
abbrev Rc := Int × Int × Int × Int
def dR (r : Rc) : PyData := .tuple [.int r.1, .int r.2.1, .int r.2.2.1, .int r.2.2.2]
abbrev dRs (rs : List Rc) : PyData := .list (rs.map dR)
/-! ### slices -/
theorem cutG_from {α : Type} (xs : List α) (k : Nat) : cutG xs (some (k : Int)) none = xs.drop k := by
  unfold cutG
  rw [HT.sIx_nat, HT.sIx_none]
  by_cases h : k ≤ xs.length
  · rw [Nat.min_eq_left h]
    exact List.take_of_length_le (by rw [List.length_drop]; exact Nat.le_refl _)
  · rw [Nat.min_eq_right (by omega), Nat.sub_self, List.take_zero, List.drop_of_length_le (by omega)]
theorem cutG_to {α : Type} (xs : List α) (k : Nat) : cutG xs none (some (k : Int)) = xs.take k := by
  unfold cutG
  rw [HT.sIx_nat, HT.sIx_none, List.drop_zero, Nat.sub_zero]
  by_cases h : k ≤ xs.length
  · rw [Nat.min_eq_left h]
  · rw [Nat.min_eq_right (by omega), List.take_length, List.take_of_length_le (by omega)]

/-! ### comprehensions over lists of data -/
section
variable {c : Cn} {env : Sy} {os : List SO} {g : TG} {tt : TT} {te tl ta tb : TE} {w : Bool}
theorem et_yes : EvT c env os tYes true := fun ad σ H ok Q q => q H (Ex.refl H)
end
end DL

set_option Elab.async false
set_option linter.all false
set_option maxRecDepth 100000
set_option maxHeartbeats 2000000
/-! The data layer: the rules that name what the module has written, told by a letter. -/
namespace DL
open PySem PySem.Spec PyProof.Rows L2
section
variable {X : Cx} {K : PySem.W.Frag} {pos : Pos}
theorem kIxL (h : X.K = K := by rfl) : IxR X (rIxL K) := by subst h; exact ix_list
theorem kIxT (h : X.K = K := by rfl) : IxR X (rIxT K) := by subst h; exact ix_tup
def rLenK (K : PySem.W.Frag) : List V → Hp → VK → Prop := fun xs H Q => ∃ p ys, xs = [.ref p] ∧ (SqL K H p ys ∨ SqT K H p ys) ∧ Q (.int ys.length) H
theorem kLen (h : X.K = K := by rfl) : CallR X (.builtin "len") (rLenK K) := by subst h; exact call_len_seq
def rListK (K : PySem.W.Frag) : List V → Hp → VK → Prop := fun xs H Q => ∃ p ys, xs = [.ref p] ∧ (SqL K H p ys ∨ SqT K H p ys) ∧ ∀ l, H l = none → Q (.ref l) (upd H l (.lst ys))
theorem kList (h : X.K = K := by rfl) : CallR X (.type "list") (rListK K) := by subst h; exact call_list_of
theorem kAll (hc : X.calm = true) (h : X.K = K := by rfl) : CallR X (.builtin "all") (rAll K) := by subst h; exact cr_all hc
theorem kIsi (h : X.K = K := by rfl) : CallR X (.builtin "isinstance") (rIsi K) := by subst h; exact call_isi
theorem kEqD (hu : X.A.units + 64 < cLine) (h : X.K = K := by rfl) : OpR X (compareOp .Eq) (rEqD K) := by subst h; exact op_eqD hu
theorem kNeD (hu : X.A.units + 64 < cLine) (h : X.K = K := by rfl) : OpR X (compareOp .NotEq) (rNeD K) := by subst h; exact op_neD hu
theorem kBm {T : String} {r : V → List V → Hp → VK → Prop} {e : Expr} {to : TE} {t : TA} (h : PE X e (tBM X.K T r to t)) (hk : X.K = K := by rfl) : PE X e (tBM K T r to t) := by subst hk; exact h
theorem kTup {es : List Expr} {k : Nat} {t : TGs} {n : Nat} (hc : X.calm = true) (h : PGs X es t)
    (hn : (assignEach es X.env).length = n := by rfl) (hst : (assignEach es X.env).findIdx? (·.1) = none := by rfl) (hk : X.K = K := by rfl) : PG X (.Tuple es k pos) (gTup K n t) := by subst hk; exact pg_tup hc h hn hst
theorem kPiL {tg l : Expr} {tl : TE} (hl : PE X l tl) (hk : X.K = K := by rfl) : PI X tg l (iList K tl) := by subst hk; exact pi_list hl
theorem kPiT {tg l : Expr} {tl : TE} (hl : PE X l tl) (hk : X.K = K := by rfl) : PI X tg l (iTup K tl) := by subst hk; exact pi_tup hl
def tTruK (K : PySem.W.Frag) (ta : TE) : TT := fun σ H Q => ta σ H fun x H' => ∃ k, TruV K x H' k ∧ Q k H'
theorem kTru {a : Expr} {ta : TE} (ha : PE X a ta) (he : ∀ whole, isTrue a X.env whole = (do let v ← whole; standAt a.pos; holding [v] (truthy v))) (hk : X.K = K := by rfl) : PT X a (tTruK K ta) := by subst hk; exact pt_truth ha he
end
section
variable {w : Bool} {c : Cn} {env : Sy} {os : List SO} {te ta tb tl : TE} {d : PyData} {tt tu : TT}
theorem ex_lenK {ss : List SV} (h : EvI c env os te ss) : EvX w c env os (tCB (rLenK c.K) (tCons te tNil)) (.int (ss.length : Int)) := ex_len rfl h
theorem ex_lenTK {ds : List PyData} (h : EvX true c env os te (.tuple ds)) : EvX w c env os (tCB (rLenK c.K) (tCons te tNil)) (.int (ds.length : Int)) := ex_lenT rfl h
theorem ef_listK {ss : List SV} (h : EvI c env os te ss) : EvF c env os (tCB (rListK c.K) (tCons te tNil)) (.lst ss) := ef_list rfl h
theorem et_truK {ss : List SV} (h : EvI c env os te ss) : EvT c env os (tTruK c.K te) (!ss.isEmpty) := et_truL rfl h
end
theorem soLt_data {n : Nat} {ds : List PyData} : SoLt n (.lst (ds.map SV.i)) := fun s hs => by
  obtain ⟨d, _, rfl⟩ := List.mem_map.mp hs
  exact True.intro
theorem filt_all {α : Type} (xs : List α) : xs.filter (fun _ => true) = xs := List.filter_eq_self.mpr fun _ _ => rfl
end DL

set_option Elab.async false
set_option linter.all false
set_option maxRecDepth 100000
set_option maxHeartbeats 2000000
/-! The data layer: lists, sets and dicts of any length are sorted. -/
namespace DL
open PySem PySem.Spec PyProof.Rows L2
open Evl (Ex Ex.refl Ex.trans Ex.new)

/-- sorted(xs): data of any kind that has an order -/
def rSortD (K : PySem.W.Frag) : List V → Hp → VK → Prop := fun vs H Q => ∃ (a : Addr) (xs : List V) (ds : List PyData), vs = [V.ref a] ∧ SqL K H a xs ∧ DpAll K H xs ds ∧ PySem.W.AllAlike ds ∧ PySem.W.Sortable ds ∧ (∀ d ∈ ds, d.depth ≤ 8) ∧
  ∀ p : Addr, H p = none → Q (.ref p) (upd H p (.lst (((xs.zip ds).mergeSort (PySem.W.dataLe false Prod.snd)).map Prod.fst)))
section
variable {w : Bool} {c : Cn} {env : Sy} {os : List SO} {te ta tb tl : TE} {d : PyData} {tt tu : TT}
mutual
theorem plain_alike : ∀ d : PyData, PySem.W.alike d d = true → d.plain = true
  | .none, _ => rfl
  | .bool _, _ => rfl
  | .int _, _ => rfl
  | .str _, _ => rfl
  | .list xs, h => by
    show PyData.plainAll xs = true
    exact plain_alikes xs (by simpa [PySem.W.alike] using h)
  | .tuple xs, h => by
    show PyData.plainAll xs = true
    exact plain_alikes xs (by simpa [PySem.W.alike] using h)
  | .dict _, h => by simp [PySem.W.alike] at h
theorem plain_alikes : ∀ ds : List PyData, PySem.W.alikeAll ds ds = true → PyData.plainAll ds = true
  | [], _ => rfl
  | d :: ds, h => by
    rw [PySem.W.alikeAll, Bool.and_eq_true] at h
    show (d.plain && PyData.plainAll ds) = true
    rw [plain_alike d h.1, plain_alikes ds h.2]
    rfl
end
end

/-! ### sets of ints, keys of dicts -/
section
variable {prog : Program} {w : World} {A : Around} {E : Value → Shared → Prop} {s : Shared}
end

section
variable {X : Cx}
/-- sorted(S), a set of ints -/
def rSortSetA (w : World) : List V → Hp → VK → Prop := fun vs H Q => ∃ (a : Addr) (S : Int → Bool) (n : Nat), vs = [V.ref a] ∧ H a = some (SetO w a S n) ∧
  ∀ (ns : List Int) (p : Addr), ns.Pairwise (· < ·) → (∀ k : Int, k ∈ ns ↔ S k = true) → ns.length = n → H p = none → Q (.ref p) (upd H p (.lst (ns.map V.int)))
/-- sorted(d), the keys ints -/
def rSortDKA : List V → Hp → VK → Prop := fun vs H Q => ∃ (a : Addr) (kvs : List (Key × V)) (ks : List Int), vs = [V.ref a] ∧ H a = some (.dK kvs) ∧ kvs.map (·.1) = ks.map Sum.inl ∧
  ∀ (ns : List Int) (p : Addr), ns.Perm ks → ns.Pairwise (· ≤ ·) → H p = none → Q (.ref p) (upd H p (.lst (ns.map V.int)))
end
end DL

set_option Elab.async false
set_option linter.all false
set_option maxRecDepth 100000
set_option maxHeartbeats 4000000
/-! Comprehensions of two clauses into a set of ints: each clause's loop by one lemma. -/
namespace DL
open PySem PySem.Spec PyProof.Rows L2
open PpSet (eval_SetComp newSet_ok codeAny_compStart_set)

/-- one turn of a clause: what goes on behind the tests, told by what comes after it -/
def turnT (tg i : Expr) (ifs : List Expr) (env : Env) (it : Value) (bodyK : Sem Fin → Sem Fin) (nxt : Sem Fin) : Sem Fin := do
  standAt i.pos
  match ← pyNext it with
  | none => pure (.done .next)
  | some v =>
    letOwnedTupleGo tg it v
    assign tg env v
    let mut ok := true
    for c in ifs do
      if ok then ok ← isTrue c env (eval c env)
    if ok then bodyK nxt else nxt
abbrev two (elt t0 i0 t1 i1 : Expr) (f0 f1 : List Expr) (scope : Scope) (pos : Pos) : Expr := .SetComp elt [⟨t0, i0, f0, 0⟩, ⟨t1, i1, f1, 0⟩] scope pos
def nestK (e i1 : Expr) (acc : Value) (env : Env) (nxt : Sem Fin) : Sem Fin := do
  let x ← eval i1 env
  standAt i1.pos
  let x ← foldedSetIterable i1 env x
  let _ ← runOwn (.compStart e 1 (← holding [x] (pyIter x)) acc env) env
  nxt
def emitK (elt : Expr) (acc : Value) (env : Env) (nxt : Sem Fin) : Sem Fin := do
  (do let v ← eval elt env; standAt elt.pos; let _ ← call (.builtin "set.add") [acc, v])
  nxt
/-- σ' knows what σ knows -/
def Kn (σ σ' : L2.St) : Prop := σ.length = σ'.length ∧ ∀ (j : Nat) v, σ[j]? = some (some v) → σ'[j]? = some (some v)
section
variable {Y : Cx}
end

/-- {elt for t0 in i0 if .. for t1 in i1 if ..}: the second clause's loop, from the first one's turn -/
def tNest (w : World) (D : Addr) (wi1 : TI) (g1 : TG) (tt1 : TT) (te : TE) (vs1 : List Nat) (σ : L2.St) (H : Hp) (Nx : Hp → Prop) : Prop := wi1 σ H fun J H4 => ∃ W : Nat → Nat → Hp → Prop, (∃ m, W 0 m H4) ∧ ∀ k m H, W k m H →
  (J.stop k H ∧ Nx H) ∨ (J.go k H ∧ ∃ Nx1 : Hp → Prop, (∀ H', Nx1 H' → ∃ m', m' < m ∧ W (k + 1) m' H') ∧ ∀ x H', J.yld k H x H' → g1 x (wipe σ vs1) H' fun σ3 H5 => wipe σ3 vs1 = wipe σ vs1 ∧ tt1 σ3 H5 fun b H6 =>
    if b = true then te σ3 H6 fun y H7 => ∃ (z : Int) (S : Int → Bool) (n : Nat), y = .int z ∧ H7 D = some (SetO w D S n) ∧ n + 1 < scanBound ∧ Nx1 (upd H7 D (SetO w D (fun j => S j || decide (j = z)) (if S z = true then n else n + 1))) else Nx1 H6)
def tSc2 (w : World) (wi : TI) (g : TG) (tt : TT) (wi1 : TI) (g1 : TG) (tt1 : TT) (te : TE) (vs vs1 : List Nat) : TE := fun σ H Q => wi σ H fun J H1 => ∀ D, H1 D = none → ∃ W : Nat → Nat → Hp → Prop, (∃ m, W 0 m (upd H1 D (SetO w D (fun _ => false) 0))) ∧ ∀ k m H, W k m H →
  (J.stop k H ∧ Q (.ref D) H) ∨ (J.go k H ∧ ∃ Nx : Hp → Prop, (∀ H', Nx H' → ∃ m', m' < m ∧ W (k + 1) m' H') ∧ ∀ x H', J.yld k H x H' → g x (wipe σ vs) H' fun σ2 H2 => wipe σ2 vs = wipe σ vs ∧ tt σ2 H2 fun b H3 =>
    if b = true then tNest w D wi1 g1 tt1 te vs1 σ2 H3 Nx else Nx H3)
section
variable {Y : Cx}
end

section
variable {X : Cx}
abbrev Blk (X : Cx) (scope : Scope) (P : Cx → Prop) : Prop := ∀ (s : Shared) (H : Hp) (C : Addr) (cl : List (PySem.Str × Addr)) (fp : List Addr), P (X.blk s H scope (compEnvC scope cl C X.env) fp)
end
end DL

set_option Elab.async false
set_option linter.all false
set_option maxRecDepth 100000
set_option maxHeartbeats 2000000
/-! The data layer: dicts. -/
namespace DL
open PySem PySem.Spec PyProof.Rows L2
open Evl (Ex Ex.refl Ex.trans Ex.new)

/-! ### tables -/
section
variable {κ β γ : Type} [DecidableEq κ]
def getA : List (κ × β) → κ → Option β
  | [], _ => none
  | p :: r, k => if p.1 = k then some p.2 else getA r k
def setA (m : List (κ × β)) (k : κ) (v : β) : List (κ × β) := if (getA m k).isSome then m.map (fun p => (p.1, if p.1 = k then v else p.2)) else m ++ [(k, v)]
theorem getA_cons (p : κ × β) (r : List (κ × β)) (k : κ) : getA (p :: r) k = if p.1 = k then some p.2 else getA r k := rfl
theorem getA_none {m : List (κ × β)} {k : κ} : getA m k = none ↔ ∀ p ∈ m, p.1 ≠ k := by
  induction m with
  | nil => simp [getA]
  | cons p r ih =>
    unfold getA
    by_cases h : p.1 = k
    · rw [if_pos h]
      simp [h]
    · rw [if_neg h, ih]
      simp [h]
theorem getA_app (m n : List (κ × β)) (k : κ) : getA (m ++ n) k = (getA m k).or (getA n k) := by
  induction m with
  | nil => simp [getA]
  | cons p r ih =>
    rw [List.cons_append, getA_cons, getA_cons]
    by_cases h : p.1 = k
    · rw [if_pos h, if_pos h]; rfl
    · rw [if_neg h, if_neg h]; exact ih
theorem getA_map (m : List (κ × β)) (k j : κ) (v : β) : getA (m.map fun p => (p.1, if p.1 = k then v else p.2)) j = (getA m j).map fun x => if j = k then v else x := by
  induction m with
  | nil => rfl
  | cons p r ih =>
    rw [List.map_cons]
    unfold getA
    by_cases h : p.1 = j
    · rw [if_pos h, if_pos h, h]; rfl
    · rw [if_neg h, if_neg h]; exact ih
theorem getA_set (m : List (κ × β)) (k j : κ) (v : β) : getA (setA m k v) j = if j = k then some v else getA m j := by
  unfold setA
  cases hk : getA m k with
  | some x =>
    rw [if_pos (show (some x).isSome = true from rfl), getA_map]
    by_cases h : j = k
    · subst h; rw [hk, if_pos rfl]; simp
    · rw [if_neg h]; cases getA m j <;> simp [h]
  | none =>
    rw [if_neg (by simp), getA_app]
    by_cases h : j = k
    · subst h; rw [hk, if_pos rfl]; simp [getA]
    · rw [if_neg h]
      have : getA [(k, v)] j = none := getA_none.mpr fun p hp => by simp at hp; subst hp; exact fun z => h z.symm
      rw [this]; cases getA m j <;> rfl
theorem setA_keys (m : List (κ × β)) (k : κ) (v : β) : (setA m k v).map (·.1) = if (getA m k).isSome then m.map (·.1) else m.map (·.1) ++ [k] := by
  unfold setA
  split
  · rw [List.map_map]; rfl
  · rw [List.map_append]; rfl
theorem getA_mem {m : List (κ × β)} {k : κ} : (getA m k).isSome = true ↔ k ∈ m.map (·.1) := by
  constructor
  · intro h
    apply Classical.byContradiction
    intro n
    have : getA m k = none := getA_none.mpr fun p hp e => n (List.mem_map.mpr ⟨p, hp, e⟩)
    rw [this] at h; cases h
  · intro h
    cases hg : getA m k with
    | some _ => rfl
    | none =>
      obtain ⟨p, hp, e⟩ := List.mem_map.mp h
      exact absurd e (getA_none.mp hg p hp)
theorem setA_nodup {m : List (κ × β)} (k : κ) (v : β) (h : (m.map (·.1)).Nodup) : ((setA m k v).map (·.1)).Nodup := by
  rw [setA_keys]
  split
  · exact h
  · rename_i n
    refine List.nodup_append.mpr ⟨h, by simp, fun a ha b hb => ?_⟩
    simp at hb
    subst hb
    intro z
    subst z
    exact n (getA_mem.mpr ha)
theorem setA_len (m : List (κ × β)) (k : κ) (v : β) : (setA m k v).length ≤ m.length + 1 := by
  unfold setA
  split
  · rw [List.length_map]; omega
  · rw [List.length_append]; exact Nat.le_refl _
variable {α : Type} [DecidableEq α]
theorem getA_enc {ek : α → κ} (hi : ∀ a b, ek a = ek b → a = b) {ev : β → γ} (m : List (α × β)) (a : α) : getA (m.map fun p => (ek p.1, ev p.2)) (ek a) = (getA m a).map ev := by
  induction m with
  | nil => rfl
  | cons p r ih =>
    rw [List.map_cons]
    unfold getA
    by_cases h : p.1 = a
    · rw [if_pos h, if_pos (by rw [h])]; rfl
    · rw [if_neg h, if_neg (fun z => h (hi _ _ z))]; exact ih
theorem setA_enc {ek : α → κ} (hi : ∀ a b, ek a = ek b → a = b) {ev : β → γ} (m : List (α × β)) (a : α) (v : β) : setA (m.map fun p => (ek p.1, ev p.2)) (ek a) (ev v) = (setA m a v).map fun p => (ek p.1, ev p.2) := by
  unfold setA
  rw [getA_enc hi, Option.isSome_map]
  split
  · rw [List.map_map, List.map_map]
    refine List.map_congr_left fun p _ => ?_
    show (ek p.1, if ek p.1 = ek a then ev v else ev p.2) = (ek p.1, ev (if p.1 = a then v else p.2))
    by_cases h : p.1 = a
    · rw [if_pos h, if_pos (by rw [h])]
    · rw [if_neg h, if_neg (fun z => h (hi _ _ z))]
  · rw [List.map_append]; rfl
end
section
variable {κ : Type} [DecidableEq κ]
theorem val_get {F : V → SV → Prop} : ∀ {ws : List (κ × V)} {kvs : List (κ × SV)}, Paired (fun p q => p.1 = q.1 ∧ F p.2 q.2) ws kvs → ∀ k, (valV ws k = none ∧ getA kvs k = none) ∨ ∃ v s, valV ws k = some v ∧ getA kvs k = some s ∧ F v s
  | _, _, .nil, k => Or.inl ⟨rfl, rfl⟩
  | _, _, .cons (a := p) (b := q) r t, k => by
    by_cases h : p.1 = k
    · exact Or.inr ⟨p.2, q.2, valV_pos h, by unfold getA; rw [if_pos (r.1 ▸ h)], r.2⟩
    · have h' : ¬ q.1 = k := r.1 ▸ h
      unfold getA
      rw [valV_neg h, if_neg h']
      exact val_get t k
theorem put_set {F : V → SV → Prop} {ws : List (κ × V)} {kvs : List (κ × SV)} {k : κ} {v : V} {s : SV} (p : Paired (fun p q => p.1 = q.1 ∧ F p.2 q.2) ws kvs) (h : F v s) : Paired (fun p q => p.1 = q.1 ∧ F p.2 q.2) (putK ws k v) (setA kvs k s) := by
  unfold putK setA
  have e : (ws.any fun kv => decide (kv.1 = k)) = (getA kvs k).isSome := by
    rw [valV_any]
    rcases val_get p k with ⟨a, b⟩ | ⟨x, y, a, b, _⟩
    · rw [a, b]; rfl
    · rw [a, b]; rfl
  rw [e]
  cases (getA kvs k).isSome with
  | true =>
    rw [if_pos rfl, if_pos rfl]
    clear e
    induction p with
    | nil => exact .nil
    | cons r t ih =>
      rename_i a b l1 l2
      rw [List.map_cons, List.map_cons]
      refine .cons ?_ ih
      by_cases hk : a.1 = k
      · rw [if_pos hk]
        exact ⟨r.1, by show F v (if b.1 = k then s else b.2); rw [if_pos (r.1 ▸ hk)]; exact h⟩
      · rw [if_neg hk]
        exact ⟨r.1, by show F a.2 (if b.1 = k then s else b.2); rw [if_neg (r.1 ▸ hk)]; exact r.2⟩
  | false =>
    rw [if_neg (by decide), if_neg (by decide)]
    exact paired_snoc p ⟨rfl, h⟩
end

/-! ### rules for a dict of the store -/
section
variable {K : PySem.W.Frag} {N : Addr → Prop} {H : Hp}
theorem dn_key {v : V} {k : Key} (h : Dn K N H v (kdat k)) : v = kV k := by cases k <;> cases h <;> rfl
theorem key_dn (k : Key) : Dn K N H (kV k) (kdat k) := by cases k <;> constructor
end
section
variable {w : Bool} {c : Cn} {env env' : Sy} {os : List SO} {te ta tb tl td ty tv tx : TE} {d : PyData} {u : TS} {D : Ends}
theorem ef_dnewK : EvF c env os tDNewK (.dK []) := fun ad σ H ok Q q p hp => q p _ hp (Ex.new hp) ⟨[], upd_same, .nil⟩
/-- d[k] -/
theorem ex_dget {k : Nat} {kvs : List (Key × SV)} {kk : Key} (hl : EvR c env os td k) (hk : os[k]? = some (.dK kvs)) (hi : EvX true c env os ty (kdat kk)) (hg : getA kvs kk = some (.i d)) : EvX w c env os (tDGet td ty) d := EvX.weak fun ad σ H ok Q q =>
  hl.2 ad σ H ok _ fun H1 e1 => hi ad σ H1 (ok.ext e1) _ fun v H2 e2 r2 => by
    obtain ⟨_, ws, hws, pw⟩ := ((ok.ext e1).ext e2).obj k _ hk rfl
    rcases val_get (F := SvOk c.K (Nof c ad os) ad os.length H2) pw kk with ⟨_, b⟩ | ⟨x, s, a, b, f⟩
    · rw [hg] at b; cases b
    · rw [hg] at b; cases b
      exact ⟨ad k, x, rfl, by rw [dn_key r2, ← a]; exact DGet.k hws, q x H2 (e1.trans e2) (by rw [Nw_false]; exact f)⟩
/-- d.get(k, e) -/
theorem ex_dget2 {k : Nat} {kvs : List (Key × SV)} {kk : Key} {d2 : PyData} (hl : EvR c env os td k) (hk : os[k]? = some (.dK kvs)) (hi : EvX true c env os ty (kdat kk)) (hx : EvX false c env os tx d2) (hg : (getA kvs kk).getD (.i d2) = .i d) : EvX w c env os (tDGet2 td ty tx) d := EvX.weak fun ad σ H ok Q q =>
  hl.2 ad σ H ok _ fun H1 e1 => by
    obtain ⟨_, ws1, hws1, _⟩ := (ok.ext e1).obj k _ hk rfl
    refine ⟨ad k, rfl, Or.inl ⟨ws1, Or.inl hws1⟩, hi ad σ H1 (ok.ext e1) _ fun v H2 e2 r2 => hx ad σ H2 ((ok.ext e1).ext e2) _ fun z H3 e3 r3 => ?_⟩
    obtain ⟨_, ws, hws, pw⟩ := (((ok.ext e1).ext e2).ext e3).obj k _ hk rfl
    refine ⟨_, by rw [dn_key r2]; exact DGet.k hws, ?_⟩
    rcases val_get (F := SvOk c.K (Nof c ad os) ad os.length H3) pw kk with ⟨a, b⟩ | ⟨x, s, a, b, f⟩
    · rw [a]
      rw [b] at hg
      cases hg
      exact q z H3 ((e1.trans e2).trans e3) r3
    · rw [a]
      rw [b] at hg
      have hg : s = .i d := hg
      subst hg
      exact q x H3 ((e1.trans e2).trans e3) (by rw [Nw_false]; exact f)
/-- what a thing of either kind gives -/
theorem EvS.run {tv : TE} {s : SV} (h : EvS c env os tv s) {ad : Nat → Addr} {σ : L2.St} {H : Hp} (ok : Ok c ad env os σ H) {Q : VK} (q : ∀ v H2, Ex H H2 → SvOk c.K (Nof c ad os) ad os.length H2 v s → Q v H2) : tv σ H Q := by
  cases s with
  | i d => exact (show EvX false c env os tv d from h) ad σ H ok Q fun v H2 e r => q v H2 e (by rw [Nw_false] at r; exact r)
  | t o => exact (show EvK c env os tv o from h).2 ad σ H ok Q fun b H2 e r => q _ H2 e ⟨b, rfl, r, .inl (show EvK c env os tv o from h).1⟩
  | ob C m => exact (show EvB c env os tv C m from h) ad σ H ok Q fun v H2 e r => q v H2 e r
  | z m => exact (show EvZ c env os tv m from h) ad σ H ok Q fun v H2 e r => q v H2 e r
  | r j => exact (show EvR c env os tv j from h).2 ad σ H ok Q fun H2 e => q _ H2 e ⟨rfl, (show EvR c env os tv j from h).1⟩
/-- d[k] = v -/
theorem gs_dput {k : Nat} {kvs : List (Key × SV)} {kk : Key} {s : SV} (h : EvS c env os tv s) (hl : EvR c env os td k) (hk : os[k]? = some (.dK kvs)) (hi : EvX true c env os ty (kdat kk)) (hz : kvs.length < 100000)
    (g : Go c env (os.set k (.dK (setA kvs kk s))) u D) : Go c env os (tSeq (sDPut td ty tv) u) D := fun ad σ H ok =>
  h.run ok fun v H1 e1 r => hl.2 ad σ H1 (ok.ext e1) _ fun H2 e2 => hi ad σ H2 ((ok.ext e1).ext e2) _ fun y H3 e3 r3 => by
    have ok3 := ((ok.ext e1).ext e2).ext e3
    obtain ⟨_, ws, hws, pw⟩ := ok3.obj k _ hk rfl
    have hN : Nof c ad os (ad k) := Or.inr ⟨k, ⟨_, hk, rfl⟩, rfl⟩
    refine ⟨ad k, _, rfl, ?_, g ad σ _ (ok3.mut hk rfl rfl ⟨putK ws kk v, upd_same, ?_⟩)⟩
    · rw [dn_key r3]
      exact DPut.k hws (by rw [Paired.length pw]; exact Nat.lt_of_lt_of_le hz (by decide))
    · exact put_set (Paired.imp pw fun _ _ z => ⟨z.1, z.2.mut hws rfl hN⟩) ((r.ext (e2.trans e3)).mut hws rfl hN)
/-- sorted(d), keys ints -/
def srtI (ks : List Int) : List Int := ks.mergeSort fun a b => decide (a ≤ b)
end
end DL

set_option Elab.async false
set_option linter.all false
set_option maxRecDepth 100000
set_option maxHeartbeats 2000000
/-! The data layer: dicts as data, walks over keys and pairs, items that are set. -/
namespace DL
open PySem PySem.Spec PyProof.Rows L2
open Evl (Ex Ex.refl Ex.trans Ex.new)

/-! ### a dict with tuple keys, as data -/
def dTd {α β : Type} (ek : α → List Key) (ev : β → PyData) (m : List (α × β)) : PyData := .dict ((.none, .none) :: m.map fun p => (tdat (ek p.1), ev p.2))
theorem kdat_inj : ∀ {a b : Key}, kdat a = kdat b → a = b
  | .inl _, .inl _, h => by cases h; rfl
  | .inr _, .inr _, h => by cases h; rfl
  | .inl _, .inr _, h => by cases h
  | .inr _, .inl _, h => by cases h
section
variable {α β : Type} {K : PySem.W.Frag} {N : Addr → Prop} {H : Hp}
variable [DecidableEq α]
end
section
variable {α β : Type} [DecidableEq α] {w w' : Bool} {c : Cn} {env env' : Sy} {os : List SO} {te ta tb tl td ty tv tx : TE} {d : PyData} {u : TS} {D : Ends} {ek : α → List Key} {ev : β → PyData} {m : List (α × β)}
/-- a fresh dict is told by a def -/
def spT {α β : Type} (K : PySem.W.Frag) (ek : α → List Key) (ev : β → PyData) (R : List PyData → List (α × β) → Prop) : Sp := fun vs H Q _ => ∃ (N : Addr → Prop) (ds : List PyData) (m : List (α × β)), (∀ a, N a → H a ≠ none) ∧ DnAll K N H vs ds ∧ R ds m ∧
  ∀ p H' ws, H p = none → Ex H H' → H' p = some (.dT ws) → Paired (fun (x : List Key × V) (y : α × β) => x.1 = ek y.1 ∧ Dn K (fun a => N a ∨ a = p) H' x.2 (ev y.2)) ws m → Q (.ref p) H'
def RetT (ek : α → List Key) (ev : β → PyData) (c : Cn) (m : List (α × β)) (D : Ends) : Prop := ∀ p H2 ws, c.H0 p = none → (∀ a o, c.H0 a = some o → ¬ c.M a → H2 a = some o) → H2 p = some (.dT ws) → Paired (fun (x : List Key × V) (y : α × β) => x.1 = ek y.1 ∧ Dn c.K (fun a => c.N0 a ∨ a = p) H2 x.2 (ev y.2)) ws m → D.rt (.ref p) H2
end

/-! ### walks -/
/-- a new object is held fast from here on -/
def tFrz (te : TE) : TE := fun σ H Q => te σ H fun x H1 => ∃ d u, x = .ref d ∧ H1 d = some u ∧ Mut (some u) ∧ ∀ od, Q (.ref d) (upd H1 d (.frz od u))
theorem pe_frz {X : Cx} {e : Expr} {te : TE} (h : PE X e te) : PE X e (tFrz te) := ⟨fun pins s σ H Q I hw => wpAny_mono (h.run pins s σ H _ I hw) (fun v s1 h1 => by
  obtain ⟨x, H1, I1, r, d, u, rfl, hd, mu, q⟩ := h1
  obtain ⟨od, I2⟩ := I1.lock hd mu
  exact ⟨.ref d, _, I2, r, q od⟩) fun _ _ z => z⟩
section
variable {α β : Type} {w w' : Bool} {c : Cn} {env env' : Sy} {os : List SO} {te ta tb tl td ty tv tx : TE} {d : PyData} {u : TS} {D : Ends}
/-- an object of the store is given away and changed -/
theorem Ok.kill {ad : Nat → Addr} {σ : L2.St} {H : Hp} {o : SO} {k : Nat} {u' : HO} (ok : Ok c ad env os σ H) (h0 : os[k]? = some o) (l0 : o.live = true) : Ok c ad env (os.set k .x) σ (upd H (ad k) u') := by
  have lk : Lv os k := ⟨o, h0, l0⟩
  have hl : ∀ j, Lv (os.set k .x) j → Lv os j ∧ j ≠ k := fun j h => by
    obtain ⟨u, e, hu⟩ := h
    by_cases q : k = j
    · subst q
      rw [List.getElem?_set_self (List.getElem?_eq_some_iff.mp h0).1] at e
      cases e; cases hu
    · rw [List.getElem?_set_ne q] at e; exact ⟨⟨u, e, hu⟩, fun z => q z.symm⟩
  have hN : ∀ a, Nof c ad (os.set k .x) a → Nof c ad os a := fun a h => by
    rcases h with h | ⟨j, l, e⟩
    · exact Or.inl h
    · exact Or.inr ⟨j, (hl j l).1, e⟩
  obtain ⟨hk0, hk1⟩ := ok.obj k o h0 l0
  obtain ⟨u0, eu, wu⟩ := hk1.some l0
  have hNk : Nof c ad os (ad k) := Or.inr ⟨k, lk, rfl⟩
  have hv : ∀ v s, SvOk c.K (Nof c ad os) ad os.length H v s → SvOk c.K (Nof c ad (os.set k .x)) ad (os.set k .x).length (upd H (ad k) u') v s := fun v s h => by
    rw [List.length_set]
    exact (h.mut eu wu hNk).sub hN
  refine ⟨ok.len, fun a x h m => ?_, fun a h => ?_, fun i s h => ?_, fun j x h l => ?_, fun a b la lb => ok.inj a b (hl a la).1 (hl b lb).1, fun a la => ok.nn a (hl a la).1, fun q hq => ((ok.frm q hq).mut eu wu hNk).sub hN, by rw [List.length_set]; exact ok.low⟩
  · by_cases q : a = ad k
    · subst q
      rcases hk0 with z | z
      · rw [z] at h; cases h
      · exact absurd z m
    · rw [upd_ne q]; exact ok.ex a x h m
  · by_cases q : a = ad k
    · rw [q, upd_same]; exact fun z => nomatch z
    · rw [upd_ne q]; exact ok.n0 a h
  · obtain ⟨v, h1, h2⟩ := ok.val i s h
    exact ⟨v, h1, hv v s h2⟩
  · by_cases q : k = j
    · subst q
      rw [List.getElem?_set_self (List.getElem?_eq_some_iff.mp h0).1] at h
      cases h; cases l
    · rw [List.getElem?_set_ne q] at h
      obtain ⟨h1, h2⟩ := ok.obj j x h l
      refine ⟨h1, h2.map hv fun y hy => ?_⟩
      rw [upd_ne]
      · exact hy
      · intro z
        exact q (ok.inj k j lk ⟨x, h, l⟩ z.symm)
/-- as EvW; the walk takes what it goes over -/
def EvW2 (c : Cn) (env : Sy) (os os2 : List SO) (wi : TI) (n : Nat) (it : Nat → SV) (G : List SO → Prop) : Prop := ∀ ad σ H, Ok c ad env os σ H → ∀ R : It → Hp → Prop,
  (∀ J H1 fr, Ok (c.w fr os.length) ad env os2 σ H1 → (∀ ad' env' os' σ' H', Ok (c.w fr os.length) ad' env' os' σ' H' → Ok c ad' env' os' σ' H') → WalkD (c.w fr os.length) J n it G → R J H1) → wi σ H R
def itK (kvs : List (List Key × SV)) : Nat → SV := fun i => .t (.tup (((kvs.getD i ([], .i .none)).1).map kV))
/-! ### parts of a tuple, items that are set -/
theorem paired_set {γ δ : Type} {F : γ → δ → Prop} {a : γ} {b : δ} : ∀ {l1 : List γ} {l2 : List δ} (j : Nat), Paired F l1 l2 → F a b → Paired F (l1.set j a) (l2.set j b)
  | _, _, _, .nil, _ => .nil
  | _, _, 0, .cons r t, h => .cons h t
  | _, _, j + 1, .cons r t, h => .cons r (paired_set j t h)
/-- xs[i] = e -/
theorem gs_setI {k j : Nat} {ss : List SV} {s : SV} {i : Int} (h : EvS c env os te s) (hl : EvR c env os tl k) (hk : os[k]? = some (.lst ss)) (hi : EvX true c env os tb (.int i)) (hj : ixN ss.length i = some j)
    (g : Go c env (os.set k (.lst (ss.set j s))) u D) : Go c env os (tSeq (tAsg te (gSub tl tb rSetL)) u) D := fun ad σ H ok =>
  h.run ok fun v H1 e1 r => hl.2 ad σ H1 (ok.ext e1) _ fun H2 e2 => hi ad σ H2 ((ok.ext e1).ext e2) _ fun y H3 e3 r3 => by
    have ok3 := ((ok.ext e1).ext e2).ext e3
    obtain ⟨_, vs, hvs, pv⟩ := ok3.obj k _ hk rfl
    have hN : Nof c ad os (ad k) := Or.inr ⟨k, ⟨_, hk, rfl⟩, rfl⟩
    refine ⟨ad k, vs, i, j, rfl, dn_int r3, hvs, by rw [Paired.length pv]; exact hj, g ad σ _ (ok3.mut hk rfl rfl ⟨vs.set j v, upd_same, ?_⟩)⟩
    exact paired_set j (Paired.imp pv fun _ _ z => z.mut hvs rfl hN) ((r.ext (e2.trans e3)).mut hvs rfl hN)
end
end DL

set_option Elab.async false
set_option linter.all false
set_option maxRecDepth 100000
set_option maxHeartbeats 4000000
/-! The data layer: sets of ints by comprehension. -/
namespace DL
open PySem PySem.Spec PyProof.Rows L2
open Evl (Ex Ex.refl Ex.trans Ex.new)
def addS (p : (Int → Bool) × Nat) (z : Int) : (Int → Bool) × Nat := (fun j => p.1 j || decide (j = z), if p.1 z = true then p.2 else p.2 + 1)
def setOf (zs : List Int) : (Int → Bool) × Nat := zs.foldl addS (fun _ => false, 0)
/-- each once, ascending -/
def dd : List Int → List Int
  | [] => []
  | z :: zs => if z ∈ zs then dd zs else z :: dd zs
def asc (zs : List Int) : List Int := srtI (dd zs)
def soS (w : World) (zs : List Int) : SO := .ho fun a => SetO w a (setOf zs).1 (setOf zs).2
section
variable {c : Cn} {env : Sy} {os : List SO} {g g1 : TG} {tt tt1 : TT} {te ts : TE}
end

theorem u1 {n m : Nat} (h : n + 64 < m) : n + 1 < m := by omega

section
variable {c : Cn} {env : Sy} {os : List SO} {te ta tb : TE} {tr : TA}
theorem paired_app {α β : Type} {F : α → β → Prop} {l1 : List α} {m1 : List β} {l2 : List α} {m2 : List β} (p : Paired F l1 m1) (q : Paired F l2 m2) : Paired F (l1 ++ l2) (m1 ++ m2) := by
  induction p with
  | nil => exact q
  | cons r t ih => exact .cons r ih
end
end DL

set_option Elab.async false
set_option linter.all false
set_option maxRecDepth 100000
set_option maxHeartbeats 2000000
/-! The data layer: an object of the store gets another place. -/
namespace DL
open PySem PySem.Spec PyProof.Rows L2
open Evl (Ex Ex.refl Ex.trans Ex.new)
end DL

set_option Elab.async false
set_option linter.all false
set_option maxRecDepth 100000
set_option maxHeartbeats 2000000
/-! The data layer: texts. -/
namespace DL
open PySem PySem.Spec PyProof.Rows L2
open Evl (Ex Ex.refl Ex.trans Ex.new)
/-- a text by its signs -/
abbrev sT (l : List Nat) : Str := ⟨l.toArray⟩
abbrev dT (l : List Nat) : PyData := .str (sT l)
theorem sT_len (l : List Nat) : (sT l).length = l.length := by simp [sT, Str.length]
theorem sT_cps (l : List Nat) : (sT l).cps.toList = l := by simp [sT]
theorem sT_inj {a b : List Nat} (h : sT a = sT b) : a = b := by
  have := congrArg (fun x : Str => x.cps.toList) h
  simpa using this
theorem sT_beq (a b : List Nat) : ((sT a == sT b : Bool)) = decide (a = b) := by
  by_cases h : a = b
  · subst h; simp
  · rw [decide_eq_false h]
    refine Bool.eq_false_iff.mpr fun z => h (sT_inj (by simpa using z))
def rMulS : R2 := fun x y H Q => ∃ (z : Str) (n : Int), x = .str z ∧ y = .int n ∧ 0 ≤ n ∧ n ≤ 1000000 ∧ z.length * n.toNat ≤ sizeLine ∧ Q (.str (sT (List.replicate n.toNat z.cps.toList).flatten)) H
section
variable {w : Bool} {c : Cn} {env : Sy} {os : List SO} {te ta tb tl : TE} {d : PyData} {tt tu : TT}
theorem ex_txt {x : Str} {l : List Nat} (h : x = sT l) : EvX w c env os (tC (.str x)) (dT l) := by subst h; exact ex_str
theorem ex_lenS {r : List V → Hp → VK → Prop} {a : List Nat} (hr : r = (fun xs H Q => ∃ z, xs = [.str z] ∧ z.length ≤ sizeLine ∧ Q (.int z.length) H)) (ha : EvX true c env os ta (dT a)) (hl : a.length ≤ 16777216) : EvX w c env os (tCB r (tCons ta tNil)) (.int (a.length : Int)) := fun ad σ H ok Q q => by
  subst hr
  refine ha ad σ H ok _ fun v H1 e1 r1 => ⟨sT a, by rw [dn_str r1], by rw [sT_len]; exact hl, ?_⟩
  rw [sT_len]
  exact q _ H1 e1 (.int _)
theorem ex_eqT {a b : List Nat} (ha : EvX true c env os ta (dT a)) (hb : EvX true c env os tb (dT b)) : EvX w c env os (tOp rEq ta tb) (.bool (decide (a = b))) := EvX.is (ex_eqS ha hb) (congrArg PyData.bool (sT_beq a b))
/-- a text is walked -/
theorem ew_str {a : List Nat} (h : EvX true c env os te (dT a)) : EvW c env os (iStr te) a.length (fun i => .i (dT [a.getD i 0])) (fun _ => True) := fun ad σ H ok R q =>
  h ad σ H ok _ fun v H1 e r => by
    refine ⟨sT a, dn_str r, q _ H1 c.fr e (ok.ext e).pin0 (up_pin0 (ok.ext e)) ⟨fun i ad' env' os' σ' H' hi o _ => ?_, fun ad' env' os' σ' H' o _ => ?_, fun i ad' env' os' σ' H' x H'' hi o _ y => ?_⟩⟩
    · show i < (sT a).cps.size
      simpa using hi
    · show (sT a).cps.size ≤ _
      simp
    · obtain ⟨rfl, x, hx, rfl⟩ := y
      refine ⟨Ex.refl _, ?_⟩
      have hx2 : a[i]? = some x := by simpa using hx
      rw [List.getD_eq_getElem?_getD, hx2]
      exact Dn.str _
end
end DL
namespace DL
open PySem PySem.Spec PyProof.Rows L2
theorem gcs {mg : Str → Option Value} {x z : Str} (h : ∃ t, mg x = some (.str z t)) : ∃ u, mg x = some u ∧ RelV (.str z) u := by
  obtain ⟨t, h⟩ := h
  exact ⟨_, h, t, rfl⟩
theorem gci {mg : Str → Option Value} {x : Str} {z : Int} (h : ∃ t, mg x = some (.int z t)) : ∃ u, mg x = some u ∧ RelV (.int z) u := by
  obtain ⟨t, h⟩ := h
  exact ⟨_, h, t, rfl⟩
end DL
namespace DL
theorem EvW.is {c : Cn} {env : Sy} {os : List SO} {wi : L2.TI} {n n' : Nat} {it : Nat → SV} {G : List SO → Prop} (h : EvW c env os wi n it G) (e : n = n') : EvW c env os wi n' it G := e ▸ h
end DL

set_option Elab.async false
set_option linter.all false
set_option maxRecDepth 100000
set_option maxHeartbeats 2000000
/-! The data layer: methods of texts, what is in a tuple. -/
namespace DL
open PySem PySem.Spec PyProof.Rows L2
open Evl (Ex Ex.refl Ex.trans Ex.new)
/-- the parts between the signs d -/
def splitC (d : Nat) : List Nat → List (List Nat)
  | [] => [[]]
  | c :: r => if c = d then [] :: splitC d r else match splitC d r with
    | [] => [[c]]
    | p :: ps => (c :: p) :: ps
section
variable {w : Bool} {c : Cn} {env : Sy} {os : List SO} {te ta tb tl : TE} {d : PyData} {tt tu : TT}
end
theorem kInSeq {X : Cx} {K : PySem.W.Frag} (h : X.K = K := by rfl) : OpR X (compareOp .In) (rIn K false) := by subst h; exact op_in_seq
/-- texts as values -/
def txV (ls : List (List Nat)) : List V := ls.map fun l => V.str (sT l)
section
variable {w : Bool} {c : Cn} {env : Sy} {os : List SO} {te ta tb tl : TE} {d : PyData} {tt tu : TT}
end
end DL
namespace DL
open PySem PySem.Spec PyProof.Rows L2
open Evl (Ex Ex.refl Ex.trans Ex.new)
theorem Paired.app {α β : Type} {F : α → β → Prop} : ∀ {l₁ m₁ : List α} {l₂ m₂ : List β}, Paired F l₁ l₂ → Paired F m₁ m₂ → Paired F (l₁ ++ m₁) (l₂ ++ m₂)
  | _, _, _, _, .nil, h => h
  | _, _, _, _, .cons r t, h => .cons r (Paired.app t h)
section
variable {w : Bool} {c : Cn} {env : Sy} {os : List SO} {te ta tb tl : TE} {d : PyData} {tt tu : TT} {u : TS} {D : Ends}
end
end DL
namespace DL
open PySem PySem.Spec PyProof.Rows L2
open Evl (Ex Ex.refl Ex.trans Ex.new)
end DL

set_option Elab.async false
set_option linter.all false
set_option maxRecDepth 100000
set_option maxHeartbeats 2000000
/-! The data layer: strip, partition, find of texts. -/
namespace DL
open PySem PySem.Spec PyProof.Rows L2
open Evl (Ex Ex.refl Ex.trans Ex.new)
/-- the part ahead of the first d -/
def upC (d : Nat) (l : List Nat) : List Nat := l.takeWhile fun c => !decide (c = d)
/-- strip(sign) -/
def stripL (d : Nat) (l : List Nat) : List Nat := (Txt.stripChars (sT l) (sT [d])).cps.toList
section
variable {w : Bool} {c : Cn} {env : Sy} {os : List SO} {te ta tb tl : TE} {d : PyData} {tt tu : TT}
end
end DL

set_option Elab.async false
set_option linter.all false
set_option maxRecDepth 100000
set_option maxHeartbeats 2000000
/-! The data layer: keywords, written dicts, divmod. -/
namespace DL
open PySem PySem.Spec PyProof.Rows L2
open Evl (Ex Ex.refl Ex.trans Ex.new)
/-! ### defs with keyword-only parameters -/
abbrev FnQ (K : PySem.W.Frag) (x : Str) (st : Stmt) (kws : List (Str × V)) (f : Addr) (fd : FuncData) : Prop := FunD K x x (defArgs st) (defBody st) (defScope st) [] kws f fd
/-- a form of call: how many values by place, the names, what fills up -/
abbrev CForm := Nat × List Str × List (Str × V)
def FormOk (K : PySem.W.Frag) (fd : FuncData) (ps : List Str) (F : CForm) : Prop := ∃ ds, KBn K fd ps F.1 F.2.1 (fun us ws => us ++ (ws ++ ds)) (fun vs zs => vs ++ (zs ++ F.2.2.map (·.2)))
def CalQ (P : Program) (w : World) (K : PySem.W.Frag) (mg : Str → Option Value) (base : Heap) (k : Nat) (x : Str) (ps : List Str) (sp : Sp) (fs : List CForm) : Prop :=
  ∃ f fd, FnOk P w K mg base CX0 k f fd ps sp ∧ (∀ F ∈ fs, FormOk K fd ps F) ∧ mg x = some (.ref f) ∧ PySem.W.keepIn K (.ref f) = true
section
variable {P : Program} {w : World} {K : PySem.W.Frag} {mg : Str → Option Value} {base : Heap}
theorem form_mk {x qual : Str} {params : Arguments} {body : List Stmt} {scope : Scope} {kws : List (Str × V)} {f : Addr} {fd : FuncData} {ps : List Str} (F : FunD K x qual params body scope [] kws f fd) (n : Nat) (ks : List Str) (ms : List (Str × V)) (hk : kws ≠ []) (hms : ∀ q ∈ ms, q ∈ kws)
    (h : ∀ (D : Addr) (doc pm : Value) (an : Option Addr) (cdv ct : Value) (us mv ws : List Value), us.length = n → mv.length = ms.length → ws.length = ks.length →
      KwChain D ((ms.map (·.1)).zip mv) (bindArgs (PySem.W.fnOf x qual params body scope .none (.ref D) doc pm an cdv ct) ⟨us, ks.zip ws⟩) (ps.zip (us ++ (ws ++ mv)))) : FormOk K fd ps (n, ks, ms) := by
  obtain ⟨oc, od, dV, kV, doc, pm, an, cdv, ct, osl, rfl, lk, hcd, hD, hK⟩ := F.ex
  rcases hD with ⟨_, rfl⟩ | ⟨e, _⟩
  · rcases hK with e | ⟨D, rfl, hq⟩
    · exact absurd e hk
    · obtain ⟨mv, hl, rk, hks⟩ := kwd_vals (ms := ms) fun q hm => hq q (hms q hm)
      exact ⟨mv, ⟨fun s us ws X l1 l2 => BindsTo.of_looks fun M => KwChain.looks X hks (h D doc pm an cdv ct us mv ws l1 hl l2), fun r1 r2 => r1.append (r2.append rk)⟩⟩
  · exact absurd rfl e
end
section
variable {w : Bool} {c : Cn} {env : Sy} {os : List SO} {te ta tb tl : TE} {d : PyData} {tt tu : TT} {t tk : TA}
/-! ### written dicts -/
def EvP (c : Cn) (env : Sy) (os : List SO) (trs : List (TE × TE)) (kvs : List (Key × PyData)) : Prop := ∀ ad σ H, Ok c ad env os σ H → ∀ Q : List (V × V) → Hp → Prop,
  (∀ (vs : List (Key × V)) H2, Ex H H2 → Paired (fun (x : Key × V) (y : Key × PyData) => x.1 = y.1 ∧ Dn c.K (fun _ => True) H2 x.2 y.2) vs kvs → Q (vs.map fun kv => (kV kv.1, kv.2)) H2) → tPairs trs σ H Q
theorem ep_nil : EvP c env os [] [] := fun ad σ H ok Q q => q [] H (Ex.refl H) .nil
theorem ep_cons {trs : List (TE × TE)} {kvs : List (Key × PyData)} {kk : Key} (hk : EvX true c env os ta (kdat kk)) (hv : EvX true c env os tb d) (hd : noList d = true) (hr : EvP c env os trs kvs) : EvP c env os ((ta, tb) :: trs) ((kk, d) :: kvs) := fun ad σ H ok Q q =>
  hk ad σ H ok _ fun v H1 e1 r1 => hv ad σ H1 (ok.ext e1) _ fun u H2 e2 r2 => hr ad σ H2 ((ok.ext e1).ext e2) _ fun vs H3 e3 p => by
    have := q ((kk, u) :: vs) H3 ((e1.trans e2).trans e3) (.cons ⟨rfl, Dn.goF TP.refl d u hd (r2.ext e3)⟩ p)
    rw [List.map_cons] at this
    rw [dn_key r1]
    exact this
theorem mergeK_app : ∀ (more kvs : List (Key × V)), ((kvs ++ more).map (·.1)).Nodup → mergeK kvs more = kvs ++ more
  | [], kvs, _ => by simp [mergeK]
  | p :: more, kvs, h => by
    have e : putK kvs p.1 p.2 = kvs ++ [p] := by
      have hn : ∀ q ∈ kvs, q.1 ≠ p.1 := fun q hq z => by
        rw [List.map_append, List.nodup_append] at h
        exact h.2.2 q.1 (List.mem_map_of_mem hq) p.1 (by simp) z
      unfold putK
      rw [if_neg]
      intro z
      obtain ⟨q, hq, e⟩ := List.any_eq_true.mp z
      exact hn q hq (of_decide_eq_true e)
    show mergeK (putK kvs p.1 p.2) more = _
    rw [e, mergeK_app more (kvs ++ [p]) (by simpa using h)]
    simp
theorem ef_disp {trs : List (TE × TE)} {kvs : List (Key × PyData)} (h : EvP c env os trs kvs) (hn : (kvs.map (·.1)).Nodup) (hl : kvs.length ≤ 15) : EvF c env os (tDisp trs) (.dK (kvs.map fun q => (q.1, SV.i q.2))) := fun ad σ H ok Q q p hp => by
  refine h ad σ _ (ok.ext (Ex.new hp)) _ fun vs H2 e pv => ?_
  have hp2 : H2 p = some (.dK []) := e _ _ upd_same
  have hkeys : vs.map (·.1) = kvs.map (·.1) := by
    clear h hn hl q
    induction pv with
    | nil => rfl
    | cons r t ih => rw [List.map_cons, List.map_cons, r.1, ih]
  refine ⟨hp2, vs, rfl, by have := congrArg List.length hkeys; simp at this; omega, ?_⟩
  rw [mergeK_app vs [] (by simpa [hkeys] using hn), List.nil_append]
  refine q p _ hp (fun a o ha => ?_) ⟨vs, upd_same, ?_⟩
  · rw [upd_ne (ne_of_none ha hp)]
    exact e a o (by rw [upd_ne (ne_of_none ha hp)]; exact ha)
  · have mutd : ∀ (v : V) (d : PyData), Dn c.K (fun _ => True) H2 v d → Dn c.K (fun a => Nof c ad os a ∨ a = p) (upd H2 p (.dK vs)) v d := fun v d r => (r.mut hp2 rfl True.intro).sub fun _ _ => True.intro
    clear hkeys h hn hl q e
    generalize upd H2 p (HO.dK vs) = H3 at mutd
    induction pv with
    | nil => exact .nil
    | cons r t ih => exact .cons ⟨r.1, mutd _ _ r.2⟩ (ih)
end
end DL

set_option Elab.async false
set_option linter.all false
set_option maxRecDepth 100000
set_option maxHeartbeats 2000000
/-! The data layer: enumerate of a text. -/
namespace L2
open PySem PySem.Spec PyProof.Rows
def IteS (x : Str) : It :=
  ⟨fun i _ => i < x.cps.size, fun i H v H' => ∃ T c, v = .ref T ∧ H T = none ∧ H' = upd H T (.tup [.int (i : Nat), .str ⟨#[c]⟩]) ∧ x.cps[i]? = some c, fun i _ => x.cps.size ≤ i⟩
def iEnumS (ta : TA) : TI := fun σ H R => ta σ H fun vs H1 => ∃ x, vs = [.str x] ∧ R (IteS x) H1
end L2
namespace DL
open PySem PySem.Spec PyProof.Rows L2
open Evl (Ex Ex.refl Ex.trans Ex.new)
end DL

set_option Elab.async false
set_option linter.all false
set_option maxRecDepth 100000
set_option maxHeartbeats 2000000
/-! The data layer: a generator that hands out a list's items; list(g). -/
namespace L2
open PySem PySem.Spec PyProof.Rows GenW
section
variable {prog : Program} {w : World} {A : Around} {E : Value → Shared → Prop} {s : Shared}
end
section
variable {X : Cx} {e : Expr} {te : TE}
def tYfLst (te : TE) : TYf := fun σ H Q => te σ H fun x H1 => ∃ a xs, x = .ref a ∧ H1 a = some (.lst xs) ∧ Q xs H1
end
end L2
namespace DL
open PySem PySem.Spec PyProof.Rows L2
open Evl (Ex Ex.refl Ex.trans Ex.new)
/-- data in; what is handed out -/
def spG (K : PySem.W.Frag) (R : List PyData → List PyData → Prop) : SpG := fun vs H Q _ => ∃ (N : Addr → Prop) (ds : List PyData) (rs : List PyData), (∀ a, N a → H a ≠ none) ∧ DnAll K N H vs ds ∧ R ds rs ∧ ∀ H' ws, Ex H H' → DnAll K N H' ws rs → Q ws H'
def CalG (P : Program) (w : World) (K : PySem.W.Frag) (mg : Str → Option Value) (base : Heap) (k : Nat) (x : Str) (ps : List Str) (sp : SpG) : Prop :=
  ∃ f fd, GFn P w K mg base k f fd ps sp ∧ Binds K fd ps [] ∧ mg x = some (.ref f) ∧ PySem.W.keepIn K (.ref f) = true
section
variable {c : Cn} {env : Sy} {os : List SO} {ta : TA}
end
end DL

set_option Elab.async false
set_option linter.all false
set_option maxRecDepth 100000
set_option maxHeartbeats 2000000
/-! The data layer: dicts with whole numbers or texts as keys, as data; lists of the store within a dict of the store. -/
namespace DL
open PySem PySem.Spec PyProof.Rows L2
open Evl (Ex Ex.refl Ex.trans Ex.new)
/-! ### as data -/
def dKd {α β : Type} (ek : α → Key) (ev : β → PyData) (m : List (α × β)) : PyData := .dict (m.map fun p => (kdat (ek p.1), ev p.2))
section
variable {α β : Type} {K : PySem.W.Frag} {N : Addr → Prop} {H : Hp}
theorem dn_dK {ek : α → Key} {ev : β → PyData} {m : List (α × β)} {v : V} (h : Dn K N H v (dKd ek ev m)) : ∃ a ws, v = .ref a ∧ Rd H a (.dK ws) ∧ ¬ N a ∧ Paired (fun (p : Key × V) (q : α × β) => p.1 = ek q.1 ∧ Dn K N H p.2 (ev q.2)) ws m := by
  unfold dKd at h
  cases h with
  | @dkk a ws _ r n p =>
    refine ⟨_, _, rfl, r, n, ?_⟩
    clear r
    induction m generalizing ws with
    | nil =>
      cases ws with
      | nil => exact .nil
      | cons x ws => cases p
    | cons q m ih =>
      cases ws with
      | nil => cases p
      | cons x ws =>
        rw [List.map_cons, List.map_cons] at p
        generalize hk : kdat x.1 = kd at p
        generalize hk2 : kdat (ek q.1) = kd2 at p
        cases p with
        | cons a b => exact .cons ⟨kdat_inj (hk.trans hk2.symm), a⟩ (ih b)
  | @dkt a ws _ r n p =>
    cases m with
    | nil => cases p
    | cons q m =>
      rw [List.map_cons] at p
      generalize hk : kdat (ek q.1) = kd at p
      cases p
      cases hq : ek q.1 <;> rw [hq] at hk <;> cases hk
  | dkz r n p =>
    cases m with
    | nil => cases p
    | cons q m =>
      rw [List.map_cons] at p
      generalize hk : kdat (ek q.1) = kd at p
      cases p
      cases hq : ek q.1 <;> rw [hq] at hk <;> cases hk
  | ft r n p =>
    cases m with
    | nil => cases p
    | cons q m =>
      rw [List.map_cons] at p
      generalize hk : kdat (ek q.1) = kd at p
      cases p
      cases hq : ek q.1 <;> rw [hq] at hk <;> cases hk
  | ins r n p =>
    cases m with
    | nil => cases p
    | cons q m =>
      rw [List.map_cons] at p
      generalize hk : kdat (ek q.1) = kd at p
      cases p
      cases hq : ek q.1 <;> rw [hq] at hk <;> cases hk
theorem dK_dn {ek : α → Key} {ev : β → PyData} {m : List (α × β)} {a : Addr} {ws : List (Key × V)} (r : Rd H a (.dK ws)) (n : ¬ N a) (p : Paired (fun (p : Key × V) (q : α × β) => p.1 = ek q.1 ∧ Dn K N H p.2 (ev q.2)) ws m) : Dn K N H (.ref a) (dKd ek ev m) := by
  refine .dkk r n ?_
  clear r
  induction p with
  | nil => exact .nil
  | cons r t ih =>
    rw [List.map_cons, List.map_cons, r.1]
    exact .cons r.2 ih
theorem pairK {ek : α → Key} {ev : β → PyData} {ad : Nat → Addr} {n : Nat} : ∀ {ws : List (Key × V)} {m : List (α × β)}, Paired (fun (p : Key × V) (q : Key × SV) => p.1 = q.1 ∧ SvOk K N ad n H p.2 q.2) ws (m.map fun p => (ek p.1, SV.i (ev p.2))) → Paired (fun (p : Key × V) (q : α × β) => p.1 = ek q.1 ∧ Dn K N H p.2 (ev q.2)) ws m
  | _, [], h => by cases h; exact .nil
  | _, q :: m, h => by
    cases h with
    | cons a b => exact .cons a (pairK b)
theorem pairKi {ek : α → Key} {ev : β → PyData} {ad : Nat → Addr} {n : Nat} : ∀ {ws : List (Key × V)} {m : List (α × β)}, Paired (fun (p : Key × V) (q : α × β) => p.1 = ek q.1 ∧ Dn K N H p.2 (ev q.2)) ws m → Paired (fun (p : Key × V) (q : Key × SV) => p.1 = q.1 ∧ SvOk K N ad n H p.2 q.2) ws (m.map fun p => (ek p.1, SV.i (ev p.2)))
  | _, _, .nil => .nil
  | _, _, .cons r t => .cons r (pairKi t)
variable [DecidableEq α]
theorem val_dK {ek : α → Key} (hi : ∀ a b, ek a = ek b → a = b) {F : V → β → Prop} : ∀ {ws : List (Key × V)} {m : List (α × β)}, Paired (fun (p : Key × V) (q : α × β) => p.1 = ek q.1 ∧ F p.2 q.2) ws m → ∀ a, (valV ws (ek a) = none ∧ getA m a = none) ∨ ∃ v b, valV ws (ek a) = some v ∧ getA m a = some b ∧ F v b
  | _, _, .nil, a => Or.inl ⟨rfl, rfl⟩
  | _, _, .cons (a := p) (b := q) r t, a => by
    rw [getA_cons]
    by_cases h : q.1 = a
    · rw [if_pos h]
      exact Or.inr ⟨p.2, q.2, valV_pos (r.1.trans (by rw [h])), rfl, r.2⟩
    · rw [if_neg h, valV_neg (fun z => h (hi _ _ (r.1.symm.trans z)))]
      exact val_dK hi t a
end
section
variable {α β : Type} [DecidableEq α] {w w' : Bool} {c : Cn} {env env' : Sy} {os : List SO} {te ta tb tl td ty tv tx : TE} {d : PyData} {u : TS} {D : Ends} {ek : α → Key} {ev : β → PyData} {m : List (α × β)}
theorem DGet.rk {H : Hp} {a : Addr} {kvs : List (Key × V)} {k : Key} (e : Rd H a (.dK kvs)) : DGet H a (kV k) (valV kvs k) := .inl ⟨kvs, k, e, rfl, rfl⟩
/-- k in d, k not in d, d[k] of data -/
theorem ex_inD {a : α} (hi : ∀ a b, ek a = ek b → a = b) (hk : EvX true c env os ty (kdat (ek a))) (hd : EvX true c env os td (dKd ek ev m)) : EvX w c env os (tDIn ty td) (.bool (getA m a).isSome) := fun ad σ H ok Q q =>
  hk ad σ H ok _ fun b H1 e1 r1 => hd ad σ H1 (ok.ext e1) _ fun v H2 e2 r2 => by
    obtain ⟨p, ws, rfl, hp, _, pw⟩ := dn_dK r2
    refine ⟨p, _, rfl, by rw [dn_key r1]; exact DGet.rk hp, ?_⟩
    rcases val_dK (F := fun v b => Dn c.K (Nw true c ad os) H2 v (ev b)) hi pw a with ⟨x, y⟩ | ⟨v, b, x, y, _⟩
    · rw [y] at q; rw [x]; exact q _ H2 (e1.trans e2) (.bl false)
    · rw [y] at q; rw [x]; exact q _ H2 (e1.trans e2) (.bl true)
theorem ex_notinD {a : α} (hi : ∀ a b, ek a = ek b → a = b) (hk : EvX true c env os ty (kdat (ek a))) (hd : EvX true c env os td (dKd ek ev m)) : EvX w c env os (tDNotIn ty td) (.bool (!(getA m a).isSome)) := fun ad σ H ok Q q =>
  hk ad σ H ok _ fun b H1 e1 r1 => hd ad σ H1 (ok.ext e1) _ fun v H2 e2 r2 => by
    obtain ⟨p, ws, rfl, hp, _, pw⟩ := dn_dK r2
    refine ⟨p, _, rfl, by rw [dn_key r1]; exact DGet.rk hp, ?_⟩
    rcases val_dK (F := fun v b => Dn c.K (Nw true c ad os) H2 v (ev b)) hi pw a with ⟨x, y⟩ | ⟨v, b, x, y, _⟩
    · rw [y] at q; rw [x]; exact q _ H2 (e1.trans e2) (.bl true)
    · rw [y] at q; rw [x]; exact q _ H2 (e1.trans e2) (.bl false)
theorem ex_dgetD {a : α} {b : β} (hi : ∀ a b, ek a = ek b → a = b) (hd : EvX w c env os td (dKd ek ev m)) (hk : EvX true c env os ty (kdat (ek a))) (hg : getA m a = some b) : EvX w c env os (tDGet td ty) (ev b) := fun ad σ H ok Q q =>
  hd ad σ H ok _ fun v H1 e1 r1 => hk ad σ H1 (ok.ext e1) _ fun y H2 e2 r2 => by
    obtain ⟨p, ws, rfl, hp, _, pw⟩ := dn_dK (r1.ext e2)
    rcases val_dK (F := fun v b => Dn c.K (Nw w c ad os) H2 v (ev b)) hi pw a with ⟨x, z⟩ | ⟨v, b', x, z, f⟩
    · rw [hg] at z; cases z
    · rw [hg] at z; cases z
      exact ⟨p, v, rfl, by rw [dn_key r2, ← x]; exact DGet.rk hp, q v H2 (e1.trans e2) f⟩
/-! ### of the store -/
/-! ### a fresh dict is told by a def -/
def spI {α β : Type} (K : PySem.W.Frag) (ek : α → Key) (ev : β → PyData) (R : List PyData → List (α × β) → Prop) : Sp := fun vs H Q _ => ∃ (N : Addr → Prop) (ds : List PyData) (m : List (α × β)), (∀ a, N a → H a ≠ none) ∧ DnAll K N H vs ds ∧ R ds m ∧
  ∀ p H' ws, H p = none → Ex H H' → H' p = some (.dK ws) → Paired (fun (x : Key × V) (y : α × β) => x.1 = ek y.1 ∧ Dn K (fun a => N a ∨ a = p) H' x.2 (ev y.2)) ws m → Q (.ref p) H'
def RetI (ek : α → Key) (ev : β → PyData) (c : Cn) (m : List (α × β)) (D : Ends) : Prop := ∀ p H2 ws, c.H0 p = none → (∀ a o, c.H0 a = some o → ¬ c.M a → H2 a = some o) → H2 p = some (.dK ws) → Paired (fun (x : Key × V) (y : α × β) => x.1 = ek y.1 ∧ Dn c.K (fun a => c.N0 a ∨ a = p) H2 x.2 (ev y.2)) ws m → D.rt (.ref p) H2
/-! ### a walk over the keys -/
def EvW3 (c : Cn) (env : Sy) (os : List SO) (env2 : Sy) (os2 : List SO) (wi : TI) (n : Nat) (it : Nat → SV) (G : List SO → Prop) : Prop := ∀ ad σ H, Ok c ad env os σ H → ∀ R : It → Hp → Prop,
  (∀ J H1 fr, Ok (c.w fr os.length) ad env2 os2 σ H1 → (∀ ad' env' os' σ' H', Ok (c.w fr os.length) ad' env' os' σ' H' → Ok c ad' env' os' σ' H') → WalkD (c.w fr os.length) J n it G → R J H1) → wi σ H R
end
end DL

set_option Elab.async false
set_option linter.all false
set_option maxRecDepth 100000
set_option maxHeartbeats 2000000
/-! The data layer: a state [numbers, number, number] of the caller that defs draw from and change. -/
namespace DL
open PySem PySem.Spec PyProof.Rows L2
open Evl (Ex Ex.refl Ex.trans Ex.new)
def Stt (H : Hp) (s b : Addr) : Prop := ∃ (ns : List Int) (a m : Int), H b = some (.lst (ns.map V.int)) ∧ H s = some (.lst [.ref b, .int a, .int m])
theorem Stt.ne {H : Hp} {s b : Addr} (h : Stt H s b) : s ≠ b := by
  obtain ⟨ns, a, m, h1, h2⟩ := h
  intro e
  subst e
  rw [h1] at h2
  cases ns with
  | nil => cases h2
  | cons n ns => cases h2
section
variable {w : Bool} {c : Cn} {env : Sy} {os : List SO} {te ta tb tl t1 t2 : TE} {tr : TA} {u : TS} {D : Ends} {P PA PB : PyData → Prop} {ad : Nat → Addr} {σ : L2.St} {H H' : Hp}
theorem Ok.chg {ks ki : Nat} (ok : Ok c ad env os σ H) (hs : os[ks]? = some (.stt ki)) (hb : os[ki]? = some .nums) (hch : ∀ a u, H a = some u → a ≠ ad ks → a ≠ ad ki → H' a = some u) (st : Stt H' (ad ks) (ad ki)) : Ok c ad env os σ H' := by
  have ls : Lv os ks := ⟨_, hs, rfl⟩
  have lb : Lv os ki := ⟨_, hb, rfl⟩
  have Ns : Nof c ad os (ad ks) := Or.inr ⟨ks, ls, rfl⟩
  have Nb : Nof c ad os (ad ki) := Or.inr ⟨ki, lb, rfl⟩
  obtain ⟨ms, us, es, ws⟩ : (c.H0 (ad ks) = none ∨ c.M (ad ks)) ∧ ∃ u, H (ad ks) = some u ∧ Wr u = true := ⟨(ok.obj ks _ hs rfl).1, (ok.obj ks _ hs rfl).2.some rfl⟩
  obtain ⟨mb, ub, eb, wb⟩ : (c.H0 (ad ki) = none ∨ c.M (ad ki)) ∧ ∃ u, H (ad ki) = some u ∧ Wr u = true := ⟨(ok.obj ki _ hb rfl).1, (ok.obj ki _ hb rfl).2.some rfl⟩
  have hnw : ∀ a x, H a = some x → Wr x = false → H' a = some x := fun a x e hw => hch a x e (fun z => by subst z; rw [es] at e; cases e; rw [ws] at hw; cases hw) (fun z => by subst z; rw [eb] at e; cases e; rw [wb] at hw; cases hw)
  have hout : ∀ a x, H a = some x → ¬ Nof c ad os a → H' a = some x := fun a x e n => hch a x e (fun z => n (z ▸ Ns)) (fun z => n (z ▸ Nb))
  have hrd : ∀ a x, Rd H a x → ¬ Nof c ad os a → Rd H' a x ∧ ¬ Nof c ad os a := fun a x r n => ⟨by
    rcases r with r | ⟨o, r⟩
    · exact Or.inl (hout a x r n)
    · exact Or.inr ⟨o, hout a _ r n⟩, n⟩
  have hsq : TP c.K H H' := ⟨fun a xs r => by
    rcases r with (r | ⟨o, r⟩) | r
    · exact Or.inl (Or.inl (hnw a _ r rfl))
    · exact Or.inl (Or.inr ⟨o, hnw a _ r rfl⟩)
    · exact Or.inr r, fun a o xs r => hnw a _ r rfl⟩
  have hv : ∀ n v s, SvOk c.K (Nof c ad os) ad n H v s → SvOk c.K (Nof c ad os) ad n H' v s := fun n v s h => by
    cases s with
    | i d => exact Dn.go hrd hout hsq d v h
    | t x => obtain ⟨b, e1, e2, e3⟩ := h; exact ⟨b, e1, e3.elim (hnw b _ e2) (hout b _ e2), e3⟩
    | ob C m => obtain ⟨a, dx, fs, e1, e2, e3, e4⟩ := h; exact ⟨a, dx, fs, e1, hout a _ e2 e3, e3, Paired.imp e4 fun _ _ z => ⟨z.1, Dn.go hrd hout hsq _ _ z.2⟩⟩
    | z m => obtain ⟨a, dx, fs, e1, e2, e3, e4⟩ := h; exact ⟨a, dx, fs, e1, hout a _ e2 e3, e3, Paired.imp e4 fun _ _ z => ⟨z.1, Dn.go hrd hout hsq _ _ z.2⟩⟩
    | r k => exact h
  refine ⟨ok.len, fun a o h m => ?_, fun a h => ?_, fun i s h => ?_, fun k o h l => ?_, ok.inj, ok.nn, fun p hp => hv _ _ _ (ok.frm p hp), ok.low⟩
  · refine hch a o (ok.ex a o h m) (fun z => ?_) (fun z => ?_)
    · subst z
      rcases ms with z | z
      · rw [z] at h; cases h
      · exact m z
    · subst z
      rcases mb with z | z
      · rw [z] at h; cases h
      · exact m z
  · cases e : H a with
    | none => exact absurd e (ok.n0 a h)
    | some x =>
      rw [hch a x e (fun z => ok.nn ks ls (z ▸ h)) (fun z => ok.nn ki lb (z ▸ h))]
      exact fun z => nomatch z
  · obtain ⟨v, h1, h2⟩ := ok.val i s h
    exact ⟨v, h1, hv _ v s h2⟩
  · obtain ⟨ns, a, m, z1, z2⟩ := st
    by_cases q1 : k = ks
    · subst q1
      rw [hs] at h; cases h
      exact ⟨ms, _, a, m, z2, rfl, (List.getElem?_eq_some_iff.mp hb).1⟩
    · by_cases q2 : k = ki
      · subst q2
        rw [hb] at h; cases h
        exact ⟨mb, ns, z1⟩
      · obtain ⟨h1, h2⟩ := ok.obj k o h l
        exact ⟨h1, h2.map (hv _) fun x e => hch _ x e (fun z => q1 (ok.inj k ks ⟨o, h, l⟩ ls z)) (fun z => q2 (ok.inj k ki ⟨o, h, l⟩ lb z))⟩
/-- an object of the store is told otherwise -/
theorem Ok.reset {o o' : SO} {k : Nat} (ok : Ok c ad env os σ H) (h0 : os[k]? = some o) (l0 : o.live = true) (l : o'.live = true) (ho : SoOk c.K (Nof c ad os) ad os.length H (ad k) o') : Ok c ad env (os.set k o') σ H := by
  obtain ⟨x, e, _⟩ := (ok.obj k o h0 l0).2.some l0
  have hu : upd H (ad k) x = H := by
    funext a
    by_cases q : a = ad k
    · rw [q, upd_same, e]
    · rw [upd_ne q]
  have := ok.mut (u' := x) h0 l0 l (by rw [hu]; exact ho)
  rwa [hu] at this
/-! ### the promise -/
def spM (K : PySem.W.Frag) (R : List PyData → PyData → Prop) : Sp := fun vs H Q _ => ∃ (N : Addr → Prop) (s b : Addr) (rest : List V) (ds : List PyData), vs = .ref s :: rest ∧ Stt H s b ∧ ¬ N s ∧ ¬ N b ∧ (∀ a, N a → H a ≠ none) ∧ DnAll K (fun a => N a ∨ a = s ∨ a = b) H rest ds ∧ (∃ d, R ds d) ∧
  ∀ v H' d, R ds d → (∀ a x, H a = some x → a ≠ s → a ≠ b → H' a = some x) → Stt H' s b → Dn K (fun a => N a ∨ a = s ∨ a = b) H' v d → Q v H'
theorem spM_len {K : PySem.W.Frag} {R : List PyData → PyData → Prop} {n : Nat} (hR : ∀ ds d, R ds d → ds.length = n) : ∀ vs H Q E, spM K R vs H Q E → vs.length = n + 1 := fun vs H Q E ⟨N, s, b, rest, ds, e, _, _, _, _, h, ⟨d, r⟩, _⟩ => by rw [e, List.length_cons, h.length, hR ds d r]
/-- te gives data with P; the state may be drawn from -/
def EvM (c : Cn) (env : Sy) (os : List SO) (te : TE) (P : PyData → Prop) : Prop := ∀ ad σ H, Ok c ad env os σ H → ∀ Q : VK, (∀ v H2 d, P d → Ok c ad env os σ H2 → Dn c.K (Nof c ad os) H2 v d → Q v H2) → te σ H Q
def EvAM (c : Cn) (env : Sy) (os : List SO) (ta : TA) (P : List PyData → Prop) : Prop := ∀ ad σ H, Ok c ad env os σ H → ∀ Q : List V → Hp → Prop, (∀ vs H2 ds, P ds → Ok c ad env os σ H2 → DnAll c.K (Nof c ad os) H2 vs ds → Q vs H2) → ta σ H Q
theorem em_x {d : PyData} (h : EvX false c env os te d) (hP : P d) : EvM c env os te P := fun ad σ H ok Q q => h ad σ H ok Q fun v H2 e r => q v H2 d hP (ok.ext e) (by rw [Nw_false] at r; exact r)
theorem EvM.imp (h : EvM c env os te PA) (f : ∀ d, PA d → P d) : EvM c env os te P := fun ad σ H ok Q q => h ad σ H ok Q fun v H2 d p => q v H2 d (f d p)
theorem em_call {R : List PyData → PyData → Prop} {E : XK} {ks ki i : Nat} {ds : List PyData} (hi : env[i]? = some (some (.r ks))) (hs : os[ks]? = some (.stt ki)) (hb : os[ki]? = some .nums) (h : EvA false c env os tr ds) (hR : ∃ d, R ds d) : EvM c env os (tCall (spM c.K R) [] E (tCons (tVar i) tr)) (R ds) := fun ad σ H ok Q q => by
  obtain ⟨v, hv, hr⟩ := ok.val i _ hi
  obtain ⟨rfl, _⟩ := (show v = .ref (ad ks) ∧ ks < os.length from hr)
  refine ⟨_, hv, h ad σ H ok _ fun vs H2 e a => ?_⟩
  rw [Nw_false] at a
  have ok2 := ok.ext e
  have ls : Lv os ks := ⟨_, hs, rfl⟩
  have lb : Lv os ki := ⟨_, hb, rfl⟩
  obtain ⟨_, v2, x, m, e2, e3, _⟩ := ok2.obj ks _ hs rfl
  obtain ⟨_, ns, e4⟩ := ok2.obj ki _ hb rfl
  subst e3
  have hN : ∀ b, (Nof c ad os b ∧ b ≠ ad ks ∧ b ≠ ad ki) ∨ b = ad ks ∨ b = ad ki → Nof c ad os b := fun b z => by
    rcases z with z | z | z
    · exact z.1
    · rw [z]; exact Or.inr ⟨ks, ls, rfl⟩
    · rw [z]; exact Or.inr ⟨ki, lb, rfl⟩
  have hN2 : ∀ b, Nof c ad os b → (Nof c ad os b ∧ b ≠ ad ks ∧ b ≠ ad ki) ∨ b = ad ks ∨ b = ad ki := fun b z => by
    by_cases q1 : b = ad ks
    · exact Or.inr (Or.inl q1)
    · by_cases q2 : b = ad ki
      · exact Or.inr (Or.inr q2)
      · exact Or.inl ⟨z, q1, q2⟩
  refine ⟨fun b => Nof c ad os b ∧ b ≠ ad ks ∧ b ≠ ad ki, ad ks, ad ki, vs, ds, by simp, ⟨ns, x, m, e4, e2⟩, fun z => z.2.1 rfl, fun z => z.2.2 rfl, fun b z => ok2.nof z.1, a.sub hN, hR, fun v H' d hd hch st r => q v H' d hd (ok2.chg hs hb hch st) (r.sub hN2)⟩
/-! ### one thing behind the other -/
theorem ex_pin {v : V} {d : PyData} (h : (v, SV.i d) ∈ c.fr) : EvX w c env os (tC v) d := EvX.weak fun ad σ H ok Q q => q v H (Ex.refl H) (by
  rw [Nw_false]
  exact ok.frm _ h)
theorem em_op {r : R2} (ha : EvM c env os ta PA) (h : ∀ v d, PA d → EvM (c.w ((v, .i d) :: c.fr) os.length) env os (tOp r (tC v) tb) P) : EvM c env os (tOp r ta tb) P := fun ad σ H ok Q q =>
  ha ad σ H ok _ fun v H1 d p ok1 r1 => h v d p ad σ H1 (ok1.pin (s := .i d) r1) Q fun v2 H2 d2 p2 ok2 r2 => q v2 H2 d2 p2 (up_pin (v := v) (s := .i d) ok1 _ _ _ _ _ ok2) r2
theorem em_op2 {r : R2} {v0 : V} (hb : EvM c env os tb PB) (h : ∀ v d, PB d → EvM (c.w ((v, .i d) :: c.fr) os.length) env os (tOp r (tC v0) (tC v)) P) : EvM c env os (tOp r (tC v0) tb) P := fun ad σ H ok Q q =>
  hb ad σ H ok _ fun v H1 d p ok1 r1 => h v d p ad σ H1 (ok1.pin (s := .i d) r1) Q fun v2 H2 d2 p2 ok2 r2 => q v2 H2 d2 p2 (up_pin (v := v) (s := .i d) ok1 _ _ _ _ _ ok2) r2
/-! ### statements -/
theorem gs_asgM {i : Nat} (h : EvM c env os te P) (k : ∀ d, P d → Go c (env.set i (some (.i d))) os u D) : Go c env os (tSeq (tAsg te (gName i)) u) D := fun ad σ H ok =>
  h ad σ H ok _ fun v H2 d p ok2 r => k d p ad _ H2 (ok2.set (s := .i d) r)
def RetM (c : Cn) (R : List PyData → PyData → Prop) (ds : List PyData) (D : Ends) : Prop := ∀ ad env os σ v H2 d, Ok c ad env os σ H2 → os[0]? = some .nums → os[1]? = some (.stt 0) → R ds d → Dn c.K (Nof c ad os) H2 v d → D.rt v H2
theorem gs_retM {R : List PyData → PyData → Prop} {ds : List PyData} (h : EvM c env os te P) (k : RetM c R ds D) (h0 : os[0]? = some .nums) (h1 : os[1]? = some (.stt 0)) (hP : ∀ d, P d → R ds d) : Go c env os (tSeq (tRet te) u) D := fun ad σ H ok =>
  h ad σ H ok _ fun v H2 d p ok2 r => k ad env os σ v H2 d ok2 h0 h1 (hP d p) r
def env1 (n : Nat) (ds : List PyData) : Sy := some (.r 1) :: env0 (n - 1) ds
theorem ok_startM {K : PySem.W.Frag} {N : Addr → Prop} {s b : Addr} {vs : List V} {ds : List PyData} {Nm : List Str} (hN : ∀ a, N a → H a ≠ none) (st : Stt H s b) (hs : ¬ N s) (hb : ¬ N b) (h : DnAll K (fun a => N a ∨ a = s ∨ a = b) H vs ds) (hn : Nm ≠ []) :
    Ok ⟨K, H, N, fun a => a = s ∨ a = b, [(.ref s, .r 1), (.ref b, .r 0)], 2⟩ (fun k => if k = 0 then b else s) (env1 Nm.length ds) [.nums, .stt 0] (L2.start Nm (.ref s :: vs)) H := by
  have ne := st.ne
  obtain ⟨ns, a, m, e1, e2⟩ := st
  have lv : ∀ k, Lv [SO.nums, SO.stt 0] k → k = 0 ∨ k = 1 := fun k ⟨o, e, _⟩ => by
    have := (List.getElem?_eq_some_iff.mp e).1
    simp at this; omega
  have hN2 : ∀ x, Nof ⟨K, H, N, fun a => a = s ∨ a = b, [(.ref s, .r 1), (.ref b, .r 0)], 2⟩ (fun k => if k = 0 then b else s) [.nums, .stt 0] x → N x ∨ x = s ∨ x = b := fun x z => by
    rcases z with z | ⟨k, l, z⟩
    · exact Or.inl z
    · rcases lv k l with q | q
      · subst q; exact Or.inr (Or.inr z)
      · subst q; exact Or.inr (Or.inl z)
  have hl : 0 < Nm.length := List.length_pos_iff.mpr hn
  have hlen := h.length
  refine ⟨?_, fun a o e _ => e, hN, fun i t e => ?_, fun k o e l => ?_, fun k j hk hj q => ?_, fun k hk => ?_, fun p hp => ?_, Nat.le_refl _⟩
  · unfold L2.start env1 env0; simp [hlen]; omega
  · unfold env1 at e
    cases i with
    | zero =>
      simp at e
      subst e
      exact ⟨.ref s, by simp [L2.start], rfl, by simp⟩
    | succ i =>
      rw [List.getElem?_cons_succ] at e
      unfold env0 at e
      by_cases hi : i < ds.length
      · rw [List.getElem?_append_left (by simpa using hi), List.getElem?_map] at e
        cases hd : ds[i]? with
        | none => rw [hd] at e; cases e
        | some d =>
          rw [hd] at e
          cases e
          obtain ⟨v, h1, h2⟩ := h.get hd
          refine ⟨v, ?_, Dn.sub hN2 h2⟩
          unfold L2.start
          rw [List.getElem?_append_left (by simp [hlen]; omega), List.getElem?_map, List.getElem?_cons_succ, h1]
          rfl
      · rw [List.getElem?_append_right (by simpa using hi)] at e
        rw [List.getElem?_replicate] at e
        split at e <;> cases e
  · rcases lv k ⟨o, e, l⟩ with q | q
    · subst q
      cases e
      exact ⟨Or.inr (Or.inr rfl), ns, e1⟩
    · subst q
      cases e
      exact ⟨Or.inr (Or.inl rfl), .ref b, a, m, e2, rfl, by simp⟩
  · rcases lv k hk with q1 | q1 <;> rcases lv j hj with q2 | q2 <;> subst q1 q2
    · rfl
    · exact absurd q.symm ne
    · exact absurd q ne
    · rfl
  · rcases lv k hk with q | q <;> subst q
    · exact hb
    · exact hs
  · rcases List.mem_cons.mp hp with z | z
    · subst z; exact ⟨rfl, Nat.lt_succ_self 1⟩
    · rw [List.mem_singleton.mp z]; exact ⟨rfl, Nat.succ_pos 1⟩
theorem run_spM {K : PySem.W.Frag} {R : List PyData → PyData → Prop} {vs : List V} {Q : VK} {E : XK} {Nm : List Str} {t : TS} (h : spM K R vs H Q E) (hn : Nm ≠ [])
    (g : ∀ (N : Addr → Prop) (s b : Addr) ds, (∃ d, R ds d) → RetM ⟨K, H, N, fun a => a = s ∨ a = b, [(.ref s, .r 1), (.ref b, .r 0)], 2⟩ R ds (De Q) → Go ⟨K, H, N, fun a => a = s ∨ a = b, [(.ref s, .r 1), (.ref b, .r 0)], 2⟩ (env1 Nm.length ds) [.nums, .stt 0] t (De Q)) : t (De Q) (L2.start Nm vs) H := by
  obtain ⟨N, s, b, rest, ds, rfl, st, hs, hb, hN, ha, hR, hq⟩ := h
  refine g N s b ds hR (fun ad env os σ v H2 d ok h0 h1 hd r => ?_) _ _ _ (ok_startM hN st hs hb ha hn)
  obtain ⟨f1, _⟩ := (show V.ref s = .ref (ad 1) ∧ _ from ok.frm (.ref s, .r 1) (List.mem_cons_self ..))
  obtain ⟨f0, _⟩ := (show V.ref b = .ref (ad 0) ∧ _ from ok.frm (.ref b, .r 0) (List.mem_cons_of_mem _ (List.mem_cons_self ..)))
  have f1 := V.ref.inj f1
  have f0 := V.ref.inj f0
  obtain ⟨_, ns, e0⟩ := ok.obj 0 _ h0 rfl
  obtain ⟨_, v2, a, m, e1, e2, _⟩ := ok.obj 1 _ h1 rfl
  subst e2
  refine hq v H2 d hd (fun x o e n1 n2 => ok.ex x o e fun z => z.elim n1 n2) ⟨ns, a, m, by rw [f0]; exact e0, by rw [f1, f0]; exact e1⟩ (r.sub fun x z => ?_)
  rcases z with z | z | z
  · exact Or.inl z
  · rw [z, f1]; exact Or.inr ⟨1, ⟨_, h1, rfl⟩, rfl⟩
  · rw [z, f0]; exact Or.inr ⟨0, ⟨_, h0, rfl⟩, rfl⟩
/-- the state is looked into -/
theorem gs_open01 (k : ∀ (ns : List Int) (a m : Int), Go c env [.lst ((ns.map PyData.int).map SV.i), .lst [.r 0, .i (.int a), .i (.int m)]] u D) : Go c env [.nums, .stt 0] u D := fun ad σ H ok => by
  obtain ⟨_, ns, e0⟩ := ok.obj 0 _ rfl rfl
  obtain ⟨_, v2, a, m, e1, e2⟩ := ok.obj 1 _ rfl rfl
  have ok1 := ok.reset (k := 0) (o' := .lst ((ns.map PyData.int).map SV.i)) rfl rfl rfl ⟨_, e0, dn_paired (ints_dn ns)⟩
  have ok2 := ok1.reset (k := 1) (o' := .lst [.r 0, .i (.int a), .i (.int m)]) rfl rfl rfl ⟨_, e1, .cons e2 (.cons (Dn.int a) (.cons (Dn.int m) .nil))⟩
  exact k ns a m ad σ H ok2
theorem gs_close01 {ns : List Int} {a m : Int} (k : Go c env [.nums, .stt 0] u D) : Go c env [.lst ((ns.map PyData.int).map SV.i), .lst [.r 0, .i (.int a), .i (.int m)]] u D := fun ad σ H ok => by
  obtain ⟨_, vs, e0, p0⟩ := ok.obj 0 _ rfl rfl
  obtain ⟨_, ws, e1, p1⟩ := ok.obj 1 _ rfl rfl
  have ev : vs = ns.map V.int := (paired_dn p0).ints
  have ok1 := ok.reset (k := 0) (o' := .nums) rfl rfl rfl ⟨ns, by rw [← ev]; exact e0⟩
  refine k ad σ H (ok1.reset (k := 1) (o' := .stt 0) rfl rfl rfl ?_)
  cases p1 with
  | cons q1 p1 =>
    cases p1 with
    | cons q2 p1 =>
      cases p1 with
      | cons q3 p1 =>
        cases p1
        cases (show Dn _ _ _ _ _ from q2)
        cases (show Dn _ _ _ _ _ from q3)
        exact ⟨_, a, m, e1, q1⟩
theorem er_ixO {k j : Nat} {ss : List SV} {i : Int} (hl : EvR c env os ta k) (hk : os[k]? = some (.lst ss)) (hi : EvX true c env os tb (.int i)) (hd : atI ss i = some (.r j)) (hj : j < os.length) : EvR c env os (tOp (rIxL c.K) ta tb) j := ⟨hj, fun ad σ H ok Q q =>
  hl.2 ad σ H ok _ fun H1 e1 => hi ad σ H1 (ok.ext e1) _ fun y H2 e2 r2 => by
    cases dn_int r2
    obtain ⟨_, vs, h1, h2⟩ := ((ok.ext e1).ext e2).obj k _ hk rfl
    obtain ⟨v, h3, h4⟩ := paired_at h2 hd
    obtain ⟨rfl, _⟩ := (show v = .ref (ad j) ∧ _ from h4)
    exact ⟨ad k, vs, i, _, rfl, rfl, SqL.of h1, h3, q H2 (e1.trans e2)⟩⟩
/-- x = xs.pop(0) -/
theorem gs_asgPop0 {i k : Nat} {d : PyData} {ss : List SV} (hl : EvR c env os tl k) (hk : os[k]? = some (.lst (.i d :: ss))) (h0 : EvX true c env os te (.int 0)) (g : Go c (env.set i (some (.i d))) (os.set k (.lst ss)) u D) : Go c env os (tSeq (tAsg (tBM c.K "list" rPopAt tl (tCons te tNil)) (gName i)) u) D := fun ad σ H ok =>
  hl.2 ad σ H ok _ fun H1 e1 => by
    obtain ⟨_, vs1, hvs1, _⟩ := (ok.ext e1).obj k _ hk rfl
    refine ⟨Or.inl ⟨rfl, vs1, SqL.of hvs1⟩, h0 ad σ H1 (ok.ext e1) _ fun v2 H2 e2 r2 => ?_⟩
    cases dn_int r2
    have ok2 := (ok.ext e1).ext e2
    obtain ⟨_, vs, hvs, pv⟩ := ok2.obj k _ hk rfl
    have hN : Nof c ad os (ad k) := Or.inr ⟨k, ⟨_, hk, rfl⟩, rfl⟩
    cases pv with
    | cons q1 pv =>
      rename_i y ys
      refine ⟨ad k, _, 0, 0, y, rfl, rfl, hvs, by decide, by decide, by simp [seqIndex?], rfl, ?_⟩
      have ok3 := ok2.mut (u' := .lst ys) hk rfl (o' := .lst ss) rfl ⟨ys, upd_same, Paired.imp pv fun _ _ z => z.mut hvs rfl hN⟩
      refine g ad _ _ (ok3.set (s := .i d) ?_)
      rw [Nof_set hk rfl rfl]
      exact Dn.mut hvs rfl hN q1
/-- state = [list(..), a, m] -/
theorem gs_asgSt {i : Nat} {ns : List Int} {a m : Int} (hl : EvF c env os tl (.lst ((ns.map PyData.int).map SV.i))) (h1 : EvX true c env os t1 (.int a)) (h2 : EvX true c env os t2 (.int m)) (g : Go c (env.set i (some (.r (os.length + 1)))) (os ++ [.nums] ++ [.stt os.length]) u D) :
    Go c env os (tSeq (tAsg (tLst (tCons tl (tCons t1 (tCons t2 tNil)))) (gName i)) u) D := fun ad σ H ok =>
  hl ad σ H ok _ fun p H1 hp e1 r => h1 ad σ H1 (ok.ext e1) _ fun v1 H2 e2 r1 => h2 ad σ H2 ((ok.ext e1).ext e2) _ fun v2 H3 e3 r2 => by
    have fresh : ∀ (ad' : Nat → Addr) (env' : Sy) (os' : List SO) (q : Addr) (σ' : L2.St) (H' : Hp), Ok c ad' env' os' σ' H' → H' q = none → c.H0 q = none ∨ c.M q := fun ad' env' os' q σ' H' ok hq => by
      by_cases hm : c.M q
      · exact Or.inr hm
      · refine Or.inl ?_
        cases hz : c.H0 q with
        | none => rfl
        | some o => rw [ok.ex q o hz hm] at hq; cases hq
    obtain ⟨vs, e0, p0⟩ := r
    have ev : vs = ns.map V.int := (paired_dn p0).ints
    have ok1 := ok.new (o := .nums) hp e1 (fresh _ _ _ _ _ _ ok hp) ⟨ns, by rw [← ev]; exact e0⟩
    have ok3 := (ok1.ext e2).ext e3
    cases dn_int r1
    cases dn_int r2
    refine ⟨Nat.le_of_ble_eq_true rfl, fun q hq => ?_⟩
    have ok4 := ok3.new (o := .stt os.length) hq (Ex.new hq) (fresh _ _ _ _ _ _ ok3 hq) ⟨.ref p, a, m, upd_same, by rw [adN_same], by simp⟩
    refine g _ _ _ (ok4.set (v := .ref q) (s := .r (os.length + 1)) ⟨?_, by simp⟩)
    have : (os ++ [SO.nums]).length = os.length + 1 := by simp
    rw [← this, adN_same]
end
end DL

set_option Elab.async false
set_option linter.all false
set_option maxRecDepth 100000
set_option maxHeartbeats 2000000
/-! The data layer: a dict of the module with text keys. -/
namespace DL
open PySem PySem.Spec PyProof.Rows L2
open Evl (Ex Ex.refl Ex.trans Ex.new)
/-! ### what is looked at -/
mutual
def datB (K : PySem.W.Frag) : PyData → Value → Bool
  | .int i, .int j _ => decide (i = j)
  | .bool b, .bool c => b == c
  | .str x, .str y _ => decide (x = y)
  | .tuple ds, .ref a => match K.lookup a with
    | some ⟨.type c, _, .seq its _, _⟩ => decide (c = "tuple") && (decide (its.size ≤ sizeLine) && datsB K ds its.toList)
    | _ => false
  | _, _ => false
def datsB (K : PySem.W.Frag) : List PyData → List Value → Bool
  | [], [] => true
  | d :: ds, v :: vs => datB K d v && datsB K ds vs
  | _, _ => false
end
mutual
theorem datB_ok {K : PySem.W.Frag} : ∀ (d : PyData) (u : Value), datB K d u = true → ∃ v, RelV v u ∧ ∀ N H, Dn K N H v d
  | .none, u, h => by unfold datB at h; cases u <;> cases h
  | .list _, u, h => by unfold datB at h; cases u <;> cases h
  | .dict _, u, h => by unfold datB at h; cases u <;> cases h
  | .int i, u, h => by
    cases u <;> unfold datB at h <;> first | cases h | skip
    exact ⟨.int i, ⟨_, by rw [of_decide_eq_true h]⟩, fun N H => .int i⟩
  | .bool b, u, h => by
    cases u <;> unfold datB at h <;> first | cases h | skip
    exact ⟨.bl b, by rw [beq_iff_eq.mp h]; rfl, fun N H => .bl b⟩
  | .str x, u, h => by
    cases u <;> unfold datB at h <;> first | cases h | skip
    exact ⟨.str x, ⟨_, by rw [of_decide_eq_true h]⟩, fun N H => .str x⟩
  | .tuple ds, u, h => by
    cases u with
    | ref a =>
      unfold datB at h
      cases q : K.lookup a with
      | none => rw [q] at h; cases h
      | some o =>
        obtain ⟨oc, od, dt, osl⟩ := o
        rw [q] at h
        cases oc with
        | type c =>
          cases dt with
          | seq its n =>
            have h1 : (decide (c = "tuple") && (decide (its.size ≤ sizeLine) && datsB K ds its.toList)) = true := h
            rw [Bool.and_eq_true, Bool.and_eq_true] at h1
            obtain ⟨h2, h3, h4⟩ := h1
            obtain ⟨vs, h5, h6⟩ := datsB_ok ds its.toList h4
            exact ⟨.ref a, rfl, fun N H => .tup (.inr ⟨_, its, n, q, congrArg Value.type (of_decide_eq_true h2), rfl, of_decide_eq_true h3, h5⟩) (h6 N H)⟩
          | _ => cases h
        | _ => cases dt <;> cases h
    | _ => unfold datB at h; cases h
theorem datsB_ok {K : PySem.W.Frag} : ∀ (ds : List PyData) (us : List Value), datsB K ds us = true → ∃ vs, Vals vs us ∧ ∀ N H, DnAll K N H vs ds
  | [], [], _ => ⟨[], .nil, fun _ _ => .nil⟩
  | [], _ :: _, h => by unfold datsB at h; cases h
  | _ :: _, [], h => by unfold datsB at h; cases h
  | d :: ds, u :: us, h => by
    unfold datsB at h
    rw [Bool.and_eq_true] at h
    obtain ⟨v, h1, h2⟩ := datB_ok d u h.1
    obtain ⟨vs, h3, h4⟩ := datsB_ok ds us h.2
    exact ⟨v :: vs, .cons h1 h3, fun N H => .cons (h2 N H) (h4 N H)⟩
end
def kdB (K : PySem.W.Frag) (a : Addr) (m : List (Str × PyData)) : Bool := m.all fun p => match PySem.W.nsIn K a p.1 with
  | some (some u) => datB K p.2 u
  | _ => false
/-- the dict m stands at a -/
structure KdOk (K : PySem.W.Frag) (w : World) (a : Addr) (m : List (Str × PyData)) : Prop where
  get : ∀ p ∈ m, ∃ v, KDct K w a p.1 v ∧ ∀ N H, Dn K N H v p.2
  keys : He.dicW K a = some (He.keysIn w.params (m.map (·.1)))
/-! ### rules -/
section
variable {w : Bool} {c : Cn} {env : Sy} {os : List SO} {te ta tb : TE}
end
/-- sorted(d) of such a dict -/
def rSortKd (K : PySem.W.Frag) (W : World) : List V → Hp → VK → Prop := fun vs H Q => ∃ (a : Addr) (ks : List Str), vs = [V.ref a] ∧ He.dicW K a = some (He.keysIn W.params ks) ∧ ks.length ≤ 1000 ∧ ∀ p, H p = none → Q (.ref p) (upd H p (.lst ((ks.mergeSort (PySem.W.dataLe false PyData.str)).map V.str)))
theorem each_str : ∀ {l : List Value} {m : List Str}, PySem.W.EachIs (fun v x => ∃ t, v = Value.str x t) l m → Vals (m.map V.str) l
  | _, _, .nil => .nil
  | _, _, .cons r t => .cons r (each_str t)
/-! ### written dicts with lists -/
section
variable {w : Bool} {c : Cn} {env : Sy} {os : List SO} {te ta tb td ty tx : TE} {d : PyData}
def EvP2 (c : Cn) (env : Sy) (os : List SO) (trs : List (TE × TE)) (kvs : List (Key × PyData)) : Prop := ∀ ad σ H, Ok c ad env os σ H → ∀ Q : List (V × V) → Hp → Prop,
  (∀ (vs : List (Key × V)) H2, Ex H H2 → Paired (fun (x : Key × V) (y : Key × PyData) => x.1 = y.1 ∧ Dn c.K (Nof c ad os) H2 x.2 y.2) vs kvs → Q (vs.map fun kv => (kV kv.1, kv.2)) H2) → tPairs trs σ H Q
end
/-- list + list, read only -/
def rCatL (K : PySem.W.Frag) : R2 := fun x y H Q => ∃ (a b : Addr) (xs ys : List V), x = .ref a ∧ y = .ref b ∧ SqL K H a xs ∧ SqL K H b ys ∧ xs.length + ys.length ≤ sizeLine ∧ ∀ p, H p = none → Q (.ref p) (upd H p (.lst (xs ++ ys)))
end DL

set_option Elab.async false
set_option linter.all false
set_option maxRecDepth 100000
set_option maxHeartbeats 2000000
/-! The data layer: reversed(list), list(dict), whole numbers in a list. -/
namespace DL
open PySem PySem.Spec PyProof.Rows L2
open Evl (Ex Ex.refl Ex.trans Ex.new)
section
variable {w : Bool} {c : Cn} {env : Sy} {os : List SO} {te ta tb tl td : TE} {d : PyData}
theorem inV_int (i : Int) (ns : List Int) : inV (.int i) (ns.map V.int) = decide (i ∈ ns) := by
  unfold inV
  rw [List.any_map]
  by_cases h : i ∈ ns
  · rw [decide_eq_true h]
    exact List.any_eq_true.mpr ⟨i, h, by simp [eqV]⟩
  · rw [decide_eq_false h]
    refine Bool.eq_false_iff.mpr fun z => h ?_
    obtain ⟨y, hy, e⟩ := List.any_eq_true.mp z
    have e2 : y = i := by simpa [eqV] using e
    rw [← e2]
    exact hy
theorem flat_ints (ns : List Int) : (ns.map V.int).all flatV = true := by
  rw [List.all_map]
  exact List.all_eq_true.mpr fun _ _ => rfl
/-- number in [number, ..] -/
theorem ex_inI {i : Int} {ns : List Int} (ha : EvX true c env os ta (.int i)) (hb : EvI c env os tb ((ns.map PyData.int).map SV.i)) : EvX w c env os (tOp (rIn c.K false) ta tb) (.bool (decide (i ∈ ns))) := fun ad σ H ok Q q =>
  ha ad σ H ok _ fun v H1 e1 r1 => hb ad σ H1 (ok.ext e1) _ fun p vs H2 e2 hs hx => by
    rw [ints_of hx] at hs
    cases dn_int r1
    refine ⟨p, ns.map V.int, rfl, Or.inl hs, rfl, flat_ints ns, ?_⟩
    show Q (.bl (inV (.int i) (ns.map V.int))) H2
    rw [inV_int]
    exact q _ H2 (e1.trans e2) (.bl _)
/-! a dict of the store with whole numbers as keys -/
def addK (ns : List Int) (n : Int) : List Int := if n ∈ ns then ns else ns ++ [n]
abbrev encK (ns : List Int) : List (Key × SV) := ns.map fun n => ((.inl n : Key), SV.i (.bool true))
end
end DL
namespace DL
open PySem PySem.Spec PyProof.Rows L2
section
variable {c : Cn} {env : Sy} {os : List SO} {g : TG} {tb u : TS} {D : Ends}
end
end DL
namespace DL
open PySem PySem.Spec PyProof.Rows L2
open Evl (Ex Ex.refl Ex.trans Ex.new)
section
variable {w : Bool} {c : Cn} {env : Sy} {os : List SO} {te ta tb tl td ty tx : TE} {d : PyData}
end
end DL
namespace DL
open PySem PySem.Spec PyProof.Rows L2
open Evl (Ex Ex.refl Ex.trans Ex.new)
section
variable {w : Bool} {c : Cn} {env : Sy} {os : List SO} {te ta tb : TE}
end
end DL
namespace DL
open PySem PySem.Spec PyProof.Rows L2
open Evl (Ex Ex.refl Ex.trans Ex.new)
end DL
namespace DL
open PySem PySem.Spec PyProof.Rows L2
open Evl (Ex Ex.refl Ex.trans Ex.new)
end DL

set_option Elab.async false
set_option linter.all false
set_option maxRecDepth 100000
set_option maxHeartbeats 2000000
/-! The data layer: == of dicts of data, max of three. -/
namespace DL
open PySem PySem.Spec PyProof.Rows L2
open Evl (Ex Ex.refl Ex.trans Ex.new)
/-- a datum that is equal to itself, place by place -/
structure Same1 (d : PyData) : Prop where
  al : PySem.W.alike d d = true
  eq : PyData.eqv d d = true
  dep : d.depth ≤ 8
def rNeDi (K : PySem.W.Frag) : R2 := fun x y H Q => ∃ a b ks ls, x = .ref a ∧ y = .ref b ∧ Rd H a (.dK ks) ∧ Rd H b (.dK ls) ∧ ks.length = ls.length ∧ (∀ p ∈ ks, ∃ v d, valV ls p.1 = some v ∧ Dp K H p.2 d ∧ Dp K H v d ∧ Same1 d) ∧ Q (.bl false) H
section
variable {X : Cx}
end
section
variable {α β : Type} [DecidableEq α] {w : Bool} {c : Cn} {env : Sy} {os : List SO} {ta tb tc : TE} {ek : α → Key} {ev : β → PyData} {m : List (α × β)}
end
end DL
namespace DL
open PySem PySem.Spec PyProof.Rows L2
end DL

set_option Elab.async false
set_option linter.all false
set_option maxRecDepth 100000
set_option maxHeartbeats 2000000
/-! The data layer: a list of new lists; a list within a list becomes data. -/
namespace DL
open PySem L2
open Evl (Ex Ex.refl Ex.trans Ex.new)
theorem Ok.free0 {c : Cn} {ad : Nat → Addr} {env : Sy} {os : List SO} {σ : L2.St} {H : Hp} (ok : Ok c ad env os σ H) {p : Addr} (hp : H p = none) : c.H0 p = none ∨ c.M p := by
  by_cases hm : c.M p
  · exact Or.inr hm
  · refine Or.inl ?_
    cases hz : c.H0 p with
    | none => rfl
    | some o => rw [ok.ex p o hz hm] at hp; cases hp
/-- gives the object k of the store, which has grown to os' -/
def EvG (c : Cn) (env : Sy) (os : List SO) (te : TE) (k : Nat) (os' : List SO) : Prop := k < os'.length ∧ ∀ ad σ H, Ok c ad env os σ H → ∀ Q : VK, (∀ ad' H2, Ok c ad' env os' σ H2 → Q (.ref (ad' k)) H2) → te σ H Q
section
variable {c : Cn} {env env' : Sy} {os os' : List SO} {g : TG} {tt : TT} {te : TE} {u : TS} {D : Ends}
def refL (n i : Nat) : List SV := (List.range i).map fun j => SV.r (n + 1 + j)
end
section
variable {c : Cn} {env env' : Sy} {os os' : List SO} {u : TS} {D : Ends}
end
end DL
namespace DL
open PySem L2
open Evl (Ex Ex.refl Ex.trans Ex.new)
/-! ### a dict comprehension -/
def dcM {α A B : Type} [DecidableEq A] (fk : α → A) (fv : α → B) (xs : List α) : List (A × B) := xs.foldl (fun m x => setA m (fk x) (fv x)) []
theorem dcM_snoc {α A B : Type} [DecidableEq A] (fk : α → A) (fv : α → B) (xs : List α) (x : α) : dcM fk fv (xs ++ [x]) = setA (dcM fk fv xs) (fk x) (fv x) := by unfold dcM; rw [List.foldl_append]; rfl
theorem dcM_len {α A B : Type} [DecidableEq A] (fk : α → A) (fv : α → B) : ∀ xs : List α, (dcM fk fv xs).length ≤ xs.length := by
  have go : ∀ (xs : List α) (m : List (A × B)), (xs.foldl (fun m x => setA m (fk x) (fv x)) m).length ≤ m.length + xs.length := by
    intro xs
    induction xs with
    | nil => intro m; exact Nat.le_refl _
    | cons x xs ih =>
      intro m
      have h1 := ih (setA m (fk x) (fv x))
      have h2 := setA_len m (fk x) (fv x)
      rw [List.foldl_cons, List.length_cons]
      omega
  intro xs
  simpa [dcM] using go xs []
section
variable {c : Cn} {env env' : Sy} {os os' : List SO} {g : TG} {tt : TT} {tk tv : TE} {u : TS} {D : Ends}
theorem ef_dc {α A B : Type} [DecidableEq A] {ek : A → Key} {ev : B → PyData} (inj : ∀ a b, ek a = ek b → a = b) {wi : TI} {n : Nat} {it : Nat → SV} {G : List SO → Prop} {xs : List α} {e : α → SV} {vs : List Nat} (fk : α → A) (fv : α → B) (hw : EvW c env os wi n it G) (hn : n = xs.length) (hit : ∀ i x, xs[i]? = some x → it i = e x)
    (hG : ∀ o, G (os ++ [o])) (hz : xs.length ≤ 40000)
    (hs : ∀ fr lo, Up c (c.w fr lo) → ∀ acc x, x ∈ xs → ∃ env' js, (∀ j ∈ js, j ∈ vs) ∧ Tg (c.w fr lo) (wipeE env vs) (os ++ [.dK acc]) g (e x) env' js ∧ EvT (c.w fr lo) env' (os ++ [.dK acc]) tt true ∧ EvX true (c.w fr lo) env' (os ++ [.dK acc]) tk (kdat (ek (fk x))) ∧ EvX false (c.w fr lo) env' (os ++ [.dK acc]) tv (ev (fv x))) :
    EvF c env os (tDc wi g tt tk tv vs) (.dK ((dcM fk fv xs).map fun p => (ek p.1, SV.i (ev p.2)))) := fun ad σ H ok Q q => by
  subst hn
  refine hw ad σ H ok _ fun J H1 fr e1 ok1 up W D hD => ?_
  have ok2 := ok1.new (o := .dK []) hD (Ex.new (o := .dK []) hD) (ok1.free0 hD) ⟨[], upd_same, .nil⟩
  have ok3 := ok2.pin (v := .ref D) (s := .r os.length) ⟨congrArg V.ref adN_same.symm, by simp⟩
  have ok4 := ok3.wipe vs
  have up2 := up_pin (v := .ref D) (s := .r os.length) ok2
  generalize hlo : (os ++ [SO.dK []]).length = lo at ok4 up2
  generalize hfr : ((V.ref D, SV.r os.length) :: fr) = fr' at ok4 up2
  have upc : Up c (c.w fr' lo) := fun a b d e f z => up _ _ _ _ _ (up2 _ _ _ _ _ z)
  let acc : Nat → List (Key × SV) := fun i => (dcM fk fv (xs.take i)).map fun p => (ek p.1, SV.i (ev p.2))
  have hacc : ∀ i, (acc i).length ≤ i := fun i => by
    show ((dcM fk fv (xs.take i)).map _).length ≤ i
    rw [List.length_map]
    have h1 := dcM_len fk fv (xs.take i)
    rw [List.length_take] at h1
    omega
  refine ⟨fun i m H => m = xs.length - i ∧ i ≤ xs.length ∧ Ok (c.w fr' lo) (adN ad os.length D) (wipeE env vs) (os ++ [.dK (acc i)]) (wipe σ vs) H ∧ Ex H1 H, ⟨xs.length, by simp, Nat.zero_le _, ok4, Ex.new hD⟩, ?_⟩
  rintro i m H' ⟨rfl, hi, ok', ex1⟩
  have hget : (os ++ [SO.dK (acc i)])[os.length]? = some (.dK (acc i)) := by simp
  by_cases hlt : i < xs.length
  · have e0 : xs[i]? = some xs[i] := List.getElem?_eq_getElem hlt
    have et : xs.take (i + 1) = xs.take i ++ [xs[i]] := by rw [List.take_succ, e0]; rfl
    refine .inr ⟨W.goes i _ _ _ _ _ hlt (up2 _ _ _ _ _ ok') (hG _), fun H'' => Ok (c.w fr' lo) (adN ad os.length D) (wipeE env vs) (os ++ [.dK (acc (i + 1))]) (wipe σ vs) H'' ∧ Ex H1 H'', fun H'' p' => ⟨xs.length - (i + 1), by omega, rfl, hlt, p'.1, p'.2⟩, fun x H'' y => ?_⟩
    obtain ⟨e2, r⟩ := W.yields i _ _ _ _ _ x H'' hlt (up2 _ _ _ _ _ ok') (hG _) y
    rw [hit i xs[i] e0] at r
    have ok5 := ok'.ext e2
    obtain ⟨env', js, hjs, ht, hb, hek, hev⟩ := hs fr' lo upc (acc i) xs[i] (List.getElem_mem hlt)
    refine ht _ _ H'' x ok5 r _ fun σ2 ok6 hwp => ⟨?_, hb _ σ2 H'' ok6 _ fun H3 e3 => ?_⟩
    · rw [hwp vs hjs]
      have idem : ∀ (us : List Nat) (τ : L2.St), (∀ j ∈ us, τ[j]? = some none ∨ τ[j]? = none) → wipe τ us = τ := by
        intro us
        induction us with
        | nil => intro τ _; rfl
        | cons u us ih =>
          intro τ h
          show (wipe τ us).set u none = τ
          rw [ih τ fun j hj => h j (List.mem_cons_of_mem _ hj)]
          rcases h u (List.mem_cons_self ..) with z | z
          · obtain ⟨h1, h2⟩ := List.getElem?_eq_some_iff.mp z
            exact List.ext_getElem? fun k => by
              by_cases q : u = k
              · subst q; rw [List.getElem?_set_self h1, z]
              · rw [List.getElem?_set_ne q]
          · exact List.set_eq_of_length_le (List.getElem?_eq_none_iff.mp z)
      refine idem vs _ fun j hj => ?_
      cases hx : (wipe σ vs)[j]? with
      | none => exact Or.inr rfl
      | some o =>
        cases o with
        | none => exact Or.inl rfl
        | some v => exact absurd hj (wipe_some hx).2
    · rw [if_pos rfl]
      refine hek _ σ2 H3 (ok6.ext e3) _ fun yk H4 e4 rk => hev _ σ2 H4 ((ok6.ext e3).ext e4) _ fun y H5 e5 ry => ?_
      have ok7 := ((ok5.ext e3).ext e4).ext e5
      obtain ⟨_, ws, hws, pws⟩ := ok7.obj os.length _ hget rfl
      rw [adN_same] at hws
      have ea : acc (i + 1) = setA (acc i) (ek (fk xs[i])) (SV.i (ev (fv xs[i]))) := by
        show (dcM fk fv (xs.take (i + 1))).map _ = _
        rw [et, dcM_snoc]
        exact (setA_enc (ev := fun b : B => SV.i (ev b)) inj _ _ _).symm
      refine ⟨ws, ek (fk xs[i]), dn_key rk, hws, ?_, ?_⟩
      · rw [Paired.length pws]
        exact Nat.lt_of_le_of_lt (hacc i) (Nat.lt_of_lt_of_le (show i < 40000 by omega) (by decide))
      · have hN : Nof (c.w fr' lo) (adN ad os.length D) (os ++ [SO.dK (acc i)]) D := Or.inr ⟨os.length, ⟨_, hget, rfl⟩, adN_same.symm⟩
        rw [Nw_false] at ry
        have m := ok7.mut (o' := .dK (acc (i + 1))) (u' := .dK (putK ws (ek (fk xs[i])) y)) hget rfl rfl (by
          rw [adN_same]
          refine ⟨_, upd_same, ?_⟩
          rw [ea]
          exact put_set (Paired.imp pws fun _ _ z => ⟨z.1, z.2.mut hws rfl hN⟩) (show SvOk _ _ _ _ _ _ (SV.i _) from Dn.mut hws rfl hN ry))
        rw [adN_same] at m
        have es : (os ++ [SO.dK (acc i)]).set os.length (SO.dK (acc (i + 1))) = os ++ [SO.dK (acc (i + 1))] := by
          rw [List.set_append_right _ _ (Nat.le_refl _), Nat.sub_self]
          rfl
        rw [es] at m
        refine ⟨m, fun a o h => ?_⟩
        rw [upd_ne (ne_of_none h hD)]
        exact (((ex1.trans e2).trans e3).trans e4).trans e5 a o h
  · have q0 : i = xs.length := by omega
    subst q0
    have ea : acc xs.length = (dcM fk fv xs).map fun p => (ek p.1, SV.i (ev p.2)) := by
      show (dcM fk fv (xs.take xs.length)).map _ = _
      rw [List.take_length]
    refine .inl ⟨W.stops _ _ _ _ _ (up2 _ _ _ _ _ ok') (hG _), ?_⟩
    obtain ⟨_, ws, hws, pws⟩ := ok'.obj os.length _ hget rfl
    rw [adN_same] at hws
    refine q D H' (e1.free hD) (e1.trans ex1) ⟨ws, hws, ?_⟩
    have hget2 := hget
    rw [ea] at pws hget2
    refine pairKi (Paired.imp (pairK pws) fun x y z => ⟨z.1, z.2.sub fun a z => ?_⟩)
    rcases z with z | z
    · rcases z with z | ⟨k, ⟨o, h1, h2⟩, z⟩
      · exact Or.inl z
      · have hk : k < os.length := (List.getElem?_eq_some_iff.mp h1).1
        exact Or.inr ⟨k, ⟨o, by rw [List.getElem?_append_left hk]; exact h1, h2⟩, by rw [adN_ne (by omega)]; exact z⟩
    · exact Or.inr ⟨os.length, ⟨_, hget2, rfl⟩, by rw [adN_same]; exact z⟩
end
end DL
namespace L2
open PySem PySem.Spec PyProof.Rows
section
variable {X : Cx} {o lo hi : Expr} {to tl th : TE} {p2 pos : Pos}
/-- xs[i:j] = ys -/
def gSl (to tl th : TE) : TG := fun v σ H Q => to σ H fun o H1 => tl σ H1 fun a H2 => th σ H2 fun c H3 => ∃ (l b : Addr) (xs ys : List V) (i j : Int), o = .ref l ∧ v = .ref b ∧ a = .int i ∧ c = .int j ∧ H3 l = some (.lst xs) ∧ H3 b = some (.lst ys) ∧ l ≠ b ∧ 0 ≤ i ∧ i ≤ j ∧ j ≤ xs.length ∧ xs.length + ys.length ≤ sizeLine ∧
  Q σ (upd H3 l (.lst (xs.take i.toNat ++ ys ++ xs.drop j.toNat)))
end
end L2
namespace DL
open PySem L2
open Evl (Ex Ex.refl Ex.trans Ex.new)
section
variable {c : Cn} {env env' : Sy} {os os' : List SO} {te tl ta tb : TE} {u : TS} {D : Ends}
end
end DL

set_option Elab.async false
set_option linter.all false
set_option maxRecDepth 100000
set_option maxHeartbeats 2000000
/-! enumerate(zip(a, b)) over two lists. -/
namespace EZ
open PySem PySem.Spec PyProof.Rows L2
section
variable {prog : Program} {w : World} {A : Around} {E : Value → Shared → Prop} {s : Shared}
/-- what the next item of a zip leaves behind -/
def ZOut (h h' : Heap) (z TI TO i1 i2 l1 l2 : Addr) (k1 k2 : Nat) (x y : Value) : Prop :=
  (∃ T f, IsZipHeld h' z TI TO T f) ∧ (∃ a b, IsPair h' TO a b) ∧ h'.IsListIter i1 l1 (k1 + 1) ∧ h'.IsListIter i2 l2 (k2 + 1) ∧ IsPair h' h.objs.size x y ∧ h'.objs.size = h.objs.size + 1 ∧
    ∀ c o, c ≠ z → c ≠ TO → c ≠ i1 → c ≠ i2 → h.get? c = some o → h'.get? c = some o
/-- a zip in any state between its items -/
def ZSt (h : Heap) (z TI TO : Addr) : Prop := IsZip h z TI TO .none ∨ ∃ T f, IsZipHeld h z TI TO T f
end
end EZ
namespace L2
open PySem PySem.Spec PyProof.Rows EZ
/-- the lists at a and b as they stand at each turn: a new pair of the number and a new pair of the items -/
def Itez (K : PySem.W.Frag) (a b : Addr) : It :=
  ⟨fun i H => ∃ (xs ys : List V) (x y : V), SqL K H a xs ∧ SqL K H b ys ∧ xs[i]? = some x ∧ ys[i]? = some y,
    fun i H v H' => ∃ (T T2 : Addr) (x y : V), v = .ref T ∧ H T2 = none ∧ upd H T2 (.tup [x, y]) T = none ∧ H' = upd (upd H T2 (.tup [x, y])) T (.tup [.int (i : Nat), .ref T2]) ∧ (∀ xs, SqL K H a xs → xs[i]? = some x) ∧ ∀ ys, SqL K H b ys → ys[i]? = some y,
    fun i H => ∃ xs ys : List V, SqL K H a xs ∧ SqL K H b ys ∧ (xs.length ≤ i ∨ ys.length ≤ i)⟩
def EzSt (e z TI TO i1 i2 a b : Addr) (i : Nat) (h : Heap) : Prop :=
  (∃ old, IsEnum h e z ((i : Nat) : Int) old) ∧ ZSt h z TI TO ∧ IsPair h TI (.ref i1) (.ref i2) ∧ (∃ x y, IsPair h TO x y) ∧ h.IsListIter i1 a i ∧ h.IsListIter i2 b i
end L2
namespace L2
open PySem PySem.Spec PyProof.Rows EZ
def iEZ (K : PySem.W.Frag) (ta : TA) : TI := fun σ H R => ta σ H fun vs H1 => ∃ a b xs ys, vs = [.ref a, .ref b] ∧ SqL K H1 a xs ∧ SqL K H1 b ys ∧ R (Itez K a b) H1
end L2
namespace DL
open PySem PySem.Spec PyProof.Rows L2
open Evl (Ex Ex.refl Ex.trans Ex.new)
end DL
namespace L2
open PySem PySem.Spec PyProof.Rows
section
variable {X : Cx}
theorem ps_setDc {i : Nat} {y : Str} {py : Pos} {kx vx tg iter : Expr} {ifs : List Expr} {scope : Scope} {own : List (Str × Nat)} {pos spos : Pos} {wi : TI} {g : TG} {tt : TT} {tk tv : TE} (hc : X.calm = true) (hN : X.N.Nodup) (hy : X.N[i]? = some y) (hyl : X.env.scope.names.lookup y = some .local)
    (hsw : swapsWith (.DictComp kx vx [⟨tg, iter, ifs, 0⟩] scope pos) (some (.Name y py)) spos.line X.env = pure true) (hi : PI X tg iter wi) (ok : BlkOk X.N X.env.scope scope own)
    (hg : ∀ (s : Shared) (H : Hp) (C : Addr) (cl : List (Str × Addr)) (fp : List Addr), PG (X.blk s H scope (compEnvC scope cl C X.env) fp) tg g) (ht : ∀ (s : Shared) (H : Hp) (C : Addr) (cl : List (Str × Addr)) (fp : List Addr), PTs (X.blk s H scope (compEnvC scope cl C X.env) fp) ifs tt)
    (hk : ∀ (s : Shared) (H : Hp) (C : Addr) (cl : List (Str × Addr)) (fp : List Addr), PE (X.blk s H scope (compEnvC scope cl C X.env) fp) kx tk)
    (he : ∀ (s : Shared) (H : Hp) (C : Addr) (cl : List (Str × Addr)) (fp : List Addr), PE (X.blk s H scope (compEnvC scope cl C X.env) fp) vx tv) (hs : ∀ x, foldedSetIterable iter X.env x = pure x := by intro _; rfl) :
    PS X (.Assign [.Name y py] (.DictComp kx vx [⟨tg, iter, ifs, 0⟩] scope pos) spos) (tAsg (tDc wi g tt tk tv (own.map (·.2))) (gName i)) := by
  refine ⟨fun pins s σ H D I h => ?_⟩
  rw [exec_Assign_Name_used _ _ _ _ hsw]
  refine wpAny_bind (wpAny_standAt (wpAny_bind ?_))
  show wpAny _ X.A (do let _ ← comprehension (.DictComp kx vx [⟨tg, iter, ifs, 0⟩] scope pos) scope X.env (firstIterPos [⟨tg, iter, ifs, 0⟩] pos) newDict false (eval iter X.env) (some (assign (.Name y py) X.env))) _ _ s
  have h : tDc wi g tt tk tv (own.map (·.2)) σ H (fun x H1 => gName i x σ H1 D.nx) := h
  refine wpAny_bind (thn (dc_core (Qf := fun _ s' => SP X pins D .next s') hc hN I hi ok hg ht hk he hs h fun L C s' m H' I' q hn f => ?_) fun _ s' hq => wpAny_pure (wpAny_pure hq))
  show wpAny _ _ (assign (.Name y py) X.env (.ref L)) _ _ _
  refine wpAny_assign_Name (store_ok2 (v := V.ref L) I' hN hy (.inl hyl) rfl (fun s2 I2 ⟨a, sb, ha⟩ => ?_) (.inr hyl))
  obtain ⟨f0, f1, f2, f3, f4, f5⟩ := f
  have haC : C ≠ a := by
    rcases ha with z | z
    · rw [z]; exact f1
    · exact fun e => f4 y a z e.symm
  refine ⟨m, hn.sameBut sb haC, fun h3 sb3 => ?_⟩
  exact ⟨_, H', I2.turned (t' := s2.toks) (fun b o hb e => (sb3.2 b hb).trans e) f0 f1 f3 f4 f5, q⟩
theorem sw_trueD {kx vx : Expr} {gs : List Comprehension} {scope : Scope} {pos py : Pos} {y : Str} {l : Nat} {env : Env} (hk : env.scope.kind = .function) (hy : env.scope.names.lookup y = some .local) (hl : (py.line == pos.line) = true)
    (ha : (scope.names.any fun (n, k) => n == y && (k == .local || k == .cell)) = false) : swapsWith (.DictComp kx vx gs scope pos) (some (.Name y py)) l env = pure true := by
  have ky : env.kindOf y = some .local := hy
  have hb : env.blockKind = .function := by unfold Env.blockKind; rw [hk]; rfl
  unfold swapsWith
  simp only [hb, ky, ha, Expr.pos, hl]
  rfl
end
end L2

set_option Elab.async false
set_option linter.all false
set_option maxRecDepth 100000
set_option maxHeartbeats 2000000
/-! The data layer: instances of the program's classes. -/
namespace DL
open PySem PySem.Spec PyProof.Rows L2
open Evl (Ex Ex.refl Ex.trans Ex.new)
/-! ### reading -/
theorem paired_lookup {F : V → PyData → Prop} {f : Str} : ∀ {fs : List (Str × V)} {m : List (Str × PyData)}, Paired (fun (p : Str × V) (q : Str × PyData) => p.1 = q.1 ∧ F p.2 q.2) fs m → (fs.lookup f = none ∧ m.lookup f = none) ∨ ∃ v d, fs.lookup f = some v ∧ m.lookup f = some d ∧ F v d
  | _, _, .nil => Or.inl ⟨rfl, rfl⟩
  | (x, v) :: fs, (y, d) :: m, .cons r t => by
    obtain ⟨e, r⟩ := r
    have e : x = y := e
    subst e
    by_cases h : (f == x) = true
    · exact Or.inr ⟨v, d, by simp [List.lookup, h], by simp [List.lookup, h], r⟩
    · rw [Bool.not_eq_true] at h
      rcases paired_lookup (f := f) t with ⟨a, b⟩ | ⟨v', d', a, b, c⟩
      · exact Or.inl ⟨by simp [List.lookup, h, a], by simp [List.lookup, h, b]⟩
      · exact Or.inr ⟨v', d', by simp [List.lookup, h, a], by simp [List.lookup, h, b], c⟩
section
variable {w : Bool} {c : Cn} {env env' : Sy} {os os' : List SO} {te ta : TE} {t tk : TA} {d : PyData} {C : Addr} {m : List (Str × PyData)} {u : TS} {D : Ends}
/-! ### methods that read -/
def spSD (K : PySem.W.Frag) (C : Addr) (R : List (Str × PyData) → List PyData → PyData → Prop) : Sp := fun vs H Q _ => ∃ (N : Addr → Prop) (v : V) (rest : List V) (m : List (Str × PyData)) (ds : List PyData) (d : PyData), vs = v :: rest ∧ (∀ a, N a → H a ≠ none) ∧ ObOk K N H v C m ∧ DnAll K N H rest ds ∧ R m ds d ∧ ∀ v H', Ex H H' → Dn K N H' v d → Q v H'
def spSF (K : PySem.W.Frag) (C : Addr) (R : List (Str × PyData) → List PyData → List PyData → Prop) : Sp := fun vs H Q _ => ∃ (N : Addr → Prop) (v : V) (rest : List V) (m : List (Str × PyData)) (ds rs : List PyData), vs = v :: rest ∧ (∀ a, N a → H a ≠ none) ∧ ObOk K N H v C m ∧ DnAll K N H rest ds ∧ R m ds rs ∧
  ∀ p H' ws, H p = none → Ex H H' → H' p = some (.lst ws) → DnAll K (fun a => N a ∨ a = p) H' ws rs → Q (.ref p) H'
theorem ob_lookup {K : PySem.W.Frag} {N : Addr → Prop} {H : Hp} {v : V} {x : Str} (hx : m.lookup x = none) (h : ObOk K N H v C m) : ∃ a dx fs, v = .ref a ∧ H a = some (.ins C dx fs) ∧ fs.lookup x = none := by
  obtain ⟨a, dx, fs, rfl, h1, h2, h3⟩ := h
  refine ⟨a, dx, fs, rfl, h1, ?_⟩
  rcases paired_lookup (f := x) h3 with ⟨z, _⟩ | ⟨_, _, _, z, _⟩
  · exact z
  · rw [hx] at z; cases z
/-! ### the start of a method's body -/
def envS (n : Nat) (ss : List SV) : Sy := ss.map some ++ List.replicate (n - ss.length) none
end
end DL
namespace DL
open PySem PySem.Spec PyProof.Rows L2
open Evl (Ex Ex.refl Ex.trans Ex.new)
/-! ### methods and constructors as promises -/
def MetP (P : Program) (w : World) (K : PySem.W.Frag) (mg : Str → Option Value) (base : Heap) (k : Nat) (C : Addr) (m : Str) (ps : List Str) (sp : Sp) : Prop :=
  ∃ f fd, Cls K C ∧ Meth K C m f ∧ FnOk P w K mg base CX0 k f fd ps sp ∧ Binds K fd ps []
def MakP (P : Program) (w : World) (K : PySem.W.Frag) (mg : Str → Option Value) (base : Heap) (k : Nat) (x : Str) (C : Addr) (ps : List Str) (sp : Sp) (fs : List CForm) : Prop :=
  ∃ f fd, Mk K C f ∧ FnOk P w K mg base CX0 k f fd ps sp ∧ (∀ F ∈ fs, FormOk K fd ps F) ∧ mg x = some (.ref C)
abbrev FnM (K : PySem.W.Frag) (x qual : Str) (st : Stmt) (kws : List (Str × V)) (f : Addr) (fd : FuncData) : Prop := FunD K x qual (defArgs st) (defBody st) (defScope st) [] kws f fd
section
variable {P : Program} {w : World} {K : PySem.W.Frag} {mg : Str → Option Value} {base : Heap}
theorem met_mk {x qual : Str} {st : Stmt} {f : Addr} {fd : FuncData} {N ps : List Str} {k : Nat} {sp : Sp} {C : Addr} (F : FnM K x qual st [] f fd) (S : FnScope N ps (defScope st)) (c : Cls K C) (me : Meth K C x f) (len : ∀ vs H Q E, sp vs H Q E → vs.length = ps.length)
    (hb : ∀ (kV doc pm : Value) (an : Option Addr) (cdv ct : Value) (us : List Value), us.length = ps.length → bindArgs (PySem.W.fnOf x qual (defArgs st) (defBody st) (defScope st) .none kV doc pm an cdv ct) ⟨us, []⟩ = pure (ps.zip us))
    (hbody : ∀ (cdv : Value) (A : Around) (outer : List Env) (s : Shared) (H : Hp) (vs : List V) (Q : VK) (E : XK), Room k (A.deeper (envOfC qual (defScope st) s.heap.objs.size f cdv)) → sp vs H Q E →
      ∃ t, PSs (cxOf CX0 P w K mg base N qual (defScope st) f cdv A outer s H E).nox (defBody st) t ∧ t (De Q) (L2.start N vs) H) : MetP P w K mg base (k + 1) C x ps sp :=
  ⟨f, fd, c, me, F.ok S len fun cdv A outer s H vs Q E hr h => let ⟨t, a, b⟩ := hbody cdv A outer s H vs Q E hr h; ⟨t, a.nox, b⟩, F.bindsN hb⟩
end
section
variable {X : Cx} {k j : Nat} {ps : List Str} {sp : Sp} {x m : Str} {p pos apos : Pos} {e o : Expr} {es : List Expr} {t tk : TA} {ta : TE} {C : Addr} {kws : List Keyword} {fs : List CForm} {n : Nat} {ks : List Str} {ms : List (Str × V)}
theorem pe_metP {pl : Sem Bool} (h : MetP X.prog X.w X.K X.mg X.base k C m ps sp) (hr : Room j X.A) (hj : k ≤ j) (hx : Passes CX0 X E0) (he : PE X o ta) (ha : PA X (e :: es) t)
    (hst : starEach (e :: es) X.env = (false, eval e X.env) :: starEach es X.env := by rfl) (hpl : (backTo pos (starEach es X.env)).any (·.1) = false := by rfl)
    (ht : eval (.Call (.Attribute o m apos) (e :: es) [] pos) X.env = (do
      let ov ← eval o X.env
      standAt apos.atName
      let (f, first) ← holding [ov] (getMethod ov m pl)
      callWith pos f first (backTo pos (starEach (e :: es) X.env)) (backToKw pos (keywordEach [] X.env))) := by rfl) :
    PE X (.Call (.Attribute o m apos) (e :: es) [] pos) (tMeth C m sp [] E0 ta t) := by
  obtain ⟨f, fd, c, me, G, b⟩ := h
  exact pe_meth (pl := pl) he c me G (hr.mono hj) b .nil hx ha hst hpl ht
theorem pe_metP0 {pl : Sem Bool} (h : MetP X.prog X.w X.K X.mg X.base k C m ps sp) (hr : Room j X.A) (hj : k ≤ j) (hx : Passes CX0 X E0) (he : PE X o ta)
    (ht : eval (.Call (.Attribute o m apos) [] [] pos) X.env = (do
      let ov ← eval o X.env
      standAt apos.atName
      let (f, first) ← holding [ov] (getMethod ov m pl)
      callWith pos f first (backTo pos (starEach [] X.env)) (backToKw pos (keywordEach [] X.env))) := by rfl) :
    PE X (.Call (.Attribute o m apos) [] [] pos) (tMeth C m sp [] E0 ta tNil) := by
  obtain ⟨f, fd, c, me, G, b⟩ := h
  exact pe_meth0 (pl := pl) he c me G (hr.mono hj) b .nil hx ht
end
/-! ### making -/
def spO (K : PySem.W.Frag) (C : Addr) (R : List PyData → List (Str × PyData) → Prop) : Sp := fun vs H Q _ => ∃ (N : Addr → Prop) (x dx : Addr) (rest : List V) (ds : List PyData) (m : List (Str × PyData)), vs = .ref x :: rest ∧ H x = some (.ins C dx []) ∧ (∀ a, N a → H a ≠ none) ∧ ¬ N x ∧ DnAll K (fun a => N a ∨ a = x) H rest ds ∧ R ds m ∧
  ∀ H', (∀ a o, H a = some o → a ≠ x → H' a = some o) → ObOk K N H' (.ref x) C m → Q .non H'
section
variable {w : Bool} {c : Cn} {env env' : Sy} {os os' : List SO} {te ta tv to : TE} {t tk : TA} {d : PyData} {C : Addr} {m : List (Str × PyData)} {u : TS} {D : Ends}
/-! ### the body of __init__ -/
def putS (f : Str) (v : SV) : List (Str × SV) → List (Str × SV)
  | [] => [(f, v)]
  | (g, x) :: r => if g = f then (g, v) :: r else (g, x) :: putS f v r
theorem paired_put {F : V → SV → Prop} {f : Str} {v : V} {s : SV} (hv : F v s) : ∀ {fs : List (Str × V)} {m : List (Str × SV)}, Paired (fun (p : Str × V) (q : Str × SV) => p.1 = q.1 ∧ F p.2 q.2) fs m → Paired (fun (p : Str × V) (q : Str × SV) => p.1 = q.1 ∧ F p.2 q.2) (putF f v fs) (putS f s m)
  | _, _, .nil => .cons ⟨rfl, hv⟩ .nil
  | (x, a) :: fs, (y, b) :: m, .cons r t => by
    obtain ⟨e, r⟩ := r
    have e : x = y := e
    subst e
    unfold putF putS
    by_cases h : x = f
    · rw [if_pos h, if_pos h]; exact .cons ⟨rfl, hv⟩ t
    · rw [if_neg h, if_neg h]; exact .cons ⟨rfl, r⟩ (paired_put hv t)
theorem gs_setFld {k : Nat} {f : Str} {fs : List (Str × SV)} {s : SV} (h : EvS c env os tv s) (hl : EvR c env os to k) (hk : os[k]? = some (.ob C fs)) (kc : Cls c.K C) (kn : NoAttr c.K C f) (hz : fs.length < 1000) (g : Go c env (os.set k (.ob C (putS f s fs))) u D) : Go c env os (tSeq (sFld c.K to tv f) u) D := fun ad σ H ok =>
  h.run ok fun v H1 e1 r => hl.2 ad σ H1 (ok.ext e1) _ fun H2 e2 => by
    have ok2 := (ok.ext e1).ext e2
    obtain ⟨_, dx, vs, hvs, pv⟩ := ok2.obj k _ hk rfl
    have hN : Nof c ad os (ad k) := Or.inr ⟨k, ⟨_, hk, rfl⟩, rfl⟩
    refine ⟨ad k, C, dx, vs, rfl, hvs, kc, kn, by rw [Paired.length pv]; exact hz, g ad σ _ (ok2.mut hk rfl rfl ⟨dx, _, upd_same, ?_⟩)⟩
    exact paired_put ((r.ext e2).mut hvs rfl hN) (Paired.imp pv fun _ _ z => ⟨z.1, z.2.mut hvs rfl hN⟩)
def RetO (x : Addr) (C : Addr) (m : List (Str × PyData)) (c : Cn) (D : Ends) : Prop := ∀ ad env os σ H2, Ok c ad env os σ H2 → os[0]? = some (.ob C (m.map fun p => (p.1, SV.i p.2))) → D.nx σ H2
end
end DL
namespace DL
open PySem PySem.Spec PyProof.Rows L2
theorem kFld {X : Cx} {K : PySem.W.Frag} {o : Expr} {f : Str} {pos : Pos} {ta : TE} (ha : PE X o ta) (hb : attributeBase o f X.env (eval o X.env) = eval o X.env := by rfl) (hk : X.K = K := by rfl) : PE X (.Attribute o f pos) (tFld K ta f) := by subst hk; exact pe_fld ha hb
theorem kSetFld {X : Cx} {K : PySem.W.Frag} {o value : Expr} {f : Str} {pos pos' : Pos} {ta tv : TE} (ha : PE X o ta) (hv : PE X value tv) (hs : swapsWith value (some (.Attribute o f pos')) pos.line X.env = pure false := by rfl) (hk : X.K = K := by rfl) : PS X (.Assign [.Attribute o f pos'] value pos) (sFld K ta tv f) := by subst hk; exact ps_fld ha hv hs
end DL

set_option Elab.async false
set_option linter.all false
set_option maxRecDepth 100000
set_option maxHeartbeats 2000000
/-! The data layer: list(o) of an instance whose __iter__ gives iter(list); properties. -/
namespace DL
open PySem PySem.Spec PyProof.Rows L2
open Evl (Ex Ex.refl Ex.trans Ex.new)
section
variable {prog : Program} {w : World} {A : Around} {E : Value → Shared → Prop} {s : Shared} {it l : Addr} {i : Nat} {items : Array Value}
end
section
variable {X : Cx} {pins : List (Addr × Obj)} {σ : L2.St} {H : Hp} {s : Shared} {A1 : Around}
variable {C fi : Addr} {fdI : FuncData} {psI : List Str} {sp : Sp} {n : Nat}
/-- list(o) of an o whose __iter__ gives an iterator over a list -/
def rItr (K : PySem.W.Frag) (C : Addr) (sp : Sp) : List V → Hp → VK → Prop := fun xs H Q => ∃ a dx fs, xs = [.ref a] ∧ H a = some (.ins C dx fs) ∧ ∀ q, H q = none →
  sp [.ref a] (upd H q (.lst [])) (fun v H1 => ∃ it l ys, v = .ref it ∧ H1 it = some (ItO l it 0) ∧ H1 q = some (.lst []) ∧ (∃ dx fs, H1 a = some (.ins C dx fs)) ∧ SqL K H1 l ys ∧ Q (.ref q) (upd (upd H1 q (.lst ys)) it (ItE it ys.length))) E0
end

/-! ### __iter__ as a promise -/
def spIt (K : PySem.W.Frag) (C : Addr) (R : List (Str × PyData) → List PyData → Prop) : Sp := fun vs H Q _ => ∃ (N : Addr → Prop) (v : V) (m : List (Str × PyData)) (ds : List PyData), vs = [v] ∧ (∀ a, N a → H a ≠ none) ∧ ObOk K N H v C m ∧ R m ds ∧
  ∀ it l ys H1, H it = none → Ex H H1 → H1 it = none → SqL K H1 l ys → DnAll K N H1 ys ds → Q (.ref it) (upd H1 it (ItO l it 0))
def RetIt (c : Cn) (ds : List PyData) (D : Ends) : Prop := ∀ it l ys H1, (∀ a o, c.H0 a = some o → ¬ c.M a → H1 a = some o) → H1 it = none → SqL c.K H1 l ys → DnAll c.K c.N0 H1 ys ds → D.rt (.ref it) (upd H1 it (ItO l it 0))
section
variable {X : Cx} {K : PySem.W.Frag} {k j : Nat} {ps : List Str} {C : Addr} {sp : Sp}
end
/-! ### properties -/
def PropP (P : Program) (w : World) (K : PySem.W.Frag) (mg : Str → Option Value) (base : Heap) (k : Nat) (C : Addr) (f : Str) (sp : Sp) : Prop :=
  ∃ p g fd, Cls K C ∧ PropOf K C f p g ∧ FnOk P w K mg base CX0 k g fd ["self"] sp ∧ Binds K fd ["self"] []
end DL
namespace DL
open PySem PySem.Spec PyProof.Rows L2 He
/-! ### the head's facts of properties -/
structure PrD where
  cl : Str
  f : Str
  d : DefD
def prP (K : PySem.W.Frag) (p : PrD) : Addr := match PySem.W.findIn K (.ref (ga K p.cl)) p.f with
  | some (some (.ref a)) => a
  | _ => 0
def prG (K : PySem.W.Frag) (p : PrD) : Addr := match PySem.W.recIn K (prP K p) "property" with
  | some (.ref g :: _) => g
  | _ => 0
def fnWA (K : PySem.W.Frag) (a : Addr) : FnW := match K.lookup a with
  | some ⟨_, _, .func fd, _⟩ => some (fd.name, fd.qualname, fd.params, fd.body, fd.scope, fd.globals, fd.closure, fd.builtins)
  | _ => none
def okA (K : PySem.W.Frag) (a : Addr) (d : DefD) : Bool := PySem.W.keepIn K (.ref a) && (match K.lookup a with
  | some ⟨_, _, .func fd, _⟩ => PySem.W.codeIn K fd.code d.qual && (dflB K fd.defaults (d.dvs K) && kwdB K fd.kwdefaults (d.kws K))
  | _ => false)
def PrD.ok (K : PySem.W.Frag) (p : PrD) : Bool := eqO (PySem.W.findIn K (.ref (ga K p.cl)) p.f) (some (some (.ref (prP K p)))) && (eqO (PySem.W.specialIn K (.ref (prP K p)) "__get__") (some (some (.builtin "property.__get__"))) && (decide (PySem.W.takesIn K (.ref (prP K p)) = some true) && ((match PySem.W.recIn K (prP K p) "property" with
  | some (.ref g :: _) => true
  | _ => false) && okA K (prG K p) p.d)))
abbrev AlP : Type := AlX × Bool × List FnW
def obsP (n : Nat) (fa : List Fa) (fn : List DefD) (ts : List Tab) (tf : List Defn) (ex : PySem.W.Frag → Bool) (pn : List PrD) (g : Addr → Option Obj) : AlP := (obsX n fa fn ts tf ex g, pn.all (PrD.ok (frT g (asD g n))), pn.map fun p => fnWA (frT g (asD g n)) (prG (frT g (asD g n)) p))
def valP (fn : List DefD) (ts : List Tab) (pn : List PrD) (w : World) : AlP := (valX fn ts w, true, pn.map fun p => p.d.val)
structure SaysP (fa : List Fa) (fn : List DefD) (ts : List Tab) (tf : List Defn) (ex : PySem.W.Frag → Bool) (pn : List PrD) (w : World) (h : Heap) (K : PySem.W.Frag) : Prop where
  x : SaysX fa fn ts tf ex w h K
  b : ∀ p ∈ pn, p.ok K = true
  v : pn.map (fun p => fnWA K (prG K p)) = pn.map fun p => p.d.val
def hookP (n : Nat) (fa : List Fa) (fn : List DefD) (ts : List Tab) (tf : List Defn) (ex : PySem.W.Frag → Bool) (pn : List PrD) : PySem.W.Hook where
  α := AlP
  obs := fun s => obsP n fa fn ts tf ex pn s.heap.get?
  val := fun w => valP fn ts pn w
  says := fun w h => ∃ K : PySem.W.Frag, K.In h ∧ SaysP fa fn ts tf ex pn w h K
  of := fun w s e => ⟨_, frT_in, saysX_of (n := n) (congrArg (fun z : AlP => z.1) e), List.all_eq_true.mp (congrArg (fun z : AlP => z.2.1) e), congrArg (fun z : AlP => z.2.2) e⟩
  keeps := fun _ _ _ ⟨K, hK, c⟩ k => ⟨K, PySem.W.Frag.In.keeps hK k, ⟨c.x.t, c.x.more, c.x.hd, c.x.out, fun p hp => k _ _ (c.x.empty p hp)⟩, c.b, c.v⟩
end DL
namespace DL
open PySem PySem.Spec PyProof.Rows L2
open Evl (Ex Ex.refl Ex.trans Ex.new)
/-! ### making, with defaults ahead of what is written -/
abbrev CForm2 := Nat × List Str × List (Str × V) × List (Str × V)
def FormOk2 (K : PySem.W.Frag) (fd : FuncData) (ps : List Str) (F : CForm2) : Prop := ∃ da db, KBn K fd ps F.1 F.2.1 (fun us ws => us ++ (da ++ (ws ++ db))) (fun vs zs => vs ++ (F.2.2.1.map (·.2) ++ (zs ++ F.2.2.2.map (·.2))))
def MakP2 (P : Program) (w : World) (K : PySem.W.Frag) (mg : Str → Option Value) (base : Heap) (k : Nat) (x : Str) (C : Addr) (ps : List Str) (sp : Sp) (fs : List CForm2) : Prop :=
  ∃ f fd, Mk K C f ∧ FnOk P w K mg base CX0 k f fd ps sp ∧ (∀ F ∈ fs, FormOk2 K fd ps F) ∧ mg x = some (.ref C)
end DL
namespace DL
open PySem PySem.Spec PyProof.Rows L2
open Evl (Ex Ex.refl Ex.trans Ex.new)
/-! ### a def that takes a list over: gives it back, or a new list -/
def spV (K : PySem.W.Frag) (j : Nat) (R : List PyData → List PyData → Prop) : Sp := fun vs H Q _ => ∃ (N : Addr → Prop) (l : Addr) (ds rs es : List PyData) (ws : List V), (∀ a, N a → H a ≠ none) ∧ ¬ N l ∧ H l = some (.lst ws) ∧ DnAll K (fun a => N a ∨ a = l) H ws es ∧ ds[j]? = some (.list es) ∧ Paired (SvOk K (fun a => N a ∨ a = l) (fun _ => l) 1 H) vs ((ds.map SV.i).set j (.r 0)) ∧ R ds rs ∧
  ∀ p H' ws', (p = l ∨ H p = none) → (∀ a o, H a = some o → a ≠ l → H' a = some o) → H' p = some (.lst ws') → DnAll K (fun a => N a ∨ a = p) H' ws' rs → Q (.ref p) H'
def RetV (c : Cn) (ds : List PyData) (D : Ends) : Prop := ∀ p H2 ws, (c.H0 p = none ∨ c.M p) → (∀ a o, c.H0 a = some o → ¬ c.M a → H2 a = some o) → H2 p = some (.lst ws) → DnAll c.K (fun a => c.N0 a ∨ a = p) H2 ws ds → D.rt (.ref p) H2
end DL
namespace DL
open PySem PySem.Spec PyProof.Rows L2
open Evl (Ex Ex.refl Ex.trans Ex.new)
def absI (i : Int) : Int := if i < 0 then -i else i
/-! ### rfind of a newline; list(range(..)) -/
/-- where the paragraph of the index i begins -/
def bgn (l : List Nat) : Nat → Nat
  | 0 => 0
  | i + 1 => if l[i]? = some 10 then i + 1 else bgn l i
/-- the ints lo .. lo + n - 1 -/
def rgI (lo : Int) (n : Nat) : List Int := (List.range n).map fun i : Nat => lo + (i : Int)
end DL

set_option Elab.async false
set_option linter.all false
set_option maxRecDepth 100000
set_option maxHeartbeats 4000000
/-! The data layer: len(set(xs)) of texts, starred targets. -/
namespace DL
open PySem PySem.Spec PyProof.Rows L2
open Evl (Ex Ex.refl Ex.trans Ex.new)
/-- how many unlike ones stand among the first i -/
def cntD (xs : List Str) : Nat → Nat
  | 0 => 0
  | i + 1 => if xs.getD i Str.empty ∈ xs.take i then cntD xs i else cntD xs i + 1
section
variable {prog : Program} {w : World} {A : Around} {R : Result → Shared → Prop} {I S : Addr} {fp wr : List Addr} {G : Array GenState → Array GenState → Prop} {n : Nat} {P : Nat → Value → Prop} {St : Nat → Shared → Prop} {xs : List Str}
end

section
variable {prog : Program} {w : World} {A : Around} {E : Value → Shared → Prop} {s : Shared}
end
/-- len(set(xs)), xs a list of texts -/
def tLenS (K : PySem.W.Frag) (ta : TE) : TE := fun σ H Q => ta σ H fun x H1 => ∃ (l : Addr) (xs : List Str), x = .ref l ∧ SqL K H1 l (xs.map V.str) ∧ xs.length ≤ 4000 ∧ Q (.int (cntD xs xs.length : Nat)) H1
/-! ### (a, *b) = a list -/
section
variable {prog : Program} {w : World} {A : Around} {E : Value → Shared → Prop} {s : Shared}
end
/-- a, *b = a list: b a new list -/
def gStar (K : PySem.W.Frag) (t : TGs) : TG := fun v σ H Q => ∃ a x xs, v = .ref a ∧ SqL K H a (x :: xs) ∧ ∀ p, H p = none → t [x, .ref p] σ (upd H p (.lst xs)) Q
end DL

set_option Elab.async false
set_option linter.all false
set_option maxRecDepth 100000
set_option maxHeartbeats 2000000
/-! The data layer: what is drawn within tests, targets, loops, displays and comprehensions; tuple(..), signs in order, a starred target. -/
namespace DL
open PySem PySem.Spec PyProof.Rows L2
open Evl (Ex Ex.refl Ex.trans Ex.new)
/-- a statement that is never reached -/
theorem ps_never {X : Cx} {st : Stmt} : PS X st (fun _ _ _ => False) := ⟨fun _ _ _ _ _ _ h => h.elim⟩
theorem kTupleOf {X : Cx} {K : PySem.W.Frag} (h : X.K = K := by rfl) : CallR X (.type "tuple") (fun xs H Q => ∃ p ys, xs = [.ref p] ∧ ((SqL K H p ys ∧ ∀ l, H l = none → Q (.ref l) (upd H l (.tup ys))) ∨ (SqT K H p ys ∧ Q (.ref p) H))) := by subst h; exact call_tuple_of
section
variable {w : Bool} {c : Cn} {env env' : Sy} {os : List SO} {te ta tb tc tl td ty to : TE} {tr : TA} {u : TS} {D : Ends} {g : TG} {P PA PB : PyData → Prop} {d : PyData}
theorem fresh0 {ad : Nat → Addr} {σ : L2.St} {H : Hp} {p : Addr} (ok : Ok c ad env os σ H) (hp : H p = none) : c.H0 p = none ∨ c.M p := by
  by_cases hm : c.M p
  · exact Or.inr hm
  · refine Or.inl ?_
    cases hz : c.H0 p with
    | none => rfl
    | some o => rw [ok.ex p o hz hm] at hp; cases hp
theorem EvF.is2 {o o' : SO} (h : EvF c env os te o) (e : o = o') : EvF c env os te o' := e ▸ h
/-- tuple(a list) -/
theorem ex_tupleOf {r : List V → Hp → VK → Prop} {ds : List PyData} (hr : r = (fun xs H Q => ∃ p ys, xs = [.ref p] ∧ ((SqL c.K H p ys ∧ ∀ l, H l = none → Q (.ref l) (upd H l (.tup ys))) ∨ (SqT c.K H p ys ∧ Q (.ref p) H)))) (h : EvI c env os te (ds.map SV.i)) : EvX w c env os (tCB r (tCons te tNil)) (.tuple ds) := EvX.weak fun ad σ H ok Q q => by
  subst hr
  refine h ad σ H ok _ fun p vs H2 e hs pv => ⟨p, vs, rfl, Or.inl ⟨hs, fun l hl => q _ _ (e.trans (Ex.new hl)) ?_⟩⟩
  rw [Nw_false]
  exact .tup (SqT.of upd_same) ((paired_dn pv).ext (Ex.new hl))
/-- a <= x <= b of signs -/
theorem ex_chainS {r r' : R2} {lo x hi : Nat} (hr : r = (fun x y H Q => ∃ i j : Str, x = .str i ∧ y = .str j ∧ Q (.bl (!decide (j.cps.toList < i.cps.toList))) H)) (hr' : r' = r) (ha : EvX true c env os ta (dT [lo])) (hb : EvX true c env os tb (dT [x])) (hc : EvX true c env os tc (dT [hi])) :
    EvX w c env os (tChain r r' ta tb tc) (.bool (decide (lo ≤ x) && decide (x ≤ hi))) := fun ad σ H ok Q q => by
  subst hr hr'
  have key : ∀ a b : Nat, (!decide ((sT [b]).cps.toList < (sT [a]).cps.toList)) = decide (a ≤ b) := fun a b => by
    rw [sT_cps, sT_cps]
    have e : ([b] < [a]) ↔ b < a := by
      rw [List.cons_lt_cons_iff]
      simp
    rw [decide_eq_decide.mpr e, ← decide_not]
    exact decide_eq_decide.mpr Nat.not_lt
  refine ha ad σ H ok _ fun v H1 e1 r1 => hb ad σ H1 (ok.ext e1) _ fun u H2 e2 r2 => ⟨_, _, dn_str r1, dn_str r2, _, rfl, ?_⟩
  rw [key]
  cases hf : decide (lo ≤ x) with
  | true =>
    rw [if_pos rfl]
    exact hc ad σ H2 ((ok.ext e1).ext e2) _ fun z H3 e3 r3 => ⟨_, _, dn_str r2, dn_str r3, q _ H3 ((e1.trans e2).trans e3) (by rw [key, hf, Bool.true_and]; exact .bl _)⟩
  | false =>
    rw [if_neg (by decide)]
    exact q _ H2 (e1.trans e2) (by rw [hf, Bool.false_and]; exact .bl _)
/-! ### what is drawn -/
def EvTM (c : Cn) (env : Sy) (os : List SO) (tt : TT) (PB : Bool → Prop) : Prop := ∀ ad σ H, Ok c ad env os σ H → ∀ Q : Bool → Hp → Prop, (∀ b H2, PB b → Ok c ad env os σ H2 → Q b H2) → tt σ H Q
theorem etm_test {PB : Bool → Prop} (h : EvM c env os te (fun d => ∃ b, d = .bool b ∧ PB b)) : EvTM c env os (tTest te) PB := fun ad σ H ok Q q => h ad σ H ok _ fun v H2 d p ok2 r => by
  obtain ⟨b, rfl, hb⟩ := p
  exact ⟨b, dn_bool r, q b H2 hb ok2⟩
theorem gs_ifM {tt : TT} {t v : TS} {PB : Bool → Prop} (h : EvTM c env os tt PB) (h1 : PB true → Go c env os t { D with nx := u D }) (h2 : PB false → Go c env os v { D with nx := u D }) : Go c env os (tSeq (tIfS tt t v) u) D := fun ad σ H ok =>
  h ad σ H ok _ fun b H2 p ok2 => by
    cases b with
    | true => exact h1 p ad σ H2 ok2
    | false => exact h2 p ad σ H2 ok2
def EvWM (c : Cn) (env : Sy) (os : List SO) (wi : TI) (PN : Nat → Prop) (it : Nat → SV) (G : List SO → Prop) : Prop := ∀ ad σ H, Ok c ad env os σ H → ∀ R : It → Hp → Prop,
  (∀ n J H1 fr, PN n → Ok (c.w fr os.length) ad env os σ H1 → (∀ ad' env' os' σ' H', Ok (c.w fr os.length) ad' env' os' σ' H' → Ok c ad' env' os' σ' H') → WalkD (c.w fr os.length) J n it G → R J H1) → wi σ H R
theorem ewm {wi : TI} {n : Nat} {it : Nat → SV} {G : List SO → Prop} {PN : Nat → Prop} (h : EvW c env os wi n it G) (hn : PN n) : EvWM c env os wi PN it G := fun ad σ H ok R q => h ad σ H ok R fun J H1 fr _ ok1 up W => q n J H1 fr hn ok1 up W
def OkI (c : Cn) (J : Sy → List SO → Prop) : L2.St → Hp → Prop := fun σ H => ∃ e o, J e o ∧ OkE c e o σ H
/-- a for whose slots and store are known by what holds of them -/
theorem gs_forN {wi : TI} {it : Nat → SV} {G : List SO → Prop} {tb : TS} (PN : Nat → Prop) (I : Nat → Sy → List SO → Prop) (hw : EvWM c env os wi PN it G)
    (h0 : I 0 env os) (hG : ∀ i e o, I i e o → G o)
    (hs : ∀ fr, Up c (c.w fr os.length) → ∀ n i e o, PN n → i < n → I i e o → ∃ env' js, Tg (c.w fr os.length) e o g (it i) env' js ∧ Go (c.w fr os.length) env' o tb { D with nx := OkI (c.w fr os.length) (I (i + 1)), ct := OkI (c.w fr os.length) (I (i + 1)), bk := u D })
    (hd : ∀ n e o, PN n → I n e o → Go c e o u D) : Go c env os (tSeq (tFor wi g tb) u) D := fun ad σ H ok => by
  refine hw ad σ H ok _ fun n J H1 fr hn ok1 up W => ?_
  refine ⟨fun i m σ H => m = n - i ∧ i ≤ n ∧ OkI (c.w fr os.length) (I i) σ H, ⟨n, by simp, Nat.zero_le _, env, os, h0, ad, ok1⟩, ?_⟩
  rintro i m σ H ⟨rfl, hi, e0, o0, hI, ad', ok'⟩
  by_cases hlt : i < n
  · refine .inr ⟨W.goes i _ _ _ _ _ hlt ok' (hG i _ _ hI), OkI (c.w fr os.length) (I (i + 1)), fun σ' H' p' => ⟨n - (i + 1), by omega, rfl, hlt, p'⟩, fun x H' y => ?_⟩
    obtain ⟨e2, r⟩ := W.yields i _ _ _ _ _ x H' hlt ok' (hG i _ _ hI) y
    obtain ⟨env', js, ht, hb⟩ := hs fr up n i e0 o0 hn hlt hI
    exact ht ad' σ H' x (ok'.ext e2) r _ fun σ2 ok2 _ => hb ad' σ2 H' ok2
  · have q : i = n := by omega
    subst q
    exact .inl ⟨W.stops _ _ _ _ _ ok' (hG i _ _ hI), hd i e0 o0 hn hI ad' σ H (up _ _ _ _ _ ok')⟩
theorem gs_nxI {J : Sy → List SO → Prop} {e : Sy} {o : List SO} (hj : J e o) (h : ∀ ad σ H, Ok c ad env os σ H → OkE c e o σ H) (hD : D.nx = OkI c J := by rfl) : Go c env os tNext D := fun ad σ H ok => by
  show D.nx σ H
  rw [hD]
  exact ⟨e, o, hj, h ad σ H ok⟩
end
end DL
namespace DL
open PySem PySem.Spec PyProof.Rows L2
def rJoin (K : PySem.W.Frag) : V → List V → Hp → VK → Prop := fun x xs H Q => ∃ a p, ∃ ys : List Str, x = .str a ∧ xs = [.ref p] ∧ (SqL K H p (ys.map V.str) ∨ SqT K H p (ys.map V.str)) ∧ (ys.map (·.length)).sum + ys.length * a.length ≤ 16777216 ∧ Q (.str (Txt.join a ys)) H
end DL

set_option Elab.async false
set_option linter.all false
set_option maxRecDepth 100000
set_option maxHeartbeats 2000000
/-! The data layer: objects of the caller's store that a def reads and changes (a segment of the store). -/
namespace DL
open PySem PySem.Spec PyProof.Rows L2
open Evl (Ex Ex.refl Ex.trans Ex.new)
def reV (f : Nat → Nat) : SV → SV
  | .r k => .r (f k)
  | .i d => .i d
  | .t u => .t u
  | .ob C m => .ob C m
  | .z m => .z m
def reS (f : Nat → Nat) : SO → SO
  | .lst xs => .lst (xs.map (reV f))
  | .dK kvs => .dK (kvs.map fun p => (p.1, reV f p.2))
  | .dT kvs => .dT (kvs.map fun p => (p.1, reV f p.2))
  | .stt k => .stt (f k)
  | .ob C fs => .ob C (fs.map fun p => (p.1, reV f p.2))
  | .x => .x
  | .lk lo kvs => .lk lo (kvs.map fun p => (p.1, reV f p.2))
  | .ho g => .ho g
  | .tb P => .tb P
  | .nums => .nums
theorem reS_live (f : Nat → Nat) (o : SO) : (reS f o).live = o.live := by cases o <;> rfl
theorem paired_mapR {α β γ : Type} {F : α → γ → Prop} {g : β → γ} : ∀ {l : List α} {m : List β}, Paired F l (m.map g) → Paired (fun a b => F a (g b)) l m
  | [], [], _ => .nil
  | _ :: _, [], h => by cases h
  | [], _ :: _, h => by cases h
  | _ :: _, _ :: _, h => by cases h with | cons r t => exact .cons r (paired_mapR t)
theorem paired_mapL {α β γ : Type} {F : α → γ → Prop} {g : β → γ} : ∀ {l : List α} {m : List β}, Paired (fun a b => F a (g b)) l m → Paired F l (m.map g)
  | _, _, .nil => .nil
  | _, _, .cons r t => .cons r (paired_mapL t)
theorem soOk_in {K : PySem.W.Frag} {N N' : Addr → Prop} {ad ad' : Nat → Addr} {m n : Nat} {H : Hp} {l : Addr} {f : Nat → Nat} {o : SO} (h : SoOk K N ad n H l (reS f o)) (hl : SoLt m o) (hv : ∀ v s, SvLt m s → SvOk K N ad n H v (reV f s) → SvOk K N' ad' m H v s) : SoOk K N' ad' m H l o := by
  cases o with
  | x => exact True.intro
  | lst xs => obtain ⟨vs, e, p⟩ := h; exact ⟨vs, e, Paired.impR (paired_mapR p) fun a b mm q => hv _ _ (hl b mm) q⟩
  | dK kvs => obtain ⟨vs, e, p⟩ := h; exact ⟨vs, e, Paired.impR (paired_mapR p) fun a b mm q => ⟨q.1, hv _ _ (hl b mm) q.2⟩⟩
  | dT kvs => obtain ⟨vs, e, p⟩ := h; exact ⟨vs, e, Paired.impR (paired_mapR p) fun a b mm q => ⟨q.1, hv _ _ (hl b mm) q.2⟩⟩
  | ho g => exact h
  | tb P => exact h
  | nums => exact h
  | lk lo kvs => obtain ⟨e, p⟩ := h; exact ⟨e, Paired.impR (paired_mapR p) fun a b mm q => ⟨q.1, hv _ _ (hl b mm) q.2⟩⟩
  | stt k => obtain ⟨v, a, b, e, r⟩ := h; exact ⟨v, a, b, e, hv v (.r k) hl r⟩
  | ob C fs => obtain ⟨dx, vs, e, p⟩ := h; exact ⟨dx, vs, e, Paired.impR (paired_mapR p) fun a b mm q => ⟨q.1, hv _ _ (hl b mm) q.2⟩⟩
theorem soOk_out {K : PySem.W.Frag} {N N' : Addr → Prop} {ad ad' : Nat → Addr} {m n : Nat} {H : Hp} {l : Addr} {f : Nat → Nat} {o : SO} (h : SoOk K N ad m H l o) (hv : ∀ v s, SvOk K N ad m H v s → SvOk K N' ad' n H v (reV f s)) : SoOk K N' ad' n H l (reS f o) := by
  cases o with
  | x => exact True.intro
  | lst xs => obtain ⟨vs, e, p⟩ := h; exact ⟨vs, e, paired_mapL (Paired.imp p fun a b q => hv _ _ q)⟩
  | dK kvs => obtain ⟨vs, e, p⟩ := h; exact ⟨vs, e, paired_mapL (Paired.imp p fun a b q => ⟨q.1, hv _ _ q.2⟩)⟩
  | dT kvs => obtain ⟨vs, e, p⟩ := h; exact ⟨vs, e, paired_mapL (Paired.imp p fun a b q => ⟨q.1, hv _ _ q.2⟩)⟩
  | ho g => exact h
  | tb P => exact h
  | nums => exact h
  | lk lo kvs => obtain ⟨e, p⟩ := h; exact ⟨e, paired_mapL (Paired.imp p fun a b q => ⟨q.1, hv _ _ q.2⟩)⟩
  | stt k => obtain ⟨v, a, b, e, r⟩ := h; exact ⟨v, a, b, e, hv v (.r k) r⟩
  | ob C fs => obtain ⟨dx, vs, e, p⟩ := h; exact ⟨dx, vs, e, paired_mapL (Paired.imp p fun a b q => ⟨q.1, hv _ _ q.2⟩)⟩
/-- what is avoided: N and the segment -/
def SegN (N : Addr → Prop) (ad : Nat → Addr) (n : Nat) : Addr → Prop := fun a => N a ∨ ∃ j, j < n ∧ a = ad j
structure SegOk (K : PySem.W.Frag) (N : Addr → Prop) (ad : Nat → Addr) (n : Nat) (H : Hp) (sh : List SO) : Prop where
  obj : ∀ (i : Nat) (o : SO), sh[i]? = some o → SoOk K (SegN N ad n) ad n H (ad i) o
  inj : ∀ i j, i < n → j < n → ad i = ad j → i = j
  nn : ∀ i, i < n → ¬ N (ad i)
structure ShOk (n : Nat) (sh : List SO) : Prop where
  len : sh.length = n
  live : ∀ (i : Nat) (o : SO), sh[i]? = some o → o.live = true
  lt : OsLt n sh
/-- the promise: R x ss x' d, the segment goes from x to x' -/
def spS (K : PySem.W.Frag) (n : Nat) {α : Type} (shape : α → List SO) (R : α → List SV → α → PyData → Prop) : Sp := fun vs H Q _ => ∃ (N : Addr → Prop) (ad : Nat → Addr) (x : α) (ds : List SV),
  ShOk n (shape x) ∧ SegOk K N ad n H (shape x) ∧ (∀ a, N a → H a ≠ none) ∧ Paired (SvOk K (SegN N ad n) ad n H) vs ds ∧ (∃ x' d, R x ds x' d) ∧
  ∀ v H' x' d, R x ds x' d → ShOk n (shape x') → (∀ a u, H a = some u → (∀ j, j < n → a ≠ ad j) → H' a = some u) → SegOk K N ad n H' (shape x') → Dn K (SegN N ad n) H' v d → Q v H'
theorem spS_len {K : PySem.W.Frag} {n l : Nat} {α : Type} {shape : α → List SO} {R : α → List SV → α → PyData → Prop} (hR : ∀ x ds x' d, R x ds x' d → ds.length = l) : ∀ vs H Q E, spS K n shape R vs H Q E → vs.length = l := fun vs H Q E ⟨N, ad, x, ds, _, _, _, h, ⟨x', d, r⟩, _⟩ => by rw [Paired.length h, hR x ds x' d r]
section
variable {w : Bool} {c : Cn} {env env' : Sy} {os os2 : List SO} {te ta tb tl : TE} {tr : TA} {u : TS} {D : Ends} {g : TG} {P PA PB : PyData → Prop} {d : PyData} {ad : Nat → Addr} {σ : L2.St} {H H' : Hp} {n : Nat} {α : Type} {shape : α → List SO} {R : α → List SV → α → PyData → Prop} {f : Nat → Nat} {x : α} {ds : List SV}
/-- objects of the store are changed -/
theorem Ok.chgF {S : Nat → Prop} (ok : Ok c ad env os σ H) (hl : os2.length = os.length) (hS1 : ∀ j, S j → ∃ o o2, os[j]? = some o ∧ o.live = true ∧ os2[j]? = some o2 ∧ o2.live = true ∧ SoOk c.K (Nof c ad os) ad os.length H' (ad j) o2) (hS0 : ∀ j, ¬ S j → os2[j]? = os[j]?)
    (hch : ∀ a u, H a = some u → (∀ j, S j → a ≠ ad j) → H' a = some u) : Ok c ad env os2 σ H' := by
  have hlv : ∀ j, Lv os2 j ↔ Lv os j := fun j => by
    by_cases q : S j
    · obtain ⟨o, o2, h1, h2, h3, h4, _⟩ := hS1 j q
      exact ⟨fun _ => ⟨o, h1, h2⟩, fun _ => ⟨o2, h3, h4⟩⟩
    · unfold Lv; rw [hS0 j q]
  have hNof : Nof c ad os2 = Nof c ad os := by
    funext a
    unfold Nof
    exact propext ⟨fun z => z.imp id fun ⟨k, l, e⟩ => ⟨k, (hlv k).mp l, e⟩, fun z => z.imp id fun ⟨k, l, e⟩ => ⟨k, (hlv k).mpr l, e⟩⟩
  have lS : ∀ j, S j → Lv os j := fun j q => by obtain ⟨o, _, h1, h2, _⟩ := hS1 j q; exact ⟨o, h1, h2⟩
  have NS : ∀ j, S j → Nof c ad os (ad j) := fun j q => Or.inr ⟨j, lS j q, rfl⟩
  have wS : ∀ j, S j → ∃ u, H (ad j) = some u ∧ Wr u = true := fun j q => by
    obtain ⟨o, _, h1, h2, _⟩ := hS1 j q
    exact (ok.obj j o h1 h2).2.some h2
  have hnw : ∀ a x, H a = some x → Wr x = false → H' a = some x := fun a x e hw => hch a x e fun j q z => by
    obtain ⟨u, eu, wu⟩ := wS j q
    rw [z] at e; rw [e] at eu; cases eu; rw [hw] at wu; cases wu
  have hout : ∀ a x, H a = some x → ¬ Nof c ad os a → H' a = some x := fun a x e nn => hch a x e fun j q z => nn (z ▸ NS j q)
  have hrd : ∀ a x, Rd H a x → ¬ Nof c ad os a → Rd H' a x ∧ ¬ Nof c ad os a := fun a x r nn => ⟨by
    rcases r with r | ⟨o, r⟩
    · exact Or.inl (hout a x r nn)
    · exact Or.inr ⟨o, hout a _ r nn⟩, nn⟩
  have hsq : TP c.K H H' := ⟨fun a xs r => by
    rcases r with (r | ⟨o, r⟩) | r
    · exact Or.inl (Or.inl (hnw a _ r rfl))
    · exact Or.inl (Or.inr ⟨o, hnw a _ r rfl⟩)
    · exact Or.inr r, fun a o xs r => hnw a _ r rfl⟩
  have hv : ∀ m v s, SvOk c.K (Nof c ad os) ad m H v s → SvOk c.K (Nof c ad os) ad m H' v s := fun m v s h => by
    cases s with
    | i d => exact Dn.go hrd hout hsq d v h
    | t x => obtain ⟨b, e1, e2, e3⟩ := h; exact ⟨b, e1, e3.elim (hnw b _ e2) (hout b _ e2), e3⟩
    | ob C m => obtain ⟨a, dx, fs, e1, e2, e3, e4⟩ := h; exact ⟨a, dx, fs, e1, hout a _ e2 e3, e3, Paired.imp e4 fun _ _ z => ⟨z.1, Dn.go hrd hout hsq _ _ z.2⟩⟩
    | z m => obtain ⟨a, dx, fs, e1, e2, e3, e4⟩ := h; exact ⟨a, dx, fs, e1, hout a _ e2 e3, e3, Paired.imp e4 fun _ _ z => ⟨z.1, Dn.go hrd hout hsq _ _ z.2⟩⟩
    | r k => exact h
  refine ⟨ok.len, fun a o h m => ?_, fun a h => ?_, fun i s h => ?_, fun k o h l => ?_, fun k j hk hj => ok.inj k j ((hlv k).mp hk) ((hlv j).mp hj), fun k hk => ok.nn k ((hlv k).mp hk), fun p hp => by rw [hNof]; exact hv _ _ _ (ok.frm p hp), by rw [hl]; exact ok.low⟩
  · refine hch a o (ok.ex a o h m) fun j q z => ?_
    obtain ⟨o1, _, h1, h2, _⟩ := hS1 j q
    rcases (ok.obj j o1 h1 h2).1 with y | y
    · rw [← z, h] at y; cases y
    · exact m (z ▸ y)
  · cases e : H a with
    | none => exact absurd e (ok.n0 a h)
    | some x =>
      rw [hch a x e fun j q z => ok.nn j (lS j q) (z ▸ h)]
      exact fun z => nomatch z
  · obtain ⟨v, h1, h2⟩ := ok.val i s h
    rw [hNof, hl]
    exact ⟨v, h1, hv _ v s h2⟩
  · rw [hNof, hl]
    by_cases q : S k
    · obtain ⟨o1, o2, h1, h2, h3, h4, h5⟩ := hS1 k q
      rw [h3] at h; cases h
      exact ⟨(ok.obj k o1 h1 h2).1, h5⟩
    · rw [hS0 k q] at h
      obtain ⟨h1, h2⟩ := ok.obj k o h l
      exact ⟨h1, h2.map (hv _) fun x e => hch _ x e fun j qj z => q (ok.inj k j ⟨o, h, l⟩ (lS j qj) z ▸ qj)⟩
/-- gives data; objects of the store may be changed -/
def EvN (c : Cn) (env : Sy) (os : List SO) (te : TE) (P : List SO → PyData → Prop) : Prop := ∀ ad σ H, Ok c ad env os σ H → ∀ Q : VK, (∀ v H2 os' d, P os' d → Ok c ad env os' σ H2 → Dn c.K (Nof c ad os') H2 v d → Q v H2) → te σ H Q
theorem EvM.asN (h : EvM c env os te P) : EvN c env os te (fun os' d => os' = os ∧ P d) := fun ad σ H ok Q q => h ad σ H ok Q fun v H2 d p ok2 r => q v H2 os d ⟨rfl, p⟩ ok2 r
theorem EvN.imp {P1 P2 : List SO → PyData → Prop} (h : EvN c env os te P1) (i : ∀ os' d, P1 os' d → P2 os' d) : EvN c env os te P2 := fun ad σ H ok Q q => h ad σ H ok Q fun v H2 os' d p ok2 r => q v H2 os' d (i os' d p) ok2 r
theorem args_in {ad0 : Nat → Addr} {N1 N2 : Addr → Prop} {l n : Nat} (hN : ∀ a, N2 a → N1 a) (ha : ∀ k, k < n → ad0 k = ad (f k)) : ∀ {vs : List V} {ds : List SV}, (∀ s ∈ ds, SvLt n s) → Paired (SvOk c.K N1 ad l H) vs (ds.map (reV f)) → Paired (SvOk c.K N2 ad0 n H) vs ds
  | _, [], _, h => by cases h; exact .nil
  | _, s :: ds, hl, h => by
    cases h with
    | cons a b =>
      refine .cons ?_ (args_in hN ha (fun s hs => hl s (List.mem_cons_of_mem _ hs)) b)
      cases s with
      | i d => exact Dn.sub hN a
      | t u => exact TOk.sub hN a
      | ob C m => exact ObOk.sub hN a
      | z m => exact ZOk.sub hN a
      | r k => exact ⟨by rw [ha k (hl (.r k) (List.mem_cons_self ..))]; exact a.1, hl (.r k) (List.mem_cons_self ..)⟩
/-- how the store looks as a function of what the segment holds -/
structure SegAt (f : Nat → Nat) (n : Nat) (shape : α → List SO) (G : α → List SO) : Prop where
  inj : ∀ i j, i < n → j < n → f i = f j → i = j
  sh : ∀ x, ShOk n (shape x)
  at_ : ∀ (x : α) (i : Nat) (o : SO), (shape x)[i]? = some o → (G x)[f i]? = some (reS f o)
  len : ∀ x y, (G x).length = (G y).length
  out : ∀ x y j, (∀ i, i < n → j ≠ f i) → (G x)[j]? = (G y)[j]?
theorem seg_call {G : α → List SO} {vs : List V} {Q : VK} {E : XK} (S : SegAt f n shape G) (ok : Ok c ad env (G x) σ H) (hl : ∀ s ∈ ds, SvLt n s) (ha : Paired (SvOk c.K (Nof c ad (G x)) ad (G x).length H) vs (ds.map (reV f))) (hR : ∃ x' d, R x ds x' d)
    (q : ∀ v H2 x' d, R x ds x' d → Ok c ad env (G x') σ H2 → Dn c.K (Nof c ad (G x')) H2 v d → Q v H2) : spS c.K n shape R vs H Q E := by
  have hlt : ∀ y i, i < n → ∃ o, (shape y)[i]? = some o ∧ o.live = true ∧ (G y)[f i]? = some (reS f o) := fun y i hi => by
    have hh : i < (shape y).length := by rw [(S.sh y).len]; exact hi
    have e := List.getElem?_eq_getElem hh
    exact ⟨_, e, (S.sh y).live _ _ e, S.at_ y i _ e⟩
  have lv : ∀ y i, i < n → Lv (G y) (f i) := fun y i hi => by
    obtain ⟨o, _, h2, h3⟩ := hlt y i hi
    exact ⟨_, h3, by rw [reS_live]; exact h2⟩
  have hNs : ∀ a, SegN (fun a => Nof c ad (G x) a ∧ ∀ i, i < n → a ≠ ad (f i)) (fun i => ad (f i)) n a ↔ Nof c ad (G x) a := fun a => by
    constructor
    · rintro (z | ⟨i, hi, z⟩)
      · exact z.1
      · exact z ▸ Or.inr ⟨f i, lv x i hi, rfl⟩
    · intro z
      by_cases h : ∃ i, i < n ∧ a = ad (f i)
      · exact Or.inr h
      · exact Or.inl ⟨z, fun i hi e => h ⟨i, hi, e⟩⟩
  have hNeq : SegN (fun a => Nof c ad (G x) a ∧ ∀ i, i < n → a ≠ ad (f i)) (fun i => ad (f i)) n = Nof c ad (G x) := funext fun a => propext (hNs a)
  refine ⟨fun a => Nof c ad (G x) a ∧ ∀ i, i < n → a ≠ ad (f i), fun i => ad (f i), x, ds, S.sh x, ⟨fun i o e => ?_, fun i j hi hj e => S.inj i j hi hj (ok.inj _ _ (lv x i hi) (lv x j hj) e), fun i hi z => z.2 i hi rfl⟩, fun a z => ok.nof z.1, by rw [hNeq]; exact args_in (f := f) (fun _ z => z) (fun _ _ => rfl) hl ha, hR, fun v H' x' d hd hsh hch hs r => ?_⟩
  · have hi : i < n := by rw [← (S.sh x).len]; exact (List.getElem?_eq_some_iff.mp e).1
    have hl := (S.sh x).live i o e
    obtain ⟨_, h2⟩ := ok.obj (f i) _ (S.at_ x i o e) (by rw [reS_live]; exact hl)
    rw [hNeq]
    refine soOk_in h2 ((S.sh x).lt.get e) fun v s ls z => ?_
    cases s with
    | i d => exact z
    | t u => exact z
    | ob C m => exact z
    | z m => exact z
    | r k => exact ⟨z.1, ls⟩
  · have ok2 : Ok c ad env (G x') σ H' := by
      refine ok.chgF (S := fun j => ∃ i, i < n ∧ j = f i) (S.len x' x) (fun j hj => ?_) (fun j hj => S.out x' x j fun i hi e => hj ⟨i, hi, e⟩) (fun a u e ne => hch a u e fun i hi => ne (f i) ⟨i, hi, rfl⟩)
      obtain ⟨i, hi, rfl⟩ := hj
      obtain ⟨o, h1, h2, h3⟩ := hlt x i hi
      obtain ⟨o', g1, g2, g3⟩ := hlt x' i hi
      refine ⟨_, _, h3, by rw [reS_live]; exact h2, g3, by rw [reS_live]; exact g2, ?_⟩
      have so := hs.obj i o' g1
      rw [hNeq] at so
      refine soOk_out so fun v s z => ?_
      cases s with
      | i d => exact z
      | t u => exact z
      | ob C m => exact z
      | z m => exact z
      | r k => exact ⟨z.1, (List.getElem?_eq_some_iff.mp (lv x k z.2).choose_spec.1).1⟩
    refine q v H' x' d hd ok2 ?_
    rw [hNeq] at r
    refine r.sub fun a z => ?_
    rcases z with z | ⟨k, l, e⟩
    · exact Or.inl z
    · refine Or.inr ⟨k, ?_, e⟩
      by_cases h : ∃ i, i < n ∧ k = f i
      · obtain ⟨i, hi, rfl⟩ := h; exact lv x i hi
      · unfold Lv at l ⊢
        rw [S.out x x' k fun i hi e => h ⟨i, hi, e⟩]
        exact l
theorem lookup_paired {F : V → SV → Prop} {mn : Str} : ∀ {l : List (Str × V)} {m : List (Str × SV)}, Paired (fun (p : Str × V) (q : Str × SV) => p.1 = q.1 ∧ F p.2 q.2) l m → m.lookup mn = none → l.lookup mn = none
  | _, _, .nil, _ => rfl
  | (a1, a2) :: l, (b1, b2) :: m, .cons r t, h => by
    have e : a1 = b1 := r.1
    subst e
    rw [List.lookup_cons] at h ⊢
    cases hq : (mn == a1) with
    | true => rw [hq] at h; cases h
    | false => rw [hq] at h; exact lookup_paired t h
/-- a call of a method -/
theorem en_meth {G : α → List SO} {E : XK} {C : Addr} {mn : Str} {k : Nat} {fs : List (Str × SV)} (S : SegAt f n shape G) (ho : EvR c env (G x) te (f k)) (hk : (G x)[f k]? = some (.ob C fs)) (hm : fs.lookup mn = none) (hkn : k < n) (hl : ∀ s ∈ ds, SvLt n s) (ha : EvAS c env (G x) tr (ds.map (reV f))) (hR : ∃ x' d, R x (.r k :: ds) x' d) : EvN c env (G x) (tMeth C mn (spS c.K n shape R) [] E te tr) (fun os' d => ∃ x', R x (.r k :: ds) x' d ∧ os' = G x') := fun ad σ H ok Q q => ho.2 ad σ H ok _ fun H1 e1 => by
  have ok1 := ok.ext e1
  obtain ⟨_, dx, vs0, h0, pv⟩ := ok1.obj (f k) _ hk rfl
  have hlk : vs0.lookup mn = none := lookup_paired pv hm
  refine ⟨ad (f k), dx, vs0, rfl, h0, hlk, ha ad σ H1 ok1 _ fun vs H2 e r => ?_⟩
  rw [List.append_nil]
  exact seg_call (ds := .r k :: ds) S (ok1.ext e) (fun s hs => (List.mem_cons.mp hs).elim (fun e => e ▸ hkn) (hl s)) (show Paired _ (.ref (ad (f k)) :: vs) (.r (f k) :: ds.map (reV f)) from .cons ⟨rfl, (List.getElem?_eq_some_iff.mp hk).1⟩ r) hR fun v H3 x' d hd ok3 r3 => q v H3 _ d ⟨x', hd, rfl⟩ ok3 r3
/-! ### statements -/
theorem gs_doN {P : List SO → PyData → Prop} (h : EvN c env os te P) (k : ∀ os' d, P os' d → Go c env os' u D) : Go c env os (tSeq (tDrop te) u) D := fun ad σ H ok => h ad σ H ok _ fun v H2 os' d p ok2 r => k os' d p ad σ H2 ok2
/-! ### the body -/
abbrev cnS (K : PySem.W.Frag) (H : Hp) (N : Addr → Prop) (ad : Nat → Addr) (n : Nat) : Cn := ⟨K, H, N, fun a => ∃ j, j < n ∧ a = ad j, (List.range n).map fun j => (V.ref (ad j), SV.r j), n⟩
def envG (L : Nat) (ds : List SV) : Sy := ds.map some ++ List.replicate (L - ds.length) none
def RetS (shape : α → List SO) (n : Nat) (R : α → List SV → α → PyData → Prop) (c : Cn) (x : α) (ds : List SV) (D : Ends) : Prop := ∀ ad env os σ v H2 d x', Ok c ad env os σ H2 → (∀ (i : Nat) (o : SO), (shape x')[i]? = some o → os[i]? = some o) → ShOk n (shape x') → R x ds x' d → Dn c.K (Nof c ad os) H2 v d → D.rt v H2
theorem paired_getG {α β : Type} {F : α → β → Prop} : ∀ {l : List α} {m : List β} {i : Nat} {b : β}, Paired F l m → m[i]? = some b → ∃ a, l[i]? = some a ∧ F a b
  | _, _, _, _, .nil, e => by simp at e
  | _ :: _, _ :: _, 0, b, .cons r t, e => by simp at e; subst e; exact ⟨_, rfl, r⟩
  | _ :: _, _ :: _, i + 1, b, .cons r t, e => by simp only [List.getElem?_cons_succ] at e ⊢; exact paired_getG t e
theorem ok_startG {K : PySem.W.Frag} {N : Addr → Prop} {vs : List V} {sh : List SO} {Nm : List Str} (hs : ShOk n sh) (so : SegOk K N ad n H sh) (hN : ∀ a, N a → H a ≠ none) (ha : Paired (SvOk K (SegN N ad n) ad n H) vs ds) (hl : ds.length ≤ Nm.length) :
    Ok (cnS K H N ad n) ad (envG Nm.length ds) sh (L2.start Nm vs) H := by
  have hlen := Paired.length ha
  have lv : ∀ k, Lv sh k → k < n := fun k ⟨o, e, _⟩ => by rw [← hs.len]; exact (List.getElem?_eq_some_iff.mp e).1
  have hNof : ∀ a, Nof (cnS K H N ad n) ad sh a → SegN N ad n a := fun a z => z.imp id fun ⟨k, l, e⟩ => ⟨k, lv k l, e⟩
  refine ⟨?_, fun a o e _ => e, hN, fun i t e => ?_, fun k o e l => ?_, fun k j hk hj q => so.inj k j (lv k hk) (lv j hj) q, fun k hk => so.nn k (lv k hk), fun p hp => ?_, by show n ≤ sh.length; rw [hs.len]; exact Nat.le_refl _⟩
  · unfold L2.start envG; simp [hlen]
  · unfold envG at e
    by_cases hi : i < ds.length
    · rw [List.getElem?_append_left (by simpa using hi), List.getElem?_map] at e
      cases hd : ds[i]? with
      | none => rw [hd] at e; cases e
      | some s =>
        rw [hd] at e
        cases e
        obtain ⟨v, h1, h2⟩ := paired_getG ha hd
        refine ⟨v, ?_, by rw [hs.len]; exact h2.sub hNof⟩
        unfold L2.start
        rw [List.getElem?_append_left (by simp [hlen]; exact hi), List.getElem?_map, h1]
        rfl
    · rw [List.getElem?_append_right (by simpa using hi), List.getElem?_replicate] at e
      split at e <;> cases e
  · have hk := lv k ⟨o, e, l⟩
    refine ⟨Or.inr ⟨k, hk, rfl⟩, ?_⟩
    rw [hs.len]
    exact (so.obj k o e).map (fun v s z => z.sub hNof) fun _ q => q
  · obtain ⟨j, hj, rfl⟩ := List.mem_map.mp hp
    exact ⟨rfl, List.mem_range.mp hj⟩
theorem run_spS {K : PySem.W.Frag} {vs : List V} {Q : VK} {E : XK} {Nm : List Str} {t : TS} (h : spS K n shape R vs H Q E) (hl : vs.length ≤ Nm.length)
    (gg : ∀ (N : Addr → Prop) (ad : Nat → Addr) (x : α) (ds : List SV), ShOk n (shape x) → (∃ x' d, R x ds x' d) → RetS shape n R (cnS K H N ad n) x ds (De Q) → Go (cnS K H N ad n) (envG Nm.length ds) (shape x) t (De Q)) : t (De Q) (L2.start Nm vs) H := by
  obtain ⟨N, ad, x, ds, hs, so, hN, ha, hR, hq⟩ := h
  refine gg N ad x ds hs hR (fun ad' env os σ v H2 d x' ok hos hs' hd r => ?_) _ _ _ (ok_startG hs so hN ha (by rw [← Paired.length ha]; exact hl))
  have had : ∀ j, j < n → ad' j = ad j := fun j hj => by
    obtain ⟨f1, _⟩ := (show V.ref (ad j) = .ref (ad' j) ∧ _ from ok.frm (.ref (ad j), .r j) (List.mem_map.mpr ⟨j, List.mem_range.mpr hj, rfl⟩))
    exact (V.ref.inj f1).symm
  have hlt : ∀ i, i < n → Lv os i := fun i hi => by
    have hh : i < (shape x').length := by rw [hs'.len]; exact hi
    have e := List.getElem?_eq_getElem hh
    exact ⟨_, hos i _ e, hs'.live i _ e⟩
  have hNs : ∀ a, SegN N ad n a → Nof (cnS K H N ad n) ad' os a := fun a z => by
    rcases z with z | ⟨j, hj, e⟩
    · exact Or.inl z
    · exact Or.inr ⟨j, hlt j hj, by rw [e, had j hj]⟩
  refine hq v H2 x' d hd hs' (fun a u e ne => ok.ex a u e fun ⟨j, hj, z⟩ => ne j hj z) ⟨fun i o e => ?_, so.inj, so.nn⟩ (r.sub hNs)
  have hi : i < n := by rw [← hs'.len]; exact (List.getElem?_eq_some_iff.mp e).1
  obtain ⟨_, h2⟩ := ok.obj i o (hos i o e) (hs'.live i o e)
  rw [had i hi] at h2
  have lt := hs'.lt.get e
  have hv : ∀ v s, SvLt n s → SvOk K (Nof (cnS K H N ad n) ad' os) ad' os.length H2 v s → SvOk K (SegN N ad n) ad n H2 v s := fun v s l z => by
    cases s with
    | i d => exact Dn.sub hNs z
    | t u => exact TOk.sub hNs z
    | ob C m => exact ObOk.sub hNs z
    | z m => exact ZOk.sub hNs z
    | r k => exact ⟨by rw [z.1, had k l], l⟩
  cases o with
  | x => exact True.intro
  | lst xs => obtain ⟨vs, e, p⟩ := h2; exact ⟨vs, e, Paired.impR p fun a b m q => hv _ _ (lt b m) q⟩
  | dK kvs => obtain ⟨vs, e, p⟩ := h2; exact ⟨vs, e, Paired.impR p fun a b m q => ⟨q.1, hv _ _ (lt b m) q.2⟩⟩
  | dT kvs => obtain ⟨vs, e, p⟩ := h2; exact ⟨vs, e, Paired.impR p fun a b m q => ⟨q.1, hv _ _ (lt b m) q.2⟩⟩
  | ho g => exact h2
  | tb P => exact h2
  | nums => exact h2
  | lk lo kvs => obtain ⟨e, p⟩ := h2; exact ⟨e, Paired.impR p fun a b m q => ⟨q.1, hv _ _ (lt b m) q.2⟩⟩
  | stt k => obtain ⟨v, a, m, e, r⟩ := h2; exact ⟨v, a, m, e, hv v (.r k) lt r⟩
  | ob C fs => obtain ⟨dx, vs, e, p⟩ := h2; exact ⟨dx, vs, e, Paired.impR p fun a b m q => ⟨q.1, hv _ _ (lt b m) q.2⟩⟩
/-- return -/
theorem gs_retS {te : TE} {x' : α} (h : EvX false c env os te d) (k : RetS shape n R c x ds D) (hos : ∀ (i : Nat) (o : SO), (shape x')[i]? = some o → os[i]? = some o) (hs : ShOk n (shape x')) (hR : R x ds x' d) : Go c env os (tSeq (tRet te) u) D := fun ad σ H ok =>
  h ad σ H ok _ fun v H2 e r => k ad env os σ v H2 d x' (ok.ext e) hos hs hR (by rw [Nw_false] at r; exact r)
/-- the end of a body, without return -/
theorem g_endS {Q : VK} {x' : α} (k : RetS shape n R c x ds (De Q)) (hos : ∀ (i : Nat) (o : SO), (shape x')[i]? = some o → os[i]? = some o) (hs : ShOk n (shape x')) (hR : R x ds x' .none) : Go c env os tNext (De Q) := fun ad σ H ok => k ad env os σ .non H .none x' ok hos hs hR .non
/-! ### objects that are made -/
theorem Ok.grow {ad' : Nat → Addr} {m : Nat} (ok : Ok c ad env os σ H) (h : ∀ j, j < os.length → ad' j = ad j) : Ok c ad' env (os ++ List.replicate m .x) σ H := by
  have lv : ∀ k, Lv (os ++ List.replicate m SO.x) k → Lv os k ∧ k < os.length := fun k ⟨o, e, l⟩ => by
    by_cases hk : k < os.length
    · rw [List.getElem?_append_left hk] at e
      exact ⟨⟨o, e, l⟩, hk⟩
    · rw [List.getElem?_append_right (by omega), List.getElem?_replicate] at e
      split at e
      · cases e; cases l
      · cases e
  have hN : ∀ a, Nof c ad' (os ++ List.replicate m .x) a → Nof c ad os a := fun a z => z.imp id fun ⟨k, l, e⟩ => by
    obtain ⟨l2, hk⟩ := lv k l
    exact ⟨k, l2, by rw [e, h k hk]⟩
  have hv : ∀ b v s, b ≤ os.length → SvOk c.K (Nof c ad os) ad b H v s → SvOk c.K (Nof c ad' (os ++ List.replicate m .x)) ad' b H v s := fun b v s hb z => by
    cases s with
    | i d => exact Dn.sub hN z
    | t u => exact TOk.sub hN z
    | ob C mm => exact ObOk.sub hN z
    | z m => exact ZOk.sub hN z
    | r k => exact ⟨by rw [h k (Nat.lt_of_lt_of_le z.2 hb)]; exact z.1, z.2⟩
  have hv2 : ∀ v s, SvOk c.K (Nof c ad os) ad os.length H v s → SvOk c.K (Nof c ad' (os ++ List.replicate m .x)) ad' (os ++ List.replicate m SO.x).length H v s := fun v s z => (hv _ v s (Nat.le_refl _) z).lift (by simp)
  refine ⟨ok.len, ok.ex, ok.n0, fun i s e => ?_, fun k o e l => ?_, fun k j lk lj z => ?_, fun k lk => ?_, fun p hp => hv _ _ _ ok.low (ok.frm p hp), by have := ok.low; simp; omega⟩
  · obtain ⟨v, h1, h2⟩ := ok.val i s e
    exact ⟨v, h1, hv2 v s h2⟩
  · obtain ⟨l2, hk⟩ := lv k ⟨o, e, l⟩
    rw [List.getElem?_append_left hk] at e
    obtain ⟨h1, h2⟩ := ok.obj k o e l
    rw [h k hk]
    exact ⟨h1, h2.map hv2 fun _ q => q⟩
  · obtain ⟨l1, hk⟩ := lv k lk
    obtain ⟨l2, hj⟩ := lv j lj
    rw [h k hk, h j hj] at z
    exact ok.inj k j l1 l2 z
  · obtain ⟨l1, hk⟩ := lv k lk
    rw [h k hk]
    exact ok.nn k l1
/-- as chgF; objects that are dead before may come to life at new addresses -/
theorem Ok.chgK {S : Nat → Prop} (ok : Ok c ad env os σ H) (hl : os2.length = os.length)
    (hS1 : ∀ j, S j → ∃ o o2, os[j]? = some o ∧ (o.live = true ∨ H (ad j) = none) ∧ os2[j]? = some o2 ∧ o2.live = true ∧ SoOk c.K (Nof c ad os2) ad os.length H' (ad j) o2) (hinj : ∀ i j, S i → S j → ad i = ad j → i = j) (hS0 : ∀ j, ¬ S j → os2[j]? = os[j]?)
    (hch : ∀ a u, H a = some u → (∀ j, S j → a ≠ ad j) → H' a = some u) : Ok c ad env os2 σ H' := by
  have hlv : ∀ j, Lv os2 j ↔ (S j ∨ Lv os j) := fun j => by
    by_cases q : S j
    · obtain ⟨o, o2, h1, h2, h3, h4, _⟩ := hS1 j q
      exact ⟨fun _ => Or.inl q, fun _ => ⟨o2, h3, h4⟩⟩
    · unfold Lv; rw [hS0 j q]; exact ⟨Or.inr, fun z => z.resolve_left q⟩
  have NS : ∀ j, S j → Nof c ad os2 (ad j) := fun j q => Or.inr ⟨j, (hlv j).mpr (Or.inl q), rfl⟩
  have wS : ∀ j, S j → H (ad j) = none ∨ (Lv os j ∧ ∃ u, H (ad j) = some u ∧ Wr u = true) := fun j q => by
    obtain ⟨o, _, h1, h2, _⟩ := hS1 j q
    rcases h2 with h2 | h2
    · exact Or.inr ⟨⟨o, h1, h2⟩, (ok.obj j o h1 h2).2.some h2⟩
    · exact Or.inl h2
  have hnw : ∀ a x, H a = some x → Wr x = false → H' a = some x := fun a x e hw => hch a x e fun j q z => by
    rcases wS j q with y | ⟨_, u, eu, wu⟩
    · rw [z, y] at e; cases e
    · rw [z] at e; rw [e] at eu; cases eu; rw [hw] at wu; cases wu
  have hNo : ∀ a x, H a = some x → ¬ Nof c ad os a → ¬ Nof c ad os2 a := fun a x e nn z => by
    rcases z with z | ⟨k, l, z⟩
    · exact nn (Or.inl z)
    · rcases (hlv k).mp l with q | q
      · rcases wS k q with y | ⟨y, _⟩
        · rw [z, y] at e; cases e
        · exact nn (Or.inr ⟨k, y, z⟩)
      · exact nn (Or.inr ⟨k, q, z⟩)
  have hout : ∀ a x, H a = some x → ¬ Nof c ad os a → H' a = some x := fun a x e nn => hch a x e fun j q z => hNo a x e nn (z ▸ NS j q)
  have hrd : ∀ a x, Rd H a x → ¬ Nof c ad os a → Rd H' a x ∧ ¬ Nof c ad os2 a := fun a x r nn => by
    rcases r with r | ⟨o, r⟩
    · exact ⟨Or.inl (hout a x r nn), hNo a x r nn⟩
    · exact ⟨Or.inr ⟨o, hout a _ r nn⟩, hNo a _ r nn⟩
  have hsq : TP c.K H H' := ⟨fun a xs r => by
    rcases r with (r | ⟨o, r⟩) | r
    · exact Or.inl (Or.inl (hnw a _ r rfl))
    · exact Or.inl (Or.inr ⟨o, hnw a _ r rfl⟩)
    · exact Or.inr r, fun a o xs r => hnw a _ r rfl⟩
  have hv : ∀ m v s, SvOk c.K (Nof c ad os) ad m H v s → SvOk c.K (Nof c ad os2) ad m H' v s := fun m v s h => by
    cases s with
    | i d => exact Dn.go hrd hout hsq d v h
    | t x => obtain ⟨b, e1, e2, e3⟩ := h; exact ⟨b, e1, e3.elim (hnw b _ e2) (hout b _ e2), e3.imp id (hNo b _ e2)⟩
    | ob C m => obtain ⟨a, dx, fs, e1, e2, e3, e4⟩ := h; exact ⟨a, dx, fs, e1, hout a _ e2 e3, hNo a _ e2 e3, Paired.imp e4 fun _ _ z => ⟨z.1, Dn.go hrd hout hsq _ _ z.2⟩⟩
    | z m => obtain ⟨a, dx, fs, e1, e2, e3, e4⟩ := h; exact ⟨a, dx, fs, e1, hout a _ e2 e3, hNo a _ e2 e3, Paired.imp e4 fun _ _ z => ⟨z.1, Dn.go hrd hout hsq _ _ z.2⟩⟩
    | r k => exact h
  have hnS : ∀ k, Lv os k → ∃ x, H (ad k) = some x := fun k ⟨o, e, l⟩ => by obtain ⟨u, e, _⟩ := (ok.obj k o e l).2.some l; exact ⟨u, e⟩
  refine ⟨ok.len, fun a o h m => ?_, fun a h => ?_, fun i s h => ?_, fun k o h l => ?_, fun k j hk hj z => ?_, fun k hk z => ?_, fun p hp => hv _ _ _ (ok.frm p hp), by rw [hl]; exact ok.low⟩
  · refine hch a o (ok.ex a o h m) fun j q z => ?_
    rcases wS j q with y | ⟨⟨o1, h1, h2⟩, _⟩
    · rw [← z, ok.ex a o h m] at y; cases y
    · rcases (ok.obj j o1 h1 h2).1 with y | y
      · rw [← z, h] at y; cases y
      · exact m (z ▸ y)
  · cases e : H a with
    | none => exact absurd e (ok.n0 a h)
    | some x =>
      rw [hch a x e fun j q z => ?_]
      · exact fun z => nomatch z
      · rcases wS j q with y | ⟨y, _⟩
        · rw [← z, e] at y; cases y
        · exact ok.nn j y (z ▸ h)
  · obtain ⟨v, h1, h2⟩ := ok.val i s h
    rw [hl]
    exact ⟨v, h1, hv _ v s h2⟩
  · rw [hl]
    by_cases q : S k
    · obtain ⟨o1, o2, h1, h2, h3, h4, h5⟩ := hS1 k q
      rw [h3] at h; cases h
      refine ⟨?_, h5⟩
      rcases h2 with h2 | h2
      · exact (ok.obj k o1 h1 h2).1
      · exact fresh0 ok h2
    · rw [hS0 k q] at h
      obtain ⟨h1, h2⟩ := ok.obj k o h l
      refine ⟨h1, h2.map (hv _) fun x e => hch _ x e fun j qj z => ?_⟩
      rcases wS j qj with y | ⟨y, _⟩
      · rw [← z, e] at y; cases y
      · exact q (ok.inj k j ⟨o, h, l⟩ y z ▸ qj)
  · rcases (hlv k).mp hk with q1 | q1 <;> rcases (hlv j).mp hj with q2 | q2
    · exact hinj k j q1 q2 z
    · rcases wS k q1 with y | ⟨y, _⟩
      · obtain ⟨u, e⟩ := hnS j q2
        rw [← z, y] at e; cases e
      · exact ok.inj k j y q2 z
    · rcases wS j q2 with y | ⟨y, _⟩
      · obtain ⟨u, e⟩ := hnS k q1
        rw [z, y] at e; cases e
      · exact ok.inj k j q1 y z
    · exact ok.inj k j q1 q2 z
  · rcases (hlv k).mp hk with q1 | q1
    · rcases wS k q1 with y | ⟨y, _⟩
      · exact ok.n0 _ z y
      · exact ok.nn k y z
    · exact ok.nn k q1 z
/-- the promise of a maker: objects of the caller, and new ones behind them -/
def spK (K : PySem.W.Frag) (n0 n1 : Nat) {α β : Type} (sh0 : α → List SO) (sh1 : β → List SO) (R : α → List SV → β → Prop) : Sp := fun vs H Q _ => ∃ (N : Addr → Prop) (ad : Nat → Addr) (x : α) (ds : List SV),
  ShOk n0 (sh0 x) ∧ SegOk K N ad n0 H (sh0 x) ∧ (∀ a, N a → H a ≠ none) ∧ Paired (SvOk K (SegN N ad n0) ad n0 H) vs ds ∧ (∃ y, R x ds y) ∧
  ∀ H' ad' y, R x ds y → ShOk n1 (sh1 y) → (∀ j, j < n0 → ad' j = ad j) → (∀ j, n0 ≤ j → j < n1 → H (ad' j) = none) → (∀ a u, H a = some u → (∀ j, j < n0 → a ≠ ad j) → H' a = some u) → SegOk K N ad' n1 H' (sh1 y) → Q .non H'
theorem spK_len {K : PySem.W.Frag} {n0 n1 l : Nat} {β : Type} {sh0 : α → List SO} {sh1 : β → List SO} {R : α → List SV → β → Prop} (hR : ∀ x ds y, R x ds y → ds.length = l) : ∀ vs H Q E, spK K n0 n1 sh0 sh1 R vs H Q E → vs.length = l := fun vs H Q E ⟨N, ad, x, ds, _, _, _, h, ⟨y, r⟩, _⟩ => by rw [Paired.length h, hR x ds y r]
def gAt (f : Nat → Nat) (n0 l : Nat) : Nat → Nat := fun i => if i < n0 then f i else l + (i - n0)
/-- how the store looks before (by x) and after (by y) -/
structure SegAtK (f : Nat → Nat) (n0 n1 : Nat) {α β : Type} (sh0 : α → List SO) (sh1 : β → List SO) (x : α) (os : List SO) (G : β → List SO) : Prop where
  le : n0 ≤ n1
  inj : ∀ i j, i < n0 → j < n0 → f i = f j → i = j
  sh : ShOk n0 (sh0 x)
  at_ : ∀ (i : Nat) (o : SO), (sh0 x)[i]? = some o → os[f i]? = some (reS f o)
  len : ∀ y, (G y).length = os.length + (n1 - n0)
  at2 : ∀ y (i : Nat) (o : SO), (sh1 y)[i]? = some o → (G y)[gAt f n0 os.length i]? = some (reS (gAt f n0 os.length) o)
  out : ∀ y j, j < os.length → (∀ i, i < n0 → j ≠ f i) → (G y)[j]? = os[j]?
theorem seg_callK {n0 n1 : Nat} {β : Type} {sh0 : α → List SO} {sh1 : β → List SO} {R : α → List SV → β → Prop} {G : β → List SO} {vs : List V} {Q : VK} {E : XK} (S : SegAtK f n0 n1 sh0 sh1 x os G) (ok : Ok c ad env os σ H) (hl : ∀ s ∈ ds, SvLt n0 s) (ha : Paired (SvOk c.K (Nof c ad os) ad os.length H) vs (ds.map (reV f))) (hR : ∃ y, R x ds y)
    (q : ∀ H2 ad' y, R x ds y → (∀ j, j < os.length → ad' j = ad j) → Ok c ad' env (G y) σ H2 → Q .non H2) : spK c.K n0 n1 sh0 sh1 R vs H Q E := by
  have hlt : ∀ i, i < n0 → ∃ o, (sh0 x)[i]? = some o ∧ o.live = true ∧ os[f i]? = some (reS f o) := fun i hi => by
    have hh : i < (sh0 x).length := by rw [S.sh.len]; exact hi
    have e := List.getElem?_eq_getElem hh
    exact ⟨_, e, S.sh.live _ _ e, S.at_ i _ e⟩
  have lv : ∀ i, i < n0 → Lv os (f i) := fun i hi => by
    obtain ⟨o, _, h2, h3⟩ := hlt i hi
    exact ⟨_, h3, by rw [reS_live]; exact h2⟩
  have flt : ∀ i, i < n0 → f i < os.length := fun i hi => by obtain ⟨o, e, _⟩ := lv i hi; exact (List.getElem?_eq_some_iff.mp e).1
  have hNs : ∀ a, SegN (fun a => Nof c ad os a ∧ ∀ i, i < n0 → a ≠ ad (f i)) (fun i => ad (f i)) n0 a ↔ Nof c ad os a := fun a => by
    constructor
    · rintro (z | ⟨i, hi, z⟩)
      · exact z.1
      · exact z ▸ Or.inr ⟨f i, lv i hi, rfl⟩
    · intro z
      by_cases h : ∃ i, i < n0 ∧ a = ad (f i)
      · exact Or.inr h
      · exact Or.inl ⟨z, fun i hi e => h ⟨i, hi, e⟩⟩
  have hNeq : SegN (fun a => Nof c ad os a ∧ ∀ i, i < n0 → a ≠ ad (f i)) (fun i => ad (f i)) n0 = Nof c ad os := funext fun a => propext (hNs a)
  refine ⟨fun a => Nof c ad os a ∧ ∀ i, i < n0 → a ≠ ad (f i), fun i => ad (f i), x, ds, S.sh, ⟨fun i o e => ?_, fun i j hi hj e => S.inj i j hi hj (ok.inj _ _ (lv i hi) (lv j hj) e), fun i hi z => z.2 i hi rfl⟩, fun a z => ok.nof z.1, by rw [hNeq]; exact args_in (f := f) (fun _ z => z) (fun _ _ => rfl) hl ha, hR, fun H' ad1 y hd hsh hsame hfr hch hs => ?_⟩
  · have hi : i < n0 := by rw [← S.sh.len]; exact (List.getElem?_eq_some_iff.mp e).1
    have hl := S.sh.live i o e
    obtain ⟨_, h2⟩ := ok.obj (f i) _ (S.at_ i o e) (by rw [reS_live]; exact hl)
    rw [hNeq]
    refine soOk_in h2 (S.sh.lt.get e) fun v s ls z => ?_
    cases s with
    | i d => exact z
    | t u => exact z
    | ob C m => exact z
    | z m => exact z
    | r k => exact ⟨z.1, ls⟩
  · let ad2 : Nat → Addr := fun j => if j < os.length then ad j else ad1 (n0 + (j - os.length))
    have h2l : ∀ j, j < os.length → ad2 j = ad j := fun j hj => if_pos hj
    have hg : ∀ i, i < n1 → ad2 (gAt f n0 os.length i) = ad1 i := fun i hi => by
      show (if gAt f n0 os.length i < os.length then _ else _) = _
      unfold gAt
      by_cases h : i < n0
      · rw [if_pos h, if_pos (flt i h), hsame i h]
      · rw [if_neg h, if_neg (by omega)]
        congr 1
        omega
    have gl : ∀ i, i < n1 → gAt f n0 os.length i < os.length + (n1 - n0) := fun i hi => by
      unfold gAt
      by_cases h : i < n0
      · rw [if_pos h]; have := flt i h; omega
      · rw [if_neg h]; omega
    have hlt2 : ∀ i, i < n1 → ∃ o, (sh1 y)[i]? = some o ∧ o.live = true ∧ (G y)[gAt f n0 os.length i]? = some (reS (gAt f n0 os.length) o) := fun i hi => by
      have hh : i < (sh1 y).length := by rw [hsh.len]; exact hi
      have e := List.getElem?_eq_getElem hh
      exact ⟨_, e, hsh.live _ _ e, S.at2 y i _ e⟩
    have ok1 : Ok c ad2 env (os ++ List.replicate (n1 - n0) .x) σ H := ok.grow h2l
    have outx : ∀ j, (¬ ∃ i, i < n1 ∧ j = gAt f n0 os.length i) → (G y)[j]? = (os ++ List.replicate (n1 - n0) SO.x)[j]? := fun j hj => by
      by_cases h : j < os.length
      · rw [List.getElem?_append_left h]
        refine S.out y j h fun i hi e => hj ⟨i, Nat.lt_of_lt_of_le hi S.le, ?_⟩
        unfold gAt; rw [if_pos hi]; exact e
      · by_cases h2 : j < os.length + (n1 - n0)
        · exfalso
          have hle := S.le
          refine hj ⟨n0 + (j - os.length), by omega, ?_⟩
          unfold gAt; rw [if_neg (by omega)]; omega
        · rw [List.getElem?_eq_none (by rw [S.len]; omega), List.getElem?_eq_none (by simp; omega)]
    have hNof2 : ∀ a, Nof c ad2 (G y) a → SegN (fun a => Nof c ad os a ∧ ∀ i, i < n0 → a ≠ ad (f i)) ad1 n1 a := fun a z => by
      rcases z with z | ⟨k, l, e⟩
      · refine Or.inl ⟨Or.inl z, fun i hi e => ok.nn (f i) (lv i hi) (e ▸ z)⟩
      · by_cases h : ∃ i, i < n1 ∧ k = gAt f n0 os.length i
        · obtain ⟨i, hi, rfl⟩ := h
          exact Or.inr ⟨i, hi, by rw [e, hg i hi]⟩
        · unfold Lv at l
          rw [outx k h] at l
          obtain ⟨o, e1, l1⟩ := l
          have hk : k < os.length := by
            by_cases hk : k < os.length
            · exact hk
            · rw [List.getElem?_append_right (by omega), List.getElem?_replicate] at e1
              split at e1
              · cases e1; cases l1
              · cases e1
          rw [List.getElem?_append_left hk] at e1
          rw [h2l k hk] at e
          refine Or.inl ⟨Or.inr ⟨k, ⟨o, e1, l1⟩, e⟩, fun i hi e2 => h ⟨i, Nat.lt_of_lt_of_le hi S.le, ?_⟩⟩
          unfold gAt
          rw [if_pos hi]
          exact ok.inj k (f i) ⟨o, e1, l1⟩ (lv i hi) (e.symm.trans e2)
    refine q H' ad2 y hd h2l (ok1.chgK (S := fun j => ∃ i, i < n1 ∧ j = gAt f n0 os.length i) (by rw [S.len]; simp) (fun j hj => ?_) (fun a b ha hb e => ?_) outx (fun a u e ne => hch a u e fun i hi z => ne (gAt f n0 os.length i) ⟨i, Nat.lt_of_lt_of_le hi S.le, rfl⟩ ?_))
    · obtain ⟨i, hi, rfl⟩ := hj
      obtain ⟨o', g1, g2, g3⟩ := hlt2 i hi
      have so := hs.obj i o' g1
      have hso : SoOk c.K (Nof c ad2 (G y)) ad2 (os ++ List.replicate (n1 - n0) SO.x).length H' (ad2 (gAt f n0 os.length i)) (reS (gAt f n0 os.length) o') := by
        rw [hg i hi]
        refine soOk_out so fun v s z => ?_
        cases s with
        | i d => exact Dn.sub hNof2 z
        | t u => exact TOk.sub hNof2 z
        | ob C m => exact ObOk.sub hNof2 z
        | z m => exact ZOk.sub hNof2 z
        | r k => exact ⟨by rw [hg k z.2]; exact z.1, by simp; exact gl k z.2⟩
      by_cases h : i < n0
      · obtain ⟨o, h1, h2, h3⟩ := hlt i h
        have e : gAt f n0 os.length i = f i := by unfold gAt; rw [if_pos h]
        refine ⟨_, _, by rw [e, List.getElem?_append_left (flt i h)]; exact h3, Or.inl (by rw [reS_live]; exact h2), g3, by rw [reS_live]; exact g2, hso⟩
      · refine ⟨.x, _, ?_, Or.inr ?_, g3, by rw [reS_live]; exact g2, hso⟩
        · unfold gAt
          rw [if_neg h, List.getElem?_append_right (by omega), List.getElem?_replicate, if_pos (by omega)]
        · rw [hg i hi]; exact hfr i (by omega) hi
    · obtain ⟨i, hi, rfl⟩ := ha
      obtain ⟨j, hj, rfl⟩ := hb
      rw [hg i hi, hg j hj] at e
      rw [hs.inj i j hi hj e]
    · rw [hg i (Nat.lt_of_lt_of_le hi S.le), hsame i hi]
      exact z
def RetK {β : Type} (sh1 : β → List SO) (n1 : Nat) (R : α → List SV → β → Prop) (c : Cn) (x : α) (ds : List SV) (D : Ends) : Prop := ∀ ad env os σ H2 y, Ok c ad env os σ H2 → (∀ (i : Nat) (o : SO), (sh1 y)[i]? = some o → os[i]? = some o) → ShOk n1 (sh1 y) → R x ds y → D.nx σ H2
theorem g_endK {β : Type} {sh1 : β → List SO} {n1 : Nat} {R : α → List SV → β → Prop} {y : β} (k : RetK sh1 n1 R c x ds D) (hos : ∀ (i : Nat) (o : SO), (sh1 y)[i]? = some o → os[i]? = some o) (hs : ShOk n1 (sh1 y)) (hR : R x ds y) : Go c env os tNext D := fun ad σ H ok => k ad env os σ H y ok hos hs hR
theorem run_spK {K : PySem.W.Frag} {n0 n1 : Nat} {β : Type} {sh0 : α → List SO} {sh1 : β → List SO} {R : α → List SV → β → Prop} {vs : List V} {Q : VK} {E : XK} {Nm : List Str} {t : TS} (h : spK K n0 n1 sh0 sh1 R vs H Q E) (hl : vs.length ≤ Nm.length) (hn : n0 ≤ n1)
    (gg : ∀ (N : Addr → Prop) (ad : Nat → Addr) (x : α) (ds : List SV), ShOk n0 (sh0 x) → (∃ y, R x ds y) → RetK sh1 n1 R (cnS K H N ad n0) x ds (De Q) → Go (cnS K H N ad n0) (envG Nm.length ds) (sh0 x) t (De Q)) : t (De Q) (L2.start Nm vs) H := by
  obtain ⟨N, ad, x, ds, hs, so, hN, ha, hR, hq⟩ := h
  refine gg N ad x ds hs hR (fun ad' env os σ H2 y ok hos hs' hd => ?_) _ _ _ (ok_startG hs so hN ha (by rw [← Paired.length ha]; exact hl))
  have had : ∀ j, j < n0 → ad' j = ad j := fun j hj => by
    obtain ⟨f1, _⟩ := (show V.ref (ad j) = .ref (ad' j) ∧ _ from ok.frm (.ref (ad j), .r j) (List.mem_map.mpr ⟨j, List.mem_range.mpr hj, rfl⟩))
    exact (V.ref.inj f1).symm
  have hlt : ∀ i, i < n1 → Lv os i := fun i hi => by
    have hh : i < (sh1 y).length := by rw [hs'.len]; exact hi
    have e := List.getElem?_eq_getElem hh
    exact ⟨_, hos i _ e, hs'.live i _ e⟩
  have hNs : ∀ a, SegN N ad' n1 a → Nof (cnS K H N ad n0) ad' os a := fun a z => by
    rcases z with z | ⟨j, hj, e⟩
    · exact Or.inl z
    · exact Or.inr ⟨j, hlt j hj, e⟩
  show Q .non H2
  refine hq H2 ad' y hd hs' had (fun j h0 h1 => ?_) (fun a u e ne => ok.ex a u e fun ⟨j, hj, z⟩ => ne j hj z) ⟨fun i o e => ?_, fun i j hi hj z => ok.inj i j (hlt i hi) (hlt j hj) z, fun i hi z => ok.nn i (hlt i hi) z⟩
  · obtain ⟨o, e, l⟩ := hlt j h1
    rcases (ok.obj j o e l).1 with z | ⟨i, hi, z⟩
    · exact z
    · rw [← had i hi] at z
      have := ok.inj j i ⟨o, e, l⟩ (hlt i (Nat.lt_of_lt_of_le hi hn)) z
      omega
  · obtain ⟨_, h2⟩ := ok.obj i o (hos i o e) (hs'.live i o e)
    have lt := hs'.lt.get e
    have hv : ∀ v s, SvLt n1 s → SvOk K (Nof (cnS K H N ad n0) ad' os) ad' os.length H2 v s → SvOk K (SegN N ad' n1) ad' n1 H2 v s := fun v s l z => by
      cases s with
      | i d => exact Dn.sub hNs z
      | t u => exact TOk.sub hNs z
      | ob C m => exact ObOk.sub hNs z
      | z m => exact ZOk.sub hNs z
      | r k => exact ⟨z.1, l⟩
    cases o with
    | x => exact True.intro
    | lst xs => obtain ⟨vs, e, p⟩ := h2; exact ⟨vs, e, Paired.impR p fun a b m q => hv _ _ (lt b m) q⟩
    | dK kvs => obtain ⟨vs, e, p⟩ := h2; exact ⟨vs, e, Paired.impR p fun a b m q => ⟨q.1, hv _ _ (lt b m) q.2⟩⟩
    | dT kvs => obtain ⟨vs, e, p⟩ := h2; exact ⟨vs, e, Paired.impR p fun a b m q => ⟨q.1, hv _ _ (lt b m) q.2⟩⟩
    | ho g => exact h2
    | tb P => exact h2
    | nums => exact h2
    | lk lo kvs => obtain ⟨e, p⟩ := h2; exact ⟨e, Paired.impR p fun a b m q => ⟨q.1, hv _ _ (lt b m) q.2⟩⟩
    | stt k => obtain ⟨v, a, m, e, r⟩ := h2; exact ⟨v, a, m, e, hv v (.r k) lt r⟩
    | ob C fs => obtain ⟨dx, vs, e, p⟩ := h2; exact ⟨dx, vs, e, Paired.impR p fun a b m q => ⟨q.1, hv _ _ (lt b m) q.2⟩⟩
/-! ### arguments that are made, makers -/
def EvAPG (c : Cn) (env : Sy) (os : List SO) (ta : TA) (ss : List SV) (os2 : List SO) : Prop := ∀ ad σ H, Ok c ad env os σ H → ∀ Q : List V → Hp → Prop, (∀ ad' vs H2, Ok c ad' env os2 σ H2 → Paired (SvOk c.K (Nof c ad' os2) ad' os2.length H2) vs ss → Q vs H2) → ta σ H Q
theorem EvAS.asG {ss : List SV} (h : EvAS c env os tr ss) : EvAPG c env os tr ss os := fun ad σ H ok Q q => h ad σ H ok _ fun vs H2 e r => q ad vs H2 (ok.ext e) r
theorem eapg_g {k : Nat} {ss : List SV} {os1 : List SO} (h : EvG c env os te k os1) (hr : ∀ v, EvAPG (c.w ((v, .r k) :: c.fr) os1.length) env os1 tr ss os2) : EvAPG c env os (tCons te tr) (.r k :: ss) os2 := fun ad σ H ok Q q => h.2 ad σ H ok _ fun ad1 H1 ok1 => by
  refine hr _ ad1 σ H1 (ok1.pin (v := .ref (ad1 k)) (s := .r k) ⟨rfl, h.1⟩) _ fun ad' vs H2 ok2 r2 => ?_
  exact q ad' _ H2 (up_pin (v := .ref (ad1 k)) (s := .r k) ok1 _ _ _ _ _ ok2) (.cons ((ok2.frm (_, .r k) (List.mem_cons_self ..)).lift ok2.low) r2)
theorem eg_F {o : SO} (h : EvF c env os te o) : EvG c env os te os.length (os ++ [o]) := ⟨by simp, fun ad σ H ok Q q => h ad σ H ok _ fun p H2 hp e r => by
  have ok2 := ok.new hp e (fresh0 ok hp) r
  have := q _ H2 ok2
  rw [adN_same] at this
  exact this⟩
/-- gives an object of the store, which has changed -/
def EvGN (c : Cn) (env : Sy) (os : List SO) (te : TE) (P : Nat → List SO → Prop) : Prop := ∀ ad σ H, Ok c ad env os σ H → ∀ Q : VK, (∀ ad' H2 k os', P k os' → k < os'.length → Ok c ad' env os' σ H2 → Q (.ref (ad' k)) H2) → te σ H Q
theorem gs_asgGN {i : Nat} {P : Nat → List SO → Prop} (h : EvGN c env os te P) (k : ∀ k os', P k os' → Go c (env.set i (some (.r k))) os' u D) : Go c env os (tSeq (tAsg te (gName i)) u) D := fun ad σ H ok => h ad σ H ok _ fun ad' H2 j os' p hj ok2 => k j os' p ad' _ H2 (ok2.set (s := .r j) ⟨rfl, hj⟩)
/-! ### fields -/
theorem lookup_so {F : V → SV → Prop} {fn : Str} {s : SV} : ∀ {fs : List (Str × V)} {m : List (Str × SV)}, Paired (fun (p : Str × V) (q : Str × SV) => p.1 = q.1 ∧ F p.2 q.2) fs m → m.lookup fn = some s → ∃ v, fs.lookup fn = some v ∧ F v s
  | _, _, .nil, h => by cases h
  | (a1, a2) :: l, (b1, b2) :: m, .cons r t, h => by
    have e : a1 = b1 := r.1
    subst e
    rw [List.lookup_cons] at h ⊢
    cases hq : (fn == a1) with
    | true => rw [hq] at h; cases h; exact ⟨a2, rfl, r.2⟩
    | false => rw [hq] at h; exact lookup_so t h
theorem ex_fldO {k : Nat} {C : Addr} {fn : Str} {fs : List (Str × SV)} (h : EvR c env os te k) (hk : os[k]? = some (.ob C fs)) (kc : Cls c.K C) (kn : NoAttr c.K C fn) (hf : fs.lookup fn = some (.i d)) : EvX w c env os (tFld c.K te fn) d := EvX.weak fun ad σ H ok Q q => h.2 ad σ H ok _ fun H2 e => by
  obtain ⟨_, dx, vs, e1, pv⟩ := (ok.ext e).obj k _ hk rfl
  obtain ⟨v, l, r⟩ := lookup_so pv hf
  exact ⟨ad k, C, dx, vs, v, rfl, e1, kc, kn, l, q v H2 e (by rw [Nw_false]; exact r)⟩
theorem er_fldO {k j : Nat} {C : Addr} {fn : Str} {fs : List (Str × SV)} (h : EvR c env os te k) (hk : os[k]? = some (.ob C fs)) (kc : Cls c.K C) (kn : NoAttr c.K C fn) (hf : fs.lookup fn = some (.r j)) (hj : j < os.length) : EvR c env os (tFld c.K te fn) j := ⟨hj, fun ad σ H ok Q q => h.2 ad σ H ok _ fun H2 e => by
  obtain ⟨_, dx, vs, e1, pv⟩ := (ok.ext e).obj k _ hk rfl
  obtain ⟨v, l, r⟩ := lookup_so pv hf
  obtain ⟨rfl, _⟩ := (show v = .ref (ad j) ∧ _ from r)
  exact ⟨ad k, C, dx, vs, _, rfl, e1, kc, kn, l, q H2 e⟩⟩
/-- o.f += number -/
theorem gs_fldAug {k : Nat} {C : Addr} {fn : Str} {fs : List (Str × SV)} {i j : Int} {to tv : TE} (hl : EvR c env os to k) (hk : os[k]? = some (.ob C fs)) (kc : Cls c.K C) (kn : NoAttr c.K C fn) (hf : fs.lookup fn = some (.i (.int i))) (h : EvX true c env os tv (.int j)) (hz : fs.length < 1000) (g : Go c env (os.set k (.ob C (putS fn (.i (.int (i + j))) fs))) u D) :
    Go c env os (tSeq (sFldAug c.K to tv (fun x y H Q => ∃ i j, x = .int i ∧ y = .int j ∧ Q (.int (i + j)) H) fn) u) D := fun ad σ H ok => hl.2 ad σ H ok _ fun H1 e1 => by
  have ok1 := ok.ext e1
  obtain ⟨_, dx, vs, h1, pv⟩ := ok1.obj k _ hk rfl
  obtain ⟨v, l, r⟩ := lookup_so pv hf
  have hv : v = .int i := dn_int (show Dn _ _ _ _ _ from r)
  subst hv
  refine ⟨ad k, C, dx, vs, _, rfl, h1, kc, kn, l, h ad σ H1 ok1 _ fun y H2 e2 r2 => ⟨i, j, rfl, dn_int r2, ?_⟩⟩
  have ok2 := ok1.ext e2
  obtain ⟨_, dx2, vs2, h2, pv2⟩ := ok2.obj k _ hk rfl
  have hN : Nof c ad os (ad k) := Or.inr ⟨k, ⟨_, hk, rfl⟩, rfl⟩
  refine ⟨dx2, vs2, h2, by rw [Paired.length pv2]; exact hz, g ad σ _ (ok2.mut hk rfl rfl ⟨dx2, _, upd_same, ?_⟩)⟩
  exact paired_put (show Dn _ _ _ _ _ from .int _) (Paired.imp pv2 fun _ _ z => ⟨z.1, z.2.mut h2 rfl hN⟩)
/-- (.., o.f, ..) = value -/
def gFld (K : PySem.W.Frag) (to : TE) (fn : Str) : TG := fun v σ H Q => to σ H fun x H1 => ∃ a C dx fs, x = .ref a ∧ H1 a = some (.ins C dx fs) ∧ Cls K C ∧ NoAttr K C fn ∧ fs.length < 1000 ∧ Q σ (upd H1 a (.ins C dx (putF fn v fs)))
theorem pg_fld {X : Cx} {K : PySem.W.Frag} {o : Expr} {fn : Str} {pos : Pos} {to : TE} (ho : PE X o to) (hk : X.K = K := by rfl)
    (ha : ∀ v, assign (.Attribute o fn pos) X.env v = (do
      let ov ← holding [v] (eval o X.env)
      standAt pos.atName
      holding [v, ov] (setAttr ov fn v)
      release [v, ov] []) := by intro _; rfl) : PG X (.Attribute o fn pos) (gFld K to fn) := by
  subst hk
  refine ⟨fun pins s σ H v u Q I r h => ?_⟩
  rw [ha]
  refine wpAny_bind (wpAny_holding (thn (ho.run pins s σ H _ I h) fun ov s1 ⟨x, H1, I1, r1, a, C, dx, fs, e0, ea, kc, kn, hl, q1⟩ => ?_))
  subst e0
  obtain rfl : ov = Value.ref a := r1
  refine wpAny_bind (wpAny_standAt (wpAny_bind (wpAny_holding (setattr_ok I1 ea kc kn hl r fun s3 I3 => ?_))))
  exact wpAny_release ⟨σ, _, I3, q1⟩
/-- C(..), without keywords and defaults: the new instance stands behind os2, what it makes behind it -/
theorem egn_makeN {n0 n1 : Nat} {β : Type} {sh0 : α → List SO} {sh1 : β → List SO} {R : α → List SV → β → Prop} {G : β → List SO} {C : Addr} {E : XK} (ha : EvAPG c env os tr (ds.map (reV f)) os2) (hf0 : f 0 = os2.length) (h0 : 0 < n0) (hl : ∀ s ∈ ds, SvLt n0 s) (S : SegAtK f n0 n1 sh0 sh1 x (os2 ++ [.ob C []]) G) (hR : ∃ y, R x (.r 0 :: ds) y) :
    EvGN c env os (tMake C (spK c.K n0 n1 sh0 sh1 R) [] E tr) (fun k os' => k = os2.length ∧ ∃ y, R x (.r 0 :: ds) y ∧ os' = G y) := fun ad σ H ok Q q => ha ad σ H ok _ fun ad1 vs H1 ok1 r1 => by
  intro p dx hx hdx hne
  have e3 : Ex H1 (upd H1 dx (.own p)) := Ex.new hdx
  have hx3 : upd H1 dx (.own p) p = none := by rw [upd_ne (Ne.symm hne)]; exact hx
  have e4 : Ex (upd H1 dx (.own p)) (upd (upd H1 dx (.own p)) p (.ins C dx [])) := Ex.new hx3
  have ok2 := ok1.new (o := .ob C []) (p := p) hx (e3.trans e4) (fresh0 ok1 hx) ⟨dx, [], upd_same, .nil⟩
  have hargs : Paired (SvOk c.K (Nof c (adN ad1 os2.length p) (os2 ++ [.ob C []])) (adN ad1 os2.length p) (os2 ++ [SO.ob C []]).length (upd (upd H1 dx (.own p)) p (.ins C dx []))) (.ref p :: vs) (.r (f 0) :: ds.map (reV f)) := by
    refine .cons ⟨by rw [hf0, adN_same], by rw [hf0]; simp⟩ (Paired.imp r1 fun v s z => ?_)
    have z2 : SvOk c.K (Nof c (adN ad1 os2.length p) (os2 ++ [.ob C []])) ad1 os2.length (upd (upd H1 dx (.own p)) p (.ins C dx [])) v s := by
      cases s with
      | i d => exact ((Dn.add hx3 (Dn.ext e3 z)).ext e4).sub fun a y => Nof_app y
      | ob C m => exact ((ObOk.add hx3 (ObOk.ext e3 z)).ext e4).sub fun a y => Nof_app y
      | z m => exact ((ZOk.add hx3 (ZOk.ext e3 z)).ext e4).sub fun a y => Nof_app y
      | t u => exact ((TOk.add hx3 (TOk.ext e3 z)).ext e4).sub fun a y => Nof_app y
      | r k => exact z
    have := z2.adN (p := p)
    exact this.lift (by simp)
  rw [List.append_nil]
  refine seg_callK (ds := .r 0 :: ds) S ok2 (fun s hs => (List.mem_cons.mp hs).elim (fun e => e ▸ h0) (hl s)) hargs hR fun H3 ad3 y hy hsame ok3 => ⟨rfl, ?_⟩
  have e : ad3 os2.length = p := by rw [hsame _ (by simp), adN_same]
  have hlen : os2.length < (G y).length := by rw [S.len]; simp; omega
  have := q ad3 H3 os2.length (G y) ⟨rfl, y, hy, rfl⟩ hlen ok3
  rw [e] at this
  exact this
/-- the end of a body that tells nothing -/
theorem g_endR {N : Addr → Prop} {H0 : Hp} {K : PySem.W.Frag} {Q : VK} {env : Sy} {os : List SO} (hq : Ret ⟨K, H0, N, fun _ => False, [], 0⟩ .none (De Q)) : Go ⟨K, H0, N, fun _ => False, [], 0⟩ env os tNext (De Q) := fun ad σ H ok => hq .non H ok.ex .non
end
/-! ### makers without keywords -/
def MakN (P : Program) (w : World) (K : PySem.W.Frag) (mg : Str → Option Value) (base : Heap) (k : Nat) (x : Str) (C : Addr) (ps : List Str) (sp : Sp) : Prop :=
  ∃ f fd, Mk K C f ∧ FnOk P w K mg base CX0 k f fd ps sp ∧ Binds K fd ps [] ∧ mg x = some (.ref C)
theorem makN_mk {P : Program} {w : World} {K : PySem.W.Frag} {mg : Str → Option Value} {base : Heap} {x y qual : Str} {st : Stmt} {f : Addr} {fd : FuncData} {N ps : List Str} {k : Nat} {sp : Sp} {C : Addr} (F : FnM K y qual st [] f fd) (S : FnScope N ps (defScope st)) (M : Mk K C f) (g : mg x = some (.ref C)) (len : ∀ vs H Q E, sp vs H Q E → vs.length = ps.length)
    (hb : ∀ (kV doc pm : Value) (an : Option Addr) (cdv ct : Value) (us : List Value), us.length = ps.length → bindArgs (PySem.W.fnOf y qual (defArgs st) (defBody st) (defScope st) .none kV doc pm an cdv ct) ⟨us, []⟩ = pure (ps.zip us))
    (hbody : ∀ (cdv : Value) (A : Around) (outer : List Env) (s : Shared) (H : Hp) (vs : List V) (Q : VK) (E : XK), Room k (A.deeper (envOfC qual (defScope st) s.heap.objs.size f cdv)) → sp vs H Q E →
      ∃ t, PSs (cxOf CX0 P w K mg base N qual (defScope st) f cdv A outer s H E).nox (defBody st) t ∧ t (De Q) (L2.start N vs) H) : MakN P w K mg base (k + 1) x C ps sp :=
  ⟨f, fd, M, F.ok S len fun cdv A outer s H vs Q E hr h => let ⟨t, a, b⟩ := hbody cdv A outer s H vs Q E hr h; ⟨t, a.nox, b⟩, F.bindsN hb, g⟩
section
variable {X : Cx} {k j : Nat} {ps : List Str} {sp : Sp} {x : Str} {p pos : Pos} {e : Expr} {es : List Expr} {t : TA} {C : Addr}
theorem pe_makN (h : MakN X.prog X.w X.K X.mg X.base k x C ps sp) (hr : Room j X.A) (hj : k + 1 ≤ j) (hg : Gl X x) (hx : Passes CX0 X E0) (ha : PA X (e :: es) t) (hdb : (x == ("__debug__" : Str)) = false := by decide)
    (he : starEach (e :: es) X.env = (false, eval e X.env) :: starEach es X.env := by rfl) (hpl : (backTo pos (starEach es X.env)).any (·.1) = false := by rfl) : PE X (.Call (.Name x p) (e :: es) [] pos) (tMake C sp [] E0 t) := by
  obtain ⟨f, fd, M, G, b, g⟩ := h
  exact pe_make M G (hr.mono hj) hg g b .nil hx ha hdb he hpl
end
def rAugI : V → V → Hp → VK → Prop := fun x y H Q => ∃ i j, x = .int i ∧ y = .int j ∧ Q (.int (i + j)) H
theorem kFldAug {X : Cx} {K : PySem.W.Frag} {o value : Expr} {fn : Str} {pos tpos : Pos} {ta tv : TE} (ha : PE X o ta) (hv : PE X value tv) (hk : X.K = K := by rfl) : PS X (.AugAssign (.Attribute o fn tpos) .Add value pos) (sFldAug K ta tv (fun x y H Q => ∃ i j, x = .int i ∧ y = .int j ∧ Q (.int (i + j)) H) fn) := by subst hk; exact ps_fldaug ha hv in_add
theorem kGFld {X : Cx} {K : PySem.W.Frag} {o : Expr} {fn : Str} {pos : Pos} {to : TE} (ho : PE X o to) (hk : X.K = K := by rfl)
    (ha : ∀ v, assign (.Attribute o fn pos) X.env v = (do
      let ov ← holding [v] (eval o X.env)
      standAt pos.atName
      holding [v, ov] (setAttr ov fn v)
      release [v, ov] []) := by intro _; rfl) : PG X (.Attribute o fn pos) (gFld K to fn) := pg_fld ho hk ha
end DL

set_option Elab.async false
set_option linter.all false
set_option maxRecDepth 100000
set_option maxHeartbeats 2000000
/-! The data layer: dicts that no one writes any more, as values. -/
namespace DL
open PySem PySem.Spec PyProof.Rows L2
open Evl (Ex Ex.refl Ex.trans Ex.new)
abbrev dK0 (m : List (Key × PyData)) : PyData := dKd (fun k : Key => k) (fun d : PyData => d) m
section
variable {w : Bool} {c : Cn} {env : Sy} {os : List SO} {te td ty : TE} {d : PyData} {m : List (Key × PyData)}
theorem ez_var {i : Nat} (h : env[i]? = some (some (.z m))) : EvZ c env os (tVar i) m := fun ad σ H ok Q q => by
  obtain ⟨v, h1, h2⟩ := ok.val i _ h
  exact ⟨v, h1, q v H (Ex.refl H) h2⟩
theorem ez_F (h : EvF c env os te (.dK (m.map fun p => (p.1, SV.i p.2)))) : EvZ c env os (tFrz te) m := fun ad σ H ok Q q => h ad σ H ok _ fun p H2 hp e r => by
  obtain ⟨ws, hws, pw⟩ := r
  refine ⟨p, _, rfl, hws, trivial, fun od => q _ _ (fun a o z => ?_) ⟨p, od, ws, rfl, upd_same, fun z => ok.nof z hp, ?_⟩⟩
  · rw [upd_ne (ne_of_none z hp)]
    exact e a o z
  · exact Paired.imp (paired_mapR pw) fun x y z => ⟨z.1, (Dn.mut hws rfl (Or.inr rfl) (show Dn _ _ _ _ _ from z.2)).sub fun a y => Or.inl y⟩
theorem EvZ.ev (h : EvZ c env os te m) : EvX w c env os te (dK0 m) := EvX.weak fun ad σ H ok Q q => h ad σ H ok _ fun v H2 e r => by
  obtain ⟨a, od, ws, rfl, e1, n1, pw⟩ := r
  rw [Nw_false] at q
  exact q _ H2 e (dK_dn (Or.inr ⟨od, e1⟩) n1 pw)
theorem ew_keysZ (h : EvZ c env os td m) : EvW c env os (iKeys td) m.length (itD (m.map fun p => kdat p.1)) (fun _ => True) := fun ad σ H ok R q => h ad σ H ok _ fun v H2 e r => by
  obtain ⟨a, od, ws, rfl, e1, n1, pw⟩ := r
  have ok2 := ok.ext e
  refine ⟨a, od, rfl, Or.inl ⟨ws, e1, ?_⟩⟩
  have hp := ok2.pin (v := .ref a) (s := .t (.frz od (.dK ws))) ⟨a, rfl, e1, .inr n1⟩
  have hu := up_pin (v := .ref a) (s := .t (.frz od (.dK ws))) ok2
  have len : ws.length = m.length := Paired.length pw
  have at' : ∀ {ad' env' os' σ' H'}, Ok (c.w ((.ref a, .t (.frz od (.dK ws))) :: c.fr) os.length) ad' env' os' σ' H' → H' a = some (.frz od (.dK ws)) := fun o => by
    obtain ⟨b, e1, e2, _⟩ := o.frm _ (List.mem_cons_self ..)
    cases e1
    exact e2
  refine q _ _ _ e hp hu ⟨fun i ad env os σ H hi o _ => ⟨at' o, by rw [len]; exact hi⟩, fun ad env os σ H o _ => ⟨at' o, by rw [len]; exact Nat.le_refl _⟩, fun i ad env os σ H x H' hi o _ y => ?_⟩
  obtain ⟨rfl, kx, vx, h1, rfl⟩ := y
  refine ⟨Ex.refl _, ?_⟩
  obtain ⟨b, h3, h4, _⟩ := paired_getL pw h1
  rw [itD_at (d := kdat b.1) (by rw [List.getElem?_map, h3]; rfl)]
  show Dn _ _ _ _ _
  have h4 : kx = b.1 := h4
  rw [← h4]
  exact key_dn kx
theorem ex_dgetZ {kk : Key} (hd : EvZ c env os td m) (hi : EvX true c env os ty (kdat kk)) (hg : getA m kk = some d) : EvX w c env os (tDGet td ty) d := EvX.weak fun ad σ H ok Q q => hd ad σ H ok _ fun v H1 e1 r1 => hi ad σ H1 (ok.ext e1) _ fun y H2 e2 r2 => by
  have r1 := ZOk.ext e2 r1
  obtain ⟨a, od, ws, rfl, h1, n1, pw⟩ := r1
  have key : ∀ {ws : List (Key × V)} {m : List (Key × PyData)}, Paired (fun (p : Key × V) (q : Key × PyData) => p.1 = q.1 ∧ Dn c.K (Nof c ad os) H2 p.2 q.2) ws m → getA m kk = some d → ∃ x, valV ws kk = some x ∧ Dn c.K (Nof c ad os) H2 x d := by
    intro ws m pw
    induction pw with
    | nil => intro h; cases h
    | @cons p q _ _ r t ih =>
      intro h
      by_cases hk : p.1 = kk
      · refine ⟨p.2, valV_pos hk, ?_⟩
        unfold getA at h
        rw [if_pos (r.1 ▸ hk)] at h
        cases h
        exact r.2
      · have hk' : ¬ q.1 = kk := r.1 ▸ hk
        unfold getA at h
        rw [if_neg hk'] at h
        obtain ⟨x, a, b⟩ := ih h
        exact ⟨x, by rw [valV_neg hk]; exact a, b⟩
  obtain ⟨x, hx, hdn⟩ := key pw hg
  exact ⟨a, x, rfl, by rw [dn_key r2, ← hx]; exact .inl ⟨ws, kk, .inr ⟨od, h1⟩, rfl, rfl⟩, q x H2 (e1.trans e2) (by rw [Nw_false]; exact hdn)⟩
/-- o.f = a new object -/
theorem gs_setFldF {k : Nat} {C : Addr} {fn : Str} {fs : List (Str × SV)} {o : SO} {to tv : TE} {u : TS} {D : Ends} (h : EvF c env os tv o) (hl : EvR c env (os ++ [o]) to k) (hk : os[k]? = some (.ob C fs)) (kc : Cls c.K C) (kn : NoAttr c.K C fn) (hz : fs.length < 1000) (g : Go c env ((os ++ [o]).set k (.ob C (putS fn (.r os.length) fs))) u D) : Go c env os (tSeq (sFld c.K to tv fn) u) D := fun ad σ H ok => h ad σ H ok _ fun p H1 hp e1 r1 => by
  have ok1 := ok.new hp e1 (fresh0 ok hp) r1
  refine hl.2 _ σ H1 ok1 _ fun H2 e2 => ?_
  have ok2 := ok1.ext e2
  have hk2 : (os ++ [o])[k]? = some (.ob C fs) := by rw [List.getElem?_append_left (List.getElem?_eq_some_iff.mp hk).1]; exact hk
  obtain ⟨_, dx, vs, hvs, pv⟩ := ok2.obj k _ hk2 rfl
  have hN : Nof c (adN ad os.length p) (os ++ [o]) (adN ad os.length p k) := Or.inr ⟨k, ⟨_, hk2, rfl⟩, rfl⟩
  refine ⟨_, C, dx, vs, rfl, hvs, kc, kn, by rw [Paired.length pv]; exact hz, g _ σ _ (ok2.mut hk2 rfl rfl ⟨dx, _, upd_same, ?_⟩)⟩
  exact paired_put (show SvOk c.K _ _ _ _ (.ref p) (.r os.length) from ⟨by rw [adN_same], by simp⟩) (Paired.imp pv fun _ _ z => ⟨z.1, z.2.mut hvs rfl hN⟩)
end
end DL
namespace DL
open PySem PySem.Spec PyProof.Rows L2
open Evl (Ex Ex.refl Ex.trans Ex.new)
/-- a dict of data is data from now on -/
theorem Ok.ownK {c : Cn} {ad : Nat → Addr} {env : Sy} {os : List SO} {σ : L2.St} {H : Hp} {i k : Nat} {m : List (Key × PyData)} (ok : Ok c ad env os σ H) (hi : env[i]? = some (some (.r k))) (hk : os[k]? = some (.dK (m.map fun p => (p.1, SV.i p.2)))) :
    Ok c ad (env.set i (some (.i (dK0 m)))) (os.set k .x) σ H := by
  have lk : Lv os k := ⟨_, hk, rfl⟩
  have hl : ∀ j, Lv (os.set k .x) j → Lv os j ∧ j ≠ k := fun j h => by
    obtain ⟨u, e, hu⟩ := h
    by_cases q : k = j
    · subst q
      rw [List.getElem?_set_self (List.getElem?_eq_some_iff.mp hk).1] at e
      cases e; cases hu
    · rw [List.getElem?_set_ne q] at e; exact ⟨⟨u, e, hu⟩, fun z => q z.symm⟩
  have hN : ∀ a, Nof c ad (os.set k .x) a → Nof c ad os a ∧ a ≠ ad k := fun a h => by
    rcases h with h | ⟨j, l, e⟩
    · exact ⟨Or.inl h, fun z => ok.nn k lk (z ▸ h)⟩
    · obtain ⟨l', ne⟩ := hl j l
      exact ⟨Or.inr ⟨j, l', e⟩, fun z => ne (ok.inj j k l' lk (e.symm.trans z))⟩
  have hv : ∀ v s, SvOk c.K (Nof c ad os) ad os.length H v s → SvOk c.K (Nof c ad (os.set k .x)) ad (os.set k .x).length H v s := fun v s h => by
    rw [List.length_set]
    exact h.sub fun a q => (hN a q).1
  obtain ⟨v0, hv0, e0, _⟩ := ok.val i _ hi
  obtain ⟨_, vs, hvs, pv⟩ := ok.obj k _ hk rfl
  have hd : Dn c.K (Nof c ad (os.set k .x)) H v0 (dK0 m) := by
    rw [e0]
    exact dK_dn (Or.inl hvs) (fun z => (hN _ z).2 rfl) (Paired.imp (paired_mapR pv) fun x y z => ⟨z.1, (show Dn _ _ _ _ _ from z.2).sub fun a q => (hN a q).1⟩)
  refine ⟨by rw [List.length_set]; exact ok.len, ok.ex, ok.n0, fun j s h => ?_, fun j o h l => ?_, fun a b la lb => ok.inj a b (hl a la).1 (hl b lb).1, fun a la => ok.nn a (hl a la).1, fun p hp => (ok.frm p hp).sub fun a q => (hN a q).1, by rw [List.length_set]; exact ok.low⟩
  · by_cases q : i = j
    · subst q
      rw [List.getElem?_set_self (List.getElem?_eq_some_iff.mp hi).1] at h
      cases h
      exact ⟨v0, hv0, hd⟩
    · rw [List.getElem?_set_ne q] at h
      obtain ⟨v, h1, h2⟩ := ok.val j s h
      exact ⟨v, h1, hv v s h2⟩
  · by_cases q : k = j
    · subst q
      rw [List.getElem?_set_self (List.getElem?_eq_some_iff.mp hk).1] at h
      cases h; cases l
    · rw [List.getElem?_set_ne q] at h
      obtain ⟨h1, h2⟩ := ok.obj j o h l
      exact ⟨h1, h2.map hv fun u e => e⟩
theorem gs_ownK {c : Cn} {env : Sy} {os : List SO} {i k : Nat} {m : List (Key × PyData)} {u : TS} {D : Ends} (hi : env[i]? = some (some (.r k))) (hk : os[k]? = some (.dK (m.map fun p => (p.1, SV.i p.2)))) (g : Go c (env.set i (some (.i (dK0 m)))) (os.set k .x) u D) : Go c env os u D := fun ad σ H ok => g ad σ H (ok.ownK hi hk)
end DL
namespace DL
open PySem PySem.Spec PyProof.Rows L2
open Evl (Ex Ex.refl Ex.trans Ex.new)
/-- d.get(k), a dict of the store that holds data -/
theorem ex_dget1O {w : Bool} {c : Cn} {env : Sy} {os : List SO} {td ty : TE} {k : Nat} {m : List (Key × PyData)} {kk : Key} (hl : EvR c env os td k) (hk : os[k]? = some (.dK (m.map fun p => (p.1, SV.i p.2)))) (hi : EvX true c env os ty (kdat kk)) : EvX w c env os (tDGet1 td ty) ((getA m kk).getD .none) := EvX.weak fun ad σ H ok Q q => hl.2 ad σ H ok _ fun H1 e1 => by
  have ok1 := ok.ext e1
  obtain ⟨_, ws1, hw1, _⟩ := ok1.obj k _ hk rfl
  refine ⟨ad k, rfl, Or.inl ⟨ws1, .inl hw1⟩, hi ad σ H1 ok1 _ fun y H2 e2 r2 => ?_⟩
  obtain ⟨_, ws, hws, pw⟩ := (ok1.ext e2).obj k _ hk rfl
  have key : ∀ {ws : List (Key × V)} {m : List (Key × PyData)}, Paired (fun (p : Key × V) (q : Key × PyData) => p.1 = q.1 ∧ Dn c.K (Nof c ad os) H2 p.2 q.2) ws m → Dn c.K (Nof c ad os) H2 ((valV ws kk).getD .non) ((getA m kk).getD .none) := by
    intro ws m pw
    induction pw with
    | nil => exact .non
    | @cons p q _ _ r t ih =>
      by_cases h : p.1 = kk
      · have h' : q.1 = kk := r.1 ▸ h
        rw [valV_pos h]
        unfold getA
        rw [if_pos h']
        exact r.2
      · have h' : ¬ q.1 = kk := r.1 ▸ h
        rw [valV_neg h]
        unfold getA
        rw [if_neg h']
        exact ih
  refine ⟨_, by rw [dn_key r2]; exact .inl ⟨ws, kk, .inl hws, rfl, rfl⟩, q _ H2 (e1.trans e2) (by rw [Nw_false]; exact key (Paired.imp (paired_mapR pw) fun _ _ z => z))⟩
theorem reV_id (s : SV) : reV (fun i => i) s = s := by cases s <;> rfl
theorem reS_id (o : SO) : reS (fun i => i) o = o := by
  cases o with
  | lst xs => show SO.lst (xs.map (reV fun i => i)) = _; rw [List.map_congr_left fun a _ => reV_id a, List.map_id']
  | dK kvs => show SO.dK (kvs.map fun p => (p.1, reV (fun i => i) p.2)) = _; rw [List.map_congr_left (g := id) fun a _ => by rw [reV_id]; rfl, List.map_id]
  | lk lo kvs => show SO.lk lo (kvs.map fun p => (p.1, reV (fun i => i) p.2)) = _; rw [List.map_congr_left (g := id) fun a _ => by rw [reV_id]; rfl, List.map_id]
  | dT kvs => show SO.dT (kvs.map fun p => (p.1, reV (fun i => i) p.2)) = _; rw [List.map_congr_left (g := id) fun a _ => by rw [reV_id]; rfl, List.map_id]
  | ob C fs => show SO.ob C (fs.map fun p => (p.1, reV (fun i => i) p.2)) = _; rw [List.map_congr_left (g := id) fun a _ => by rw [reV_id]; rfl, List.map_id]
  | x => rfl
  | ho g => rfl
  | tb P => rfl
  | nums => rfl
  | stt k => rfl
/-- the store is the segment -/
theorem segAt_self {α : Type} {n : Nat} {shape : α → List SO} (h : ∀ x, ShOk n (shape x)) : SegAt (fun i => i) n shape shape := ⟨fun _ _ _ _ e => e, h, fun x i o e => by rw [reS_id]; exact e, fun x y => by rw [(h x).len, (h y).len], fun x y j hj => by
  have : n ≤ j := by
    by_cases q : j < n
    · exact absurd rfl (hj j q)
    · omega
  rw [List.getElem?_eq_none (by rw [(h x).len]; exact this), List.getElem?_eq_none (by rw [(h y).len]; exact this)]⟩
/-- the segment stands behind pre and before post -/
theorem segAt_mid {α : Type} {n : Nat} {shape : α → List SO} (pre post : List SO) (h : ∀ x, ShOk n (shape x)) : SegAt (fun i => pre.length + i) n shape (fun x => pre ++ ((shape x).map (reS fun i => pre.length + i) ++ post)) := ⟨fun _ _ _ _ e => by omega, h, fun x i o e => by
  have hi : i < (shape x).length := (List.getElem?_eq_some_iff.mp e).1
  rw [List.getElem?_append_right (by omega), Nat.add_sub_cancel_left, List.getElem?_append_left (by rw [List.length_map]; exact hi), List.getElem?_map, e]; rfl, fun x y => by simp [(h x).len, (h y).len], fun x y j hj => by
  by_cases q : j < pre.length
  · rw [List.getElem?_append_left q, List.getElem?_append_left q]
  · by_cases q2 : j < pre.length + n
    · exact absurd (show j = pre.length + (j - pre.length) by omega) (hj (j - pre.length) (by omega))
    · have key : ∀ z, (pre ++ ((shape z).map (reS fun i => pre.length + i) ++ post))[j]? = post[j - pre.length - n]? := fun z => by
        have hz : ((shape z).map (reS fun i => pre.length + i)).length = n := by rw [List.length_map, (h z).len]
        rw [List.getElem?_append_right (show pre.length ≤ j by omega), List.getElem?_append_right (show ((shape z).map (reS fun i => pre.length + i)).length ≤ j - pre.length by rw [hz]; omega), hz]
      rw [key x, key y]⟩
end DL
namespace DL
open PySem PySem.Spec PyProof.Rows L2
open Evl (Ex Ex.refl Ex.trans Ex.new)
/-- o.f = a new object that is made -/
theorem gs_setFldGN {c : Cn} {env : Sy} {os : List SO} {to tv : TE} {u : TS} {D : Ends} {P : Nat → List SO → Prop} {k : Nat} {C : Addr} {fn : Str} (h : EvGN c env os tv P) (g : ∀ j os', P j os' → ∃ fs, EvR c env os' to k ∧ os'[k]? = some (.ob C fs) ∧ Cls c.K C ∧ NoAttr c.K C fn ∧ fs.length < 1000 ∧ Go c env (os'.set k (.ob C (putS fn (.r j) fs))) u D) : Go c env os (tSeq (sFld c.K to tv fn) u) D := fun ad σ H ok => h ad σ H ok _ fun ad' H1 j os' p hj ok1 => by
  obtain ⟨fs, hl, hk, kc, kn, hz, hg⟩ := g j os' p
  refine hl.2 _ σ H1 ok1 _ fun H2 e2 => ?_
  have ok2 := ok1.ext e2
  obtain ⟨_, dx, vs, hvs, pv⟩ := ok2.obj k _ hk rfl
  have hN : Nof c ad' os' (ad' k) := Or.inr ⟨k, ⟨_, hk, rfl⟩, rfl⟩
  refine ⟨_, C, dx, vs, rfl, hvs, kc, kn, by rw [Paired.length pv]; exact hz, hg _ σ _ (ok2.mut hk rfl rfl ⟨dx, _, upd_same, ?_⟩)⟩
  exact paired_put (show SvOk c.K _ _ _ _ (.ref (ad' j)) (.r j) from ⟨rfl, hj⟩) (Paired.imp pv fun _ _ z => ⟨z.1, z.2.mut hvs rfl hN⟩)
end DL
namespace DL
open PySem PySem.Spec PyProof.Rows L2
theorem reS_dk (f : Nat → Nat) (m : List (Key × PyData)) : reS f (.dK (m.map fun p => (p.1, SV.i p.2))) = .dK (m.map fun p => (p.1, SV.i p.2)) := by
  show SO.dK _ = SO.dK _
  rw [List.map_map]
  rfl
theorem reS_ls (f : Nat → Nat) (ds : List PyData) : reS f (.lst (ds.map SV.i)) = .lst (ds.map SV.i) := by
  show SO.lst _ = SO.lst _
  rw [List.map_map]
  rfl
end DL
namespace DL
open PySem PySem.Spec PyProof.Rows L2
open Evl (Ex Ex.refl Ex.trans Ex.new)
section
variable {c : Cn} {env : Sy} {os : List SO} {te ta tb : TE} {d : PyData} {P P1 : List SO → PyData → Prop}
end
end DL
namespace DL
open PySem PySem.Spec PyProof.Rows L2
open Evl (Ex Ex.refl Ex.trans Ex.new)
theorem kBm0 {X : Cx} {K : PySem.W.Frag} {T : String} {r : V → List V → Hp → VK → Prop} {e : Expr} {to : TE} (h : PE X e (tBM0 X.K T r to)) (hk : X.K = K := by rfl) : PE X e (tBM0 K T r to) := by subst hk; exact h
/-- ord(one sign) -/
theorem ex_ord {w : Bool} {c : Cn} {env : Sy} {os : List SO} {ta : TE} {r : List V → Hp → VK → Prop} {a : Nat} (hr : r = (fun xs H Q => ∃ x : Str, xs = [.str x] ∧ x.length = 1 ∧ Q (.int (x.cps.getD 0 0 : Nat)) H)) (ha : EvX true c env os ta (dT [a])) : EvX w c env os (tCB r (tCons ta tNil)) (.int (a : Int)) := fun ad σ H ok Q q => by
  subst hr
  refine ha ad σ H ok _ fun v H1 e1 r1 => ⟨sT [a], by rw [dn_str r1], rfl, q _ H1 e1 (.int _)⟩
end DL
namespace DL
open PySem PySem.Spec PyProof.Rows L2
open Evl (Ex Ex.refl Ex.trans Ex.new)
end DL

set_option Elab.async false
set_option linter.all false
set_option maxRecDepth 100000
set_option maxHeartbeats 2000000
/-! The data layer: instances as data; what stands in the store, read as data. -/
namespace DL
open PySem PySem.Spec PyProof.Rows L2
open Evl (Ex Ex.refl Ex.trans Ex.new)
/-- an instance, as data -/
abbrev insD (C : Addr) (fs : List (Str × PyData)) : PyData := .dict ((.bool true, .int (C : Int)) :: fs.map fun p => (.str p.1, p.2))
section
variable {K : PySem.W.Frag} {N : Addr → Prop} {H : Hp}
theorem dnps_paired : ∀ {fs : List (Str × V)} {m : List (Str × PyData)}, DnPs K N H (fs.map fun p => (PyData.str p.1, p.2)) (m.map fun p => (PyData.str p.1, p.2)) → Paired (fun (p : Str × V) (q : Str × PyData) => p.1 = q.1 ∧ Dn K N H p.2 q.2) fs m
  | [], [], _ => .nil
  | [], _ :: _, h => by cases h
  | _ :: _, [], h => by cases h
  | (a, v) :: fs, (b, d) :: m, h => by
    rw [List.map_cons, List.map_cons] at h
    cases h with
    | cons x y => exact .cons ⟨rfl, x⟩ (dnps_paired y)
theorem paired_dnps : ∀ {fs : List (Str × V)} {m : List (Str × PyData)}, Paired (fun (p : Str × V) (q : Str × PyData) => p.1 = q.1 ∧ Dn K N H p.2 q.2) fs m → DnPs K N H (fs.map fun p => (PyData.str p.1, p.2)) (m.map fun p => (PyData.str p.1, p.2))
  | _, _, .nil => .nil
  | (a, v) :: _, (b, d) :: _, .cons ⟨e, x⟩ y => by
    cases e
    exact .cons x (paired_dnps y)
theorem dn_ins {v : V} {C : Addr} {m : List (Str × PyData)} (h : Dn K N H v (insD C m)) : ObOk K N H v C m := by
  generalize hg : insD C m = d at h
  cases h with
  | dkk r n p =>
    rename_i a ws kvs
    injection hg with hg
    cases ws with
    | nil => cases p; cases hg
    | cons x ws =>
      rw [List.map_cons] at p
      generalize hk : kdat x.1 = kd at p
      cases p
      injection hg with e _
      injection e with e _
      subst e
      obtain ⟨k, y⟩ := x
      cases k <;> cases hk
  | dkt r n p =>
    cases p
    injection hg with hg
    injection hg with e _
    injection e with e _
    cases e
  | dkz r n p =>
    cases p
    injection hg with hg
    injection hg with e _
    injection e with e _
    cases e
  | ft r n p =>
    cases p
    injection hg with hg
    injection hg with e _
    injection e with e _
    cases e
  | ins r n p =>
    injection hg with hg
    subst hg
    cases p with
    | cons x y =>
      have e := Int.ofNat.inj (by simpa using dn_int x)
      subst e
      exact ⟨_, _, _, rfl, r, n, dnps_paired y⟩
  | non => cases hg
  | bl b => cases hg
  | int i => cases hg
  | str x => cases hg
  | lst r n a => cases hg
  | lstK r a => cases hg
  | tup r a => cases hg
theorem ins_dn {v : V} {C : Addr} {m : List (Str × PyData)} (h : ObOk K N H v C m) : Dn K N H v (insD C m) := by
  obtain ⟨a, dx, fs, rfl, h1, h2, h3⟩ := h
  exact .ins h1 h2 (.cons (.int _) (paired_dnps h3))
end
section
variable {w : Bool} {c : Cn} {env env' : Sy} {os os' : List SO} {te ta : TE} {t tk : TA} {d : PyData} {C : Addr} {m : List (Str × PyData)} {u : TS} {D : Ends}
theorem ex_fldD {f : Str} (h : EvX w c env os te (insD C m)) (kc : Cls c.K C) (kn : NoAttr c.K C f) (hf : m.lookup f = some d) : EvX w c env os (tFld c.K te f) d := fun ad σ H ok Q q =>
  h ad σ H ok _ fun v H1 e r => by
    obtain ⟨a, dx, fs, rfl, h1, h2, h3⟩ := dn_ins r
    rcases paired_lookup (f := f) h3 with ⟨_, z⟩ | ⟨v', d', z1, z2, z3⟩
    · rw [hf] at z; cases z
    · rw [hf] at z2
      cases z2
      exact ⟨a, C, dx, fs, v', rfl, h1, kc, kn, z1, q v' H1 e z3⟩
theorem ex_methD {R : List PyData → PyData → Prop} {E : XK} {x : Str} {ds : List PyData} (h : EvX w c env os te (insD C m)) (hx : m.lookup x = none) (ha : EvA w c env os t ds) (hR : R (insD C m :: ds) d) : EvX w c env os (tMeth C x (spD c.K R) [] E te t) d := fun ad σ H ok Q q =>
  h ad σ H ok _ fun v H1 e1 r1 => by
    obtain ⟨a, dx, fs, rfl, h1, h2⟩ := ob_lookup hx (dn_ins r1)
    refine ⟨a, dx, fs, rfl, h1, h2, ha ad σ H1 (ok.ext e1) _ fun vs H2 e2 r2 => ?_⟩
    rw [List.append_nil]
    exact ⟨Nw w c ad os, insD C m :: ds, d, fun b z => ((ok.ext e1).ext e2).nof (Nw_le b z), .cons (r1.ext e2) r2, hR, fun v' H' e' r' => q v' H' ((e1.trans e2).trans e') r'⟩
theorem ef_methDW {R : List PyData → List PyData → Prop} {E : XK} {x : Str} {ds rs : List PyData} (h : EvX true c env os te (insD C m)) (hx : m.lookup x = none) (ha : EvA true c env os t ds) (hR : R (insD C m :: ds) rs) (hn : noLists rs = true) : EvF c env os (tMeth C x (spF c.K R) [] E te t) (.lst (rs.map SV.i)) := fun ad σ H ok Q q =>
  h ad σ H ok _ fun v H1 e1 r1 => by
    obtain ⟨a, dx, fs, rfl, h1, h2⟩ := ob_lookup hx (dn_ins r1)
    refine ⟨a, dx, fs, rfl, h1, h2, ha ad σ H1 (ok.ext e1) _ fun vs H2 e2 r2 => ?_⟩
    rw [List.append_nil]
    exact ⟨Nw true c ad os, insD C m :: ds, rs, fun b z => ((ok.ext e1).ext e2).nof (Nw_le b z), .cons (r1.ext e2) r2, hR, fun p H' ws hp e' g1 g2 => q p H' (e1.free (e2.free hp)) ((e1.trans e2).trans e') ⟨ws, g1, dn_paired (DnAll.goF TP.refl rs ws hn g2)⟩⟩
end
/-! ### what stands in the store, as data -/
mutual
inductive DatO (os : List SO) : SV → PyData → Prop
  | i (d : PyData) : DatO os (.i d) d
  | z (m : List (Key × PyData)) : DatO os (.z m) (dK0 m)
  | ov (C : Addr) (m : List (Str × PyData)) : DatO os (.ob C m) (insD C m)
  | ob {k : Nat} {C : Addr} {fs : List (Str × SV)} {m : List (Str × PyData)} : os[k]? = some (.ob C fs) → DatF os fs m → DatO os (.r k) (insD C m)
  | lst {k : Nat} {ss : List SV} {ds : List PyData} : os[k]? = some (.lst ss) → DatL os ss ds → DatO os (.r k) (.list ds)
  | dK {k : Nat} {kvs : List (Key × SV)} {m : List (Key × PyData)} : os[k]? = some (.dK kvs) → DatK os kvs m → DatO os (.r k) (dK0 m)
  | lk {k : Nat} {lo : LkO} {kvs : List (Key × SV)} {m : List (Key × PyData)} : os[k]? = some (.lk lo kvs) → DatK os kvs m → DatO os (.r k) (dK0 m)
inductive DatF (os : List SO) : List (Str × SV) → List (Str × PyData) → Prop
  | nil : DatF os [] []
  | cons {f : Str} {s : SV} {d : PyData} {fs : List (Str × SV)} {m : List (Str × PyData)} : DatO os s d → DatF os fs m → DatF os ((f, s) :: fs) ((f, d) :: m)
inductive DatL (os : List SO) : List SV → List PyData → Prop
  | nil : DatL os [] []
  | cons {s : SV} {d : PyData} {ss : List SV} {ds : List PyData} : DatO os s d → DatL os ss ds → DatL os (s :: ss) (d :: ds)
inductive DatK (os : List SO) : List (Key × SV) → List (Key × PyData) → Prop
  | nil : DatK os [] []
  | cons {k : Key} {s : SV} {d : PyData} {fs : List (Key × SV)} {m : List (Key × PyData)} : DatO os s d → DatK os fs m → DatK os ((k, s) :: fs) ((k, d) :: m)
end
theorem DatL.i {os : List SO} : ∀ ds : List PyData, DatL os (ds.map SV.i) ds
  | [] => .nil
  | d :: ds => .cons (.i d) (DatL.i ds)
theorem DatK.i {os : List SO} : ∀ m : List (Key × PyData), DatK os (m.map fun p => (p.1, SV.i p.2)) m
  | [] => .nil
  | (k, d) :: m => .cons (.i d) (DatK.i m)
theorem zok_dn {K : PySem.W.Frag} {N : Addr → Prop} {H : Hp} {v : V} {m : List (Key × PyData)} (h : ZOk K N H v m) : Dn K N H v (dK0 m) := by
  obtain ⟨a, dx, fs, rfl, h1, h2, h3⟩ := h
  exact dK_dn (Or.inr ⟨_, h1⟩) h2 h3
section
variable {c : Cn} {ad : Nat → Addr} {env : Sy} {os : List SO} {σ : L2.St} {H : Hp}
mutual
theorem DatO.dn (ok : Ok c ad env os σ H) : ∀ {s : SV} {d : PyData}, DatO os s d → ∀ v, SvOk c.K (Nof c ad os) ad os.length H v s → Dn c.K c.N0 H v d
  | _, _, .i d, v, h => h.sub fun a z => Or.inl z
  | _, _, .z m, v, h => zok_dn (ZOk.sub (fun a z => Or.inl z) h)
  | _, _, .ov C m, v, h => ins_dn (ObOk.sub (fun a z => Or.inl z) h)
  | _, _, .ob hk hf, v, ⟨e, _⟩ => by
    obtain ⟨_, dx, vs, h1, h2⟩ := ok.obj _ _ hk rfl
    rw [e]
    exact ins_dn ⟨_, dx, vs, rfl, h1, fun z => ok.nn _ ⟨_, hk, rfl⟩ z, DatF.dn ok hf vs h2⟩
  | _, _, .lst hk hl, v, ⟨e, _⟩ => by
    obtain ⟨_, vs, h1, h2⟩ := ok.obj _ _ hk rfl
    rw [e]
    exact .lst (Or.inl h1) (fun z => ok.nn _ ⟨_, hk, rfl⟩ z) (DatL.dn ok hl vs h2)
  | _, _, .dK hk hl, v, ⟨e, _⟩ => by
    obtain ⟨_, vs, h1, h2⟩ := ok.obj _ _ hk rfl
    rw [e]
    exact dK_dn (Or.inl h1) (fun z => ok.nn _ ⟨_, hk, rfl⟩ z) (DatK.dn ok hl vs h2)
  | _, _, .lk hk hl, v, ⟨e, _⟩ => by
    obtain ⟨_, h1, h2⟩ := ok.obj _ _ hk rfl
    rw [e]
    exact dK_dn (Or.inr ⟨_, h1⟩) (fun z => ok.nn _ ⟨_, hk, rfl⟩ z) (DatK.dn ok hl _ h2)
theorem DatF.dn (ok : Ok c ad env os σ H) : ∀ {fs : List (Str × SV)} {m : List (Str × PyData)}, DatF os fs m → ∀ vs, Paired (fun (p : Str × V) (q : Str × SV) => p.1 = q.1 ∧ SvOk c.K (Nof c ad os) ad os.length H p.2 q.2) vs fs → Paired (fun (p : Str × V) (q : Str × PyData) => p.1 = q.1 ∧ Dn c.K c.N0 H p.2 q.2) vs m
  | _, _, .nil, _, h => by cases h; exact .nil
  | _, _, .cons a b, _, h => by
    cases h with
    | cons x y => exact .cons ⟨x.1, DatO.dn ok a _ x.2⟩ (DatF.dn ok b _ y)
theorem DatL.dn (ok : Ok c ad env os σ H) : ∀ {fs : List SV} {m : List PyData}, DatL os fs m → ∀ vs, Paired (SvOk c.K (Nof c ad os) ad os.length H) vs fs → DnAll c.K c.N0 H vs m
  | _, _, .nil, _, h => by cases h; exact .nil
  | _, _, .cons a b, _, h => by
    cases h with
    | cons x y => exact .cons (DatO.dn ok a _ x) (DatL.dn ok b _ y)
theorem DatK.dn (ok : Ok c ad env os σ H) : ∀ {fs : List (Key × SV)} {m : List (Key × PyData)}, DatK os fs m → ∀ vs, Paired (fun (p : Key × V) (q : Key × SV) => p.1 = q.1 ∧ SvOk c.K (Nof c ad os) ad os.length H p.2 q.2) vs fs → Paired (fun (p : Key × V) (q : Key × PyData) => p.1 = q.1 ∧ Dn c.K c.N0 H p.2 q.2) vs m
  | _, _, .nil, _, h => by cases h; exact .nil
  | _, _, .cons a b, _, h => by
    cases h with
    | cons x y => exact .cons ⟨x.1, DatO.dn ok a _ x.2⟩ (DatK.dn ok b _ y)
end
end
/-- an object of the store, read as data -/
theorem ex_dat {c : Cn} {env : Sy} {os : List SO} {te : TE} {k : Nat} {d : PyData} (h : EvR c env os te k) (hd : DatO os (.r k) d) : EvX true c env os te d := fun ad σ H ok Q q => h.2 ad σ H ok Q fun H2 e => q _ H2 e ((DatO.dn (ok.ext e) hd _ ⟨rfl, h.1⟩).sub fun a z => Nw_true a z)
end DL

set_option Elab.async false
set_option linter.all false
set_option maxRecDepth 100000
set_option maxHeartbeats 4000000
/-! The data layer: tuples of any length are cut, joined, turned round; a list takes over a tuple; xs.pop(). -/
namespace L2
open PySem PySem.Spec PyProof.Rows HT
section
variable {prog : Program} {w : World} {A : Around} {E : Value → Shared → Prop} {s : Shared}
theorem adjust_rev (n : Nat) : Builtin.Slice.sliceAdjust none none (-1) (n : Int) = ((n : Int) - 1, -1) := by
  unfold Builtin.Slice.sliceAdjust
  simp
theorem places_rev (n : Nat) : Builtin.Slice.slicePlaces ((n : Int) - 1) (-1) (-1) = n := by
  unfold Builtin.Slice.slicePlaces
  have h1 : ¬ ((-1 : Int) > 0) := by omega
  have h2 : (- -1 : Int) = 1 := by omega
  simp only [h1, if_false, h2, Int.ediv_one]
  split <;> omega
theorem sliceApplied_rev {sl : Addr} {vl vu vs : Value} {n : Nat} {Q : Int × Int × Nat → Shared → Prop} (hs : s.heap.IsSliceOf sl vl vu vs) (pl : IsPart vl none) (pu : IsPart vu none) (ps : IsPart vs (some (-1)))
    (h : Q ((n : Int) - 1, -1, n) s) : wpAny (model prog w) A (Builtin.Slice.sliceApplied (.ref sl) (pure (n : Int))) Q E s := by
  obtain ⟨os, hos, hcs, hds⟩ := id hs
  unfold Builtin.Slice.sliceApplied Builtin.Slice.sliceFields
  refine wpAny_bind (wpAny_bind (wpAny_field hos hds (x := vl) rfl (wpAny_bind (wpAny_field hos hds (x := vu) rfl (wpAny_bind (wpAny_field hos hds (x := vs) rfl (wpAny_pure ?_)))))))
  refine wpAny_bind (slicePart_ ps ?_)
  show wpAny _ _ (if ((-1 : Int) == 0) = true then _ else _) _ _ s
  rw [if_neg (by decide)]
  refine wpAny_bind (slicePart_ pl (wpAny_bind (slicePart_ pu (wpAny_bind (wpAny_pure ?_)))))
  show wpAny _ _ (match Builtin.Slice.sliceAdjust none none (-1) (n : Int) with | (lo, hi) => pure (lo, (-1 : Int), Builtin.Slice.slicePlaces lo hi (-1))) _ _ s
  rw [adjust_rev n]
  show wpAny _ _ (pure ((n : Int) - 1, (-1 : Int), Builtin.Slice.slicePlaces ((n : Int) - 1) (-1) (-1))) _ _ s
  rw [places_rev]
  exact wpAny_pure h
theorem fm_congr {α β : Type} {f g : α → Option β} : ∀ l : List α, (∀ x ∈ l, f x = g x) → l.filterMap f = l.filterMap g
  | [], _ => rfl
  | a :: l, h => by
    rw [List.filterMap_cons, List.filterMap_cons, h a (List.mem_cons_self ..), fm_congr l fun x hx => h x (List.mem_cons_of_mem _ hx)]
theorem pick_rev (xs : Array Value) : ((List.range xs.size).filterMap fun (m : Nat) => xs[((xs.size : Int) - 1 + (m : Int) * (-1)).toNat]?).toArray = xs.toList.reverse.toArray := by
  have e : (List.range xs.size).filterMap (fun (m : Nat) => xs[((xs.size : Int) - 1 + (m : Int) * (-1)).toNat]?) = (List.range xs.size).filterMap (fun m => xs[xs.size - 1 - m]?) := by
    refine fm_congr _ fun m hm => ?_
    have hm := List.mem_range.mp hm
    have : ((xs.size : Int) - 1 + (m : Int) * (-1)).toNat = xs.size - 1 - m := by omega
    rw [this]
  rw [e]
  have := PySem.W.krv_range xs.size
  have e2 : (List.range xs.size).filterMap (fun m => xs[xs.size - 1 - m]?) = ((List.range xs.size).map (fun k => xs.size - 1 - k)).filterMap (xs[·]?) := by
    rw [List.filterMap_map]; rfl
  rw [e2, this, List.filterMap_reverse, PySem.W.krv_all]
theorem getItem_tuple_rev {t sl : Addr} {items : Array Value} {vl vu vs : Value} {Q : Value → Shared → Prop} (ht : IsTup s.heap t items) (hs : s.heap.IsSliceOf sl vl vu vs) (pl : IsPart vl none) (pu : IsPart vu none) (ps : IsPart vs (some (-1)))
    (h : Q (.ref s.heap.objs.size) { s with heap := s.heap.push { cls := .type "tuple", data := .seq items.toList.reverse.toArray } })
    (hsz : items.size ≤ sizeLine) : wpAny (model prog w) A (getItem (.ref t) (.ref sl)) Q E s := by
  have htake : sizeOk (.seq items.toList.reverse.toArray) := by
    show items.toList.reverse.toArray.size ≤ sizeLine
    rw [List.size_toArray, List.length_reverse, Array.length_toList]
    exact hsz
  obtain ⟨os, hos, hcs, hds⟩ := id hs
  have hTs : s.TypeIs (.ref sl) "slice" := ⟨os, hos, hcs⟩
  unfold getItem
  try with_reducible refine wpAny_holding ?_
  first | refine wpAny_bind (wpAny_pure ?_) | skip
  refine wpAny_bind (wpAny_sequenceKey ht.typeIs (by decide) ?_)
  refine wpAny_bind (wpAny_callSpecial?_slot (name := Str.ofString "__getitem__") ht.typeIs PyProof.Rows.slot_tuple_getitem
    (wpAny_call_entry PyProof.Rows.slot_tuple_getitem ht.typeIs entry_tuple_getitem ?_ (args_tuple_getitem _ _)))
  show wpAny _ _ (Builtin.Tuple.tupleItemsOf (.ref t) >>= _) _ _ s
  refine wpAny_bind (tupleItemsOf_ ht ?_)
  refine wpAny_bind (wpAny_typeOf hTs ?_)
  rw [if_pos (by decide)]
  refine wpAny_bind (sliceApplied_rev hs pl pu ps ?_)
  have hno : ¬ ((((items.size : Int) - 1) == 0 && (-1 : Int) == 1 && items.size == items.size) = true) := by
    intro q
    rw [Bool.and_eq_true, Bool.and_eq_true] at q
    exact absurd (eq_of_beq q.1.2) (by decide)
  show wpAny _ _ (if (((items.size : Int) - 1) == 0 && (-1 : Int) == 1 && items.size == items.size) = true then _ else _) _ _ s
  rw [if_neg hno, pick_rev]
  first
    | exact wpAny_bind (m := Builtin.Tuple.tupleExact _) (wpAny_newObj_type (wpAny_pure ⟨_, rfl, wpAny_pure h⟩) htake)
    | exact wpAny_bind (m := Builtin.Tuple.tupleExact _) (wpAny_newObj_type (wpAny_bind (wpAny_pure (wpAny_pure ⟨_, rfl, wpAny_pure h⟩))) htake)
    | exact wpAny_bind (wpAny_bind (m := Builtin.Tuple.tupleExact _) (wpAny_newObj_type (wpAny_pure (wpAny_pure ⟨_, rfl, wpAny_pure h⟩)) htake))
    | exact wpAny_bind (wpAny_bind (m := Builtin.Tuple.tupleExact _) (wpAny_newObj_type (wpAny_pure ⟨_, rfl, wpAny_pure h⟩) htake))
end
section
variable {X : Cx}
/-- t[::-1] -/
def tRevT (K : PySem.W.Frag) (te : TE) : TE := fun σ H Q => te σ H fun x H1 => ∃ a xs, x = .ref a ∧ SqT K H1 a xs ∧ ∀ p, H1 p = none → Q (.ref p) (upd H1 p (.tup xs.reverse))
theorem pe_revT {e : Expr} {te : TE} {k : Nat} {p1 p2 p3 pos : Pos} (he : PE X e te) : PE X (.Subscript e (.Slice none none (some (.UnaryOp .USub (.Constant (.int 1) k p1) p2)) p3) pos) (tRevT X.K te) := by
  refine ⟨fun pins s σ H Q I h => ?_⟩
  refine Subscript_ (thn (he.run pins s σ H _ I h) fun v s1 ⟨x, H1, I1, r1, q1⟩ => ?_)
  obtain ⟨a, xs, ex, hx, q⟩ := q1
  subst ex
  cases r1
  have hst : PO X (some (.UnaryOp .USub (.Constant (.int 1) k p1) p2)) (tPart (tUn (rU fun i => .int (-i)) (tC (.int 1)))) := po_some (pe_un un_neg pe_int)
  refine wpAny_Slice (thn (po_none.run pins s1 σ H1 (fun o H2 => o = none ∧ H2 = H1) I1 ⟨rfl, rfl⟩) fun vl s2 ⟨l, H2, I2, pl, el, e2⟩ => ?_)
  subst el e2
  refine thn (po_none.run pins s2 σ H2 (fun o H3 => o = none ∧ H3 = H2) I2 ⟨rfl, rfl⟩) fun vu s3 ⟨u, H3, I3, pu, eu, e3⟩ => ?_
  subst eu e3
  refine thn (hst.run pins s3 σ H3 (fun o H4 => o = some (-1) ∧ H4 = H3) I3 ⟨1, rfl, -1, rfl, rfl, rfl⟩) fun vs s4 ⟨o, H4, I4, ps, eo, e4⟩ => ?_
  subst eo e4
  have I5 : Inv X pins σ H4 { s4 with heap := s4.heap.push { cls := .type "slice", data := .fields #[vl, vu, vs] } } := I4.kept (t' := s4.toks) fun b ob q => Heap.get?_push_of_some _ q
  obtain ⟨its, r, ht, hz⟩ := I5.tuple hx
  have hlen := r.length
  show wpAny (model X.prog X.w) X.A (subscriptTail e (.Slice none none (some (.UnaryOp .USub (.Constant (.int 1) k p1) p2)) p3) (.ref a) (.ref s4.heap.objs.size)) (EP X pins σ Q) X.xe { s4 with heap := s4.heap.push { cls := .type "slice", data := .fields #[vl, vu, vs] } }
  refine tail_any (ops := [.ref a, .ref s4.heap.objs.size]) ht.typeIs (PyProof.Rows.slot_tuple_getitem.lookup) ?_ (by with_unfolding_all rfl)
  refine getItem_tuple_rev ht (Heap.IsSliceOf.new _ vl vu vs) pl pu ps ?_ (by rw [List.size_toArray]; omega)
  refine ⟨.ref _, _, I5.laid (t' := s4.toks) (o := .tup xs.reverse) (fun b ob q => Heap.get?_push_of_some _ q) (Nat.le_refl _) ?_, rfl, q _ (I5.hok.fresh (Nat.le_refl _))⟩
  exact ⟨by rw [List.length_reverse]; exact hz, _, r.reverse, IsTup.new _ _⟩
/-! ### xs.extend(tuple) -/
theorem list_extend_tup (l : Addr) (items : Array Value) (n : Nat) (b : Addr) (items2 : Array Value) (hs0 : ¬(!items.isEmpty && Builtin.List.listTooLong (items.size + items2.size)) = true) (hs1 : items.size ≤ sizeLine) (hs2 : items.size + items2.size ≤ sizeLine + 1) :
    Meets (Builtin.«list.extend» ⟨[.ref l, .ref b], []⟩) (fun _ R s => s.heap.get? l = some { cls := .type "list", dict := none, data := .seq items n, slots := #[] } ∧ IsTup s.heap b items2 ∧ R (.ok (.ret Value.none)) { s with heap := s.heap.update l (Obj.mapSeq fun x => x ++ items2), toks := s.toks }) :=
  .of_wp fun prog w A R s h => by
    obtain ⟨hl, ⟨o, ho, hc, m, hd⟩, h⟩ := h
    show wpAny _ A.in1 (Builtin.List.listExtendWith (.ref l) (.ref b) .none) _ _ s
    unfold Builtin.List.listExtendWith
    refine wpAny_bind (wpAny_typeOf ⟨o, ho, hc⟩ ?_)
    have h1 : (Builtin.List.listSameRef (.ref l) (.ref b) || Value.type "tuple" == Value.type "list" || Value.type "tuple" == Value.type "tuple") = true := by simp
    simp only [h1, if_true]
    refine wpAny_bind ?_
    unfold Builtin.List.listItems
    refine wpAny_bind (wpAny_seqItems ho hd (wpAny_pure ?_))
    refine wpAny_bind ?_
    refine wpAny_bind (wpAny_seqItems hl rfl (wpAny_pure ?_))
    rw [if_neg hs0]
    refine wpAny_bind (wpAny_updateSeq hl rfl (hz := hs1) (_hz' := by rw [Array.size_append]; exact hs2) ?_)
    exact wpAny_pure ⟨_, rfl, h⟩
def rExtT (K : PySem.W.Frag) : V → List V → Hp → VK → Prop := fun x vs H Q => ∃ l b xs zs, x = .ref l ∧ vs = [.ref b] ∧ H l = some (.lst xs) ∧ SqT K H b zs ∧ xs.length + zs.length ≤ sizeLine ∧ Q .non (upd H l (.lst (xs ++ zs)))
theorem mt_extT : MtM X "list.extend" (rExtT X.K) := by
  intro pins s σ H x vs v us Q I rx rv h
  obtain ⟨l, b, xs, zs, rfl, rfl, hH, hB, hz, q⟩ := h
  cases rx
  obtain ⟨u, rfl, ru⟩ := rv.one
  cases ru
  obtain ⟨z, its, n, r, hl, e⟩ := I.lstM hH
  obtain ⟨its2, r2, e2, _⟩ := I.tuple hB
  have hl2 := r2.length
  have hsz : its.toArray.size + its2.toArray.size ≤ sizeLine := by rw [List.size_toArray, List.size_toArray]; omega
  have hlong : ¬ (!its.toArray.isEmpty && Builtin.List.listTooLong (its.toArray.size + its2.toArray.size)) = true := by
    rw [notLongL hsz, Bool.and_false]
    exact Bool.false_ne_true
  refine call_meets PySem.F.slot_list_extend ⟨_, e, rfl⟩ PySem.F.entry_list_extend (PySem.F.args_list_extend_2 _ _)
    (list_extend_tup l its.toArray n b its2.toArray hlong (by rw [List.size_toArray]; omega) (by omega)) ⟨e, e2, ?_⟩
  refine ⟨.non, _, I.lset (its' := its ++ its2) hH e (by simp) (r.append r2) ?_, rfl, q⟩
  rw [List.length_append]
  omega
end
end L2
namespace DL
open PySem PySem.Spec PyProof.Rows L2
open Evl (Ex Ex.refl Ex.trans Ex.new)
theorem kRevT {X : Cx} {K : PySem.W.Frag} {e : Expr} {te : TE} {k : Nat} {p1 p2 p3 pos : Pos} (he : PE X e te) (hk : X.K = K := by rfl) : PE X (.Subscript e (.Slice none none (some (.UnaryOp .USub (.Constant (.int 1) k p1) p2)) p3) pos) (tRevT K te) := by subst hk; exact pe_revT he
theorem kSlA {X : Cx} {K : PySem.W.Frag} (h : X.K = K := by rfl) : SlR X (rSlA K) := by subst h; exact sl_tupA
theorem kCatA {X : Cx} {K : PySem.W.Frag} (h : X.K = K := by rfl) : OpR X (binaryOp .Add) (rCatA K) := by subst h; exact op_catA
theorem kExtT {X : Cx} {K : PySem.W.Frag} {e : Expr} {to : TE} {t : TA} (h : PE X e (tBM X.K "list" (rExtT X.K) to t)) (hk : X.K = K := by rfl) : PE X e (tBM K "list" (rExtT K) to t) := by subst hk; exact h
section
variable {w : Bool} {c : Cn} {env : Sy} {os : List SO} {te ta tb tl : TE} {d : PyData} {u : TS} {D : Ends}
/-- t[::-1] -/
theorem ex_revT {ds : List PyData} (h : EvX w c env os te (.tuple ds)) : EvX w c env os (tRevT c.K te) (.tuple ds.reverse) := fun ad σ H ok Q q =>
  h ad σ H ok _ fun v H1 e1 r1 => by
    obtain ⟨a, xs, rfl, hs, ha⟩ := dn_tup_ref r1
    exact ⟨a, xs, rfl, hs, fun p hp => q _ _ (e1.trans (Ex.new hp)) (.tup (SqT.of upd_same) (ha.ext (Ex.new hp)).reverse)⟩
/-- t[lo:hi] -/
theorem ex_slA {tl th : TO} {ds : List PyData} {lo hi : Option Int} (h : EvX w c env os te (.tuple ds)) (h1 : EvO c env os tl lo) (h2 : EvO c env os th hi) : EvX w c env os (tSl (rSlA c.K) te tl th) (.tuple (cutG ds lo hi)) := fun ad σ H ok Q q =>
  h ad σ H ok _ fun v H1 e1 r1 => h1 ad σ H1 (ok.ext e1) _ fun H2 e2 => h2 ad σ H2 ((ok.ext e1).ext e2) _ fun H3 e3 => by
    have r3 := r1.ext (e2.trans e3)
    obtain ⟨a, xs, rfl, hs, ha⟩ := dn_tup_ref r3
    have hcut : cutV xs lo hi = cutG xs lo hi := rfl
    refine ⟨a, xs, rfl, hs, fun hw => ?_, fun hw p hp => q _ _ (((e1.trans e2).trans e3).trans (Ex.new hp)) (.tup (SqT.of upd_same) ?_)⟩
    · rw [ha.length] at hw
      have e : cutG ds lo hi = ds := by
        unfold cutG
        rw [hw.1, hw.2, List.drop_zero, Nat.sub_zero, List.take_length]
      exact q _ _ ((e1.trans e2).trans e3) (by rw [e]; exact r3)
    · unfold cutV cutG
      rw [ha.length]
      exact ((ha.drop _).take _).ext (Ex.new hp)
/-- t + u -/
theorem ex_catA {ds es : List PyData} (ha : EvX w c env os ta (.tuple ds)) (hb : EvX w c env os tb (.tuple es)) (hl : ds.length + es.length ≤ 100000) : EvX w c env os (tOp (rCatA c.K) ta tb) (.tuple (ds ++ es)) := fun ad σ H ok Q q => ha ad σ H ok _ fun v H1 e1 r1 => hb ad σ H1 (ok.ext e1) _ fun u H2 e2 r2 => by
  have r1 := r1.ext e2
  obtain ⟨a, xs, rfl, hs, hx⟩ := dn_tup_ref r1
  obtain ⟨b, ys, rfl, ht, hy⟩ := dn_tup_ref r2
  have l1 := hx.length
  have l2 := hy.length
  refine ⟨a, b, xs, ys, rfl, rfl, hs, ht, by rw [l1, l2]; exact Nat.le_trans hl (by decide), fun z => ?_, fun z z2 => ?_, fun z z2 p hp => ?_⟩
  · subst z
    have : ds = [] := List.length_eq_zero_iff.mp l1.symm
    subst this
    exact q _ _ (e1.trans e2) r2
  · subst z2
    have : es = [] := List.length_eq_zero_iff.mp l2.symm
    subst this
    exact q _ _ (e1.trans e2) (by rw [List.append_nil]; exact r1)
  · exact q _ _ ((e1.trans e2).trans (Ex.new hp)) (.tup (SqT.of upd_same) ((hx.append hy).ext (Ex.new hp)))
/-- xs.extend(a tuple) -/
theorem gs_extT {k : Nat} {ss : List SV} {ds : List PyData} (hl : EvR c env os tl k) (hk : os[k]? = some (.lst ss)) (h : EvX false c env os te (.tuple ds)) (hz : ss.length + ds.length ≤ 100000) (kk : Go c env (os.set k (.lst (ss ++ ds.map SV.i))) u D) : Go c env os (tSeq (tDrop (tBM c.K "list" (rExtT c.K) tl (tCons te tNil))) u) D := fun ad σ H ok =>
  hl.2 ad σ H ok _ fun H1 e1 => by
    have ok1 := ok.ext e1
    obtain ⟨_, vs, hvs, pv⟩ := ok1.obj k _ hk rfl
    refine ⟨Or.inl ⟨rfl, vs, SqL.of hvs⟩, ?_⟩
    refine h ad σ H1 ok1 _ fun v H2 e2 r => ?_
    rw [Nw_false] at r
    obtain ⟨b, ws, rfl, hs, hx⟩ := dn_tup_ref r
    have ok2 := ok1.ext e2
    have hv2 := e2 _ _ hvs
    have hN : Nof c ad os (ad k) := Or.inr ⟨k, ⟨_, hk, rfl⟩, rfl⟩
    refine ⟨ad k, b, vs, ws, rfl, rfl, hv2, hs, ?_, ?_⟩
    · rw [Paired.length pv, hx.length]
      exact Nat.le_trans hz (by decide)
    refine kk ad σ _ (ok2.mut hk rfl rfl ⟨vs ++ ws, upd_same, ?_⟩)
    exact Paired.app (Paired.imp pv fun _ _ z => (z.ext e2).mut hv2 rfl hN) (dn_paired (hx.mut hv2 rfl hN))
/-- x = xs.pop() -/
theorem gs_asgPop {i k : Nat} {s : SV} {ss : List SV} (hl : EvR c env os tl k) (hk : os[k]? = some (.lst (ss ++ [s]))) (g : Go c (env.set i (some s)) (os.set k (.lst ss)) u D) : Go c env os (tSeq (tAsg (tBM0 c.K "list" rPop tl) (gName i)) u) D := fun ad σ H ok =>
  hl.2 ad σ H ok _ fun H1 e1 => by
    have ok1 := ok.ext e1
    obtain ⟨_, vs, hvs, pv⟩ := ok1.obj k _ hk rfl
    have hN : Nof c ad os (ad k) := Or.inr ⟨k, ⟨_, hk, rfl⟩, rfl⟩
    have hlen := Paired.length pv
    rw [List.length_append, List.length_singleton] at hlen
    obtain ⟨y, hy, ry⟩ := paired_get (i := ss.length) (b := s) pv (by simp)
    refine ⟨Or.inl ⟨rfl, vs, SqL.of hvs⟩, ad k, vs, y, rfl, rfl, hvs, ?_, ?_⟩
    · rw [hlen]; exact hy
    have hd : Paired (SvOk c.K (Nof c ad os) ad os.length H1) vs.dropLast ss := by
      have := Paired.take ss.length pv
      rw [List.take_left] at this
      rw [List.dropLast_eq_take, hlen]
      exact this
    have ok3 := ok1.mut (u' := .lst vs.dropLast) hk rfl (o' := .lst ss) rfl ⟨vs.dropLast, upd_same, Paired.imp hd fun _ _ z => z.mut hvs rfl hN⟩
    refine g ad _ _ (ok3.set (s := s) ?_)
    rw [Nof_set hk rfl rfl, List.length_set]
    exact ry.mut hvs rfl hN
end
end DL

set_option Elab.async false
set_option linter.all false
set_option maxRecDepth 100000
set_option maxHeartbeats 4000000
/-! The data layer: two fields of an object at once. -/
namespace DL
open PySem PySem.Spec PyProof.Rows L2
open Evl (Ex Ex.refl Ex.trans Ex.new)
section
variable {w : Bool} {c : Cn} {env : Sy} {os : List SO} {te ta tb tl to : TE} {d : PyData} {u : TS} {D : Ends}
/-- o.f = data, as a target -/
theorem fld_run {ad : Nat → Addr} {σ : L2.St} {H : Hp} {k : Nat} {C : Addr} {f : Str} {fs : List (Str × SV)} {v : V} (ok : Ok c ad env os σ H) (r : Dn c.K (Nof c ad os) H v d) (hl : EvR c env os to k) (hk : os[k]? = some (.ob C fs)) (kc : Cls c.K C) (kn : NoAttr c.K C f) (hz : fs.length < 1000) {Q : L2.St → Hp → Prop}
    (q : ∀ H2, Ok c ad env (os.set k (.ob C (putS f (.i d) fs))) σ H2 → (∀ e v', Dn c.K (Nof c ad os) H v' e → Dn c.K (Nof c ad (os.set k (.ob C (putS f (.i d) fs)))) H2 v' e) → Q σ H2) : gFld c.K to f v σ H Q := hl.2 ad σ H ok _ fun H1 e1 => by
  have ok1 := ok.ext e1
  obtain ⟨_, dx, vs, hvs, pv⟩ := ok1.obj k _ hk rfl
  have hN : Nof c ad os (ad k) := Or.inr ⟨k, ⟨_, hk, rfl⟩, rfl⟩
  have hn2 : Nof c ad (os.set k (.ob C (putS f (.i d) fs))) = Nof c ad os := Nof_set hk rfl rfl
  refine ⟨ad k, C, dx, vs, rfl, hvs, kc, kn, by rw [Paired.length pv]; exact hz, q _ (ok1.mut hk rfl rfl ⟨dx, _, upd_same, ?_⟩) fun e v' r' => ?_⟩
  · exact paired_put (show Dn _ _ _ _ _ from (r.ext e1).mut hvs rfl hN) (Paired.imp pv fun _ _ z => ⟨z.1, z.2.mut hvs rfl hN⟩)
  · rw [hn2]; exact (r'.ext e1).mut hvs rfl hN
/-- o.f, o.g = a pair -/
theorem gs_asgFF {k : Nat} {C : Addr} {f g : Str} {fs : List (Str × SV)} {d1 d2 : PyData} {to2 : TE} (h : EvX false c env os te (.tuple [d1, d2])) (hl : EvR c env os to k) (hk : os[k]? = some (.ob C fs)) (kc : Cls c.K C) (kn : NoAttr c.K C f) (kn2 : NoAttr c.K C g) (hz : fs.length < 900)
    (hl2 : EvR c env (os.set k (.ob C (putS f (.i d1) fs))) to2 k) (kk : Go c env ((os.set k (.ob C (putS f (.i d1) fs))).set k (.ob C (putS g (.i d2) (putS f (.i d1) fs)))) u D) :
    Go c env os (tSeq (tAsg te (gTup c.K 2 (gCons (gFld c.K to f) (gCons (gFld c.K to2 g) gNil)))) u) D := fun ad σ H ok => h ad σ H ok _ fun v H1 e1 r => by
  rw [Nw_false] at r
  obtain ⟨a, xs, rfl, hs, ha⟩ := dn_tup_ref r
  have hlen := ha.length
  cases ha with
  | cons r1 ha =>
    cases ha with
    | cons r2 ha =>
      cases ha with
      | nil =>
        rename_i v1 v2
        have hkl : k < os.length := (List.getElem?_eq_some_iff.mp hk).1
        refine ⟨a, _, rfl, hs, hlen, v1, [v2], rfl, ?_⟩
        refine fld_run (ok.ext e1) r1 hl hk kc kn (by omega) fun H2 ok2 up => ⟨v2, [], rfl, ?_⟩
        have hp : (putS f (SV.i d1) fs).length < 1000 := by
          have : ∀ l : List (Str × SV), (putS f (SV.i d1) l).length ≤ l.length + 1 := by
            intro l
            induction l with
            | nil => exact Nat.le_refl _
            | cons x l ih =>
              unfold putS
              split
              · simp
              · simp only [List.length_cons]; omega
          have := this fs
          omega
        refine fld_run ok2 (up _ _ r2) hl2 (by rw [List.getElem?_set_self hkl]) kc kn2 hp fun H3 ok3 _ => ⟨rfl, kk ad σ H3 ok3⟩
end
end DL

set_option Elab.async false
set_option linter.all false
set_option maxRecDepth 100000
set_option maxHeartbeats 4000000
/-! The data layer: what gives data while the store grows. -/
namespace DL
open PySem PySem.Spec PyProof.Rows L2
open Evl (Ex Ex.refl Ex.trans Ex.new)
section
variable {w : Bool} {c : Cn} {env : Sy} {os : List SO} {te ta tb tl to : TE} {tr : TA} {d : PyData} {u : TS} {D : Ends} {n : Nat} {α : Type} {shape : α → List SO} {R : α → List SV → α → PyData → Prop} {f : Nat → Nat} {y : α} {ds : List SV}
/-- gives data; objects of the store may be changed, and new ones come -/
def EvNG (c : Cn) (env : Sy) (os : List SO) (te : TE) (P : List SO → PyData → Prop) : Prop := ∀ ad σ H, Ok c ad env os σ H → ∀ Q : VK, (∀ ad' v H2 os' d, P os' d → Ok c ad' env os' σ H2 → Dn c.K (Nof c ad' os') H2 v d → Q v H2) → te σ H Q
end
end DL

set_option Elab.async false
set_option linter.all false
set_option maxRecDepth 100000
set_option maxHeartbeats 4000000
/-! The data layer: text.replace(sign, ''). -/
namespace DL
open PySem PySem.Spec PyProof.Rows L2 CwR
open Evl (Ex Ex.refl Ex.trans Ex.new)
section
variable {w : Bool} {c : Cn} {env : Sy} {os : List SO} {to : TE} {l : List Nat} {d : Nat} {y z : Str}
end
section
variable {X : Cx} {a b e : Expr} {ta tb te tf : TE} {rest : List Stmt} {u : TS} {r : R2} {i j : Nat} {x : Str} {c : Int} {cpos pos' p pos : Pos}
end
section
variable {α β : Type} {ek : α → Key} {ev : β → PyData} {c : Cn} {env : Sy} {os : List SO} {te : TE} {m : List (α × β)} {u : TS} {D : Ends}
end
end DL

set_option Elab.async false
set_option linter.all false
set_option maxRecDepth 100000
set_option maxHeartbeats 4000000
/-! The data layer: max(xs, default=d), xs[a::k]. -/
namespace DL
open PySem PySem.Spec PyProof.Rows L2
open Evl (Ex Ex.refl Ex.trans Ex.new)
/-- max(xs, default=d) of a list of ints -/
def rMaxDf (K : PySem.W.Frag) : List V → List V → Hp → VK → Prop := fun xs zs H Q => ∃ (a : Addr) (ns : List Int) (d : Int), xs = [.ref a] ∧ zs = [.int d] ∧ SqL K H a (ns.map V.int) ∧ Q (.int (if ns = [] then d else maxL ns)) H
theorem ints_alike : ∀ ns : List Int, PySem.W.AlikeAll (ns.map PyData.int) := fun ns => by
  refine ⟨fun x hx y hy => ?_, fun x hx => ?_⟩
  · obtain ⟨i, _, rfl⟩ := List.mem_map.mp hx
    obtain ⟨j, _, rfl⟩ := List.mem_map.mp hy
    rfl
  · obtain ⟨i, _, rfl⟩ := List.mem_map.mp hx
    exact fun e => nomatch e
theorem ints_depth : ∀ ns : List Int, PyData.depthAll (ns.map PyData.int) ≤ 1
  | [] => by decide
  | n :: ns => by
    have := ints_depth ns
    rw [List.map_cons]
    simp only [PyData.depthAll, PyData.depth]
    omega
theorem cr_maxDf {X : Cx} (hc : X.calm = true) (hu : X.A.units + 64 < cLine) : CallRK X (.builtin "max") [Str.ofString "default"] (rMaxDf X.K) := by
  intro pins s σ H xs zs us ws Q I r rz h
  obtain ⟨a, ns, d, rfl, rfl, hs, q⟩ := h
  obtain ⟨its, rv, hl, _⟩ := I.list hs
  rw [Vals.ref1 r]
  obtain ⟨w1, rfl, t, rfl⟩ := vals1 rz
  have hd := ints_depth ns
  refine PySem.W.max_list_default (I.ok.hd hc) hl.isList (rv.ints.reads s.heap) (ints_alike ns) (by omega) (fun e h' tk hk => ?_) (fun y ys i v h' tk bs e hi hr hk => ?_)
  · have e : ns = [] := List.map_eq_nil_iff.mp e
    rw [if_pos e] at q
    exact ⟨.int d, H, I.kept hk, ⟨_, rfl⟩, q⟩
  · cases ns with
    | nil => cases e
    | cons n ns =>
      rw [List.map_cons] at e
      injection e with e1 e2
      subst e1 e2
      rw [if_neg (List.cons_ne_nil _ _)] at q
      rw [PySem.W.maxD_ints] at hr
      cases hr
      exact ⟨.int (ns.foldl max n), H, I.kept hk, ⟨_, rfl⟩, q⟩
theorem kMaxDf {X : Cx} {K : PySem.W.Frag} (hc : X.calm = true) (hu : X.A.units + 64 < cLine) (h : X.K = K := by rfl) : CallRK X (.builtin "max") [Str.ofString "default"] (rMaxDf K) := by subst h; exact cr_maxDf hc hu
def maxDf (d : Int) (ns : List Int) : Int := if ns = [] then d else maxL ns
theorem ex_maxDf {w : Bool} {c : Cn} {env : Sy} {os : List SO} {te td : TE} {ns : List Int} {d : Int} (h : EvI c env os te ((ns.map PyData.int).map SV.i)) (hd : EvX true c env os td (.int d)) : EvX w c env os (tCKw (rMaxDf c.K) (tCons te tNil) (tCons td tNil)) (.int (maxDf d ns)) := fun ad σ H ok Q q =>
  h ad σ H ok _ fun p vs H1 e1 hs pv => hd ad σ H1 (ok.ext e1) _ fun v H2 e2 r2 => by
    have h1 := ints_of pv
    subst h1
    exact ⟨p, ns, d, rfl, by rw [dn_int r2], e2.sql hs, q _ H2 (e1.trans e2) (.int _)⟩
/-! ### every k-th -/
def evk {α : Type} (k : Nat) : Nat → List α → List α
  | _, [] => []
  | 0, x :: r => x :: evk k (k - 1) r
  | j + 1, _ :: r => evk k j r
end DL
namespace L2
open PySem PySem.Spec PyProof.Rows HT
section
variable {X : Cx}
/-- xs[a::k] -/
def tStpL (K : PySem.W.Frag) (te : TE) (ta tk : TO) : TE := fun σ H Q => te σ H fun x H1 => ta σ H1 fun u H2 => tk σ H2 fun v H3 => ∃ (p : Addr) (xs : List V) (a k : Nat), x = .ref p ∧ u = some (a : Int) ∧ v = some (k : Int) ∧ 0 < k ∧ SqL K H3 p xs ∧ ∀ l, H3 l = none → Q (.ref l) (upd H3 l (.lst (DL.evk k a xs)))
end
end L2
namespace DL
open PySem PySem.Spec PyProof.Rows L2
open Evl (Ex Ex.refl Ex.trans Ex.new)
end DL

set_option Elab.async false
set_option linter.all false
set_option maxRecDepth 100000
set_option maxHeartbeats 8000000
/-! The data layer: sorted(set(xs)) of texts, any number of them. -/
namespace DL
open PySem PySem.Spec PyProof.Rows L2
open Evl (Ex Ex.refl Ex.trans Ex.new)
def GdS (P : Program) (w : World) (e : Int × Value) : Prop := ∃ (x : Str) (tk : Tok), e.2 = .str x tk ∧ e.1 = (strKind P w).hash x
def kS (e : Int × Value) : Str := match e.2 with | .str x _ => x | _ => Str.empty
/-- a set that holds these texts -/
def StS (P : Program) (w : World) (h : Heap) (a : Addr) (ks : List Str) : Prop := ∃ o es ep t, h.get? a = some o ∧ o.ExactSet ∧ o.data = .set es ep t ∧ (∀ e ∈ es.toList, GdS P w e) ∧ (es.toList.map kS).Perm ks ∧ ks.Nodup ∧ es.size < scanBound ∧ t.fits es.size = true ∧ Ris t.place.toList ∧ (w.params.followText "set-order" = true ∨ t.led = true)
section
variable {P : Program} {w : World} {A : Around} {E : Value → Shared → Prop} {s : Shared} {a : Addr} {ks : List Str}
theorem StS.at {h h' : Heap} (R : StS P w h a ks) (k : ∀ o, h.get? a = some o → h'.get? a = some o) : StS P w h' a ks := by
  obtain ⟨o, es, ep, t, ho, r⟩ := R
  exact ⟨o, es, ep, t, k o ho, r⟩
theorem gdS_elems {l : List (Int × Value)} (g : ∀ e ∈ l, GdS P w e) : ElemsOf (strKind P w) l := fun e he => by
  obtain ⟨x, tk, h1, h2⟩ := g e he
  exact ⟨⟨x, by rw [h1]; exact strKind_is P w x tk, h2⟩, by rw [h1]; rfl⟩
theorem gdS_is {e : Int × Value} (g : GdS P w e) (k : Str) : (strKind P w).is k e.2 = true ↔ kS e = k := by
  obtain ⟨x, tk, h1, _⟩ := g
  have hk : kS e = x := by unfold kS; rw [h1]
  rw [hk, h1]
  exact ⟨fun h => (strKind P w).inj _ _ _ (strKind_is P w x tk) h, fun h => h ▸ strKind_is P w x tk⟩
theorem addS_tail {g : Bool → Sem Unit} (hg : ∀ (b : Bool) (r : Shared) (K : Unit → Shared → Prop), K () r → wpAny (model P w) A (g b) K E r) {o : Obj} {es : Array (Int × Value)} {ep : Nat} {t : SetTable}
    (q1 : s.heap.get? a = some o) (q2 : o.ExactSet) (q3 : o.data = .set es ep t) {fs : Array (Int × Value)} {u : SetTable} {zs : List Str} (c1 : ∀ e ∈ fs.toList, GdS P w e) (c2 : (fs.toList.map kS).Perm zs) (c3 : zs.Nodup)
    (c4 : fs.size < scanBound) (c5 : u.fits fs.size = true) (c6 : Ris u.place.toList) (c7 : w.params.followText "set-order" = true ∨ u.led = true) {wd : Bool} {R : Option Bool → Shared → Prop}
    (hR : ∀ h', Heap.SameBut a s.heap h' → StS P w h' a zs → R (some true) { s with heap := h' }) :
    wpAny (model P w) A (do storeSet a fs u; if (!wd && u.tooFull) = true then do { g (relayAll u fs (SetTable.grown fs.size)).2.2; storeSet a (relayAll u fs (SetTable.grown fs.size)).1 (relayAll u fs (SetTable.grown fs.size)).2.1; pure (some true) } else pure (some true)) R E s := by
  refine wpAny_bind (wpAny_storeSet_of q1 q3 ?_ (fits_of_scanBound c4))
  have p1 := store_at (es' := fs) (t' := u) q1 q3
  have p2 := Heap.SameBut.update s.heap a (Obj.putSet fs u)
  split
  · have m1 := relayAll_perm u fs (SetTable.grown fs.size)
    have m2 := relayAll_fits u fs (SetTable.grown fs.size)
    have m3 := relayAll_ris u fs (SetTable.grown fs.size)
    have m4 := relayAll_led u fs (SetTable.grown fs.size)
    generalize relayAll u fs (SetTable.grown fs.size) = Y at m1 m2 m3 m4 ⊢
    obtain ⟨gs, v, z⟩ := Y
    dsimp only at m1 m2 m3 m4 ⊢
    have len : gs.size = fs.size := by rw [← Array.length_toList, m1.length_eq, Array.length_toList]
    have c8 : gs.size < scanBound := len ▸ c4
    refine wpAny_bind (hg _ _ _ (wpAny_bind (wpAny_storeSet_of p1 rfl ?_ (fits_of_scanBound c8))))
    have p3 := store_at (es' := gs) (t' := v) p1 rfl
    exact wpAny_pure (hR _ (p2.trans (Heap.SameBut.update _ a _)) ⟨_, gs, _, v, p3, q2, rfl, fun e he => c1 e (m1.mem_iff.mp he), (m1.map kS).trans c2, c3, c8, m2, m3, c7.imp id fun y => by rw [m4]; exact y⟩)
  · exact wpAny_pure (hR _ p2 ⟨_, fs, _, u, p1, q2, rfl, c1, c2, c3, c4, c5, c6, c7⟩)
def addSt (ks : List Str) (x : Str) : List Str := if x ∈ ks then ks else ks ++ [x]
theorem addS_hashed {x : Str} {tk : Tok} {Q : Bool → Shared → Prop} (R : StS P w s.heap a ks) (room : ks.length + 1 < scanBound)
    (hQ : ∀ b h', Heap.SameBut a s.heap h' → StS P w h' a (addSt ks x) → Q b { s with heap := h' }) : wpAny (model P w) A (setAddHashed a (.str x tk) ((strKind P w).hash x)) Q E s := by
  obtain ⟨o, es, ep, t, q1, q2, q3, c1, c2, c3, c4, c5, c6, c7⟩ := R
  have hkey : (strKind P w).is x (.str x tk) = true := strKind_is P w x tk
  have sc : (Value.str x tk).scannable = true := rfl
  have el : ElemsOf (strKind P w) es.toList := gdS_elems c1
  have len0 : es.size = ks.length := by rw [← c2.length_eq, List.length_map, Array.length_toList]
  unfold setAddHashed setAddHashedIn
  refine wpAny_holding (wpAny_bind (wpAny_setState_of q1 q3 c5 ?_))
  dsimp only
  rw [byScan_of sc c4 el, if_pos rfl]
  unfold setAddByScan
  refine wpAny_bind (wpAny_bind (wpAny_rule (wpAny_bind (wpAny_setScan_of hkey q1 q3 c5 el ?_))))
  cases hfi : List.findIdx? (fun e => (strKind P w).is x e.2) es.toList with
  | some j =>
    dsimp only
    obtain ⟨hj, pj, _⟩ := List.findIdx?_eq_some_iff_getElem.mp hfi
    have hm : x ∈ ks := c2.mem_iff.mp (List.mem_map.mpr ⟨es.toList[j], List.getElem_mem hj, (gdS_is (c1 _ (List.getElem_mem hj)) x).mp pj⟩)
    refine wpAny_pure (wpAny_pure (hQ _ s.heap (Heap.SameBut.refl a s.heap) ?_))
    unfold addSt
    rw [if_pos hm]
    exact ⟨o, es, ep, t, q1, q2, q3, c1, c2, c3, c4, c5, c6, c7⟩
  | none =>
    dsimp only
    have hm : x ∉ ks := fun z => by
      obtain ⟨e, he, hk⟩ := List.mem_map.mp (c2.mem_iff.mpr z)
      have := List.findIdx?_eq_none_iff.mp hfi e he
      rw [(gdS_is (c1 e he) x).mpr hk] at this
      cases this
    have gw : ∀ (b : Bool) {r : Shared} {K : Unit → Shared → Prop}, K () r → wpAny (model P w) A (match b with | true => rule "set.scan.the-table-gave-way" | false => pure ()) K E r := fun b r K q => by
      cases b
      · exact wpAny_pure q
      · exact wpAny_rule q
    have m1 := layNew_perm t es ((strKind P w).hash x) (.str x tk)
    have m2 := layNew_fits t es ((strKind P w).hash x) (.str x tk)
    have m3 := layNew_ris t es ((strKind P w).hash x) (.str x tk) c6
    have m4 := layNew_led t es ((strKind P w).hash x) (.str x tk)
    generalize layNew t es ((strKind P w).hash x) (.str x tk) = Y at m1 m2 m3 m4 ⊢
    obtain ⟨fs, u, wd, gave⟩ := Y
    dsimp only at m1 m2 m3 m4 ⊢
    rw [Array.toList_push] at m1
    have d1 : ∀ e ∈ fs.toList, GdS P w e := fun e he => by
      rcases List.mem_append.mp (m1.mem_iff.mp he) with z | z
      · exact c1 e z
      · rw [List.mem_singleton.mp z]; exact ⟨x, tk, rfl, rfl⟩
    have d2 : (fs.toList.map kS).Perm (ks ++ [x]) := by
      refine (m1.map kS).trans ?_
      rw [List.map_append]
      exact c2.append_right _
    have d3 : (ks ++ [x]).Nodup := by
      rw [List.nodup_append]
      exact ⟨c3, by simp, fun y hy z hz e => hm (by rw [← List.mem_singleton.mp hz, ← e]; exact hy)⟩
    have d4 : fs.size < scanBound := by
      have : fs.size = ks.length + 1 := by rw [← Array.length_toList, m1.length_eq, List.length_append, Array.length_toList, len0]; rfl
      omega
    have d7 : w.params.followText "set-order" = true ∨ u.led = true := c7.imp id fun y => by rw [m4]; exact y
    have fin : ∀ h', Heap.SameBut a s.heap h' → StS P w h' a (ks ++ [x]) → Q true { s with heap := h' } := fun h' sb r => hQ true h' sb (by unfold addSt; rw [if_neg hm]; exact r)
    refine wpAny_bind (gw _ ?_)
    split
    · refine wpAny_bind ?_
      rw [hashByValue_scannable 8 sc]
      refine wpAny_pure (addS_tail ?_ q1 q2 q3 d1 d2 d3 d4 ?_ ?_ ?_ ?_)
      · intro b r K q; cases b <;> first | exact wpAny_pure q | exact wpAny_rule q
      · first | (split <;> first | exact m2 | exact SetTable.fits_plain_off m2) | exact m2
      · first | (split <;> exact m3) | exact m3
      · first | (split <;> exact d7) | exact d7
      · intro h' sb r; dsimp only; exact wpAny_pure (fin h' sb r)
    · refine wpAny_bind (wpAny_pure ?_)
      rw [if_pos rfl]
      refine addS_tail ?_ q1 q2 q3 d1 d2 d3 d4 m2 m3 d7 ?_
      · intro b r K q; cases b <;> first | exact wpAny_pure q | exact wpAny_rule q
      · intro h' sb r; dsimp only; exact wpAny_pure (fin h' sb r)
end

/-! ### set(xs) -/
section
variable {P : Program} {w : World} {A : Around} {E : Value → Shared → Prop} {s : Shared}
theorem StS.new {h : Heap} {a : Addr} {o : Obj} (h0 : h.get? a = some o) (e : o = { cls := .type "set", dict := none, data := .set #[] 0 (.fresh 0 0 (!w.params.followText "set-order")) }) : StS P w h a [] := by
  subst e
  refine ⟨_, #[], 0, _, h0, ⟨rfl, rfl, rfl⟩, rfl, (fun e he => by simp at he), .nil, .nil, by decide, rfl, .nil, ?_⟩
  show _ ∨ (!w.params.followText "set-order") = true
  cases w.params.followText "set-order" <;> simp
theorem new_set1 (a : Value) {Q₁ : Value → Shared → Prop} (h : Q₁ (.ref s.heap.objs.size) { s with heap := s.heap.push { cls := .type "set", dict := none, data := .set #[] 0 (.fresh 0 0 (!w.params.followText "set-order")) } }) :
    codeAny (model P w) A (.call (.builtin "set.__new__") ⟨[.type "set", a], []⟩) (wants Q₁ E) s := by
  refine codeAny_of_tree (show wpAny _ A.in1 (do checkBuiltinCall "set.__new__" ⟨[.type "set", a], []⟩; again (.builtin "set.__new__" ⟨[.type "set", a], []⟩)) _ _ s from wpAny_bind (wpAny_of_eq (F.newCall_set_1 a) (wpAny_pure ⟨plainId_quiet F.plain_set_new _, codeAny_builtin F.entry_set_new ?_⟩)))
  rw [Around.under_plainId F.plain_set_new _]
  unfold Builtin.«set.__new__» Builtin.Frozenset.newClass
  have hsub := sub_set_self
  obtain ⟨hp, g, d, tk, os⟩ := s
  dsimp only
  wp_walk
  refine wpAny_askSetting (wpAny_pure ?_)
  dsimp only
  simp only [newObj]
  exact wpAny_bind (wpAny_alloc (wpAny_pure (wpAny_pure h)))
end
def setL (xs : List Str) : List Str := xs.foldl addSt []
theorem addSt_len (ks : List Str) (x : Str) : (addSt ks x).length ≤ ks.length + 1 := by unfold addSt; split <;> simp
theorem foldl_len : ∀ (xs ks : List Str), (xs.foldl addSt ks).length ≤ ks.length + xs.length
  | [], ks => Nat.le_refl _
  | x :: xs, ks => by
    have h1 := foldl_len xs (addSt ks x)
    have h2 := addSt_len ks x
    rw [List.foldl_cons, List.length_cons]
    omega
theorem setL_snoc (xs : List Str) (x : Str) : setL (xs ++ [x]) = addSt (setL xs) x := List.foldl_append ..
section
variable {P : Program} {w : World} {A : Around} {R : Result → Shared → Prop} {I S : Addr} {fp wr : List Addr} {G : Array GenState → Array GenState → Prop} {n : Nat} {V : Nat → Value → Prop} {St : Nat → Shared → Prop} {xs : List Str}
/-- the loop of an update by texts; what the set holds is told -/
theorem sts_update (W : WalksS P w A.in1 I fp wr G n V St) (hSf : S ∉ fp) (hsz : xs.length = n) (hn : n ≤ 4000) (hval : ∀ i v, V i v → ∃ t, v = .str (xs.getD i Str.empty) t) :
    ∀ (k i : Nat) (s : Shared), n - i = k → i ≤ n → St i s → StS P w s.heap S (setL (xs.take i)) → (∀ s', Moved (S :: wr) G s s' → StS P w s'.heap S (setL (xs.take n)) → R (.ok (.ret .none)) s') →
      codeAny (model P w) A (.builtin "set.update.loop" ⟨[.ref S, .ref I], []⟩) R s := by
  have up : ∀ b ∈ wr, b ∈ S :: wr := fun b hb => List.mem_cons_of_mem _ hb
  have hSw : S ∉ wr := fun z => hSf (W.sub _ z)
  intro k
  induction k with
  | zero =>
    intro i s hk hi st hS done
    obtain rfl : i = n := by omega
    refine codeAny_builtin PyProof.Rows.F.entry_set_update_loop ?_
    rw [Around.under_plainId PyProof.Rows.F.plain_set_update_loop _]
    refine wpAny_bind (W.done s _ _ st fun s' hm => (show wpAny _ A.in1 (ret Value.none) _ _ s' from wpAny_pure (done s' (hm.mono up) (hS.at fun o e => hm.heap S _ hSw e))))
  | succ k ih =>
    intro i s hk hi st hS done
    have hlt : i < n := by omega
    refine codeAny_builtin PyProof.Rows.F.entry_set_update_loop ?_
    rw [Around.under_plainId PyProof.Rows.F.plain_set_update_loop _]
    refine wpAny_bind (W.item i s _ _ hlt st fun v s' hP st' hm => ?_)
    obtain ⟨t, rfl⟩ := hval i v hP
    have hS1 := hS.at fun o e => hm.heap S _ hSw e
    show wpAny _ A.in1 (holding [Value.str (xs.getD i Str.empty) t] (setAdd S (.str (xs.getD i Str.empty) t)) >>= _) _ _ s'
    refine wpAny_bind (wpAny_holding ?_)
    unfold setAdd
    refine wpAny_holding (wpAny_bind ((strKind P w).pyHash (k := xs.getD i Str.empty) (strKind_is _ _ _ _) ?_))
    have room : (setL (xs.take i)).length + 1 < scanBound := by
      have h1 := foldl_len (xs.take i) []
      have h2 : (xs.take i).length ≤ i := by simp; omega
      unfold setL scanBound
      simp only [List.length_nil] at h1
      omega
    refine addS_hashed (s := { s' with toks := s'.toks + 1 }) hS1 room fun b h' sb hS2 => ?_
    have e1 : xs.take (i + 1) = xs.take i ++ [xs.getD i Str.empty] := by rw [List.take_add_one, List.getD_eq_getElem?_getD, List.getElem?_eq_getElem (by omega)]; rfl
    have hS3 : StS P w h' S (setL (xs.take (i + 1))) := by rw [e1, setL_snoc]; exact hS2
    refine wpAny_pure ⟨plainId_quiet PyProof.Rows.F.plain_set_update_loop _, ih (i + 1) _ (by omega) hlt (W.frame _ s' _ _ st' (Nat.le_succ _) fun b hb o e => ?_) hS3 fun s'' hm'' hS'' => ?_⟩
    · rw [sb.2 b (fun z : b = S => hSf (z ▸ hb))]; exact e
    · exact done s'' (Moved.trans W.gtrans ((hm.mono up).then_heap (Nat.le_succ _) fun b o hb e => (sb.2 b (fun z : b = S => hb (by rw [z]; exact List.mem_cons_self))).trans e) hm'') hS''
end

section
variable {P : Program} {w : World} {A : Around} {E : Value → Shared → Prop} {s : Shared}
set_option maxHeartbeats 3200000 in
theorem call_stL {l : Addr} {items : Array Value} {xs : List Str} {Q : Value → Shared → Prop} (hh : A.handled = none) (hl : s.heap.IsList l items) (hi : StrsAre items.toList xs) (hn : xs.length ≤ 4000)
    (h : ∀ (h' : Heap) (tk : Nat), StS P w h' s.heap.objs.size (setL xs) → (∀ b o, b < s.heap.objs.size → s.heap.get? b = some o → h'.get? b = some o) → s.heap.objs.size < h'.objs.size → Q (.ref s.heap.objs.size) { s with heap := h', toks := tk }) :
    wpAny (model P w) A (call (.type "set") [.ref l]) Q E s := by
  have hsz : xs.length = items.size := by rw [← StrsAre.len_eq hi, Array.length_toList]
  obtain ⟨c, tl, hmro⟩ := F.called_set.mro
  have hmade := F.called_set.made
  have hsub := F.called_set.sub
  have hnt := F.called_set.notType
  have hcan := F.called_set.canCreate
  have hct := F.typeCall_set_1 (.ref l)
  refine wpAny_call (codeAny_of_tree (show wpAny _ _ (callAny (.type "set") _) _ _ _ from wpAny_pure ⟨Code.quiet_builtin _ (by decide +kernel), codeAny_builtin F.entry_type_call ?_⟩))
  rw [Around.under_plain (weight_type_call_type "set" [.ref l] []) rfl]
  repeat (any_goals (first | assumption | wp_step))
  refine codeAny_mono (new_set1 (.ref l) (E := E) (Q₁ := fun obj s₁ => obj = .ref s.heap.objs.size ∧ s₁ = { s with heap := s.heap.push { cls := .type "set", dict := none, data := .set #[] 0 (.fresh 0 0 (!w.params.followText "set-order")) } }) ⟨rfl, rfl⟩) fun r s₁ hr => ?_
  cases r with
  | error e => exact hr
  | ok fl =>
    cases fl with
    | ret obj =>
      obtain ⟨rfl, rfl⟩ := hr
      generalize hb : (!w.params.followText "set-order") = b
      have hS : (s.heap.push { cls := .type "set", dict := none, data := .set #[] 0 (.fresh 0 0 b) }).get? s.heap.objs.size = some { cls := .type "set", dict := none, data := .set #[] 0 (.fresh 0 0 b) } := Heap.get?_push_size _ rfl
      have hT : Shared.TypeIs { s with heap := s.heap.push { cls := .type "set", dict := none, data := .set #[] 0 (.fresh 0 0 b) } } (.ref s.heap.objs.size) "set" := ⟨_, hS, rfl⟩
      have hli := F.called_set.init.lookup
      have hbi := F.called_set.init.bind (.ref s.heap.objs.size)
      repeat (any_goals (first | assumption | wp_step))
      refine codeAny_mono (codeAny_call_builtin (R := wants (fun r s₂ => r = .none ∧ ∃ h' tk, s₂ = { s with heap := h', toks := tk } ∧ StS P w h' s.heap.objs.size (setL xs) ∧ (∀ b o, b < s.heap.objs.size → s.heap.get? b = some o → h'.get? b = some o) ∧ s.heap.objs.size < h'.objs.size) E) F.called_set.init.plain F.entry_set_init (check_set_init_1 hT ?_)) fun r₂ s₂ hr₂ => ?_
      · obtain ⟨ol, hol, hcl, nl, hdl⟩ := hl
        obtain ⟨oc, od, dt, sl⟩ := ol
        simp only at hcl hdl
        subst hcl hdl
        have hol' : (s.heap.push { cls := .type "set", dict := none, data := .set #[] 0 (.fresh 0 0 b) }).get? l = some { cls := .type "list", dict := od, data := .seq items nl, slots := sl } := Heap.get?_push_of_some _ hol
        have hsls := F.sub_list_set
        have hslf := F.sub_list_frozenset
        have hne : (Value.type "list" == Value.type "dict") = false := by decide
        have hl1 : (s.heap.push { cls := .type "set", dict := none, data := .set #[] 0 (.fresh 0 0 b) }).IsList l items := ⟨_, hol', rfl, nl, rfl⟩
        unfold Builtin.«set.__init__» noKeywords Builtin.Frozenset.updateFrom
        generalize hPI : pyIter = PI
        wp_walk
        subst hPI
        refine wpAny_pyIter_list hl1 ?_
        refine wpAny_bind (wpAny_runValue ?_)
        have hlS : l < s.heap.objs.size := Heap.lt_size hol
        have hh3 : A.in1.in1.in1.handled = none := by simp [hh]
        have hsz1 : (s.heap.push { cls := .type "set", dict := none, data := .set #[] 0 (.fresh 0 0 b) }).objs.size = s.heap.objs.size + 1 := Heap.size_push ..
        have hneI : l ≠ (s.heap.push { cls := .type "set", dict := none, data := .set #[] 0 (.fresh 0 0 b) }).objs.size := by rw [hsz1]; exact Nat.ne_of_lt (Nat.lt_succ_of_lt hlS)
        have hSf : s.heap.objs.size ∉ [(s.heap.push { cls := .type "set", dict := none, data := .set #[] 0 (.fresh 0 0 b) }).objs.size, l] := by
          rw [hsz1]
          intro z
          rcases List.mem_cons.mp z with z | z
          · exact absurd z (Nat.ne_of_lt (Nat.lt_succ_self _))
          · exact absurd (List.mem_singleton.mp z) (Nat.ne_of_gt hlS)
        refine sts_update (P := P) (xs := xs) ((Walks.list hh3 _ l hneI items).toS) hSf hsz (by omega) (fun i v hv => SS.strs_at hi i v (by rw [Array.getElem?_toList]; exact hv)) (items.size - 0) 0 _ (by omega) (Nat.zero_le _) ⟨⟨_, Heap.get?_push_size _ rfl, rfl, rfl⟩, ((fun z => z.push _) hl1)⟩ (StS.new (Heap.get?_push_of_some _ hS) (by rw [hb])) ?hR
        case hR =>
          intro s' hm hS'
          obtain ⟨h', g', d', tk', os'⟩ := s'
          have eg : g' = s.gens := hm.gens
          have ed : d' = s.drawn := hm.drawn
          have eo : os' = s.os := hm.os
          subst eg ed eo
          rw [← hsz, List.take_length] at hS'
          refine (show wpAny _ _ _ _ _ _ from wpAny_pure (show wpAny _ _ (ret Value.none) _ _ _ from wpAny_pure ⟨rfl, h', tk', rfl, hS', fun b2 o hb e => hm.heap b2 o (fun z => ?_) (Heap.get?_push_of_some _ (Heap.get?_push_of_some _ e)), by obtain ⟨o, _, _, _, ho, _⟩ := hS'; exact Heap.lt_size ho⟩))
          rw [hsz1] at z
          rcases List.mem_cons.mp z with z | z
          · exact absurd z (Nat.ne_of_lt hb)
          · exact absurd (List.mem_singleton.mp z) (Nat.ne_of_lt (Nat.lt_succ_of_lt hb))
      · cases r₂ with
        | error e => exact hr₂
        | ok fl₂ =>
          cases fl₂ with
          | ret r =>
            obtain ⟨rfl, h', tk, rfl, hS', hk', hsz'⟩ := hr₂
            repeat (any_goals (first | assumption | wp_step))
            exact h _ _ hS' hk' hsz'
          | _ => exact hr₂.elim
    | _ => exact hr.elim
end

section
variable {P : Program} {w : World} {A : Around} {E : Value → Shared → Prop} {s : Shared}
set_option maxHeartbeats 3200000 in
theorem call_stT {l : Addr} {items : Array Value} {xs : List Str} {Q : Value → Shared → Prop} (hh : A.handled = none) (hl : s.heap.IsTuple l items) (hi : StrsAre items.toList xs) (hn : xs.length ≤ 4000)
    (h : ∀ (h' : Heap) (tk : Nat), StS P w h' s.heap.objs.size (setL xs) → (∀ b o, b < s.heap.objs.size → s.heap.get? b = some o → h'.get? b = some o) → s.heap.objs.size < h'.objs.size → Q (.ref s.heap.objs.size) { s with heap := h', toks := tk }) :
    wpAny (model P w) A (call (.type "set") [.ref l]) Q E s := by
  have hsz : xs.length = items.size := by rw [← StrsAre.len_eq hi, Array.length_toList]
  obtain ⟨c, tl, hmro⟩ := F.called_set.mro
  have hmade := F.called_set.made
  have hsub := F.called_set.sub
  have hnt := F.called_set.notType
  have hcan := F.called_set.canCreate
  have hct := F.typeCall_set_1 (.ref l)
  refine wpAny_call (codeAny_of_tree (show wpAny _ _ (callAny (.type "set") _) _ _ _ from wpAny_pure ⟨Code.quiet_builtin _ (by decide +kernel), codeAny_builtin F.entry_type_call ?_⟩))
  rw [Around.under_plain (weight_type_call_type "set" [.ref l] []) rfl]
  repeat (any_goals (first | assumption | wp_step))
  refine codeAny_mono (new_set1 (.ref l) (E := E) (Q₁ := fun obj s₁ => obj = .ref s.heap.objs.size ∧ s₁ = { s with heap := s.heap.push { cls := .type "set", dict := none, data := .set #[] 0 (.fresh 0 0 (!w.params.followText "set-order")) } }) ⟨rfl, rfl⟩) fun r s₁ hr => ?_
  cases r with
  | error e => exact hr
  | ok fl =>
    cases fl with
    | ret obj =>
      obtain ⟨rfl, rfl⟩ := hr
      generalize hb : (!w.params.followText "set-order") = b
      have hS : (s.heap.push { cls := .type "set", dict := none, data := .set #[] 0 (.fresh 0 0 b) }).get? s.heap.objs.size = some { cls := .type "set", dict := none, data := .set #[] 0 (.fresh 0 0 b) } := Heap.get?_push_size _ rfl
      have hT : Shared.TypeIs { s with heap := s.heap.push { cls := .type "set", dict := none, data := .set #[] 0 (.fresh 0 0 b) } } (.ref s.heap.objs.size) "set" := ⟨_, hS, rfl⟩
      have hli := F.called_set.init.lookup
      have hbi := F.called_set.init.bind (.ref s.heap.objs.size)
      repeat (any_goals (first | assumption | wp_step))
      refine codeAny_mono (codeAny_call_builtin (R := wants (fun r s₂ => r = .none ∧ ∃ h' tk, s₂ = { s with heap := h', toks := tk } ∧ StS P w h' s.heap.objs.size (setL xs) ∧ (∀ b o, b < s.heap.objs.size → s.heap.get? b = some o → h'.get? b = some o) ∧ s.heap.objs.size < h'.objs.size) E) F.called_set.init.plain F.entry_set_init (check_set_init_1 hT ?_)) fun r₂ s₂ hr₂ => ?_
      · obtain ⟨ol, hol, hcl, nl, hdl⟩ := hl
        obtain ⟨oc, od, dt, sl⟩ := ol
        simp only at hcl hdl
        subst hcl hdl
        have hol' : (s.heap.push { cls := .type "set", dict := none, data := .set #[] 0 (.fresh 0 0 b) }).get? l = some { cls := .type "tuple", dict := od, data := .seq items nl, slots := sl } := Heap.get?_push_of_some _ hol
        have hsls := PySem.F.sub_tuple_set
        have hslf := PySem.F.sub_tuple_frozenset
        have hne : (Value.type "tuple" == Value.type "dict") = false := by decide
        have hl1 : (s.heap.push { cls := .type "set", dict := none, data := .set #[] 0 (.fresh 0 0 b) }).IsTuple l items := ⟨_, hol', rfl, nl, rfl⟩
        unfold Builtin.«set.__init__» noKeywords Builtin.Frozenset.updateFrom
        generalize hPI : pyIter = PI
        wp_walk
        subst hPI
        refine wpAny_pyIter_tuple hl1 ?_
        refine wpAny_bind (wpAny_runValue ?_)
        have hlS : l < s.heap.objs.size := Heap.lt_size hol
        have hh3 : A.in1.in1.in1.handled = none := by simp [hh]
        have hsz1 : (s.heap.push { cls := .type "set", dict := none, data := .set #[] 0 (.fresh 0 0 b) }).objs.size = s.heap.objs.size + 1 := Heap.size_push ..
        have hneI : l ≠ (s.heap.push { cls := .type "set", dict := none, data := .set #[] 0 (.fresh 0 0 b) }).objs.size := by rw [hsz1]; exact Nat.ne_of_lt (Nat.lt_succ_of_lt hlS)
        have hSf : s.heap.objs.size ∉ [(s.heap.push { cls := .type "set", dict := none, data := .set #[] 0 (.fresh 0 0 b) }).objs.size, l] := by
          rw [hsz1]
          intro z
          rcases List.mem_cons.mp z with z | z
          · exact absurd z (Nat.ne_of_lt (Nat.lt_succ_self _))
          · exact absurd (List.mem_singleton.mp z) (Nat.ne_of_gt hlS)
        refine sts_update (P := P) (xs := xs) ((Walks.tuple hh3 _ l hneI items).toS) hSf hsz (by omega) (fun i v hv => SS.strs_at hi i v (by rw [Array.getElem?_toList]; exact hv)) (items.size - 0) 0 _ (by omega) (Nat.zero_le _) ⟨⟨_, Heap.get?_push_size _ rfl, rfl, rfl⟩, ((fun z => z.push _) hl1)⟩ (StS.new (Heap.get?_push_of_some _ hS) (by rw [hb])) ?hR
        case hR =>
          intro s' hm hS'
          obtain ⟨h', g', d', tk', os'⟩ := s'
          have eg : g' = s.gens := hm.gens
          have ed : d' = s.drawn := hm.drawn
          have eo : os' = s.os := hm.os
          subst eg ed eo
          rw [← hsz, List.take_length] at hS'
          refine (show wpAny _ _ _ _ _ _ from wpAny_pure (show wpAny _ _ (ret Value.none) _ _ _ from wpAny_pure ⟨rfl, h', tk', rfl, hS', fun b2 o hb e => hm.heap b2 o (fun z => ?_) (Heap.get?_push_of_some _ (Heap.get?_push_of_some _ e)), by obtain ⟨o, _, _, _, ho, _⟩ := hS'; exact Heap.lt_size ho⟩))
          rw [hsz1] at z
          rcases List.mem_cons.mp z with z | z
          · exact absurd z (Nat.ne_of_lt hb)
          · exact absurd (List.mem_singleton.mp z) (Nat.ne_of_lt (Nat.lt_succ_of_lt hb))
      · cases r₂ with
        | error e => exact hr₂
        | ok fl₂ =>
          cases fl₂ with
          | ret r =>
            obtain ⟨rfl, h', tk, rfl, hS', hk', hsz'⟩ := hr₂
            repeat (any_goals (first | assumption | wp_step))
            exact h _ _ hS' hk' hsz'
          | _ => exact hr₂.elim
    | _ => exact hr.elim
end
end DL

set_option Elab.async false
set_option linter.all false
set_option maxRecDepth 100000
set_option maxHeartbeats 8000000
/-! The data layer: sorted(set(xs)), xs a list or a tuple of texts. -/
namespace DL
open PySem PySem.Spec PyProof.Rows L2
open Evl (Ex Ex.refl Ex.trans Ex.new)
abbrev leS : Str → Str → Bool := PySem.W.dataLe false PyData.str
section
variable {P : Program} {w : World} {A : Around} {E : Value → Shared → Prop} {s : Shared}
theorem strs_each : ∀ {l : List Value}, (∀ v ∈ l, ∃ x t, v = Value.str x t) → PySem.W.EachIs (fun v x => ∃ t, v = Value.str x t) l (l.map fun v => kS (0, v))
  | [], _ => .nil
  | v :: l, h => by
    obtain ⟨x, t, e⟩ := h v (List.mem_cons_self ..)
    exact .cons ⟨t, by rw [e]; rfl⟩ (strs_each fun u hu => h u (List.mem_cons_of_mem _ hu))
theorem sort_StS {a : Addr} {ks : List Str} {Q : Value → Shared → Prop} (R : StS P w s.heap a ks) (hh : A.handled = none) (hu : A.units + 64 < cLine)
    (hQ : ∀ (s2 : Shared) (p : Addr) (res : List Value) (ep : Nat) (zs : List Str), (∀ b o, s.heap.get? b = some o → s2.heap.get? b = some o) → s2.gens = s.gens → s2.os = s.os → s.heap.objs.size ≤ p →
      s2.heap.get? p = some (seqObj "list" res.toArray ep) → Vals ((zs.mergeSort leS).map V.str) res → zs.Perm ks → Q (.ref p) s2) :
    wpAny (model P w) A (call (.builtin "sorted") [.ref a]) Q E s := by
  have ⟨o, es, ep, t, ho, hex, hd, g, pm0, nd, hb, hf, hr, hl⟩ := R
  have lim : es.size ≤ sizeLine := Nat.le_trans (Nat.le_of_lt hb) (by decide)
  refine Calls.call_function_entry kind_sorted plain_sorted entry_sorted (args_sorted1 _) ?_
  unfold Builtin.«sorted»
  refine wpAny_bind (m := checkCount "sorted" 1 1 _) (wpAny_pure ?_)
  refine wpAny_bind (collect_set (A := A.in1) hh ⟨o, ho, hex.1, hd⟩ hf hb hr hl fun s1 vs keep sz gs oss pm => ?_)
  have len : vs.length = es.size := by rw [pm.length_eq, List.length_map, Array.length_toList]
  have allS : ∀ v ∈ vs, ∃ x t, v = Value.str x t := fun v hv => by
    obtain ⟨e, he, rfl⟩ := List.mem_map.mp (pm.mem_iff.mp hv)
    obtain ⟨x, tk, h1, _⟩ := g e he
    exact ⟨x, tk, h1⟩
  have each := strs_each allS
  have pz : (vs.map fun v => kS (0, v)).Perm ks := by
    refine (pm.map fun v => kS (0, v)).trans ?_
    rw [List.map_map]
    refine (List.Perm.of_eq (List.map_congr_left fun e he => ?_)).trans pm0
    obtain ⟨x, tk, h1, _⟩ := g e he
    show kS (0, e.2) = kS e
    unfold kS
    rw [h1]
  generalize (vs.map fun v => kS (0, v)) = zs at each pz
  refine wpAny_bind (wpAny_newList ?_ (by rw [len]; exact lim))
  have at0 : (s1.heap.push (seqObj "list" vs.toArray 0)).get? s1.heap.objs.size = some (seqObj "list" vs.toArray 0) := Heap.get?_push_size _ rfl
  have er : ∀ {l : List Value} {m : List Str} {hh : Heap} {b : Addr}, PySem.W.EachIs (fun v x => ∃ t, v = Value.str x t) l m → PySem.W.EachIs (fun v x => ∃ as, Reads hh v (PyData.str x) as ∧ b ∉ as) l m := by
    intro l m hh b h
    induction h with
    | nil => exact .nil
    | cons r t ih => obtain ⟨t, rfl⟩ := r; exact .cons ⟨[], .str _ _, by simp⟩ ih
  have zl : zs.length = es.size := by rw [pz.length_eq, ← pm0.length_eq, List.length_map, Array.length_toList]
  refine wpAny_bind (wpAny_holding (PySem.W.list_sort_data (R := fun v x => ∃ t, v = Value.str x t) (bs := zs) (enc := PyData.str) at0 each (er each) (fun d hd d' hd' => ?_) (Or.inr fun d hd => ?_) (by rw [zl]; exact lim) (fun b hb => ?_) fun out lo eo => ?_))
  · obtain ⟨x, _, rfl⟩ := List.mem_map.mp hd
    obtain ⟨y, _, rfl⟩ := List.mem_map.mp hd'
    rfl
  · obtain ⟨x, _, rfl⟩ := List.mem_map.mp hd
    exact ⟨(fun z => by cases z), fun xs z => (by cases z)⟩
  · have hu1 : A.in1.units ≤ A.units + 1 := Nat.le_refl _
    have : (PyData.str b).depth = 0 := rfl
    omega
  · obtain ⟨ep2, at2⟩ := sortedHeap_at (vs := vs) (out := out.toArray) at0
    refine wpAny_pure ⟨_, rfl, hQ _ s1.heap.objs.size out ep2 zs (fun b u e => ?_) gs oss sz at2 (each_str eo) pz⟩
    have q := keep b u e
    have lt := Heap.lt_size q
    show (sortedHeap (s1.heap.push (seqObj "list" vs.toArray 0)) s1.heap.objs.size vs out.toArray).get? b = some u
    rw [sortedHeap_old (Nat.ne_of_lt lt) (by rw [size_push']; exact Nat.lt_succ_of_lt lt)]
    exact Heap.get?_push_of_some _ q
end
/-- sorted(set(xs)), xs a list or a tuple of texts -/
def tSortSt (K : PySem.W.Frag) (ta : TE) : TE := fun σ H Q => ta σ H fun x H1 => ∃ (l : Addr) (xs : List Str), x = .ref l ∧ (SqL K H1 l (xs.map V.str) ∨ SqT K H1 l (xs.map V.str)) ∧ xs.length ≤ 4000 ∧
  ∀ (zs : List Str) (p : Addr), zs.Perm (setL xs) → H1 p = none → Q (.ref p) (upd H1 p (.lst ((zs.mergeSort leS).map V.str)))
theorem pe_sortSt {X : Cx} {K : PySem.W.Frag} {a : Expr} {ta : TE} {p p2 q pos : Pos} (hg : Gl X "sorted") (hm : X.mg "sorted" = none) (hg2 : Gl X "set") (hm2 : X.mg "set" = none) (ha : PE X a ta) (hu : X.A.units + 64 < cLine) (hc : X.calm = true := by rfl) (hk : X.K = K := by rfl)
    (na : starEach [a] X.env = (false, eval a X.env) :: starEach [] X.env := by rfl) : PE X (.Call (.Name "sorted" p) [.Call (.Name "set" p2) [a] [] q] [] pos) (tSortSt K ta) := by
  subst hk
  refine ⟨fun pins s σ H Q I h => ?_⟩
  refine Call_ (ld_blt I hg hm boot_sorted ?_)
  refine PyProof.Rows.callWith_builtin1 (PyProof.Rows.args_cons ?_ rfl) rfl rfl
  refine Call_ (ld_blt I hg2 hm2 boot_set ?_)
  refine PyProof.Rows.callWith_type1 (PyProof.Rows.args_cons (thn (ha.run pins s σ H _ I h) fun v s1 ⟨x, H1, I1, r1, q1⟩ => PyProof.Rows.args_nil ?_) na) na rfl
  obtain ⟨l, xs, rfl, hq, hn, q1⟩ := q1
  cases r1
  have fin : ∀ (h' : Heap) (tk : Nat), StS X.prog X.w h' s1.heap.objs.size (setL xs) → (∀ b o, b < s1.heap.objs.size → s1.heap.get? b = some o → h'.get? b = some o) → s1.heap.objs.size < h'.objs.size →
      wpAny (model X.prog X.w) X.A (call (.builtin "sorted") [.ref s1.heap.objs.size]) (EP X pins σ Q) X.xe { s1 with heap := h', toks := tk } := fun h' tk hS hk hsz => by
    have I2 : Inv X pins σ H1 { s1 with heap := h', toks := tk } := I1.kept fun b o e => hk b o (Heap.lt_size e) e
    refine sort_StS hS (I2.ok.hd hc) hu fun s2 p res ep zs keep gs oss sz at2 ev pm => ?_
    have lz : (setL xs).length ≤ xs.length := by
      have := foldl_len xs []
      rwa [List.length_nil, Nat.zero_add] at this
    have len : ((zs.mergeSort leS).map V.str).length ≤ sizeLine := by
      rw [List.length_map, (List.mergeSort_perm _ _).length_eq, pm.length_eq]
      exact Nat.le_trans lz (Nat.le_trans hn (by decide))
    have free : H1 p = none := I2.hok.fresh sz
    have J : Inv X pins σ (upd H1 p (.lst ((zs.mergeSort leS).map V.str))) { { s1 with heap := h', toks := tk } with heap := s2.heap, gens := s2.gens, drawn := s2.drawn, toks := s2.toks } :=
      I2.call (ch := []) (Un.laid keep sz free) (I2.hok.laid keep sz ⟨len, res, ep, ev, at2⟩) (by rw [gs]; exact I2.bare) (fun _ z => nomatch z)
    have same : s2 = { s1 with heap := s2.heap, gens := s2.gens, drawn := s2.drawn, toks := s2.toks } := by
      cases s2; cases s1; cases oss; rfl
    rw [same]
    exact ⟨.ref p, _, J, rfl, q1 zs p pm free⟩
  rcases hq with hq | hq
  · obtain ⟨its, r, pl, hz⟩ := I1.list hq
    exact call_stL (I1.ok.hd hc) pl.isList (by simpa using L2.strsAre_of r) hn fun h' tk hS hk hsz => PyProof.Rows.args_nil (fin h' tk hS hk hsz)
  · obtain ⟨its, r, pl, hz⟩ := I1.tuple hq
    exact call_stT (I1.ok.hd hc) (show s1.heap.IsTuple l its.toArray from pl) (by simpa using L2.strsAre_of r) hn fun h' tk hS hk hsz => PyProof.Rows.args_nil (fin h' tk hS hk hsz)
theorem kSortSt {X : Cx} {K : PySem.W.Frag} {e : Expr} {ta : TE} (h : PE X e (tSortSt X.K ta)) (hk : X.K = K := by rfl) : PE X e (tSortSt K ta) := by subst hk; exact h
/-! the texts, as code points -/
theorem sT_back (x : Str) : sT x.cps.toList = x := by
  obtain ⟨⟨l⟩⟩ := x
  rfl
theorem leS_def (x y : Str) : leS x y = !decide (y.cps.toList < x.cps.toList) := by
  rw [← PySem.W.dataLt_str]; rfl
def leT (a b : List Nat) : Bool := decide (a ≤ b)
def addTx (ks : List (List Nat)) (x : List Nat) : List (List Nat) := if x ∈ ks then ks else ks ++ [x]
/-- different texts, in the order of their first place -/
def distT (ms : List (List Nat)) : List (List Nat) := ms.foldl addTx []
/-- sorted(set(ms)) -/
def sortT (ms : List (List Nat)) : List (List Nat) := (distT ms).mergeSort leT
theorem addSt_map (ks : List (List Nat)) (x : List Nat) : addSt (ks.map sT) (sT x) = (addTx ks x).map sT := by
  have e : sT x ∈ ks.map sT ↔ x ∈ ks := ⟨fun h => by
    obtain ⟨y, hy, q⟩ := List.mem_map.mp h
    exact sT_inj q ▸ hy, fun h => List.mem_map.mpr ⟨x, h, rfl⟩⟩
  unfold addSt addTx
  by_cases h : x ∈ ks
  · rw [if_pos h, if_pos (e.mpr h)]
  · rw [if_neg h, if_neg (fun z => h (e.mp z)), List.map_append]; rfl
theorem setL_map (ms : List (List Nat)) : setL (ms.map sT) = (distT ms).map sT := by
  have : ∀ (ms ks : List (List Nat)), (ms.map sT).foldl addSt (ks.map sT) = (ms.foldl addTx ks).map sT := by
    intro ms
    induction ms with
    | nil => intro ks; rfl
    | cons m ms ih => intro ks; rw [List.map_cons, List.foldl_cons, List.foldl_cons, addSt_map, ih]
  exact this ms []
theorem leT_trans (a b c : List Nat) (h1 : leT a b = true) (h2 : leT b c = true) : leT a c = true := decide_eq_true (List.le_trans (of_decide_eq_true h1) (of_decide_eq_true h2))
theorem leT_total (a b : List Nat) : (leT a b || leT b a) = true := by
  rcases List.le_total a b with h | h
  · rw [show leT a b = true from decide_eq_true h]; rfl
  · rw [show leT b a = true from decide_eq_true h, Bool.or_true]
theorem leS_T (x y : Str) : leS x y = leT x.cps.toList y.cps.toList := by
  rw [leS_def]
  unfold leT
  by_cases h : y.cps.toList < x.cps.toList
  · rw [decide_eq_true h, decide_eq_false (fun z => z h)]; rfl
  · rw [decide_eq_false h, decide_eq_true (show x.cps.toList ≤ y.cps.toList from h)]; rfl
theorem sortT_pw (ms : List (List Nat)) : (sortT ms).Pairwise fun a b => leT a b = true := List.pairwise_mergeSort leT_trans leT_total _
theorem sortT_perm (ms : List (List Nat)) : (sortT ms).Perm (distT ms) := List.mergeSort_perm _ _
theorem sort_zs {ms : List (List Nat)} {zs : List Str} (h : zs.Perm (setL (ms.map sT))) : zs.mergeSort leS = (sortT ms).map sT := by
  have p1 : ((zs.mergeSort leS).map fun x => x.cps.toList).Perm (sortT ms) := by
    refine (((List.mergeSort_perm zs leS).trans h).map _).trans ?_
    rw [setL_map, List.map_map, show ((fun x : Str => x.cps.toList) ∘ sT) = id from rfl, List.map_id]
    exact (sortT_perm ms).symm
  have p2 : ((zs.mergeSort leS).map fun x => x.cps.toList).Pairwise fun a b => leT a b = true := by
    refine List.pairwise_map.mpr ((List.pairwise_mergeSort (le := leS) (fun a b c h1 h2 => ?_) (fun a b => ?_) zs).imp fun {a b} z => by rw [← leS_T]; exact z)
    · rw [leS_T] at h1 h2 ⊢; exact leT_trans _ _ _ h1 h2
    · rw [leS_T, leS_T]; exact leT_total _ _
  have e := List.Perm.eq_of_pairwise (fun a b _ _ h1 h2 => List.le_antisymm (of_decide_eq_true h1) (of_decide_eq_true h2)) p2 (sortT_pw ms) p1
  rw [← e, List.map_map, show (sT ∘ fun x : Str => x.cps.toList) = id from funext fun x => sT_back x, List.map_id]
section
variable {w : Bool} {c : Cn} {env : Sy} {os : List SO} {te : TE}
theorem dnA_strs {K : PySem.W.Frag} {N : Addr → Prop} {H : Hp} : ∀ {ms : List (List Nat)} {vs : List V}, DnAll K N H vs (ms.map dT) → vs = (ms.map sT).map V.str
  | [], _, h => by cases h; rfl
  | m :: ms, _, h => by
    cases h with
    | cons a b => rw [dnA_strs b, dn_str a]; rfl
theorem dn_strsA {K : PySem.W.Frag} {N : Addr → Prop} {H : Hp} : ∀ (ms : List (List Nat)), DnAll K N H ((ms.map sT).map V.str) (ms.map dT)
  | [] => .nil
  | m :: ms => .cons (.str _) (dn_strsA ms)
theorem sortSt_out {ad : Nat → Addr} {H : Hp} {p : Addr} (ms : List (List Nat)) (hp : H p = some (.lst (((sortT ms).map sT).map V.str))) : SoOk c.K (fun a => Nof c ad os a ∨ a = p) ad os.length H p (.lst (((sortT ms).map dT).map SV.i)) :=
  ⟨_, hp, dn_paired (dn_strsA _)⟩
theorem ef_sortStT {ms : List (List Nat)} (h : EvX false c env os te (.tuple (ms.map dT))) (hl : ms.length ≤ 4000) : EvF c env os (tSortSt c.K te) (.lst (((sortT ms).map dT).map SV.i)) := fun ad σ H ok Q q =>
  h ad σ H ok _ fun v H1 e1 r1 => by
    obtain ⟨a, xs, rfl, hs, ha⟩ := dn_tup_ref r1
    rw [dnA_strs ha] at hs
    refine ⟨a, ms.map sT, rfl, Or.inr hs, by rw [List.length_map]; exact hl, fun zs p pm hp => ?_⟩
    rw [sort_zs pm]
    exact q p _ (e1.free hp) (e1.trans (Ex.new hp)) (sortSt_out ms upd_same)
/-- isinstance(x, (T, U)) -/
theorem ex_isiT {T U : String} {b1 b2 : Bool} {d : PyData} (h : EvX true c env os te d) (h1 : kitD (tyN d) T = some b1) (h2 : kitD (tyN d) U = some b2) : EvX w c env os (tCB (rIsiT c.K) (tCons te (tCons (tTup (tCons (tC (.ty T)) (tCons (tC (.ty U)) tNil))) tNil))) (.bool (b1 || b2)) := fun ad σ H ok Q q =>
  h ad σ H ok _ fun v H2 e r => ⟨Nat.le_of_ble_eq_true rfl, fun p hp => ⟨v, p, [.ty T, .ty U], .type (tyN d), [.type T, .type U], b1 || b2, rfl, upd_same, .cons (.ty T) (.cons (.ty U) .nil), tyx_of (r.ext (Ex.new hp)) (kitD_ins h1),
    kitAny_cons (kit_ty (kitD_b h1)) (fun z => kitAny_cons (kit_ty (kitD_b h2)) (fun y => by rw [z, y]; exact kitAny_nil) (fun y => by rw [z, y]; rfl)) (fun z => by rw [z]; rfl), q _ _ (e.trans (Ex.new hp)) (.bl _)⟩⟩
theorem kIsiT {X : Cx} {K : PySem.W.Frag} (h : X.K = K := by rfl) : CallR X (.builtin "isinstance") (rIsiT K) := by subst h; exact call_isiT
end
end DL

set_option Elab.async false
set_option linter.all false
set_option maxRecDepth 100000
set_option maxHeartbeats 8000000
/-! The data layer: methods with keyword-only parameters. -/
namespace DL
open PySem PySem.Spec PyProof.Rows L2
open Evl (Ex Ex.refl Ex.trans Ex.new)
/-- a call of a method: n values by place behind the object, the names ks, gV fills up -/
def tMethN (C : Addr) (m : Str) (n j : Nat) (sp : Sp) (gV : List V → List V → List V) (E : XK) (te : TE) (t tk : TA) : TE := fun σ H Q => te σ H fun x H1 => ∃ (a dx : Addr) (fs : List (Str × V)), x = .ref a ∧ H1 a = some (.ins C dx fs) ∧ fs.lookup m = none ∧
  t σ H1 fun vs H2 => tk σ H2 fun zs H3 => vs.length = n ∧ zs.length = j ∧ sp (gV (.ref a :: vs) zs) H3 Q E
section
variable {X : Cx} {CX : CXT} {k n : Nat} {f C : Addr} {fd : FuncData} {ps ks : List Str} {sp : Sp} {E : XK} {m : Str} {pos apos : Pos} {o e : Expr} {es : List Expr} {kws : List Keyword} {ta : TE} {t tk : TA} {g : List Value → List Value → List Value} {gV : List V → List V → List V}
theorem pe_methN {pl : Sem Bool} (he : PE X o ta) (c : Cls X.K C) (hm : Meth X.K C m f) (F : FnOk X.prog X.w X.K X.mg X.base CX k f fd ps sp) (hr : Room k X.A) (hb : KBn X.K fd ps (n + 1) ks g gV) (hx : Passes CX X E) (ha : PA X (e :: es) t) (hkw : PK X kws tk)
    (hall : (backToKw pos (keywordEach kws X.env)).all (·.1.isSome) = true := by rfl) (hks : (backToKw pos (keywordEach kws X.env)).filterMap (·.1) = ks := by rfl) (hst : starEach (e :: es) X.env = (false, eval e X.env) :: starEach es X.env := by rfl)
    (hpl : ((backTo pos (starEach (e :: es) X.env)).any (·.1) || (backToKw pos (keywordEach kws X.env)).any (·.1.isNone)) = false := by rfl)
    (ht : eval (.Call (.Attribute o m apos) (e :: es) kws pos) X.env = (do
      let ov ← eval o X.env
      standAt apos.atName
      let (f, first) ← holding [ov] (getMethod ov m pl)
      callWith pos f first (backTo pos (starEach (e :: es) X.env)) (backToKw pos (keywordEach kws X.env))) := by rfl) :
    PE X (.Call (.Attribute o m apos) (e :: es) kws pos) (tMethN C m n ks.length sp gV E ta t tk) := by
  refine ⟨fun pins s σ H Q I h => PySem.W.methodCall_KW (pl := pl) (thn (he.run pins s σ H _ I h) fun u s1 ⟨x, H1, I1, rx, a, dx, fs, ex, ea, l, q⟩ => ?_) ht⟩
  subst ex
  obtain rfl : u = Value.ref a := rx
  refine getmeth_ok I1 ea c hm l (PySem.W.callWith_KW (first := [.ref a]) (h₀ := X.base) I.ok.mod.kin hm.kp hall (thn (ha.run pos pins s1 σ H1 _ I1 q) fun us s2 ⟨vs, H2, I2, r, q2⟩ => ?_) hpl hst)
  refine thn (hkw.run pos pins s2 σ H2 _ I2 q2) fun ws s3 ⟨zs, H3, I3, rz, l1, l2, q3⟩ => ⟨I3.kIn, ?_⟩
  rw [hks]
  exact run_fnN (us := .ref a :: us) (vs := .ref a :: vs) F hr hb hx I3 (.cons rfl r) rz (by rw [List.length_cons, l1]) l2 q3
end
def MetQ (P : Program) (w : World) (K : PySem.W.Frag) (mg : Str → Option Value) (base : Heap) (k : Nat) (C : Addr) (m : Str) (ps : List Str) (sp : Sp) (fs : List CForm) : Prop :=
  ∃ f fd, Cls K C ∧ Meth K C m f ∧ FnOk P w K mg base CX0 k f fd ps sp ∧ ∀ F ∈ fs, FormOk K fd ps F
section
variable {α : Type} {n0 : Nat} {shape : α → List SO} {R : α → List SV → α → PyData → Prop} {x : α} {f : Nat → Nat} {c : Cn} {env : Sy} {ds es : List SV} {dd : List PyData} {te : TE} {tr tk : TA} {dv : List V}
end
end DL
namespace DL
open PySem PySem.Spec PyProof.Rows L2
theorem emB_ok {K : PySem.W.Frag} {a : Addr} (h : emB K a = true) (N : Addr → Prop) (H : Hp) : Dn K N H (.ref a) (.tuple []) := by
  unfold emB at h
  cases q : K.lookup a with
  | none =>
    rw [q] at h
    cases h
  | some o =>
    obtain ⟨oc, od, dt, osl⟩ := o
    rw [q] at h
    cases oc with
    | type c =>
      cases dt with
      | seq its n =>
        have h1 : (decide (c = "tuple") && decide (its.toList = [])) = true := h
        rw [Bool.and_eq_true] at h1
        have h2 := of_decide_eq_true h1.2
        have h3 : its.size = 0 := by rw [← Array.length_toList, h2]; rfl
        exact .tup (.inr ⟨_, its, n, q, congrArg Value.type (of_decide_eq_true h1.1), rfl, by rw [h3]; exact Nat.zero_le _, by rw [h2]; exact .nil⟩) .nil
      | _ => cases h
    | _ => cases dt <;> cases h
end DL
namespace DL
open PySem PySem.Spec PyProof.Rows L2
open Evl (Ex Ex.refl Ex.trans Ex.new)
end DL
namespace DL
open PySem PySem.Spec PyProof.Rows L2
end DL
namespace DL
open PySem PySem.Spec PyProof.Rows L2
/-- a segment, with more behind it -/
theorem segAt_post {α : Type} {n : Nat} {shape : α → List SO} (post : List SO) (h : ∀ x, ShOk n (shape x)) : SegAt (fun i => i) n shape (fun x => shape x ++ post) := ⟨fun _ _ _ _ e => e, h, fun x i o e => by
  rw [reS_id, List.getElem?_append_left (List.getElem?_eq_some_iff.mp e).1]; exact e, fun x y => by simp [(h x).len, (h y).len], fun x y j hj => by
  have : n ≤ j := by
    by_cases q : j < n
    · exact absurd rfl (hj j q)
    · omega
  rw [List.getElem?_append_right (by rw [(h x).len]; exact this), List.getElem?_append_right (by rw [(h y).len]; exact this), (h x).len, (h y).len]⟩
end DL
namespace DL
open PySem PySem.Spec PyProof.Rows L2
open Evl (Ex Ex.refl Ex.trans Ex.new)
section
variable {c : Cn} {env : Sy} {os : List SO} {te tb : TE} {P : List SO → PyData → Prop}
end
end DL
namespace DL
open PySem PySem.Spec PyProof.Rows L2
open Evl (Ex Ex.refl Ex.trans Ex.new)
end DL

set_option Elab.async false
set_option linter.all false
set_option maxRecDepth 100000
set_option maxHeartbeats 2000000
/-! The data layer: a display whose values are new objects; an object within a dict becomes data. -/
namespace DL
open PySem PySem.Spec PyProof.Rows L2
open Evl (Ex Ex.refl Ex.trans Ex.new)
section
variable {c : Cn} {env : Sy} {os os2 : List SO} {ta tb : TE} {u : TS} {D : Ends}
def EvPG (c : Cn) (env : Sy) (os : List SO) (trs : List (TE × TE)) (kvs : List (Key × SV)) (os2 : List SO) : Prop := ∀ ad σ H, Ok c ad env os σ H → ∀ Q : List (V × V) → Hp → Prop,
  (∀ ad' (vs : List (Key × V)) H2, Ok c ad' env os2 σ H2 → Paired (fun (x : Key × V) (y : Key × SV) => x.1 = y.1 ∧ SvOk c.K (Nof c ad' os2) ad' os2.length H2 x.2 y.2) vs kvs → Q (vs.map fun kv => (kV kv.1, kv.2)) H2) → tPairs trs σ H Q
/-- all of the store becomes data -/
def EnD (os : List SO) : Sy → Sy → Prop
  | [], [] => True
  | s :: e, t :: e' => (t = none ∨ ∃ a d, s = some a ∧ t = some (.i d) ∧ DatO os a d) ∧ EnD os e e'
  | _, _ => False
end
end DL

set_option Elab.async false
set_option linter.all false
set_option maxRecDepth 100000
set_option maxHeartbeats 2000000
/-! The data layer: dicts that no one writes any more, as data; objects of the store that become data together. -/
namespace DL
open PySem PySem.Spec PyProof.Rows L2
open Evl (Ex Ex.refl Ex.trans Ex.new)
/-- a dict that no one writes any more, as data -/
def frD {α β : Type} (ek : α → Key) (ev : β → PyData) (m : List (α × β)) : PyData := .dict ((.bool false, .none) :: m.map fun p => (kdat (ek p.1), ev p.2))
section
variable {α β : Type} {K : PySem.W.Frag} {N : Addr → Prop} {H : Hp} {ek : α → Key} {ev : β → PyData}
end
section
variable {w : Bool} {c : Cn} {env : Sy} {os : List SO} {te td ty tr : TE} {ta : TA} {u : TS} {D : Ends}
/-! ### a tuple whose parts change the store -/
def EvAN (c : Cn) (env : Sy) (os : List SO) (ta : TA) (P : List SO → List PyData → Prop) : Prop := ∀ ad σ H, Ok c ad env os σ H → ∀ Q : List V → Hp → Prop, (∀ vs H2 os' ds, P os' ds → Ok c ad env os' σ H2 → DnAll c.K (Nof c ad os') H2 vs ds → Q vs H2) → ta σ H Q
/-! ### objects that become data together -/
mutual
inductive DatJ (J : Nat → Bool) (os : List SO) : SV → PyData → Prop
  | i (d : PyData) : DatJ J os (.i d) d
  | lst {k : Nat} {ss : List SV} {ds : List PyData} : J k = true → os[k]? = some (.lst ss) → DatJL J os ss ds → DatJ J os (.r k) (.list ds)
  | dK {k : Nat} {kvs : List (Key × SV)} {m : List (Key × PyData)} : J k = true → os[k]? = some (.dK kvs) → DatJK J os kvs m → DatJ J os (.r k) (dK0 m)
inductive DatJL (J : Nat → Bool) (os : List SO) : List SV → List PyData → Prop
  | nil : DatJL J os [] []
  | cons {s : SV} {d : PyData} {ss : List SV} {ds : List PyData} : DatJ J os s d → DatJL J os ss ds → DatJL J os (s :: ss) (d :: ds)
inductive DatJK (J : Nat → Bool) (os : List SO) : List (Key × SV) → List (Key × PyData) → Prop
  | nil : DatJK J os [] []
  | cons {k : Key} {s : SV} {d : PyData} {fs : List (Key × SV)} {m : List (Key × PyData)} : DatJ J os s d → DatJK J os fs m → DatJK J os ((k, s) :: fs) ((k, d) :: m)
end
end
section
variable {c : Cn} {ad : Nat → Addr} {env : Sy} {os : List SO} {σ : L2.St} {H : Hp} {J : Nat → Bool} {N' : Addr → Prop}
mutual
theorem DatJ.dn (ok : Ok c ad env os σ H) (hN : ∀ a, N' a → Nof c ad os a ∧ ∀ k, J k = true → Lv os k → a ≠ ad k) : ∀ {s : SV} {d : PyData}, DatJ J os s d → ∀ v, SvOk c.K (Nof c ad os) ad os.length H v s → Dn c.K N' H v d
  | _, _, .i d, v, h => (show Dn _ _ _ _ _ from h).sub fun a z => (hN a z).1
  | _, _, .lst hj hk hl, v, ⟨e, _⟩ => by
    obtain ⟨_, vs, h1, h2⟩ := ok.obj _ _ hk rfl
    rw [e]
    exact .lst (Or.inl h1) (fun z => (hN _ z).2 _ hj ⟨_, hk, rfl⟩ rfl) (DatJL.dn ok hN hl vs h2)
  | _, _, .dK hj hk hl, v, ⟨e, _⟩ => by
    obtain ⟨_, vs, h1, h2⟩ := ok.obj _ _ hk rfl
    rw [e]
    exact dK_dn (Or.inl h1) (fun z => (hN _ z).2 _ hj ⟨_, hk, rfl⟩ rfl) (DatJK.dn ok hN hl vs h2)
theorem DatJL.dn (ok : Ok c ad env os σ H) (hN : ∀ a, N' a → Nof c ad os a ∧ ∀ k, J k = true → Lv os k → a ≠ ad k) : ∀ {fs : List SV} {m : List PyData}, DatJL J os fs m → ∀ vs, Paired (SvOk c.K (Nof c ad os) ad os.length H) vs fs → DnAll c.K N' H vs m
  | _, _, .nil, _, h => by cases h; exact .nil
  | _, _, .cons a b, _, h => by
    cases h with
    | cons x y => exact .cons (DatJ.dn ok hN a _ x) (DatJL.dn ok hN b _ y)
theorem DatJK.dn (ok : Ok c ad env os σ H) (hN : ∀ a, N' a → Nof c ad os a ∧ ∀ k, J k = true → Lv os k → a ≠ ad k) : ∀ {fs : List (Key × SV)} {m : List (Key × PyData)}, DatJK J os fs m → ∀ vs, Paired (fun (p : Key × V) (q : Key × SV) => p.1 = q.1 ∧ SvOk c.K (Nof c ad os) ad os.length H p.2 q.2) vs fs → Paired (fun (p : Key × V) (q : Key × PyData) => p.1 = q.1 ∧ Dn c.K N' H p.2 q.2) vs m
  | _, _, .nil, _, h => by cases h; exact .nil
  | _, _, .cons a b, _, h => by
    cases h with
    | cons x y => exact .cons ⟨x.1, DatJ.dn ok hN a _ x.2⟩ (DatJK.dn ok hN b _ y)
end
end
end DL

set_option Elab.async false
set_option linter.all false
set_option maxRecDepth 100000
set_option maxHeartbeats 2000000
/-! The data layer: a dict of the store that is locked while it is walked over. -/
namespace DL
open PySem PySem.Spec PyProof.Rows L2
open Evl (Ex Ex.refl Ex.trans Ex.new)
section
variable {c c1 cc : Cn} {env env' env2 : Sy} {os os2 : List SO} {te td ty : TE} {t u : TS} {D D2 : Ends} {ad : Nat → Addr} {σ : L2.St} {H : Hp} {k : Nat} {kvs : List (Key × SV)} {lo : LkO}
/-! ### a statement that walks over it -/
/-- the ends of such a statement -/
def lkD (d : Addr) (lo : LkO) (D : Ends) : Ends := ⟨fun σ' H' => H' d = some lo.ho ∧ D.nx σ' (upd H' d (.dK lo.ws)), fun v H' => H' d = some lo.ho ∧ D.rt v (upd H' d (.dK lo.ws)), fun σ' H' => H' d = some lo.ho ∧ D.bk σ' (upd H' d (.dK lo.ws)), fun σ' H' => H' d = some lo.ho ∧ D.ct σ' (upd H' d (.dK lo.ws))⟩
end
end DL

set_option Elab.async false
set_option linter.all false
set_option maxRecDepth 100000
set_option maxHeartbeats 2000000
/-! enumerate over a tuple. -/
namespace ET
open PySem PySem.Spec PyProof.Rows L2
open Sem (wp)
open AutoSeq1 (wpAny_loadPart')
section
variable {prog : Program} {w : World} {A : Around} {E : Value → Shared → Prop} {s : Shared}
end
/-- the tuple at a as it stands at each turn, each item in a new pair -/
def Iet (K : PySem.W.Frag) (a : Addr) : It :=
  ⟨fun i H => ∃ (xs : List V) (x : V), SqT K H a xs ∧ xs[i]? = some x, fun i H v H' => ∃ T x, v = .ref T ∧ H T = none ∧ H' = upd H T (.tup [.int (i : Nat), x]) ∧ ∀ xs, SqT K H a xs → xs[i]? = some x, fun i H => ∃ xs : List V, SqT K H a xs ∧ xs.length ≤ i⟩
def iEnumT (K : PySem.W.Frag) (ta : TA) : TI := fun σ H R => ta σ H fun vs H1 => ∃ a xs, vs = [.ref a] ∧ SqT K H1 a xs ∧ R (Iet K a) H1
end ET
namespace DL
open PySem PySem.Spec PyProof.Rows L2 ET
open Evl (Ex Ex.refl Ex.trans Ex.new)
/-- a def whose promise is asked of nothing -/
theorem cal_voidD {P : Program} {w : World} {K : PySem.W.Frag} {mg : Str → Option Value} {base : Heap} {x : Str} {st : Stmt} {f : Addr} {fd : FuncData} {N ps : List Str} {k : Nat} {R : List PyData → PyData → Prop} (F : FnP K x st f fd) (S : FnScope N ps (defScope st)) (g : mg x = some (.ref f)) (len : ∀ vs H Q E, spD K R vs H Q E → vs.length = ps.length)
    (hb : ∀ (kV doc pm : Value) (an : Option Addr) (cdv ct : Value) (us : List Value), us.length = ps.length → bindArgs (PySem.W.fnOf x x (defArgs st) (defBody st) (defScope st) .none kV doc pm an cdv ct) ⟨us, []⟩ = pure (ps.zip us))
    (h0 : ∀ ds d, ¬ R ds d) : Cal P w K mg base (k + 1) x ps (spD K R) :=
  cal_mk F S g len hb fun cdv A outer s H vs Q E hr h => by
    obtain ⟨_, ds, d, _, _, r, _⟩ := h
    exact absurd r (h0 ds d)
end DL

set_option Elab.async false
set_option linter.all false
set_option maxRecDepth 100000
set_option maxHeartbeats 2000000
namespace DL
open PySem PySem.Spec PyProof.Rows L2
open Evl (Ex Ex.refl Ex.trans Ex.new)
/-! A method whose arguments change the store: a dict of the store is frozen and handed over. -/
def EvASN (c : Cn) (env : Sy) (os : List SO) (ta : TA) (os' : List SO) (ss : List SV) : Prop := ∀ ad σ H, Ok c ad env os σ H → ∀ Q : List V → Hp → Prop, (∀ vs H2, Ok c ad env os' σ H2 → Paired (SvOk c.K (Nof c ad os') ad os'.length H2) vs ss → Q vs H2) → ta σ H Q
section
variable {c : Cn} {env : Sy} {os os0 : List SO} {te td : TE} {tr : TA} {ss : List SV}
theorem easn_frz {i k : Nat} {m : List (Key × PyData)} (hi : env[i]? = some (some (.r k))) (hk : os[k]? = some (.dK (m.map fun p => (p.1, SV.i p.2)))) (hr : EvAS c env (os.set k .x) tr ss) : EvASN c env os (tCons (tFrz (tVar i)) tr) (os.set k .x) (.z m :: ss) := fun ad σ H ok Q q => by
  obtain ⟨v, hv, hr'⟩ := ok.val i _ hi
  obtain ⟨rfl, _⟩ := (show v = .ref (ad k) ∧ k < os.length from hr')
  obtain ⟨_, ws, hws, pw⟩ := ok.obj k _ hk rfl
  have lk : Lv os k := ⟨_, hk, rfl⟩
  refine ⟨_, hv, ad k, _, rfl, hws, trivial, fun od => ?_⟩
  have ok3 := ok.kill (u' := .frz od (.dK ws)) hk rfl
  have hN : ∀ a, Nof c ad (os.set k .x) a → Nof c ad os a ∧ a ≠ ad k := fun a h => by
    rcases h with h | ⟨j, l, e⟩
    · exact ⟨Or.inl h, fun z => ok.nn k lk (z ▸ h)⟩
    · obtain ⟨u, e1, hu⟩ := l
      by_cases q : k = j
      · subst q
        rw [List.getElem?_set_self (List.getElem?_eq_some_iff.mp hk).1] at e1
        cases e1; cases hu
      · rw [List.getElem?_set_ne q] at e1
        exact ⟨Or.inr ⟨j, ⟨u, e1, hu⟩, e⟩, fun z => q (ok.inj k j lk ⟨u, e1, hu⟩ (z.symm.trans e))⟩
  have z0 : ZOk c.K (Nof c ad (os.set k .x)) (upd H (ad k) (.frz od (.dK ws))) (.ref (ad k)) m := ⟨ad k, od, ws, rfl, upd_same, fun z => (hN _ z).2 rfl, Paired.imp (paired_mapR pw) fun x y z => ⟨z.1, (Dn.mut hws rfl (Or.inr ⟨k, lk, rfl⟩) (show Dn _ _ _ _ _ from z.2)).sub fun a y => (hN a y).1⟩⟩
  exact hr ad σ _ ok3 _ fun vs H2 e r => q _ H2 (ok3.ext e) (.cons (ZOk.ext e z0) r)
variable {α : Type} {f : Nat → Nat} {n : Nat} {shape : α → List SO} {R : α → List SV → α → PyData → Prop} {ds : List SV} {x : α}
theorem en_methN {G : α → List SO} {E : XK} {C : Addr} {mn : Str} {k : Nat} {fs : List (Str × SV)} (S : SegAt f n shape G) (ho : EvR c env os0 te (f k)) (hk : os0[f k]? = some (.ob C fs)) (hm : fs.lookup mn = none) (hkn : k < n) (hl : ∀ s ∈ ds, SvLt n s) (ha : EvASN c env os0 tr (G x) (ds.map (reV f))) (hR : ∃ x' d, R x (.r k :: ds) x' d) : EvN c env os0 (tMeth C mn (spS c.K n shape R) [] E te tr) (fun os' d => ∃ x', R x (.r k :: ds) x' d ∧ os' = G x') := fun ad σ H ok Q q => ho.2 ad σ H ok _ fun H1 e1 => by
  have ok1 := ok.ext e1
  obtain ⟨_, dx, vs0, h0, pv⟩ := ok1.obj (f k) _ hk rfl
  have hlk : vs0.lookup mn = none := lookup_paired pv hm
  have hlt : f k < (G x).length := by
    have hh : k < (shape x).length := by rw [(S.sh x).len]; exact hkn
    exact (List.getElem?_eq_some_iff.mp (S.at_ x k _ (List.getElem?_eq_getElem hh))).1
  refine ⟨ad (f k), dx, vs0, rfl, h0, hlk, ha ad σ H1 ok1 _ fun vs H2 ok2 r => ?_⟩
  rw [List.append_nil]
  exact seg_call (ds := .r k :: ds) S ok2 (fun s hs => (List.mem_cons.mp hs).elim (fun e => e ▸ hkn) (hl s)) (show Paired _ (.ref (ad (f k)) :: vs) (.r (f k) :: ds.map (reV f)) from .cons ⟨rfl, hlt⟩ r) hR fun v H3 x' d hd ok3 r3 => q v H3 _ d ⟨x', hd, rfl⟩ ok3 r3
end
end DL

set_option Elab.async false
set_option linter.all false
set_option maxRecDepth 100000
set_option maxHeartbeats 2000000
/-! The data layer: segments of any length that may grow; the answer is data or an object of the segment. -/
namespace DL
open PySem PySem.Spec PyProof.Rows L2
open Evl (Ex Ex.refl Ex.trans Ex.new)
def spW (K : PySem.W.Frag) {α β : Type} (sh0 : α → List SO) (sh1 : β → List SO) (R : α → List SV → β → SV → Prop) : Sp := fun vs H Q _ => ∃ (N : Addr → Prop) (ad : Nat → Addr) (x : α) (ds : List SV),
  ShOk (sh0 x).length (sh0 x) ∧ SegOk K N ad (sh0 x).length H (sh0 x) ∧ (∀ a, N a → H a ≠ none) ∧ Paired (SvOk K (SegN N ad (sh0 x).length) ad (sh0 x).length H) vs ds ∧ (∃ y s, R x ds y s) ∧
  ∀ v H' ad' y s, R x ds y s → ShOk (sh1 y).length (sh1 y) → (sh0 x).length ≤ (sh1 y).length → (∀ j, j < (sh0 x).length → ad' j = ad j) → (∀ j, (sh0 x).length ≤ j → j < (sh1 y).length → H (ad' j) = none) → (∀ a u, H a = some u → (∀ j, j < (sh0 x).length → a ≠ ad j) → H' a = some u) → SegOk K N ad' (sh1 y).length H' (sh1 y) → SvOk K (SegN N ad' (sh1 y).length) ad' (sh1 y).length H' v s → Q v H'
theorem spW_len {K : PySem.W.Frag} {l : Nat} {α β : Type} {sh0 : α → List SO} {sh1 : β → List SO} {R : α → List SV → β → SV → Prop} (hR : ∀ x ds y s, R x ds y s → ds.length = l) : ∀ vs H Q E, spW K sh0 sh1 R vs H Q E → vs.length = l := fun vs H Q E ⟨N, ad, x, ds, _, _, _, h, ⟨y, s, r⟩, _⟩ => by rw [Paired.length h, hR x ds y s r]
/-- how the store looks before (by x) and after (by y) -/
structure SegAtW (f : Nat → Nat) {α β : Type} (sh0 : α → List SO) (sh1 : β → List SO) (x : α) (os : List SO) (G : β → List SO) : Prop where
  inj : ∀ i j, i < (sh0 x).length → j < (sh0 x).length → f i = f j → i = j
  sh : ShOk (sh0 x).length (sh0 x)
  at_ : ∀ (i : Nat) (o : SO), (sh0 x)[i]? = some o → os[f i]? = some (reS f o)
  len : ∀ y, (sh0 x).length ≤ (sh1 y).length → (G y).length = os.length + ((sh1 y).length - (sh0 x).length)
  at2 : ∀ y, (sh0 x).length ≤ (sh1 y).length → ∀ (i : Nat) (o : SO), (sh1 y)[i]? = some o → (G y)[gAt f (sh0 x).length os.length i]? = some (reS (gAt f (sh0 x).length os.length) o)
  out : ∀ y, (sh0 x).length ≤ (sh1 y).length → ∀ j, j < os.length → (∀ i, i < (sh0 x).length → j ≠ f i) → (G y)[j]? = os[j]?
section
variable {w : Bool} {c : Cn} {env env' : Sy} {os os2 : List SO} {te ta tb tl : TE} {tr : TA} {u : TS} {D : Ends} {d : PyData} {ad : Nat → Addr} {σ : L2.St} {H H' : Hp} {α β : Type} {f : Nat → Nat} {x : α} {ds : List SV} {sh0 : α → List SO} {sh1 : β → List SO} {R : α → List SV → β → SV → Prop}
theorem seg_callW {G : β → List SO} {vs : List V} {Q : VK} {E : XK} (S : SegAtW f sh0 sh1 x os G) (ok : Ok c ad env os σ H) (hl : ∀ s ∈ ds, SvLt (sh0 x).length s) (ha : Paired (SvOk c.K (Nof c ad os) ad os.length H) vs (ds.map (reV f))) (hR : ∃ y s, R x ds y s)
    (q : ∀ v H2 ad' y s, R x ds y s → (sh0 x).length ≤ (sh1 y).length → (∀ j, j < os.length → ad' j = ad j) → Ok c ad' env (G y) σ H2 → SvOk c.K (Nof c ad' (G y)) ad' (G y).length H2 v (reV (gAt f (sh0 x).length os.length) s) → Q v H2) : spW c.K sh0 sh1 R vs H Q E := by
  generalize hn0 : (sh0 x).length = n0 at *
  have hlt : ∀ i, i < n0 → ∃ o, (sh0 x)[i]? = some o ∧ o.live = true ∧ os[f i]? = some (reS f o) := fun i hi => by
    have hh : i < (sh0 x).length := by rw [hn0]; exact hi
    have e := List.getElem?_eq_getElem hh
    exact ⟨_, e, S.sh.live _ _ e, S.at_ i _ e⟩
  have lv : ∀ i, i < n0 → Lv os (f i) := fun i hi => by
    obtain ⟨o, _, h2, h3⟩ := hlt i hi
    exact ⟨_, h3, by rw [reS_live]; exact h2⟩
  have flt : ∀ i, i < n0 → f i < os.length := fun i hi => by obtain ⟨o, e, _⟩ := lv i hi; exact (List.getElem?_eq_some_iff.mp e).1
  have hNs : ∀ a, SegN (fun a => Nof c ad os a ∧ ∀ i, i < n0 → a ≠ ad (f i)) (fun i => ad (f i)) n0 a ↔ Nof c ad os a := fun a => by
    constructor
    · rintro (z | ⟨i, hi, z⟩)
      · exact z.1
      · exact z ▸ Or.inr ⟨f i, lv i hi, rfl⟩
    · intro z
      by_cases h : ∃ i, i < n0 ∧ a = ad (f i)
      · exact Or.inr h
      · exact Or.inl ⟨z, fun i hi e => h ⟨i, hi, e⟩⟩
  have hNeq : SegN (fun a => Nof c ad os a ∧ ∀ i, i < n0 → a ≠ ad (f i)) (fun i => ad (f i)) n0 = Nof c ad os := funext fun a => propext (hNs a)
  have Sinj := S.inj
  have Ssh := S.sh
  have Slen := S.len
  have Sat2 := S.at2
  have Sout := S.out
  rw [hn0] at Sinj Ssh Slen Sat2 Sout
  refine ⟨fun a => Nof c ad os a ∧ ∀ i, i < n0 → a ≠ ad (f i), fun i => ad (f i), x, ds, ?_⟩
  rw [hn0]
  refine ⟨Ssh, ⟨fun i o e => ?_, fun i j hi hj e => Sinj i j hi hj (ok.inj _ _ (lv i hi) (lv j hj) e), fun i hi z => z.2 i hi rfl⟩, fun a z => ok.nof z.1, by rw [hNeq]; exact args_in (f := f) (fun _ z => z) (fun _ _ => rfl) hl ha, hR, fun v H' ad1 y sv hd hsh hle hsame hfr hch hs hv => ?_⟩
  · have hi : i < n0 := by rw [← hn0]; exact (List.getElem?_eq_some_iff.mp e).1
    have hl := Ssh.live i o e
    obtain ⟨_, h2⟩ := ok.obj (f i) _ (S.at_ i o e) (by rw [reS_live]; exact hl)
    rw [hNeq]
    refine soOk_in h2 (Ssh.lt.get e) fun v s ls z => ?_
    cases s with
    | i d => exact z
    | t u => exact z
    | ob C m => exact z
    | z m => exact z
    | r k => exact ⟨z.1, ls⟩
  · generalize hn1 : (sh1 y).length = n1 at *
    have Slen := Slen y (by rw [hn1]; exact hle)
    have Sat2 := Sat2 y (by rw [hn1]; exact hle)
    have Sout := Sout y (by rw [hn1]; exact hle)
    rw [hn1] at Slen
    let ad2 : Nat → Addr := fun j => if j < os.length then ad j else ad1 (n0 + (j - os.length))
    have h2l : ∀ j, j < os.length → ad2 j = ad j := fun j hj => if_pos hj
    have hg : ∀ i, i < n1 → ad2 (gAt f n0 os.length i) = ad1 i := fun i hi => by
      show (if gAt f n0 os.length i < os.length then _ else _) = _
      unfold gAt
      by_cases h : i < n0
      · rw [if_pos h, if_pos (flt i h), hsame i h]
      · rw [if_neg h, if_neg (by omega)]
        congr 1
        omega
    have gl : ∀ i, i < n1 → gAt f n0 os.length i < os.length + (n1 - n0) := fun i hi => by
      unfold gAt
      by_cases h : i < n0
      · rw [if_pos h]; have := flt i h; omega
      · rw [if_neg h]; omega
    have hlt2 : ∀ i, i < n1 → ∃ o, (sh1 y)[i]? = some o ∧ o.live = true ∧ (G y)[gAt f n0 os.length i]? = some (reS (gAt f n0 os.length) o) := fun i hi => by
      have hh : i < (sh1 y).length := by rw [hn1]; exact hi
      have e := List.getElem?_eq_getElem hh
      exact ⟨_, e, hsh.live _ _ e, Sat2 i _ e⟩
    have ok1 : Ok c ad2 env (os ++ List.replicate (n1 - n0) .x) σ H := ok.grow h2l
    have outx : ∀ j, (¬ ∃ i, i < n1 ∧ j = gAt f n0 os.length i) → (G y)[j]? = (os ++ List.replicate (n1 - n0) SO.x)[j]? := fun j hj => by
      by_cases h : j < os.length
      · rw [List.getElem?_append_left h]
        refine Sout j h fun i hi e => hj ⟨i, Nat.lt_of_lt_of_le hi hle, ?_⟩
        unfold gAt; rw [if_pos hi]; exact e
      · by_cases h2 : j < os.length + (n1 - n0)
        · exfalso
          refine hj ⟨n0 + (j - os.length), by omega, ?_⟩
          unfold gAt; rw [if_neg (by omega)]; omega
        · rw [List.getElem?_eq_none (by rw [Slen]; omega), List.getElem?_eq_none (by simp; omega)]
    have hNof2 : ∀ a, Nof c ad2 (G y) a → SegN (fun a => Nof c ad os a ∧ ∀ i, i < n0 → a ≠ ad (f i)) ad1 n1 a := fun a z => by
      rcases z with z | ⟨k, l, e⟩
      · refine Or.inl ⟨Or.inl z, fun i hi e => ok.nn (f i) (lv i hi) (e ▸ z)⟩
      · by_cases h : ∃ i, i < n1 ∧ k = gAt f n0 os.length i
        · obtain ⟨i, hi, rfl⟩ := h
          exact Or.inr ⟨i, hi, by rw [e, hg i hi]⟩
        · unfold Lv at l
          rw [outx k h] at l
          obtain ⟨o, e1, l1⟩ := l
          have hk : k < os.length := by
            by_cases hk : k < os.length
            · exact hk
            · rw [List.getElem?_append_right (by omega), List.getElem?_replicate] at e1
              split at e1
              · cases e1; cases l1
              · cases e1
          rw [List.getElem?_append_left hk] at e1
          rw [h2l k hk] at e
          refine Or.inl ⟨Or.inr ⟨k, ⟨o, e1, l1⟩, e⟩, fun i hi e2 => h ⟨i, Nat.lt_of_lt_of_le hi hle, ?_⟩⟩
          unfold gAt
          rw [if_pos hi]
          exact ok.inj k (f i) ⟨o, e1, l1⟩ (lv i hi) (e.symm.trans e2)
    have hsv : ∀ v s, SvOk c.K (SegN (fun a => Nof c ad os a ∧ ∀ i, i < n0 → a ≠ ad (f i)) ad1 n1) ad1 n1 H' v s → SvOk c.K (Nof c ad2 (G y)) ad2 (os.length + (n1 - n0)) H' v (reV (gAt f n0 os.length) s) := fun v s z => by
      cases s with
      | i d => exact Dn.sub hNof2 z
      | t u => exact TOk.sub hNof2 z
      | ob C m => exact ObOk.sub hNof2 z
      | z m => exact ZOk.sub hNof2 z
      | r k => exact ⟨by rw [hg k z.2]; exact z.1, gl k z.2⟩
    refine q v H' ad2 y sv hd (by rw [hn1]; exact hle) h2l (ok1.chgK (S := fun j => ∃ i, i < n1 ∧ j = gAt f n0 os.length i) (by rw [Slen]; simp) (fun j hj => ?_) (fun a b ha hb e => ?_) outx (fun a u e ne => hch a u e fun i hi z => ne (gAt f n0 os.length i) ⟨i, Nat.lt_of_lt_of_le hi hle, rfl⟩ ?_)) (by rw [Slen]; exact hsv v sv hv)
    · obtain ⟨i, hi, rfl⟩ := hj
      obtain ⟨o', g1, g2, g3⟩ := hlt2 i hi
      have so := hs.obj i o' g1
      have hso : SoOk c.K (Nof c ad2 (G y)) ad2 (os ++ List.replicate (n1 - n0) SO.x).length H' (ad2 (gAt f n0 os.length i)) (reS (gAt f n0 os.length) o') := by
        rw [hg i hi]
        refine soOk_out so fun v s z => ?_
        have := hsv v s z
        simpa using this
      by_cases h : i < n0
      · obtain ⟨o, h1, h2, h3⟩ := hlt i h
        have e : gAt f n0 os.length i = f i := by unfold gAt; rw [if_pos h]
        refine ⟨_, _, by rw [e, List.getElem?_append_left (flt i h)]; exact h3, Or.inl (by rw [reS_live]; exact h2), g3, by rw [reS_live]; exact g2, hso⟩
      · refine ⟨.x, _, ?_, Or.inr ?_, g3, by rw [reS_live]; exact g2, hso⟩
        · unfold gAt
          rw [if_neg h, List.getElem?_append_right (by omega), List.getElem?_replicate, if_pos (by omega)]
        · rw [hg i hi]; exact hfr i (by omega) hi
    · obtain ⟨i, hi, rfl⟩ := ha
      obtain ⟨j, hj, rfl⟩ := hb
      rw [hg i hi, hg j hj] at e
      rw [hs.inj i j hi hj e]
    · rw [hg i (Nat.lt_of_lt_of_le hi hle), hsame i hi]
      exact z
/-- gives data or an object; the store may be changed and may grow -/
def EvWN (c : Cn) (env : Sy) (os : List SO) (te : TE) (P : List SO → SV → Prop) : Prop := ∀ ad σ H, Ok c ad env os σ H → ∀ Q : VK, (∀ ad' v H2 os' s, P os' s → Ok c ad' env os' σ H2 → SvOk c.K (Nof c ad' os') ad' os'.length H2 v s → Q v H2) → te σ H Q
theorem EvWN.imp {P1 P2 : List SO → SV → Prop} (h : EvWN c env os te P1) (i : ∀ os' d, P1 os' d → P2 os' d) : EvWN c env os te P2 := fun ad σ H ok Q q => h ad σ H ok Q fun ad' v H2 os' d p ok2 r => q ad' v H2 os' d (i os' d p) ok2 r
theorem EvN.asW {P : List SO → PyData → Prop} (h : EvN c env os te P) : EvWN c env os te (fun os' s => ∃ d, s = .i d ∧ P os' d) := fun ad σ H ok Q q => h ad σ H ok Q fun v H2 os' d p ok2 r => q ad v H2 os' (.i d) ⟨d, rfl, p⟩ ok2 r
/-- a call -/
theorem ew_callW {G : β → List SO} {E : XK} (S : SegAtW f sh0 sh1 x os2 G) (hl : ∀ s ∈ ds, SvLt (sh0 x).length s) (ha : EvAPG c env os tr (ds.map (reV f)) os2) (hR : ∃ y s, R x ds y s) : EvWN c env os (tCall (spW c.K sh0 sh1 R) [] E tr) (fun os' s => ∃ y t, R x ds y t ∧ (sh0 x).length ≤ (sh1 y).length ∧ os' = G y ∧ s = reV (gAt f (sh0 x).length os2.length) t) := fun ad σ H ok Q q => ha ad σ H ok _ fun ad1 vs H1 ok1 r1 => by
  rw [List.append_nil]
  exact seg_callW S ok1 hl r1 hR fun v H2 ad' y s hd hle _ ok2 r2 => q ad' v H2 _ _ ⟨y, s, hd, hle, rfl, rfl⟩ ok2 r2
theorem gs_asgW {i : Nat} {P : List SO → SV → Prop} (h : EvWN c env os te P) (k : ∀ os' s, P os' s → Go c (env.set i (some s)) os' u D) : Go c env os (tSeq (tAsg te (gName i)) u) D := fun ad σ H ok => h ad σ H ok _ fun ad' v H2 os' s p ok2 r => k os' s p ad' _ H2 (ok2.set r)
theorem gs_doW {P : List SO → SV → Prop} (h : EvWN c env os te P) (k : ∀ os' s, P os' s → Go c env os' u D) : Go c env os (tSeq (tDrop te) u) D := fun ad σ H ok => h ad σ H ok _ fun ad' v H2 os' s p ok2 r => k os' s p ad' _ H2 ok2
/-! ### the body -/
def RetW {α β : Type} (sh0 : α → List SO) (sh1 : β → List SO) (R : α → List SV → β → SV → Prop) (c : Cn) (x : α) (ds : List SV) (D : Ends) : Prop := ∀ ad env os σ v H2 y s, Ok c ad env os σ H2 → (∀ (i : Nat) (o : SO), (sh1 y)[i]? = some o → os[i]? = some o) → ShOk (sh1 y).length (sh1 y) → (sh0 x).length ≤ (sh1 y).length → SvLt (sh1 y).length s → R x ds y s → SvOk c.K (Nof c ad os) ad os.length H2 v s → D.rt v H2
theorem run_spW {K : PySem.W.Frag} {vs : List V} {Q : VK} {E : XK} {Nm : List Str} {t : TS} (h : spW K sh0 sh1 R vs H Q E) (hl : vs.length ≤ Nm.length)
    (gg : ∀ (N : Addr → Prop) (ad : Nat → Addr) (x : α) (ds : List SV), ShOk (sh0 x).length (sh0 x) → (∃ y s, R x ds y s) → RetW sh0 sh1 R (cnS K H N ad (sh0 x).length) x ds (De Q) → Go (cnS K H N ad (sh0 x).length) (envG Nm.length ds) (sh0 x) t (De Q)) : t (De Q) (L2.start Nm vs) H := by
  obtain ⟨N, ad, x, ds, hs, so, hN, ha, hR, hq⟩ := h
  refine gg N ad x ds hs hR (fun ad' env os σ v H2 y s ok hos hs' hle hsl hd r => ?_) _ _ _ (ok_startG hs so hN ha (by rw [← Paired.length ha]; exact hl))
  generalize (sh0 x).length = n0 at *
  generalize hn1 : (sh1 y).length = n1 at *
  have had : ∀ j, j < n0 → ad' j = ad j := fun j hj => by
    obtain ⟨f1, _⟩ := (show V.ref (ad j) = .ref (ad' j) ∧ _ from ok.frm (.ref (ad j), .r j) (List.mem_map.mpr ⟨j, List.mem_range.mpr hj, rfl⟩))
    exact (V.ref.inj f1).symm
  have hlt : ∀ i, i < n1 → Lv os i := fun i hi => by
    have hh : i < (sh1 y).length := by rw [hn1]; exact hi
    have e := List.getElem?_eq_getElem hh
    exact ⟨_, hos i _ e, hs'.live i _ e⟩
  have hNs : ∀ a, SegN N ad' n1 a → Nof (cnS K H N ad n0) ad' os a := fun a z => by
    rcases z with z | ⟨j, hj, e⟩
    · exact Or.inl z
    · exact Or.inr ⟨j, hlt j hj, e⟩
  have hv : ∀ v s, SvLt n1 s → SvOk K (Nof (cnS K H N ad n0) ad' os) ad' os.length H2 v s → SvOk K (SegN N ad' n1) ad' n1 H2 v s := fun v s l z => by
    cases s with
    | i d => exact Dn.sub hNs z
    | t u => exact TOk.sub hNs z
    | ob C m => exact ObOk.sub hNs z
    | z m => exact ZOk.sub hNs z
    | r k => exact ⟨z.1, l⟩
  show Q v H2
  refine hq v H2 ad' y s hd (hn1 ▸ hs') (hn1 ▸ hle) had (fun j h0 h1 => ?_) (fun a u e ne => ok.ex a u e fun ⟨j, hj, z⟩ => ne j hj z) ?_ ?_
  · obtain ⟨o, e, l⟩ := hlt j (hn1 ▸ h1)
    rcases (ok.obj j o e l).1 with z | ⟨i, hi, z⟩
    · exact z
    · rw [← had i hi] at z
      have := ok.inj j i ⟨o, e, l⟩ (hlt i (Nat.lt_of_lt_of_le hi hle)) z
      omega
  · rw [hn1]
    refine ⟨fun i o e => ?_, fun i j hi hj z => ok.inj i j (hlt i hi) (hlt j hj) z, fun i hi z => ok.nn i (hlt i hi) z⟩
    obtain ⟨_, h2⟩ := ok.obj i o (hos i o e) (hs'.live i o e)
    have lt := hs'.lt.get e
    cases o with
    | x => exact True.intro
    | lst xs => obtain ⟨vs, e, p⟩ := h2; exact ⟨vs, e, Paired.impR p fun a b m q => hv _ _ (lt b m) q⟩
    | dK kvs => obtain ⟨vs, e, p⟩ := h2; exact ⟨vs, e, Paired.impR p fun a b m q => ⟨q.1, hv _ _ (lt b m) q.2⟩⟩
    | dT kvs => obtain ⟨vs, e, p⟩ := h2; exact ⟨vs, e, Paired.impR p fun a b m q => ⟨q.1, hv _ _ (lt b m) q.2⟩⟩
    | ho g => exact h2
    | tb P => exact h2
    | nums => exact h2
    | lk lo kvs => obtain ⟨e, p⟩ := h2; exact ⟨e, Paired.impR p fun a b m q => ⟨q.1, hv _ _ (lt b m) q.2⟩⟩
    | stt k => obtain ⟨v, a, m, e, r⟩ := h2; exact ⟨v, a, m, e, hv v (.r k) lt r⟩
    | ob C fs => obtain ⟨dx, vs, e, p⟩ := h2; exact ⟨dx, vs, e, Paired.impR p fun a b m q => ⟨q.1, hv _ _ (lt b m) q.2⟩⟩
  · rw [hn1]
    exact hv v s hsl r
/-- return of data, of an object, of a call; the end of a body -/
theorem gs_retW {te : TE} {y : β} (h : EvX false c env os te d) (k : RetW sh0 sh1 R c x ds D) (hos : ∀ (i : Nat) (o : SO), (sh1 y)[i]? = some o → os[i]? = some o) (hs : ShOk (sh1 y).length (sh1 y)) (hle : (sh0 x).length ≤ (sh1 y).length) (hR : R x ds y (.i d)) : Go c env os (tSeq (tRet te) u) D := fun ad σ H ok =>
  h ad σ H ok _ fun v H2 e r => k ad env os σ v H2 y (.i d) (ok.ext e) hos hs hle True.intro hR (by rw [Nw_false] at r; exact r)
theorem gs_retWN {te : TE} {P : List SO → SV → Prop} (h : EvWN c env os te P) (k : RetW sh0 sh1 R c x ds D) (hP : ∀ os' s, P os' s → ∃ y, (∀ (i : Nat) (o : SO), (sh1 y)[i]? = some o → os'[i]? = some o) ∧ ShOk (sh1 y).length (sh1 y) ∧ (sh0 x).length ≤ (sh1 y).length ∧ SvLt (sh1 y).length s ∧ R x ds y s) : Go c env os (tSeq (tRet te) u) D := fun ad σ H ok =>
  h ad σ H ok _ fun ad' v H2 os' s p ok2 r => by
    obtain ⟨y, h1, h2, h3, h4, h5⟩ := hP os' s p
    exact k ad' env os' σ v H2 y s ok2 h1 h2 h3 h4 h5 r
theorem g_endW {Q : VK} {y : β} (k : RetW sh0 sh1 R c x ds (De Q)) (hos : ∀ (i : Nat) (o : SO), (sh1 y)[i]? = some o → os[i]? = some o) (hs : ShOk (sh1 y).length (sh1 y)) (hle : (sh0 x).length ≤ (sh1 y).length) (hR : R x ds y (.i .none)) : Go c env os tNext (De Q) := fun ad σ H ok => k ad env os σ .non H y (.i .none) ok hos hs hle True.intro hR .non
end
end DL

set_option Elab.async false
set_option linter.all false
set_option maxRecDepth 100000
set_option maxHeartbeats 2000000
/-! Small rules: find of a text, what is drawn in arguments, tests that change the store. -/
namespace DL
open PySem PySem.Spec PyProof.Rows L2
open Evl (Ex Ex.refl Ex.trans Ex.new)
section
variable {w : Bool} {c : Cn} {env env' : Sy} {os os2 : List SO} {te ta tb tl : TE} {tr : TA} {u : TS} {D : Ends} {d : PyData} {g : TG}
/-- the segment stands behind the objects pre -/
theorem segW_pre {α β : Type} {sh0 : α → List SO} {sh1 : β → List SO} (pre : List SO) (x : α) (h : ShOk (sh0 x).length (sh0 x)) : SegAtW (fun i => pre.length + i) sh0 sh1 x (pre ++ (sh0 x).map (reS fun i => pre.length + i)) (fun y => pre ++ (sh1 y).map (reS fun i => pre.length + i)) := by
  have hg : gAt (fun i => pre.length + i) (sh0 x).length (pre ++ (sh0 x).map (reS fun i => pre.length + i)).length = fun i => pre.length + i := by
    funext i
    unfold gAt
    split
    · rfl
    · rw [List.length_append, List.length_map]; omega
  refine ⟨fun i j _ _ e => by have e : pre.length + i = pre.length + j := e; omega, h, fun i o e => ?_, fun y hle => ?_, fun y hle i o e => ?_, fun y hle j hj hn => ?_⟩
  · rw [List.getElem?_append_right (by omega), Nat.add_sub_cancel_left, List.getElem?_map, e]; rfl
  · simp only [List.length_append, List.length_map]; omega
  · rw [hg]
    show (pre ++ _)[pre.length + i]? = _
    rw [List.getElem?_append_right (by omega), Nat.add_sub_cancel_left, List.getElem?_map, e]; rfl
  · have hj2 : j < pre.length := by
      rw [List.length_append, List.length_map] at hj
      by_cases q : j < pre.length
      · exact q
      · exact absurd (show j = pre.length + (j - pre.length) by omega) (hn (j - pre.length) (by omega))
    rw [List.getElem?_append_left hj2, List.getElem?_append_left hj2]
theorem segW_self {α β : Type} {sh0 : α → List SO} {sh1 : β → List SO} (x : α) (h : ShOk (sh0 x).length (sh0 x)) : SegAtW (fun i => i) sh0 sh1 x (sh0 x) sh1 := by
  have hg : gAt (fun i => i) (sh0 x).length (sh0 x).length = fun i => i := by
    funext i
    unfold gAt
    split
    · rfl
    · omega
  refine ⟨fun i j _ _ e => e, h, fun i o e => by rw [reS_id]; exact e, fun y hle => by omega, fun y hle i o e => by rw [hg, reS_id]; exact e, fun y hle j hj hn => absurd rfl (hn j hj)⟩
theorem gs_retMW {R : List PyData → PyData → Prop} {ds : List PyData} {P : List SO → SV → Prop} (h : EvWN c env os te P) (k : RetM c R ds D) (hP : ∀ os' s, P os' s → ∃ d, s = .i d ∧ os'[0]? = some .nums ∧ os'[1]? = some (.stt 0) ∧ R ds d) : Go c env os (tSeq (tRet te) u) D := fun ad σ H ok => h ad σ H ok _ fun ad' v H2 os' s p ok2 r => by
  obtain ⟨d, rfl, h0, h1, h2⟩ := hP os' s p
  exact k ad' env os' σ v H2 d ok2 h0 h1 h2 r
theorem gs_retWD {P : List SO → SV → Prop} (h : EvWN c env os te P) (k : Ret c d D) (hP : ∀ os' s, P os' s → s = .i d) : Go c env os (tSeq (tRet te) u) D := fun ad σ H ok => h ad σ H ok _ fun ad' v H2 os' s p ok2 r => by
  have e := hP os' s p
  subst e
  exact k v H2 ok2.ex (Dn.sub (fun a z => Or.inl z) r)
/-! arguments that are drawn; a value that is drawn, pinned -/
def EvAPM (c : Cn) (env : Sy) (os : List SO) (ta : TA) (os2 : List SO) (P : List SV → Prop) : Prop := ∀ ad σ H, Ok c ad env os σ H → ∀ Q : List V → Hp → Prop, (∀ ad' vs H2 ss, P ss → Ok c ad' env os2 σ H2 → Paired (SvOk c.K (Nof c ad' os2) ad' os2.length H2) vs ss → Q vs H2) → ta σ H Q
/-! tests that change the store -/
def EvTW (c : Cn) (env : Sy) (os : List SO) (tt : TT) (P : List SO → Bool → Prop) : Prop := ∀ ad σ H, Ok c ad env os σ H → ∀ Q : Bool → Hp → Prop, (∀ ad' H2 os' b, P os' b → Ok c ad' env os' σ H2 → Q b H2) → tt σ H Q
section
variable {tt tu : TT} {t1 t2 : TS}
theorem etw_T {b : Bool} {P : List SO → Bool → Prop} (h : EvT c env os tt b) (hP : P os b) : EvTW c env os tt P := fun ad σ H ok Q q => h ad σ H ok Q fun H2 e => q ad H2 os b hP (ok.ext e)
theorem etw_B {P : List SO → SV → Prop} {PB : List SO → Bool → Prop} (h : EvWN c env os te P) (hP : ∀ os' s, P os' s → ∃ b, s = .i (.bool b) ∧ PB os' b) : EvTW c env os (tB te) PB := fun ad σ H ok Q q => h ad σ H ok _ fun ad' v H2 os' s p ok2 r => by
  obtain ⟨b, rfl, hb⟩ := hP os' s p
  exact ⟨b, dn_bool r, q ad' H2 os' b hb ok2⟩
theorem etw_not {P : List SO → Bool → Prop} (h : EvTW c env os tt (fun os' b => P os' (!b))) : EvTW c env os (tNot tt) P := fun ad σ H ok Q q => h ad σ H ok _ fun ad' H2 os' b p ok2 => q ad' H2 os' (!b) p ok2
theorem gs_ifW {P : List SO → Bool → Prop} (h : EvTW c env os tt P) (k : ∀ os' b, P os' b → if b = true then Go c env os' t1 { D with nx := u D } else Go c env os' t2 { D with nx := u D }) : Go c env os (tSeq (tIfS tt t1 t2) u) D := fun ad σ H ok => h ad σ H ok _ fun ad' H2 os' b p ok2 => by
  have := k os' b p
  cases b with
  | true => rw [if_pos rfl] at this; exact this ad' σ H2 ok2
  | false => rw [if_neg (by decide)] at this; exact this ad' σ H2 ok2
theorem etw_or {P1 P : List SO → Bool → Prop} (h : EvTW c env os tt P1) (h1 : ∀ os', P1 os' true → P os' true) (h2 : ∀ os', P1 os' false → EvTW c env os' tu P) : EvTW c env os (tOr tt tu) P := fun ad σ H ok Q q => h ad σ H ok _ fun ad' H2 os' b p ok2 => by
  cases b with
  | true =>
    show Q true H2
    exact q ad' H2 os' true (h1 os' p) ok2
  | false =>
    show tu σ H2 Q
    exact h2 os' p ad' σ H2 ok2 Q q
end
end
def abcT : List Nat := (List.range 26).map (97 + ·)
end DL

set_option Elab.async false
set_option linter.all false
set_option maxRecDepth 100000
set_option maxHeartbeats 2000000
/-! A lambda that is made and never called: sorted([], key=lambda ..). The table of code objects is an object of the store. -/
namespace DL
open PySem PySem.Spec PyProof.Rows L2 LamX
open Evl (Ex Ex.refl Ex.trans Ex.new)
/-- a table of code objects that may be looked into -/
def GoodT (ps : Array Value) : Prop := PySem.TriplesOk ps.toList ∧ ∀ (pos : Pos) (cv : Value), codeAmong pos ps.toList = some cv → ∃ c, cv = .ref c
section
variable {X : Cx} {pins : List (Addr × Obj)} {σ : L2.St} {H : Hp} {s : Shared}
/-- a lambda is made -/
def tLamE (P : Addr) : TE := fun _ H Q => ∃ ps, H P = some (.tbl ps) ∧ GoodT ps ∧ ∀ f ps', GoodT ps' → Q (.ref f) (upd H P (.tbl ps'))
/-- sorted([], key=f) -/
def rSortE (K : PySem.W.Frag) : List V → List V → Hp → VK → Prop := fun vs zs H Q => ∃ a f, vs = [V.ref a] ∧ zs = [V.ref f] ∧ SqL K H a [] ∧ ∀ p, H p = none → Q (.ref p) (upd H p (.lst []))
end
end DL

set_option Elab.async false
set_option linter.all false
set_option maxRecDepth 100000
set_option maxHeartbeats 2000000
/-! Defs whose code object is known; the head of a law that makes lambdas; calls that read the caller's objects as data and give new objects. -/
namespace DL
open PySem PySem.Spec PyProof.Rows L2 LamX
open Evl (Ex Ex.refl Ex.trans Ex.new)
/-! ### sorted([], key=lambda ..) -/
section
variable {w : Bool} {c : Cn} {env : Sy} {os : List SO} {te : TE} {ad : Nat → Addr} {σ : L2.St} {H : Hp}
end
/-! ### a call that reads the caller's objects as data, and gives new objects -/
def SvNl : SV → Prop
  | .i d => noList d = true
  | .r _ => True
  | _ => False
def SoNl : SO → Prop
  | .lst xs => ∀ s ∈ xs, SvNl s
  | .dK kvs => ∀ p ∈ kvs, SvNl p.2
  | .ob _ fs => ∀ p ∈ fs, SvNl p.2
  | .tb _ => True
  | .nums => True
  | .stt _ => True
  | .x => True
  | _ => False
section
variable {w : Bool} {c : Cn} {env env' : Sy} {os os2 : List SO} {te ta tb tl : TE} {tr : TA} {u : TS} {D : Ends} {d : PyData} {ad : Nat → Addr} {σ : L2.St} {H H' : Hp} {α β : Type} {f : Nat → Nat} {x : α} {ds : List SV} {sh0 : α → List SO} {sh1 : β → List SO} {R : α → List SV → β → SV → Prop}
end
end DL

set_option Elab.async false
set_option linter.all false
set_option maxRecDepth 100000
set_option maxHeartbeats 2000000
/-! A call of a def that makes lambdas: its segment is the table alone; it reads the caller's objects as data. -/
namespace DL
open PySem PySem.Spec PyProof.Rows L2 LamX
open Evl (Ex Ex.refl Ex.trans Ex.new)
section
variable {K : PySem.W.Frag} {N : Addr → Prop} {H : Hp} {a0 : Addr} {ps : Array Value}
mutual
theorem Dn.noTb (h0 : H a0 = some (.tbl ps)) : ∀ (d : PyData) (v : V), Dn K N H v d → Dn K (fun a => N a ∨ a = a0) H v d
  | .none, _, h => by cases h; exact .non
  | .bool b, _, h => by cases h; exact .bl b
  | .int i, _, h => by cases h; exact .int i
  | .str x, _, h => by cases h; exact .str x
  | .list ds, _, h => by
    cases h with
    | lst r n a => exact .lst r (fun z => z.elim n fun z => by subst z; rcases r with r | ⟨o, r⟩ <;> rw [h0] at r <;> cases r) (DnAll.noTb h0 ds _ a)
    | lstK r a => exact .lstK r (DnAll.noTb h0 ds _ a)
  | .tuple ds, _, h => by
    cases h with
    | tup r a => exact .tup r (DnAll.noTb h0 ds _ a)
  | .dict kvs, _, h => by
    cases h with
    | dkk r n a => exact .dkk r (fun z => z.elim n fun z => by subst z; rcases r with r | ⟨o, r⟩ <;> rw [h0] at r <;> cases r) (DnPs.noTb h0 kvs _ a)
    | dkt r n a => exact .dkt r (fun z => z.elim n fun z => by subst z; rw [h0] at r; cases r) (DnPs.noTb h0 kvs _ a)
    | dkz r n a => exact .dkz r (fun z => z.elim n fun z => by subst z; rw [h0] at r; cases r) (DnPs.noTb h0 kvs _ a)
    | ins r n a => exact .ins r (fun z => z.elim n fun z => by subst z; rw [h0] at r; cases r) (DnPs.noTb h0 kvs _ a)
    | ft r n a => exact .ft r n (DnPs.noTb h0 kvs _ a)
theorem DnAll.noTb (h0 : H a0 = some (.tbl ps)) : ∀ (ds : List PyData) (vs : List V), DnAll K N H vs ds → DnAll K (fun a => N a ∨ a = a0) H vs ds
  | [], _, h => by cases h; exact .nil
  | d :: ds, _, h => by
    cases h with
    | cons a b => exact .cons (Dn.noTb h0 d _ a) (DnAll.noTb h0 ds _ b)
theorem DnPs.noTb (h0 : H a0 = some (.tbl ps)) : ∀ (ds : List (PyData × PyData)) (vs : List (PyData × V)), DnPs K N H vs ds → DnPs K (fun a => N a ∨ a = a0) H vs ds
  | [], _, h => by cases h; exact .nil
  | (k, d) :: ds, _, h => by
    cases h with
    | cons a b => exact .cons (Dn.noTb h0 d _ a) (DnPs.noTb h0 ds _ b)
end
end
section
variable {w : Bool} {c : Cn} {env : Sy} {os : List SO} {tr : TA} {k : Nat} {P : Addr}
end
end DL

set_option Elab.async false
set_option linter.all false
set_option maxRecDepth 100000
set_option maxHeartbeats 2000000
/-! Tuples that are told by their object (so that dict(t) may look for 't.keys'): t = (), tuple(xs), dict(t). -/
namespace DL
open PySem PySem.Spec PyProof.Rows L2
open Evl (Ex Ex.refl Ex.trans Ex.new)
section
variable {K : PySem.W.Frag} {N : Addr → Prop} {H : Hp}
theorem fT_dn {a : Addr} {o : Obj} {xs : List V} {ds : List PyData} (h : H a = some (.frz o (.tup xs))) (hd : o.dict = none) (p : DnAll K N H xs ds) : Dn K N H (.ref a) (fT ds) := .ft h hd (.cons (.tup (Or.inl (Or.inr ⟨o, h⟩)) p) .nil)
end
section
variable {X : Cx}
/-- a tuple display whose object is told -/
def tTupF (t : TA) : TE := fun σ H Q => t σ H fun xs H1 => xs.length ≤ sizeLine ∧ ∀ p o, H1 p = none → o.dict = none → Q (.ref p) (upd H1 p (.frz o (.tup xs)))
theorem pe_tupF {es : List Expr} {x1 : Nat} {pos : Pos} {t : TA} (h : PA X es t) : PE X (.Tuple es x1 pos) (tTupF t) := by
  refine ⟨fun pins s σ H Q I hq => ?_⟩
  refine wpAny_Tuple_spliced (thn (h.run pos pins s σ H _ I hq) fun us s1 ⟨xs, H1, I1, r, z, q⟩ => ⟨by rw [← r.length]; exact z, ?_⟩)
  have hf : H1 s1.heap.objs.size = none := I1.hok.fresh (Nat.le_refl _)
  refine ⟨.ref s1.heap.objs.size, upd H1 s1.heap.objs.size (.frz { cls := .type "tuple", data := .seq us.toArray } (.tup xs)), I1.laid (t' := s1.toks) (fun b u e => Heap.get?_push_of_some _ e) (Nat.le_refl _) ?_, rfl, q _ _ hf rfl⟩
  exact ⟨Heap.get?_push_size _ rfl, z, us, r, ⟨_, Heap.get?_push_size _ rfl, rfl, _, rfl⟩⟩
def rTupOfF (K : PySem.W.Frag) : List V → Hp → VK → Prop := fun xs H Q => ∃ p ys, xs = [.ref p] ∧ SqL K H p ys ∧ ∀ l o, H l = none → o.dict = none → Q (.ref l) (upd H l (.frz o (.tup ys)))
/-- dict(t) of a tuple of pairs that is told by its object -/
def rDictF (K : PySem.W.Frag) : List V → Hp → VK → Prop := fun xs H Q => ∃ (a : Addr) (o : Obj) (ys : List V) (ps : List Addr) (kvs : List (Key × V)), xs = [.ref a] ∧ H a = some (.frz o (.tup ys)) ∧ o.dict = none ∧ SqT K H a (ps.map V.ref) ∧ Paired (fun p kv => SqT K H p [kV kv.1, kv.2]) ps kvs ∧
  ∀ p, H p = none → Q (.ref p) (upd H p (.dK (mergeK [] kvs)))
end
section
variable {w : Bool} {c : Cn} {env : Sy} {os : List SO} {te : TE}
theorem ex_tupF {ta : TA} {ds : List PyData} (h : EvA w c env os ta ds) (hl : ds.length ≤ 100000) : EvX w c env os (tTupF ta) (fT ds) := fun ad σ H ok Q q =>
  h ad σ H ok _ fun vs H2 e r => ⟨Nat.le_trans (by rw [r.length]; exact hl) (by decide), fun p o hp hd => q _ _ (e.trans (Ex.new hp)) (fT_dn upd_same hd (r.ext (Ex.new hp)))⟩
theorem dn_fT {K : PySem.W.Frag} {N : Addr → Prop} {H : Hp} {v : V} {ds : List PyData} (h : Dn K N H v (fT ds)) : ∃ a o xs ys, v = .ref a ∧ H a = some (.frz o (.tup xs)) ∧ o.dict = none ∧ SqT K H a ys ∧ DnAll K N H ys ds := by
  unfold fT at h
  cases h with
  | @dkk a ws _ r n p =>
    cases ws with
    | nil => cases p
    | cons x ws =>
      rw [List.map_cons] at p
      generalize hk : kdat x.1 = kd at p
      cases p
      obtain ⟨k, y⟩ := x
      cases k <;> cases hk
  | dkt r n p => cases p
  | dkz r n p => cases p
  | ins r n p => cases p
  | @ft a o xs _ r hd p =>
    cases p with
    | cons x _ =>
      cases x with
      | tup r2 p2 => exact ⟨a, o, xs, _, rfl, r, hd, r2, p2⟩
end
end DL

set_option Elab.async false
set_option linter.all false
set_option maxRecDepth 100000
set_option maxHeartbeats 2000000
/-! d.items() of a dict by-value; sorted(d.items()) of one item. -/
namespace DL
open PySem PySem.Spec PyProof.Rows L2
open L2.DX (itemsO itemsO_ok)
open Evl (Ex Ex.refl Ex.trans Ex.new)
mutual
/-- data that reads off no list and no dict -/
def noAd : PyData → Bool
  | .list _ => false
  | .dict _ => false
  | .tuple ds => noAds ds
  | _ => true
def noAds : List PyData → Bool
  | [] => true
  | d :: ds => noAd d && noAds ds
end
mutual
theorem reads_nil {h : Heap} : ∀ (d : PyData) (v : Value) (as : List Addr), noAd d = true → Reads h v d as → as = []
  | .none, _, _, _, r => by cases r; rfl
  | .bool _, _, _, _, r => by cases r; rfl
  | .int _, _, _, _, r => by cases r; rfl
  | .str _, _, _, _, r => by cases r; rfl
  | .list _, _, _, q, _ => by simp [noAd] at q
  | .dict _, _, _, q, _ => by simp [noAd] at q
  | .tuple ds, _, _, q, r => by
    cases r with
    | tuple _ _ _ r => exact readsAll_nil ds _ _ (by simpa [noAd] using q) r
theorem readsAll_nil {h : Heap} : ∀ (ds : List PyData) (vs : List Value) (as : List Addr), noAds ds = true → ReadsAll h vs ds as → as = []
  | [], _, _, _, r => by cases r; rfl
  | d :: ds, _, _, q, r => by
    have q' : noAd d = true ∧ noAds ds = true := by simpa [noAds] using q
    cases r with
    | cons r1 r2 => rw [reads_nil d _ _ q'.1 r1, readsAll_nil ds _ _ q'.2 r2]; rfl
end
section
variable {X : Cx}
def rItemsK : V → List V → Hp → VK → Prop := fun x xs H Q => ∃ (a : Addr) (kvs : List (Key × V)), x = .ref a ∧ xs = [] ∧ H a = some (.dK kvs) ∧ ∀ p, H p = none → Q (.ref p) (upd H p (itemsO p a))
/-- d.items() of a dict that may be frozen -/
def tItemsR (td : TE) : TE := fun σ H Q => td σ H fun x H1 => ∃ (a : Addr) (kvs : List (Key × V)), x = .ref a ∧ Rd H1 a (.dK kvs) ∧ ∀ p, H1 p = none → Q (.ref p) (upd H1 p (itemsO p a))
/-- sorted(d.items()) where d has one item -/
def rSortI1 (K : PySem.W.Frag) : List V → Hp → VK → Prop := fun vs H Q => ∃ (p a : Addr) (k : Key) (v : V) (d : PyData), vs = [.ref p] ∧ H p = some (itemsO p a) ∧ Rd H a (.dK [(k, v)]) ∧ Dp K H v d ∧ noAd d = true ∧ PySem.W.alike d d = true ∧ d.depth ≤ 20 ∧
  ∀ (H' : Hp) (l t : Addr), (∀ b o, H b = some o → H' b = some o) → H l = none → H' l = some (.lst [.ref t]) → H' t = some (.tup [kV k, v]) → Q (.ref l) H'
end
end DL
namespace DL
open PySem PySem.Spec PyProof.Rows L2
open Evl (Ex Ex.refl Ex.trans Ex.new)
section
variable {w : Bool} {c : Cn} {env : Sy} {os : List SO} {td te : TE}
end
end DL
namespace DL
open PySem PySem.Spec PyProof.Rows L2
open Evl (Ex Ex.refl Ex.trans Ex.new)
/-- a key of a dict of the module -/
def rInKd (K : PySem.W.Frag) (w : World) : R2 := fun x y H Q => ∃ p z es n v, x = .str z ∧ y = .ref p ∧ KDict K w p es n ∧ KDct K w p z v ∧ Q (.bl true) H
end DL

set_option Elab.async false
set_option linter.all false
set_option maxRecDepth 100000
set_option maxHeartbeats 2000000
/-! d.update(e) and {**a, **b} of dicts by-value. -/
namespace DL
open PySem PySem.Spec PyProof.Rows L2
section
variable {prog : Program} {w : World} {K : Type} [DecidableEq K] {knd : PySem.KeyKind prog w K} {A : Around} {E : Value → Shared → Prop} {s : Shared}
/-- the keys of a kind that are no objects -/
def ByVal (knd : PySem.KeyKind prog w K) : Prop := ∀ k v, knd.is k v = true → ∀ a, v ≠ .ref a
end
end DL

set_option Elab.async false
set_option linter.all false
set_option maxRecDepth 100000
set_option maxHeartbeats 2000000
namespace DL
open PySem PySem.Spec PyProof.Rows L2
section
variable {X : Cx}
/-- d.update(e) -/
def rUpdK : V → List V → Hp → VK → Prop := fun x xs H Q => ∃ (d o : Addr) (kvs more : List (Key × V)), x = .ref d ∧ xs = [.ref o] ∧ H d = some (.dK kvs) ∧ Rd H o (.dK more) ∧ d ≠ o ∧ kvs.length + more.length ≤ 100000 ∧ Q .non (upd H d (.dK (mergeK kvs more)))
/-- {**a, **b} -/
def tDisp2 (ta tb : TE) : TE := fun σ H Q => ∀ p, H p = none → ta σ (upd H p (.dK [])) fun x H1 => ∃ (o1 : Addr) (m1 : List (Key × V)), x = .ref o1 ∧ Rd H1 o1 (.dK m1) ∧ p ≠ o1 ∧ H1 p = some (.dK []) ∧ m1.length ≤ 1000 ∧
  tb σ (upd H1 p (.dK (mergeK [] m1))) fun y H2 => ∃ (o2 : Addr) (m2 : List (Key × V)), y = .ref o2 ∧ Rd H2 o2 (.dK m2) ∧ p ≠ o2 ∧ H2 p = some (.dK (mergeK [] m1)) ∧ m2.length ≤ 1000 ∧ Q (.ref p) (upd H2 p (.dK (mergeK (mergeK [] m1) m2)))
end
end DL

set_option Elab.async false
set_option linter.all false
set_option maxRecDepth 100000
set_option maxHeartbeats 2000000
/-! Rules over the store: a new dict as data, d.update(e), {**a, **b}. -/
namespace DL
open PySem PySem.Spec PyProof.Rows L2
open Evl (Ex Ex.refl Ex.trans Ex.new)
/-- kvs, and then the pairs of m put in -/
def mrgA (kvs : List (Key × SV)) (m : List (Key × PyData)) : List (Key × SV) := m.foldl (fun acc q => setA acc q.1 (.i q.2)) kvs
def mrgD (kvs : List (Key × PyData)) (m : List (Key × PyData)) : List (Key × PyData) := m.foldl (fun acc q => setA acc q.1 q.2) kvs
section
variable {w : Bool} {c : Cn} {env : Sy} {os : List SO} {te ta tb tl : TE} {u : TS} {D : Ends}
end
end DL
namespace DL
open PySem PySem.Spec PyProof.Rows L2
end DL
namespace DL
open PySem PySem.Spec PyProof.Rows L2
end DL

set_option Elab.async false
set_option linter.all false
set_option maxRecDepth 100000
set_option maxHeartbeats 2000000
/-! tuple(sorted(d.items())) of a dict that is data, of one item. -/
namespace DL
open PySem PySem.Spec PyProof.Rows L2
open Evl (Ex Ex.refl Ex.trans Ex.new)
end DL

set_option Elab.async false
set_option linter.all false
set_option maxRecDepth 100000
set_option maxHeartbeats 2000000
/-! An object by a conditional expression. -/
namespace DL
open PySem PySem.Spec PyProof.Rows L2
open Evl (Ex Ex.refl Ex.trans Ex.new)
section
variable {c : Cn} {env : Sy} {os : List SO} {tt : TT} {ta tb : TE} {k : Nat}
end
end DL
namespace DL
open PySem PySem.Spec PyProof.Rows L2
open Evl (Ex Ex.refl Ex.trans Ex.new)
section
variable {c : Cn} {env : Sy} {os os2 : List SO} {te : TE} {ta tr : TA} {u : TS} {D : Ends}
end
end DL

set_option Elab.async false
set_option linter.all false
set_option maxRecDepth 100000
set_option maxHeartbeats 4000000
/-! Heads with keyword-only defaults and with a def that makes lambdas: its code object's table. -/
namespace DL
open PySem PySem.Spec PyProof.Rows L2 He
def obsEt (fa : List Fa) (fn : List DefD) (ts : List Tab) (tf : List Defn) (ex : PySem.W.Frag → Bool) (g : Addr → Option Obj) : AlX := (obsT fa fn ts (frT g (asE g)), ex (frT g (asE g)) && tabsB g tf (frT g (asE g)))
theorem saysEt_of {fa : List Fa} {fn : List DefD} {ts : List Tab} {tf : List Defn} {ex : PySem.W.Frag → Bool} {w : World} {h : Heap} (e : obsEt fa fn ts tf ex h.get? = valX fn ts w) : SaysX fa fn ts tf ex w h (frT h.get? (asE h.get?)) := by
  have e1 : obsT fa fn ts (frT h.get? (asE h.get?)) = valT fn ts w := congrArg (fun z : AlX => z.1) e
  have e2 : (ex (frT h.get? (asE h.get?)) && tabsB h.get? tf (frT h.get? (asE h.get?))) = true := congrArg (fun z : AlX => z.2) e
  obtain ⟨h1, h2⟩ := Bool.and_eq_true_iff.mp e2
  have key : ∀ p ∈ tf, PySem.W.codeHdIn (frT h.get? (asE h.get?)) (cT (frT h.get? (asE h.get?)) p).1 (cT (frT h.get? (asE h.get?)) p).2 = true ∧ ∃ o, h.get? (cT (frT h.get? (asE h.get?)) p).2 = some o ∧ emptyTab o = true := fun p hp => by
    obtain ⟨h3, h4⟩ := Bool.and_eq_true_iff.mp (List.all_eq_true.mp h2 p hp)
    refine ⟨h3, ?_⟩
    cases q : h.get? (cT (frT h.get? (asE h.get?)) p).2 with
    | none =>
      rw [q] at h4
      cases h4
    | some o =>
      rw [q] at h4
      exact ⟨o, rfl, h4⟩
  exact ⟨e1, h1, fun p hp => (key p hp).1, fun p hp => by
    obtain ⟨_, o, q, z⟩ := key p hp
    exact frT_none q z, fun p hp => by
    obtain ⟨_, o, q, z⟩ := key p hp
    rw [q, emptyTab_eq z]⟩
def hookEt (fa : List Fa) (fn : List DefD) (ts : List Tab) (tf : List Defn) (ex : PySem.W.Frag → Bool) : PySem.W.Hook where
  α := AlX
  obs := fun s => obsEt fa fn ts tf ex s.heap.get?
  val := fun w => valX fn ts w
  says := fun w h => ∃ K : PySem.W.Frag, K.In h ∧ SaysX fa fn ts tf ex w h K
  of := fun _ _ e => ⟨_, frT_in, saysEt_of e⟩
  keeps := fun _ _ _ ⟨K, hK, c⟩ k => ⟨K, PySem.W.Frag.In.keeps hK k, ⟨c.t, c.more, c.hd, c.out, fun p hp => k _ _ (c.empty p hp)⟩⟩
end DL

set_option Elab.async false
set_option linter.all false
set_option maxRecDepth 100000
set_option maxHeartbeats 2000000
/-! Drawn items of lists of the store, drawn arguments of methods, drawn values of dicts; a law that makes lambdas. -/
namespace DL
open PySem PySem.Spec PyProof.Rows L2
open Evl (Ex Ex.refl Ex.trans Ex.new)
section
variable {w : Bool} {c : Cn} {env : Sy} {os : List SO} {te ta tb tv td ty : TE} {tr : TA} {u : TS} {D : Ends} {P : PyData → Prop}
end
section
variable {c : Cn} {env : Sy} {te : TE} {tr : TA} {α : Type} {n : Nat} {shape : α → List SO} {R : α → List SV → α → PyData → Prop} {f : Nat → Nat} {x : α}
end
end DL

set_option Elab.async false
set_option linter.all false
set_option maxRecDepth 100000
set_option maxHeartbeats 2000000
/-! A def whose answer is a tuple of data and of objects; tuples that are pinned; dicts of dicts that are compared or copied. -/
namespace DL
open PySem PySem.Spec PyProof.Rows L2
open Evl (Ex Ex.refl Ex.trans Ex.new)
def spWT (K : PySem.W.Frag) {α β : Type} (sh0 : α → List SO) (sh1 : β → List SO) (R : α → List SV → β → List SV → Prop) : Sp := fun vs H Q _ => ∃ (N : Addr → Prop) (ad : Nat → Addr) (x : α) (ds : List SV),
  ShOk (sh0 x).length (sh0 x) ∧ SegOk K N ad (sh0 x).length H (sh0 x) ∧ (∀ a, N a → H a ≠ none) ∧ Paired (SvOk K (SegN N ad (sh0 x).length) ad (sh0 x).length H) vs ds ∧ (∃ y ss, R x ds y ss) ∧
  ∀ a us H' ad' y ss, R x ds y ss → ShOk (sh1 y).length (sh1 y) → (sh0 x).length ≤ (sh1 y).length → (∀ j, j < (sh0 x).length → ad' j = ad j) → (∀ j, (sh0 x).length ≤ j → j < (sh1 y).length → H (ad' j) = none) → (∀ a u, H a = some u → (∀ j, j < (sh0 x).length → a ≠ ad j) → H' a = some u) → SegOk K N ad' (sh1 y).length H' (sh1 y) → H' a = some (.tup us) → Paired (SvOk K (SegN N ad' (sh1 y).length) ad' (sh1 y).length H') us ss → Q (.ref a) H'
section
variable {w : Bool} {c : Cn} {env env' : Sy} {os os2 : List SO} {te ta tb tl : TE} {tr : TA} {u : TS} {D : Ends} {d : PyData} {ad : Nat → Addr} {σ : L2.St} {H H' : Hp} {α β : Type} {f : Nat → Nat} {x : α} {ds : List SV} {sh0 : α → List SO} {sh1 : β → List SO} {R : α → List SV → β → List SV → Prop}
/-! the body -/
def RetWT {α β : Type} (sh0 : α → List SO) (sh1 : β → List SO) (R : α → List SV → β → List SV → Prop) (c : Cn) (x : α) (ds : List SV) (D : Ends) : Prop := ∀ (g : Nat → Nat) ad env os σ a us H2 y ss, Ok c ad env os σ H2 → (∀ i, i < (sh0 x).length → g i = i) → (∀ i j, i < (sh1 y).length → j < (sh1 y).length → g i = g j → i = j) → (∀ (i : Nat) (o : SO), (sh1 y)[i]? = some o → os[g i]? = some (reS g o)) → ShOk (sh1 y).length (sh1 y) → (sh0 x).length ≤ (sh1 y).length → (∀ s ∈ ss, SvLt (sh1 y).length s) → R x ds y ss → H2 a = some (.tup us) → Paired (SvOk c.K (Nof c ad os) ad os.length H2) us (ss.map (reV g)) → D.rt (.ref a) H2
end
end DL
namespace DL
open PySem PySem.Spec PyProof.Rows L2
open Evl (Ex Ex.refl Ex.trans Ex.new)
/-- two dicts of the same flat entries -/
def SameD (K : PySem.W.Frag) (H : Hp) (x y : V) : Prop := ∃ a b ks ls, x = .ref a ∧ y = .ref b ∧ Rd H a (.dK ks) ∧ Rd H b (.dK ls) ∧ ks.length = ls.length ∧ ∀ p ∈ ks, ∃ v d, valV ls p.1 = some v ∧ Dp K H p.2 d ∧ Dp K H v d ∧ Same1 d
def rEqDD (K : PySem.W.Frag) : R2 := fun x y H Q => ∃ a b ks ls, x = .ref a ∧ y = .ref b ∧ Rd H a (.dK ks) ∧ Rd H b (.dK ls) ∧ ks.length = ls.length ∧ (∀ p ∈ ks, ∃ v, valV ls p.1 = some v ∧ SameD K H p.2 v) ∧ Q (.bl true) H
section
variable {X : Cx}
end
end DL
namespace DL
open PySem PySem.Spec PyProof.Rows L2
open Evl (Ex Ex.refl Ex.trans Ex.new)
def rDictD (K : PySem.W.Frag) : List V → Hp → VK → Prop := fun xs H Q => ∃ (a : Addr) (kvs : List (Key × V)), xs = [.ref a] ∧ Rd H a (.dK kvs) ∧ ∀ p, H p = none → Q (.ref p) (upd H p (.dK kvs))
section
variable {α β γ δ : Type} [DecidableEq α] [DecidableEq γ] {w : Bool} {c : Cn} {env : Sy} {os : List SO} {te ta tb : TE} {ek : α → Key} {ev : β → PyData} {ek2 : γ → Key} {ev2 : δ → PyData}
end
/-! a tuple whose parts are pinned -/
section
variable {w : Bool} {c : Cn} {env : Sy} {os : List SO} {i : Nat} {vs : List V}
end
end DL

set_option Elab.async false
set_option linter.all false
set_option maxRecDepth 100000
set_option maxHeartbeats 2000000
/-! len of a frozen dict. -/
namespace DL
open PySem PySem.Spec PyProof.Rows L2
open Evl (Ex Ex.refl Ex.trans Ex.new)
def rLenR (K : PySem.W.Frag) : List V → Hp → VK → Prop := fun xs H Q => ∃ (a : Addr) (kvs : List (Key × V)), xs = [V.ref a] ∧ Rd H a (.dK kvs) ∧ Q (.int kvs.length) H
end DL

set_option Elab.async false
set_option linter.all false
set_option maxRecDepth 100000
set_option maxHeartbeats 4000000
/-! Errors with a value: asked by isinstance, several except clauses with names. -/
namespace DL
open PySem PySem.Spec PyProof.Rows L2
/-! ### isinstance of an error that has its own dict -/
section
open PySem.W PySem.Calls
variable {prog : Program} {w : World} {A : Around} {E : Value → Shared → Prop} {s : Shared} {K : Frag} {x D : Addr} {ox : Obj} {od : Option Obj}
end
/-! ### try: several except clauses, each with or without a name -/
/-- a clause: its class, the slot of its name, what its suite asks -/
abbrev Cl : Type := Value × Option Nat × (Addr → Value → Option Addr → TS)
def endAs (i : Nat) (D : Ends) : Ends := { nx := fun σ' H' => D.nx (σ'.set i none) H', rt := D.rt, bk := fun σ' H' => D.bk (σ'.set i none) H', ct := fun σ' H' => D.ct (σ'.set i none) H' }
def clT (D : Ends) (a : Addr) (cls : Value) (d : Option Addr) (σ : L2.St) (H : L2.Hp) : Option Nat → (Addr → Value → Option Addr → TS) → Prop
  | none, ts => ts a cls d D σ H
  | some i, ts => ts a cls d (endAs i D) (σ.set i (some (.ref a))) H
def wCl (K : PySem.W.Frag) (Wout : WX) (D : Ends) : List Cl → WX
  | [] => Wout
  | (c, n, ts) :: r => fun cls d σ H => ∃ b, PySem.W.exmOne K cls c = some b ∧ (b = true → ∀ a, H a = none → clT D a cls d σ H n ts) ∧ (b = false → wCl K Wout D r cls d σ H)
inductive ClOk (X : Cx) : List ExceptHandler → List Cl → Prop
  | nil : ClOk X [] []
  | cons {x : Str} {c : Value} {ts : Addr → Value → Option Addr → TS} {b₀ : Stmt} {suite : List Stmt} {np pos' : Pos} {hds : List ExceptHandler} {l : List Cl} (hc : Names X x c)
      (hsu : ∀ (a : Addr) (oe : Obj) (cls : Value) (d : Option Addr) (pn : List (Addr × Obj)), Zc cls d oe → (∃ vs, oe.data = .fields vs) → PSs (X.suite a ((a, oe) :: pn)) (b₀ :: suite) (ts a cls d)) (r : ClOk X hds l) :
      ClOk X (.ExceptHandler (some (.Name x np)) none (b₀ :: suite) pos' :: hds) ((c, none, ts) :: l)
  | as {x n : Str} {i : Nat} {c : Value} {ts : Addr → Value → Option Addr → TS} {b₀ : Stmt} {suite : List Stmt} {np pos' : Pos} {hds : List ExceptHandler} {l : List Cl} (hN : X.N.Nodup) (hi : X.N[i]? = some n) (hln : X.env.kindOf n = some .local) (hc : Names X x c)
      (hsu : ∀ (a : Addr) (oe : Obj) (cls : Value) (d : Option Addr) (pn : List (Addr × Obj)), Zc cls d oe → (∃ vs, oe.data = .fields vs) → PSs (X.suite a ((a, oe) :: pn)) (b₀ :: suite) (ts a cls d)) (r : ClOk X hds l) :
      ClOk X (.ExceptHandler (some (.Name x np)) (some n) (b₀ :: suite) pos' :: hds) ((c, some i, ts) :: l)
section
variable {X : Cx} {body : List Stmt} {h₀ : ExceptHandler} {hds : List ExceptHandler} {l : List Cl} {pos : Pos} {tb : WX → TS} {Wout : WX}
theorem ps_tryCl (hs : X.stack = X.env :: X.outer) (hf : X.env.frame = some X.env.locals) (tk : Takes X Wout) (hh : ClOk X (h₀ :: hds) l)
    (hb : ∀ (W : WX) (pn : List (Addr × Obj)) (xe : Value → Shared → Prop), Takes (X.tr pn xe) W → PassesOwn (model X.prog X.w) X.A X.env xe → PSs (X.tr pn xe) body (tb W)) :
    PS X (.Try body (h₀ :: hds) [] [] pos) (fun D σ H => tb (wCl X.K Wout D l) D σ H) := by
  refine ⟨fun pins s σ H D I h => ?_⟩
  have ok := I.ok
  have hfr : X.A.frames = some (X.env :: X.outer) := by rw [ok.frames, hs]
  refine wpAny_Try_except (wpAny_mono ((hb (wCl X.K Wout D l) (X.pn ++ pins) (fun e s₁ => wpAny (model X.prog X.w) X.A (noteFrame e X.env) (fun _ s₂ => wpAny (model X.prog X.w) X.A (setFlight e none) (fun _ s₃ =>
    wpAny (model X.prog X.w) X.A (handleBy e X.env (h₀ :: hds)) (SP X pins D) X.xe s₃) X.xe s₂) X.xe s₁) (fun u s' xx => ?_) PassesOwn.looking).run [] s σ H D (I.toTry _) h) (fun f s1 hsp => ?_) (fun e s1 he => he))
  · obtain ⟨a, B, sI, pins', σ', H', cls, d, rfl, J', nb, up, sky, na, os, ag, w⟩ := xx
    have J : Inv X pins σ' H' sI := J'.ofTry ok
    have sky' : Sky B (X.env :: X.outer) a (Zc cls d) X.env.locals s'.heap := by rw [← hs]; exact sky
    show wpAny (model X.prog X.w) X.A (noteFrame (.ref a) X.env) _ _ _
    refine Sky.land Zc.steady hfr hf sky' fun h3 fl3 up3 => ?_
    obtain ⟨oe3, vs3, he3, hz3, hd3⟩ := fl3.there
    have nfr : a ∉ frs (X.env :: X.outer) := fun hm => by
      obtain ⟨_, o', e', hnf⟩ := fl3.2.2.1.mem hm
      rw [he3] at e'
      cases e'
      exact hnf _ hd3
    have nL : a ≠ X.env.locals := fun z => nfr (List.mem_filterMap.mpr ⟨X.env, List.mem_cons_self, by rw [hf, z]⟩)
    have nF : a ∉ X.fs := fun hm => by
      obtain ⟨e, he, q⟩ := List.mem_filterMap.mp hm
      exact nfr (List.mem_filterMap.mpr ⟨e, List.mem_cons_of_mem _ he, q⟩)
    have J3 : Inv X pins σ' H' { s' with heap := h3 } := J.landed nb fl3.1 (up.trans up3) os ag
    have S3 := J3.suite he3 hd3 na nL nF
    -- the test of a clause
    have ask : ∀ {x : Str} {np : Pos} {c : Value} {b : Bool} {Q : Value → Shared → Prop} {E : Value → Shared → Prop}, Names X x c → Q c { s' with heap := h3 } →
        wpAny (model X.prog X.w) (X.A.mark (some (.ref a))) (eval (.Name x np) X.env) Q E { s' with heap := h3 } := fun {x np c b Q E} hc q => by
      obtain ⟨hg, hdbg, hm | ⟨hm, hv, hnn⟩⟩ := hc
      · exact ld_glob (X := X.suite a ((a, oe3) :: (X.pn ++ pins))) S3 hg hm q hdbg
      · exact ld_blt (X := X.suite a ((a, oe3) :: (X.pn ++ pins))) S3 hg hm hv q hnn hdbg
    have LT : PySem.W.Looks (model X.prog X.w) h3 (typeOf (.ref a)) cls := fun A Q E s k q => wpAny_typeOf_ref (k _ _ he3) (by rw [hz3.1]; exact q)
    have go : ∀ {hds' : List ExceptHandler} {l' : List Cl}, ClOk X hds' l' → wCl X.K Wout D l' cls d σ' H' → wpAny (model X.prog X.w) X.A (handleBy (.ref a) X.env hds') (SP X pins D) X.xe { s' with heap := h3 } := by
      intro hds' l' hk
      induction hk with
      | nil =>
        intro w
        refine wpAny_handleBy_nil ?_
        obtain ⟨k1, k2, k3, oe, vs, T, oT, ts', he, hz, hd, h1, hr⟩ := id fl3
        unfold PySem.passOn
        refine wpAny_bind (wpAny_field he hd h1 ?_)
        rw [if_neg (show ¬ ((Value.ref T == Value.none) = true) from by simp)]
        have fin : wpAny (model X.prog X.w) X.A (setFlight (.ref a) X.env.frame) (fun _ s4 => wpAny (model X.prog X.w) X.A (throw (.ref a) : Sem Flow) (SP X pins D) X.xe s4) X.xe { s' with heap := h3 } := by
          rw [hf]
          exact HandSPX.setFlight_upZ fl3 fun h4 hh4 up4 => wpAny_throw (tk _ _ ⟨a, B, sI, pins, σ', H', cls, d, rfl, J, nb, (up.trans up3).trans up4, .inr (.inr (by rw [hs]; exact hh4)), na, os, ag, w⟩)
        first
          | exact wpAny_bind (wpAny_pure (wpAny_bind fin))
          | exact wpAny_bind fin
      | @cons x c ts b₀ suite np pos' hds2 l2 hc hsu r ih =>
        intro w
        obtain ⟨b, hb1, hyes, hno⟩ := w
        refine wpAny_handleBy_cons (codeAny_handlers_test ?_) (by intro q; cases q)
        refine ask (b := b) hc ((PySem.W.exm_one (M := model X.prog X.w) J3.kIn LT hb1).here ?_)
        cases b with
        | true =>
          refine codeAny_handlers_suite (HandSPX.lands_againZ fl3 fun h4 fl4 up4 => ?_)
          obtain ⟨oe4, vs4, he4, hz4, hd4⟩ := fl4.there
          have S4 := (J.landed nb fl4.1 ((up.trans up3).trans up4) os ag : Inv X pins σ' H' { s' with heap := h4 }).suite he4 hd4 na nL nF
          refine wpAny_mono ((hsu a oe4 cls d (X.pn ++ pins) hz4 ⟨_, hd4⟩).run [] _ _ H' D S4 (hyes rfl a na)) (fun f s6 hsp => ?_) (fun _ _ z => False.elim z)
          cases f with
          | ret u =>
            obtain ⟨v6, σ6, H6, S6, r6, q6⟩ := hsp
            exact ⟨_, _, _, S6.unsuite ok, r6, q6⟩
          | next => obtain ⟨σ6, H6, S6, q6⟩ := hsp; exact ⟨_, _, S6.unsuite ok, q6⟩
          | brk => obtain ⟨σ6, H6, S6, q6⟩ := hsp; exact ⟨_, _, S6.unsuite ok, q6⟩
          | cont => obtain ⟨σ6, H6, S6, q6⟩ := hsp; exact ⟨_, _, S6.unsuite ok, q6⟩
        | false => exact ih (hno rfl)
      | @as x n i c ts b₀ suite np pos' hds2 l2 hN hi hln hc hsu r ih =>
        intro w
        obtain ⟨b, hb1, hyes, hno⟩ := w
        refine wpAny_handleBy_cons (codeAny_handlers_test ?_) (by intro q; cases q)
        refine ask (b := b) hc ((PySem.W.exm_one (M := model X.prog X.w) J3.kIn LT hb1).here ?_)
        cases b with
        | true =>
          refine codeAny_handlers_suite_as (HandSPX.lands_againZ fl3 fun h4 fl4 up4 => ?_)
          obtain ⟨oe4, vs4, he4, hz4, hd4⟩ := fl4.there
          have S4 := (J.landed nb fl4.1 ((up.trans up3).trans up4) os ag : Inv X pins σ' H' { s' with heap := h4 }).suite he4 hd4 na nL nF
          refine store_ok (X := X.suite a ((a, oe4) :: (X.pn ++ pins))) (v := .ref a) S4 hN hi (.inl hln) rfl (fun s5 S5 => ?_) (.inr hln)
          refine wpAny_mono ((hsu a oe4 cls d (X.pn ++ pins) hz4 ⟨_, hd4⟩).run [] s5 _ H' _ S5 (hyes rfl a na)) (fun f s6 hsp => ?_) (fun _ _ z => False.elim z)
          have end_ : ∀ {σ6 : L2.St} {H6 : L2.Hp} {Q : Shared → Prop}, Inv (X.suite a ((a, oe4) :: (X.pn ++ pins))) [] σ6 H6 s6 → (∀ s7, Inv X pins (σ6.set i none) H6 s7 → Q s7) →
              wpAny (model X.prog X.w) X.A (do bindName X.env n .none; unbindBehindTheSuite X.env n pos') (fun _ s7 => Q s7) X.xe s6 := fun {σ6 H6 Q} S6 hq => gone_ok (S6.unsuite ok) hN hi hln hq
          cases f with
          | ret u => obtain ⟨v6, σ6, H6, S6, r6, q6⟩ := hsp; exact end_ S6 fun s7 J7 => ⟨_, _, _, J7, r6, q6⟩
          | next => obtain ⟨σ6, H6, S6, q6⟩ := hsp; exact end_ S6 fun s7 J7 => ⟨_, _, J7, q6⟩
          | brk => obtain ⟨σ6, H6, S6, q6⟩ := hsp; exact end_ S6 fun s7 J7 => ⟨_, _, J7, q6⟩
          | cont => obtain ⟨σ6, H6, S6, q6⟩ := hsp; exact end_ S6 fun s7 J7 => ⟨_, _, J7, q6⟩
        | false => exact ih (hno rfl)
    exact go hh w
  · cases f with
    | ret u => obtain ⟨v, σ', H', J', r, q⟩ := hsp; exact ⟨v, σ', H', J'.ofTry ok, r, q⟩
    | next => obtain ⟨σ', H', J', q⟩ := hsp; exact wpAny_execs_nil ⟨σ', H', J'.ofTry ok, q⟩
    | brk => obtain ⟨σ', H', J', q⟩ := hsp; exact ⟨σ', H', J'.ofTry ok, q⟩
    | cont => obtain ⟨σ', H', J', q⟩ := hsp; exact ⟨σ', H', J'.ofTry ok, q⟩
end
end DL

set_option Elab.async false
set_option linter.all false
set_option maxRecDepth 100000
set_option maxHeartbeats 4000000
/-! Errors with a value in the data layer. -/
namespace DL
open PySem PySem.Spec PyProof.Rows L2 Evl
/-! ### the classes -/
structure ErC (K : PySem.W.Frag) (C fI : Addr) : Prop where
  o : OexC K C
  i : PySem.W.findIn K (.ref C) "__init__" = some (some (.ref fI))
  t : PySem.W.typeIn K (.ref fI) = some (.type "function")
  nv : PySem.W.findIn K (.ref C) "value" = some none
  xf : XfC K C
  ec : ExcC K C
theorem exoB_ok {K : PySem.W.Frag} {C : Addr} (h : exoB K C = true) : ∃ nm q N bs bm sn sub ab col dd k0 k1 k2 k3 k5, K.lookup C = some (excClassObj nm q C N bs bm true sn sub ab col dd k0 k1 k2 k3 k5 "ValueError.__new__") ∧ PySem.HandSPX.refsVE bm = true := by
  unfold exoB at h
  split at h
  · rename_i dd cd sl ho
    split at h
    · rename_i C' bm k0 k1 k2 k3 n k5 hm hs
      simp only [Bool.and_eq_true, beq_iff_eq, Bool.not_eq_true'] at h
      obtain ⟨⟨⟨⟨rfl, rfl⟩, hdel⟩, hdi⟩, hr⟩ := h
      obtain ⟨nm, bs, mro, ns, qn, hd, sn, sub, ab, col, del⟩ := cd
      dsimp only at hm hdel hdi
      subst hm hdel hdi
      have hsl : sl = #[k0, k1, k2, k3, some (.builtin "ValueError.__new__"), k5] := by
        obtain ⟨l⟩ := sl
        simp only at hs
        rw [hs]
      subst hsl
      exact ⟨_, _, _, _, _, _, _, _, _, _, _, _, _, _, _, ho, hr⟩
    · cases h
  · cases h
/-- all that is asked of an error's class -/
theorem erB_ok {K : PySem.W.Frag} {C fI : Addr} (h : erB K C fI = true) : ErC K C fI := by
  simp only [erB, Bool.and_eq_true, decide_eq_true_eq] at h
  obtain ⟨h1, h2, h3, h4, h5, h6, h7, h8, h9, h10, h11, h12, h13⟩ := h
  have X := xfB_ok h9
  exact ⟨⟨exoB_ok h1, h2, h3, h4, h5⟩, h6, h7, h8, X, ⟨X.ga, X.gg, h3, X.hdC, h10, h11, h12, h13⟩⟩
theorem veB_ok {K : PySem.W.Frag} (h : veB K = true) : PySem.W.findCls K (.type "ValueError") (.type "type") "__init__" = some (.val (.builtin "ValueError.__init__")) := by
  unfold veB at h
  split at h
  · rename_i v e
    rw [e, of_decide_eq_true h]
  · cases h
theorem all_id {l : List Bool} {i : Nat} {b : Bool} (h : l.all id = true) (e : l[i]? = some b) : b = true := by
  have := List.all_eq_true.mp h b (List.mem_of_getElem? e)
  exact this
/-! ### the value -/
/-- what an error may carry here: a text or a number -/
def EvD : PyData → V → Prop := fun d v => (∃ l, d = .str l ∧ v = .str l) ∨ (∃ i, d = .int i ∧ v = .int i ∧ i.natAbs.log2 < 1920)
theorem evD_dn {K : PySem.W.Frag} {N : Addr → Prop} {H : Hp} {d : PyData} {v : V} (h : EvD d v) : Dn K N H v d := by
  rcases h with ⟨l, rfl, rfl⟩ | ⟨i, rfl, rfl, _⟩
  · exact .str _
  · exact .int _
theorem evD_of {K : PySem.W.Frag} {N : Addr → Prop} {H : Hp} {d : PyData} {v u : V} (h : EvD d v) (r : Dn K N H u d) : u = v := by
  rcases h with ⟨l, rfl, rfl⟩ | ⟨i, rfl, rfl, _⟩
  · exact dn_str r
  · exact dn_int r
/-- str(e) of these -/
def rStr : List V → Hp → VK → Prop := fun xs H Q => ∃ v, xs = [v] ∧ ((∃ a, v = .str a ∧ Q (.str a) H) ∨ (∃ i, v = .int i ∧ i.natAbs.log2 < 1920 ∧ Q (.str (toString i)) H))
theorem call_strV {X : Cx} : CallR X (.type "str") rStr := fun pins s σ H xs us Q I r h => by
  obtain ⟨v, rfl, ⟨a, rfl, q⟩ | ⟨i, rfl, hi, q⟩⟩ := h
  · exact SkE.call_str_str pins s σ H _ us Q I r ⟨a, rfl, q⟩
  · exact call_str_int pins s σ H _ us Q I r ⟨i, rfl, hi, q⟩
/-! ### PageError.__init__ and a raise -/
def spE0 (K : PySem.W.Frag) : Sp := fun vs H Q _ => ∃ (a C : Addr) (d : PyData) (v : V), vs = [.ref a, v] ∧ EvD d v ∧ H a = some (exo a C none) ∧ OexC K C ∧ PySem.W.findIn K (.ref C) "value" = some none ∧
  ∀ dx, H dx = none → dx ≠ a → Q .non (upd (upd H dx (exd dx [("value", v)])) a (exo a C (some dx)))
theorem spE0_len {K : PySem.W.Frag} : ∀ vs H Q E, spE0 K vs H Q E → vs.length = 2 := fun _ _ _ _ ⟨_, _, _, _, e, _⟩ => by rw [e]; rfl
/-- ValueError.__init__(self, str(value)); self.value = value -/
def tInit (K : PySem.W.Frag) : TS := tSeq (tDrop (tVeI K (tCons (tVar 0) (tCons (tCB rStr (tCons (tVar 1) tNil)) tNil)))) (tOst K "value" (tVar 0) (tVar 1))
theorem run_spE0 {K : PySem.W.Frag} {vs : List V} {H : Hp} {Q : VK} {E : XK} (h : spE0 K vs H Q E) : tInit K (De Q) (L2.start ["self", "value"] vs) H := by
  obtain ⟨a, C, d, v, rfl, hv, ha, T, hn, q⟩ := h
  have key : ∀ x, (∃ (a' C : Addr) (ws : List V), [V.ref a, x] = .ref a' :: ws ∧ ws.length ≤ 1000 ∧ OexC K C ∧ H a' = some (exo a' C none) ∧ tOst K "value" (tVar 0) (tVar 1) (De Q) (L2.start ["self", "value"] [.ref a, v]) H) := fun x =>
    ⟨a, C, [x], rfl, Nat.le_of_ble_eq_true rfl, T, ha, v, rfl, .ref a, rfl, a, C, rfl, T, hn, .inl ⟨ha, fun dx h1 h2 => q dx h1 h2⟩⟩
  refine ⟨.ref a, rfl, v, rfl, v, rfl, ?_⟩
  rcases hv with ⟨l, rfl, rfl⟩ | ⟨i, rfl, rfl, hi⟩
  · exact .inl ⟨l, rfl, key _⟩
  · exact .inr ⟨i, rfl, hi, key _⟩
section
variable {c : Cn} {env : Sy} {os : List SO} {te ta tb : TE} {t u v : TS} {D : Ends} {d e : PyData} {x : V}
/-- what a raise leaves -/
def RetE (c : Cn) (C : Addr) (x : V) (E : XK) : Prop := ∀ H' dd, (∀ a o, c.H0 a = some o → ¬ c.M a → H' a = some o) → (c.H0 dd = none ∨ c.M dd) → H' dd = some (.xd [("value", x)]) → E (.ref C) (some dd) H'
theorem gs_raise {C fI : Addr} {tr : TA} {E : XK} (T : ErC c.K C fI) (hx : EvD d x) (h : EvA true c env os tr [d]) (k : RetE c C x E) : Go c env os (fun _ σ H => tMkO C (spE0 c.K) [] tr σ H fun cls d H' => E cls d H') D := fun ad σ H ok =>
  h ad σ H ok _ fun vs H1 e1 r => by
    cases r with
    | cons r1 r2 =>
      cases r2
      obtain rfl := evD_of hx r1
      refine ⟨Nat.le_of_ble_eq_true rfl, fun a ha => ⟨a, C, d, _, rfl, hx, upd_same, T.o, T.nv, fun dx hdx ne => ⟨rfl, dx, [("value", _)], upd_same, ?_, ?_, k _ dx ?_ (fresh0 (ok.ext e1) (by rw [upd_ne ne] at hdx; exact hdx)) upd_same⟩⟩⟩
      · rw [upd_ne ne, upd_same]
      · rw [upd_ne ne] at hdx
        exact hdx
      · intro b o hb hM
        have h1 : H1 b = some o := e1 _ _ (ok.ex b o hb hM)
        have ba : b ≠ a := fun z => by rw [z, ha] at h1; cases h1
        have bd : b ≠ dx := fun z => by rw [upd_ne ne] at hdx; rw [z, hdx] at h1; cases h1
        rw [upd_ne bd, del_ne ba, upd_ne ba, upd_ne bd, upd_ne ba]
        exact h1
/-! ### a def that answers data or raises -/
inductive Out where
  | val (d : PyData)
  | err (C : Addr) (d : PyData)
def spX (K : PySem.W.Frag) (R : List PyData → Out → Prop) : Sp := fun vs H Q E => ∃ (N : Addr → Prop) (ds : List PyData) (o : Out), (∀ a, N a → H a ≠ none) ∧ DnAll K N H vs ds ∧ R ds o ∧
  (∀ d, o = .val d → ∀ v H', Ex H H' → Dn K N H' v d → Q v H') ∧ (∀ C d, o = .err C d → ∀ x H' dd, EvD d x → Ex H H' → H dd = none → H' dd = some (.xd [("value", x)]) → E (.ref C) (some dd) H')
theorem spX_len {K : PySem.W.Frag} {n : Nat} {R : List PyData → Out → Prop} (hR : ∀ ds d, R ds d → ds.length = n) : ∀ vs H Q E, spX K R vs H Q E → vs.length = n := fun vs H Q E ⟨N, ds, d, _, h, r, _⟩ => h.length.trans (hR ds d r)
/-- what the def owes -/
def RetX (c : Cn) (o : Out) (D : Ends) (E : XK) : Prop := (∀ d, o = .val d → Ret c d D) ∧ ∀ C d x, o = .err C d → EvD d x → RetE c C x E
theorem run_spX {K : PySem.W.Frag} {R : List PyData → Out → Prop} {vs : List V} {H : Hp} {Q : VK} {E : XK} {Nm : List Str} {t : TS} (h : spX K R vs H Q E)
    (g : ∀ N ds o, R ds o → RetX ⟨K, H, N, fun _ => False, [], 0⟩ o (De Q) E → Go ⟨K, H, N, fun _ => False, [], 0⟩ (env0 Nm.length ds) [] t (De Q)) : t (De Q) (L2.start Nm vs) H := by
  obtain ⟨N, ds, o, hN, hv, hR, h1, h2⟩ := h
  exact g N ds o hR ⟨fun d e v H2 e1 r => h1 d e v H2 (fun a o z => e1 a o z fun y => y) r, fun C d x e hx H' dd e1 fr r => h2 C d e x H' dd hx (fun a o z => e1 a o z fun y => y) (fr.resolve_right fun y => y) r⟩ _ _ _ (ok_start hN hv)
/-- the module's name x stands for a def that keeps sp and may raise -/
def CalX (P : Program) (w : World) (K : PySem.W.Frag) (mg : Str → Option Value) (base : Heap) (k : Nat) (x : Str) (ps : List Str) (sp : Sp) : Prop :=
  ∃ f fd, FnOk P w K mg base (L2.CX P w) k f fd ps sp ∧ Binds K fd ps [] ∧ mg x = some (.ref f) ∧ PySem.W.keepIn K (.ref f) = true
theorem cal_mkX {P : Program} {w : World} {K : PySem.W.Frag} {mg : Str → Option Value} {base : Heap} {x : Str} {st : Stmt} {f : Addr} {fd : FuncData} {N ps : List Str} {k : Nat} {sp : Sp} (F : FnP K x st f fd) (S : FnScope N ps (defScope st)) (g : mg x = some (.ref f)) (len : ∀ vs H Q E, sp vs H Q E → vs.length = ps.length)
    (hb : ∀ (kV doc pm : Value) (an : Option Addr) (cdv ct : Value) (us : List Value), us.length = ps.length → bindArgs (PySem.W.fnOf x x (defArgs st) (defBody st) (defScope st) .none kV doc pm an cdv ct) ⟨us, []⟩ = pure (ps.zip us))
    (hbody : ∀ (cdv : Value) (A : Around) (outer : List Env) (s : Shared) (H : Hp) (vs : List V) (Q : VK) (E : XK), Room k (A.deeper (envOfC x (defScope st) s.heap.objs.size f cdv)) → sp vs H Q E →
      ∃ t, PSs (cxOf (L2.CX P w) P w K mg base N x (defScope st) f cdv A outer s H E) (defBody st) t ∧ t (De Q) (L2.start N vs) H) : CalX P w K mg base (k + 1) x ps sp :=
  ⟨f, fd, F.ok S len fun cdv A outer s H vs Q E hr h => hbody cdv A outer s H vs Q E hr h, F.bindsN hb, g, F.kp⟩
theorem init_mk {P : Program} {w : World} {K : PySem.W.Frag} {mg : Str → Option Value} {base : Heap} {qual : Str} {st : Stmt} {f : Addr} {fd : FuncData} {k : Nat} (F : FnM K "__init__" qual st [] f fd) (S : FnScope ["self", "value"] ["self", "value"] (defScope st))
    (hbody : ∀ (cdv : Value) (A : Around) (outer : List Env) (s : Shared) (H : Hp) (E : XK), Room k (A.deeper (envOfC qual (defScope st) s.heap.objs.size f cdv)) → PSs (cxOf CX0 P w K mg base ["self", "value"] qual (defScope st) f cdv A outer s H E).nox (defBody st) (tInit K)) :
    FnOk P w K mg base CX0 (k + 1) f fd ["self", "value"] (spE0 K) :=
  F.ok S spE0_len fun cdv A outer s H vs Q E hr h => ⟨_, (hbody cdv A outer s H E hr).nox, run_spE0 h⟩
section
variable {X : Cx} {k j : Nat} {ps : List Str} {sp : Sp} {y : Str} {p pos : Pos} {e1 : Expr} {es : List Expr} {tr : TA} {W : WX}
/-- a call within a try -/
theorem pe_calX (h : CalX X.prog X.w X.K X.mg X.base k y ps sp) (hr : Room j X.A) (hj : k ≤ j) (hg : Gl X y) (tk : Takes X W) (ha : PA X (e1 :: es) tr)
    (hdb : (y == ("__debug__" : Str)) = false := by decide) (he : starEach (e1 :: es) X.env = (false, eval e1 X.env) :: starEach es X.env := by rfl) (hpl : (backTo pos (starEach es X.env)).any (·.1) = false := by rfl) :
    PE X (.Call (.Name y p) (e1 :: es) [] pos) (tCallS sp (WE W) tr) := by
  obtain ⟨f, fd, G, b, g, kp⟩ := h
  exact pe_callS G (hr.mono hj) hg g kp b (fun σ => passAt tk σ) ha hdb he hpl
end
/-! ### try: f(..) -/
/-- what holds in a suite: the error stands in slot i, its value in its dict -/
def ErAt (i : Nat) (a dd : Addr) (x : V) (σ : L2.St) (H : Hp) : Prop := σ[i]? = some (some (.ref a)) ∧ H dd = some (.xd [("value", x)])
theorem ErAt.ext {i : Nat} {a dd : Addr} {σ : L2.St} {H H' : Hp} (h : ErAt i a dd x σ H) (e : Ex H H') : ErAt i a dd x σ H' := ⟨h.1, e _ _ h.2⟩
/-- statements and expressions of a suite -/
def XGo (i : Nat) (a dd : Addr) (x : V) (c : Cn) (env : Sy) (os : List SO) (t : TS) (D : Ends) : Prop := ∀ ad σ H, Ok c ad env os σ H → ErAt i a dd x σ H → t D σ H
def XvE (i : Nat) (a dd : Addr) (x : V) (c : Cn) (env : Sy) (os : List SO) (te : TE) (d : PyData) : Prop := ∀ ad σ H, Ok c ad env os σ H → ErAt i a dd x σ H → ∀ Q : VK, (∀ v H2, Ex H H2 → Dn c.K (Nw true c ad os) H2 v d → Q v H2) → te σ H Q
def XvT (i : Nat) (a dd : Addr) (x : V) (c : Cn) (env : Sy) (os : List SO) (tt : TT) (b : Bool) : Prop := ∀ ad σ H, Ok c ad env os σ H → ErAt i a dd x σ H → ∀ Q : Bool → Hp → Prop, (∀ H2, Ex H H2 → Q b H2) → tt σ H Q
theorem Ok.hole {ad : Nat → Addr} {σ : L2.St} {H : Hp} {i : Nat} {z : Option V} (ok : Ok c ad env os σ H) : Ok c ad (env.set i none) os (σ.set i z) H where
  len := by simp [ok.len]
  ex := ok.ex
  n0 := ok.n0
  val := fun j t e => by
    by_cases q : i = j
    · subst q
      by_cases hi : i < env.length
      · rw [List.getElem?_set_self hi] at e; cases e
      · rw [List.getElem?_eq_none (by simpa using hi)] at e; cases e
    · rw [List.getElem?_set_ne q] at e
      obtain ⟨v, h1, h2⟩ := ok.val j t e
      exact ⟨v, by rw [List.getElem?_set_ne q]; exact h1, h2⟩
  obj := ok.obj
  inj := ok.inj
  nn := ok.nn
  frm := ok.frm
  low := ok.low
/-! ### within a suite -/
section
variable {i : Nat} {a dd : Addr} {tt tu : TT} {b b1 b2 : Bool}
theorem ep_of (h : EvX true c env os te d) : XvE i a dd x c env os te d := fun ad σ H ok _ => h ad σ H ok
/-- error.value -/
def tVal (K : PySem.W.Frag) (a : Addr) (cls : Value) (d : Option Addr) (f : Str) (te : TE) : TE := fun σ H Q => te σ H fun x H1 => x = .ref a ∧ ∃ C, cls = .ref C ∧ XfC K C ∧ PySem.W.findIn K (.ref C) f = some none ∧ ∃ (dd : Addr) (fs : List (Str × V)) (v : V), d = some dd ∧ H1 dd = some (.xd fs) ∧ fs.lookup f = some v ∧ Q v H1
theorem pe_val {X : Cx} {oe : Obj} {cls : Value} {d : Option Addr} {pn : List (Addr × Obj)} {e : Expr} {te : TE} {pos : Pos} {n : Str} (hz : Zc cls d oe) (hf : ∃ vs, oe.data = .fields vs) (he : PE (X.suite a ((a, oe) :: pn)) e te)
    (hb : attributeBase e n X.env (eval e X.env) = eval e X.env := by rfl) : PE (X.suite a ((a, oe) :: pn)) (.Attribute e n pos) (tVal X.K a cls d n te) := by
  refine ⟨fun pins s σ H Q I h => attr_of hb (thn (he.run pins s σ H _ I h) fun u s1 hh => ?_)⟩
  obtain ⟨x, H1, I1, rx, ex, C, ec, T, hno, dd, fs, v, ed, ea, l, q⟩ := hh
  subst ex ec ed
  obtain rfl : u = Value.ref a := rx
  obtain ⟨ha, _⟩ := I1.pin (a, oe) (List.mem_append_left _ List.mem_cons_self)
  obtain ⟨vs, hd⟩ := hf
  obtain ⟨mA, hns, hr⟩ := (I1.hok dd _ ea : ObjOk X.prog X.w H1 s1.heap dd (.xd fs))
  obtain ⟨od, ho, hl⟩ := lookIn_ns hns
  obtain ⟨u, hu, ru⟩ := RelO.some_of (v := v) (o := mA n) (by rw [← l]; exact hr n)
  have J : PySem.W.InstAt s1.heap a oe C (some od) := ⟨ha, hz.1, by unfold PySem.W.notCls; rw [hd] <;> rfl, by rw [hz.2]; exact ho⟩
  exact HandSPX.exc_get I1.kIn J T.ga T.gg T.exC (PySem.W.findObj_own T.hdC hno rfl (by rw [hl, hu])) (handed_of ru) ⟨v, H1, I1.tok _, ru, q⟩
theorem ep_val {C fI : Addr} (T : ErC c.K C fI) (hx : EvD e x) : XvE i a dd x c env os (tVal c.K a (.ref C) (some dd) "value" (tVar i)) e := fun ad σ H ok p Q q =>
  ⟨.ref a, p.1, rfl, C, rfl, T.xf, T.nv, dd, _, x, rfl, p.2, by simp [List.lookup], q x H (fun _ _ z => z) (evD_dn hx)⟩
/-- isinstance(error, c) -/
def rIsG (K : PySem.W.Frag) (a : Addr) (cls : Value) (d : Option Addr) : List V → Hp → VK → Prop := fun xs H Q => ∃ (D dd : Addr), cls = .ref D ∧ d = some dd ∧ ExcC K D ∧ (∃ fs, H dd = some (.xd fs)) ∧ rIsE K D a xs H Q
end
end
/-! ### len(set(texts)) of any texts -/
/-! ### x += text, f'..{x}' -/
section
variable {w : Bool} {c : Cn} {env : Sy} {os : List SO} {te : TE} {u : TS} {D : Ends} {a b : List Nat}
/-- f'p{x}' -/
def tFs (p : Str) (te : TE) : TE := fun σ H Q => tJs [tC (.str p), tFmt te] Str.empty σ H fun out H1 => Q (.str out) H1
end
/-! ### several clauses, tuples in a suite -/
theorem wCl_pick {K : PySem.W.Frag} {Wout : WX} {D : Ends} {cls : Value} {d : Option Addr} {σ : L2.St} {H : Hp} {cv : Value} {n : Option Nat} {ts : Addr → Value → Option Addr → TS} {post : List Cl} (hm : PySem.W.exmOne K cls cv = some true) (k : ∀ a, H a = none → clT D a cls d σ H n ts) :
    ∀ pre : List Cl, (∀ q ∈ pre, PySem.W.exmOne K cls q.1 = some false) → wCl K Wout D (pre ++ (cv, n, ts) :: post) cls d σ H
  | [], _ => ⟨true, hm, fun _ => k, fun z => nomatch z⟩
  | (c, m, t) :: pre, h => ⟨false, h _ (List.mem_cons_self ..), fun z => (nomatch z), fun _ => wCl_pick hm k pre fun q hq => h q (List.mem_cons_of_mem _ hq)⟩
section
variable {c : Cn} {env : Sy} {os : List SO} {ta tb : TE} {u : TS} {D : Ends} {d e : PyData}
theorem ep_tup {i : Nat} {a dd : Addr} {x : V} (ha : XvE i a dd x c env os ta d) (hb : XvE i a dd x c env os tb e) : XvE i a dd x c env os (tTup (tCons ta (tCons tb tNil))) (.tuple [d, e]) := fun ad σ H ok p Q q =>
  ha ad σ H ok p _ fun v H1 e1 r1 => hb ad σ H1 (ok.ext e1) (p.ext e1) _ fun w H2 e2 r2 => ⟨Nat.le_of_ble_eq_true rfl, fun l hl => q _ _ ((e1.trans e2).trans (Ex.new hl)) (.tup (SqT.of upd_same) (.cons (Dn.ext (Ex.new hl) (Dn.ext e2 r1)) (.cons (Dn.ext (Ex.new hl) r2) .nil)))⟩
end
/-! ### a call that raises within a def that lets it out -/
section
variable {w : Bool} {c : Cn} {env : Sy} {os : List SO} {te ta tb : TE} {tr : TA} {u t v : TS} {D : Ends} {d e : PyData} {C : Addr} {E : XK} {g : TG} {r : R2} {R : List PyData → Out → Prop} {ds : List PyData} {tt : TT}
/-- te raises an error of the class C with the value e -/
def XEr (c : Cn) (env : Sy) (os : List SO) (te : TE) (C : Addr) (e : PyData) (E : XK) : Prop := ∀ ad σ H, Ok c ad env os σ H → (∀ x H' dd, EvD e x → Ex H H' → H dd = none → H' dd = some (.xd [("value", x)]) → E (.ref C) (some dd) H') → ∀ Q : VK, te σ H Q
/-- the error leaves the def -/
abbrev WL (E : XK) : L2.St → XK := WE fun cls d _ H => E cls d H
theorem xr_call (h : EvA true c env os tr ds) (hR : R ds (.err C e)) : XEr c env os (tCallS (spX c.K R) (WL E) tr) C e E := fun ad σ H ok k Q =>
  h ad σ H ok _ fun vs H1 e1 a => ⟨Nw true c ad os, ds, .err C e, fun b z => (ok.ext e1).nof (Nw_le b z), a, hR, (fun d1 e1 => nomatch e1), fun C1 d1 e3 x H' dd hx e2 hfr hdd => by
    cases e3
    exact k x H' dd hx (e1.trans e2) (e1.free hfr) hdd⟩
/-- such a call that answers -/
theorem ex_callXS {E' : L2.St → XK} (h : EvA w c env os tr ds) (hR : R ds (.val d)) : EvX w c env os (tCallS (spX c.K R) E' tr) d := fun ad σ H ok Q q =>
  h ad σ H ok _ fun vs H2 e a => ⟨Nw w c ad os, ds, .val d, fun b z => (ok.ext e).nof (Nw_le b z), a, hR, fun d' e' v H' e2 r => by cases e'; exact q v H' (e.trans e2) r, fun C d' e' => nomatch e'⟩
end
end DL

set_option Elab.async false
set_option linter.all false
set_option maxRecDepth 100000
set_option maxHeartbeats 4000000
/-! Errors of defs that write a segment: what leaves is told as an answer whose segment is as it was. -/
namespace DL
open PySem PySem.Spec PyProof.Rows L2
open Evl (Ex Ex.refl Ex.trans Ex.new)
section
variable {α β : Type}
/-- the error as an answer: the segment is as it was, the value stands for the error's own dict -/
def RBs (B : α → List SV → Addr → PyData → Prop) (C : Addr) (e : PyData) : α → List SV → α → SV → Prop := fun x ds y s => y = x ∧ B x ds C e ∧ ∃ xv, EvD e xv ∧ s = .t (.xd [("value", xv)])
def QE (E : XK) (C : Addr) : VK := fun v H' => ∀ dd, v = .ref dd → E (.ref C) (some dd) H'
/-- R: it answers, B: it raises an error of the class C with the value e -/
def spWX (K : PySem.W.Frag) (sh0 : α → List SO) (sh1 : β → List SO) (R : α → List SV → β → SV → Prop) (B : α → List SV → Addr → PyData → Prop) : Sp := fun vs H Q E => spW K sh0 sh1 R vs H Q E ∨ ∃ C e, spW K sh0 sh0 (RBs B C e) vs H (QE E C) E
theorem spWX_len {K : PySem.W.Frag} {l : Nat} {sh0 : α → List SO} {sh1 : β → List SO} {R : α → List SV → β → SV → Prop} {B : α → List SV → Addr → PyData → Prop} (hR : ∀ x ds y s, R x ds y s → ds.length = l) (hB : ∀ x ds C e, B x ds C e → ds.length = l) : ∀ vs H Q E, spWX K sh0 sh1 R B vs H Q E → vs.length = l := fun vs H Q E h => by
  rcases h with h | ⟨C, e, h⟩
  · exact spW_len hR _ _ _ _ h
  · exact spW_len (fun x ds y s z => hB x ds C e z.2.1) _ _ _ _ h
variable {c : Cn} {env : Sy} {os os2 : List SO} {te ta tb : TE} {tr : TA} {u t v : TS} {D : Ends} {d e : PyData} {x : α} {ds : List SV} {sh0 : α → List SO} {sh1 : β → List SO} {R : α → List SV → β → SV → Prop} {B : α → List SV → Addr → PyData → Prop} {C : Addr} {E : XK} {H : Hp}
theorem run_spWX {K : PySem.W.Frag} {vs : List V} {Q : VK} {Nm : List Str} (h : spWX K sh0 sh1 R B vs H Q E) (hl : vs.length ≤ Nm.length)
    (g1 : ∀ (N : Addr → Prop) (ad : Nat → Addr) (x : α) (ds : List SV), ShOk (sh0 x).length (sh0 x) → (∃ y s, R x ds y s) → RetW sh0 sh1 R (cnS K H N ad (sh0 x).length) x ds (De Q) → Go (cnS K H N ad (sh0 x).length) (envG Nm.length ds) (sh0 x) t (De Q))
    (g2 : ∀ (N : Addr → Prop) (ad : Nat → Addr) (x : α) (ds : List SV) (C : Addr) (e : PyData), ShOk (sh0 x).length (sh0 x) → B x ds C e → RetW sh0 sh0 (RBs B C e) (cnS K H N ad (sh0 x).length) x ds (De (QE E C)) → Go (cnS K H N ad (sh0 x).length) (envG Nm.length ds) (sh0 x) t (De Q)) : t (De Q) (L2.start Nm vs) H := by
  rcases h with h | ⟨C, e, h⟩
  · exact run_spW h hl g1
  · exact run_spW (t := fun _ => t (De Q)) h hl fun N ad x ds hs hR hq => g2 N ad x ds C e hs (by obtain ⟨_, _, _, z, _⟩ := hR; exact z) hq
/-- what an error of the def needs -/
def RetWE (sh0 : α → List SO) (B : α → List SV → Addr → PyData → Prop) (c : Cn) (x : α) (ds : List SV) (C : Addr) (e : PyData) (E : XK) : Prop := RetW sh0 sh0 (RBs B C e) c x ds (De (QE E C))
theorem gs_raiseW {fI : Addr} {xv : V} (T : ErC c.K C fI) (hx : EvD e xv) (h : EvA true c env os tr [e]) (k : RetWE sh0 B c x ds C e E) (hos : ∀ (i : Nat) (o : SO), (sh0 x)[i]? = some o → os[i]? = some o) (hs : ShOk (sh0 x).length (sh0 x)) (hB : B x ds C e) :
    Go c env os (fun _ σ H => tMkO C (spE0 c.K) [] tr σ H fun cls d H' => E cls d H') D := fun ad σ H ok =>
  h ad σ H ok _ fun vs H1 e1 r => by
    cases r with
    | @cons v0 _ _ _ r1 r2 =>
      cases r2
      have ev : v0 = xv := evD_of hx r1
      subst ev
      have ok1 := ok.ext e1
      refine ⟨Nat.le_of_ble_eq_true rfl, fun a ha => ⟨a, C, e, _, rfl, hx, upd_same, T.o, T.nv, fun dx hdx ne => ⟨rfl, dx, [("value", v0)], upd_same, ?_, ?_, ?_⟩⟩⟩
      · rw [upd_ne ne, upd_same]
      · rw [upd_ne ne] at hdx
        exact hdx
      · have hdx' : H1 dx = none := by rw [upd_ne ne] at hdx; exact hdx
        have ex : Ex H1 (upd (del (upd (upd (upd H1 a (exo a C none)) dx (exd dx [("value", v0)])) a (exo a C (some dx))) a) dx (.xd [("value", v0)])) := fun b o h1 => by
          have ba : b ≠ a := fun z => by rw [z, ha] at h1; cases h1
          have bd : b ≠ dx := fun z => by rw [z, hdx'] at h1; cases h1
          rw [upd_ne bd, del_ne ba, upd_ne ba, upd_ne bd, upd_ne ba]
          exact h1
        exact k ad env os σ (.ref dx) _ x (.t (.xd [("value", v0)])) (ok1.ext ex) hos hs (Nat.le_refl _) True.intro ⟨rfl, hB, _, hx, rfl⟩ ⟨dx, rfl, upd_same, Or.inr fun z => ok1.nof z hdx'⟩ dx rfl
/-! ### a call that raises -/
def XEW (c : Cn) (env : Sy) (os : List SO) (te : TE) (C : Addr) (e : PyData) (E : L2.St → XK) : Prop := ∀ ad σ H, Ok c ad env os σ H → (∀ xv H' dd ad', EvD e xv → Ok c ad' env os σ H' → H' dd = some (.xd [("value", xv)]) → ¬ Nof c ad' os dd → E σ (.ref C) (some dd) H') → ∀ Q : VK, te σ H Q
theorem xew_of {E' : XK} (h : XEr c env os te C e E') : XEW c env os te C e (fun _ => E') := fun ad σ H ok k Q => h ad σ H ok (fun xv H' dd hx e2 hfr hdd => k xv H' dd ad hx (ok.ext e2) hdd fun z => ok.nof z hfr) Q
theorem spWX_err {f : Nat → Nat} {vs : List V} {Q : VK} {ad : Nat → Addr} {σ : L2.St} {G : α → List SO} (S : SegAtW f sh0 sh0 x os G) (hG : G x = os) (ok : Ok c ad env os σ H) (hl : ∀ s ∈ ds, SvLt (sh0 x).length s) (ha : Paired (SvOk c.K (Nof c ad os) ad os.length H) vs (ds.map (reV f))) (hB : B x ds C e) (he : ∃ xv, EvD e xv)
    (k : ∀ xv H' dd ad', EvD e xv → Ok c ad' env os σ H' → H' dd = some (.xd [("value", xv)]) → ¬ Nof c ad' os dd → E (.ref C) (some dd) H') : spWX c.K sh0 sh1 R B vs H Q E := by
  obtain ⟨xv, hx⟩ := he
  refine Or.inr ⟨C, e, seg_callW (G := G) S ok hl ha ⟨x, _, rfl, hB, xv, hx, rfl⟩ fun v H3 ad' y s hb _ _ ok3 hv => ?_⟩
  obtain ⟨rfl, _, xv2, hx2, rfl⟩ := hb
  rw [hG] at ok3 hv
  obtain ⟨b, rfl, hb2, hb3⟩ := hv
  intro dd ed
  cases ed
  exact k xv2 H3 b ad' hx2 ok3 hb2 (hb3.resolve_left fun z => nomatch (show true = false from z))
/-- an error goes through a def that lets it out -/
theorem retWE_k {E : XK} (k : RetWE sh0 B c x ds C e E) (hos : ∀ (i : Nat) (o : SO), (sh0 x)[i]? = some o → os[i]? = some o) (hs : ShOk (sh0 x).length (sh0 x)) (hB : B x ds C e) {σ : L2.St} : ∀ xv H' dd ad', EvD e xv → Ok c ad' env os σ H' → H' dd = some (.xd [("value", xv)]) → ¬ Nof c ad' os dd → E (.ref C) (some dd) H' := fun xv H' dd ad' hx ok hdd hn =>
  k ad' env os σ (.ref dd) H' x (.t (.xd [("value", xv)])) ok hos hs (Nat.le_refl _) True.intro ⟨rfl, hB, xv, hx, rfl⟩ ⟨dd, rfl, hdd, Or.inr hn⟩ dd rfl
/-! ### try -/
end
/-! ### methods that raise -/
def MetX (P : Program) (w : World) (K : PySem.W.Frag) (mg : Str → Option Value) (base : Heap) (k : Nat) (C : Addr) (m : Str) (ps : List Str) (sp : Sp) : Prop :=
  ∃ f fd, Cls K C ∧ Meth K C m f ∧ FnOk P w K mg base (L2.CX P w) k f fd ps sp ∧ Binds K fd ps []
theorem metX_mk {P : Program} {w : World} {K : PySem.W.Frag} {mg : Str → Option Value} {base : Heap} {x qual : Str} {st : Stmt} {f : Addr} {fd : FuncData} {N ps : List Str} {k : Nat} {sp : Sp} {C : Addr} (F : FnM K x qual st [] f fd) (S : FnScope N ps (defScope st)) (c : Cls K C) (me : Meth K C x f) (len : ∀ vs H Q E, sp vs H Q E → vs.length = ps.length)
    (hb : ∀ (kV doc pm : Value) (an : Option Addr) (cdv ct : Value) (us : List Value), us.length = ps.length → bindArgs (PySem.W.fnOf x qual (defArgs st) (defBody st) (defScope st) .none kV doc pm an cdv ct) ⟨us, []⟩ = pure (ps.zip us))
    (hbody : ∀ (cdv : Value) (A : Around) (outer : List Env) (s : Shared) (H : Hp) (vs : List V) (Q : VK) (E : XK), Room k (A.deeper (envOfC qual (defScope st) s.heap.objs.size f cdv)) → sp vs H Q E →
      ∃ t, PSs (cxOf (L2.CX P w) P w K mg base N qual (defScope st) f cdv A outer s H E) (defBody st) t ∧ t (De Q) (L2.start N vs) H) : MetX P w K mg base (k + 1) C x ps sp :=
  ⟨f, fd, c, me, F.ok S len fun cdv A outer s H vs Q E hr h => hbody cdv A outer s H vs Q E hr h, F.bindsN hb⟩
section
variable {X : Cx} {k j : Nat} {ps : List Str} {sp : Sp} {m : Str} {pos apos : Pos} {e o : Expr} {es : List Expr} {t : TA} {ta : TE} {C : Addr} {W : WX}
/-- o.m(..) that may raise, what follows told by the slots -/
def tMethS (C : Addr) (m : Str) (sp : Sp) (E : L2.St → XK) (ta : TE) (t : TA) : TE := fun σ H Q => ta σ H fun x H1 => ∃ a dx fs, x = .ref a ∧ H1 a = some (.ins C dx fs) ∧ fs.lookup m = none ∧ t σ H1 fun vs H2 => sp (x :: vs) H2 Q (E σ)
theorem pe_metX {pl : Sem Bool} (h : MetX X.prog X.w X.K X.mg X.base k C m ps sp) (hr : Room j X.A) (hj : k ≤ j) (tk : Takes X W) (he : PE X o ta) (ha : PA X (e :: es) t)
    (hst : starEach (e :: es) X.env = (false, eval e X.env) :: starEach es X.env := by rfl) (hpl : (backTo pos (starEach es X.env)).any (·.1) = false := by rfl)
    (ht : eval (.Call (.Attribute o m apos) (e :: es) [] pos) X.env = (do
      let ov ← eval o X.env
      standAt apos.atName
      let (f, first) ← holding [ov] (getMethod ov m pl)
      callWith pos f first (backTo pos (starEach (e :: es) X.env)) (backToKw pos (keywordEach [] X.env))) := by rfl) :
    PE X (.Call (.Attribute o m apos) (e :: es) [] pos) (tMethS C m sp (WE W) ta t) := by
  obtain ⟨f, fd, c, me, G, b⟩ := h
  refine ⟨fun pins s σ H Q I h => ?_⟩
  refine PySem.W.methodCall_KW (pl := pl) (thn (he.run pins s σ H _ I h) fun u s1 hh => ?_) ht
  obtain ⟨x, H1, I1, rx, a, dx, fs, ex, ea, l, q⟩ := hh
  subst ex
  obtain rfl : u = Value.ref a := rx
  refine getmeth_ok I1 ea c me l (PySem.W.callWith_K (first := [.ref a]) (h₀ := X.base) I.ok.mod.kin me.kp (thn (ha.run pos pins s1 σ H1 _ I1 q) fun us s2 hh => ?_) hst hpl)
  obtain ⟨vs, H2, I2, r, q2⟩ := hh
  exact ⟨I2.kIn, run_fnS (us := .ref a :: us) (vs := .ref a :: vs) G (hr.mono hj) b (passAt tk σ) I2 (.cons rfl r) q2⟩
end
end DL

set_option Elab.async false
set_option linter.all false
set_option maxRecDepth 100000
set_option maxHeartbeats 4000000
/-! Methods that raise: with keyword-only parameters, called where nothing is raised, within a try; del d[k]; tests over a call's answer. -/
namespace DL
open PySem PySem.Spec PyProof.Rows L2
open Evl (Ex Ex.refl Ex.trans Ex.new)
section
variable {X : Cx} {k j n : Nat} {ps ks : List Str} {sp : Sp} {m : Str} {pos apos : Pos} {e o : Expr} {es : List Expr} {kws : List Keyword} {t tk : TA} {ta : TE} {C : Addr} {fs : List CForm} {ms : List (Str × V)}
theorem pe_metX0 {pl : Sem Bool} (h : MetX X.prog X.w X.K X.mg X.base k C m ps sp) (hr : Room j X.A) (hj : k ≤ j) (he : PE X o ta) (ha : PA X (e :: es) t)
    (hst : starEach (e :: es) X.env = (false, eval e X.env) :: starEach es X.env := by rfl) (hpl : (backTo pos (starEach es X.env)).any (·.1) = false := by rfl)
    (ht : eval (.Call (.Attribute o m apos) (e :: es) [] pos) X.env = (do
      let ov ← eval o X.env
      standAt apos.atName
      let (f, first) ← holding [ov] (getMethod ov m pl)
      callWith pos f first (backTo pos (starEach (e :: es) X.env)) (backToKw pos (keywordEach [] X.env))) := by rfl) :
    PE X (.Call (.Attribute o m apos) (e :: es) [] pos) (tMeth C m sp [] E0 ta t) := by
  obtain ⟨f, fd, c, me, G, b⟩ := h
  exact pe_meth (pl := pl) he c me G (hr.mono hj) b .nil passL ha hst hpl ht
def MetXQ (P : Program) (w : World) (K : PySem.W.Frag) (mg : Str → Option Value) (base : Heap) (k : Nat) (C : Addr) (m : Str) (ps : List Str) (sp : Sp) (fs : List CForm) : Prop :=
  ∃ f fd, Cls K C ∧ Meth K C m f ∧ FnOk P w K mg base (L2.CX P w) k f fd ps sp ∧ ∀ F ∈ fs, FormOk K fd ps F
theorem metXQ_mk {P : Program} {w : World} {K : PySem.W.Frag} {mg : Str → Option Value} {base : Heap} {x qual : Str} {st : Stmt} {f : Addr} {fd : FuncData} {N ps : List Str} {k : Nat} {sp : Sp} {C : Addr} {kws : List (Str × V)} {fs : List CForm} (F : FnM K x qual st kws f fd) (S : FnScope N ps (defScope st)) (c : Cls K C) (me : Meth K C x f) (len : ∀ vs H Q E, sp vs H Q E → vs.length = ps.length)
    (hf : ∀ F ∈ fs, FormOk K fd ps F)
    (hbody : ∀ (cdv : Value) (A : Around) (outer : List Env) (s : Shared) (H : Hp) (vs : List V) (Q : VK) (E : XK), Room k (A.deeper (envOfC qual (defScope st) s.heap.objs.size f cdv)) → sp vs H Q E →
      ∃ t, PSs (cxOf (L2.CX P w) P w K mg base N qual (defScope st) f cdv A outer s H E) (defBody st) t ∧ t (De Q) (L2.start N vs) H) : MetXQ P w K mg base (k + 1) C x ps sp fs :=
  ⟨f, fd, c, me, F.ok S len fun cdv A outer s H vs Q E hr h => hbody cdv A outer s H vs Q E hr h, hf⟩
theorem run_fnNS {pins : List (Addr × Obj)} {σ : L2.St} {H : Hp} {s : Shared} {Q : VK} {us ws : List Value} {vs zs : List V} {CX : CXT} {f : Addr} {fd : FuncData} {E : XK} {g : List Value → List Value → List Value} {gV : List V → List V → List V} (F : FnOk X.prog X.w X.K X.mg X.base CX k f fd ps sp) (hr : Room k X.A) (hb : KBn X.K fd ps n ks g gV) (hx : PassesAt CX X σ E)
    (I : Inv X pins σ H s) (r : Vals vs us) (rz : Vals zs ws) (l1 : vs.length = n) (l2 : zs.length = ks.length) (h : sp (gV vs zs) H Q E) : wpAny (model X.prog X.w) X.A (call (.ref f) us (ks.zip ws)) (EP X pins σ Q) X.xe s := by
  have r2 := hb.rel r rz
  refine wpAny_call (codeAny_mono (F.run X.A X.stack s H ⟨us, ks.zip ws⟩ (g us ws) (gV vs zs) Q E hr I.env0 (hb.to s us ws I.kIn (r.length.symm.trans l1) (rz.length.symm.trans l2)) r2 h) fun r s' hq => ?_)
  cases r with
  | error e => exact hx pins H s e s' I hq
  | ok fl =>
    cases fl with
    | ret u => exact I.after hq
    | next => exact False.elim hq
    | brk => exact False.elim hq
    | cont => exact False.elim hq
/-- such a call, what may leave it told by the slots -/
def tMethNS (C : Addr) (m : Str) (n j : Nat) (sp : Sp) (gV : List V → List V → List V) (E : L2.St → XK) (te : TE) (t tk : TA) : TE := fun σ H Q => te σ H fun x H1 => ∃ (a dx : Addr) (fs : List (Str × V)), x = .ref a ∧ H1 a = some (.ins C dx fs) ∧ fs.lookup m = none ∧
  t σ H1 fun vs H2 => tk σ H2 fun zs H3 => vs.length = n ∧ zs.length = j ∧ sp (gV (.ref a :: vs) zs) H3 Q (E σ)
theorem pe_metXQ {pl : Sem Bool} {W : WX} (h : MetXQ X.prog X.w X.K X.mg X.base k C m ps sp fs) (hF : (n + 1, ks, ms) ∈ fs) (hr : Room j X.A) (hj : k ≤ j) (tkW : Takes X W) (he : PE X o ta) (ha : PA X (e :: es) t) (hkw : PK X kws tk)
    (hall : (backToKw pos (keywordEach kws X.env)).all (·.1.isSome) = true := by rfl) (hks : (backToKw pos (keywordEach kws X.env)).filterMap (·.1) = ks := by rfl) (hst : starEach (e :: es) X.env = (false, eval e X.env) :: starEach es X.env := by rfl)
    (hpl : ((backTo pos (starEach (e :: es) X.env)).any (·.1) || (backToKw pos (keywordEach kws X.env)).any (·.1.isNone)) = false := by rfl)
    (ht : eval (.Call (.Attribute o m apos) (e :: es) kws pos) X.env = (do
      let ov ← eval o X.env
      standAt apos.atName
      let (f, first) ← holding [ov] (getMethod ov m pl)
      callWith pos f first (backTo pos (starEach (e :: es) X.env)) (backToKw pos (keywordEach kws X.env))) := by rfl) :
    PE X (.Call (.Attribute o m apos) (e :: es) kws pos) (tMethNS C m n ks.length sp (fun vs zs => vs ++ (zs ++ ms.map (·.2))) (WE W) ta t tk) := by
  obtain ⟨f, fd, c, me, G, b⟩ := h
  obtain ⟨dd, hb⟩ := b _ hF
  refine ⟨fun pins s σ H Q I h => PySem.W.methodCall_KW (pl := pl) (thn (he.run pins s σ H _ I h) fun u s1 ⟨x, H1, I1, rx, a, dx, fs, ex, ea, l, q⟩ => ?_) ht⟩
  subst ex
  obtain rfl : u = Value.ref a := rx
  refine getmeth_ok I1 ea c me l (PySem.W.callWith_KW (first := [.ref a]) (h₀ := X.base) I.ok.mod.kin me.kp hall (thn (ha.run pos pins s1 σ H1 _ I1 q) fun us s2 ⟨vs, H2, I2, r, q2⟩ => ?_) hpl hst)
  refine thn (hkw.run pos pins s2 σ H2 _ I2 q2) fun ws s3 ⟨zs, H3, I3, rz, l1, l2, q3⟩ => ⟨I3.kIn, ?_⟩
  rw [hks]
  exact run_fnNS (us := .ref a :: us) (vs := .ref a :: vs) G (hr.mono hj) hb (passAt tkW σ) I3 (.cons rfl r) rz (by rw [List.length_cons, l1]) l2 q3
theorem pe_metXQ0 {pl : Sem Bool} (h : MetXQ X.prog X.w X.K X.mg X.base k C m ps sp fs) (hF : (n + 1, ks, ms) ∈ fs) (hr : Room j X.A) (hj : k ≤ j) (he : PE X o ta) (ha : PA X (e :: es) t) (hkw : PK X kws tk)
    (hall : (backToKw pos (keywordEach kws X.env)).all (·.1.isSome) = true := by rfl) (hks : (backToKw pos (keywordEach kws X.env)).filterMap (·.1) = ks := by rfl) (hst : starEach (e :: es) X.env = (false, eval e X.env) :: starEach es X.env := by rfl)
    (hpl : ((backTo pos (starEach (e :: es) X.env)).any (·.1) || (backToKw pos (keywordEach kws X.env)).any (·.1.isNone)) = false := by rfl)
    (ht : eval (.Call (.Attribute o m apos) (e :: es) kws pos) X.env = (do
      let ov ← eval o X.env
      standAt apos.atName
      let (f, first) ← holding [ov] (getMethod ov m pl)
      callWith pos f first (backTo pos (starEach (e :: es) X.env)) (backToKw pos (keywordEach kws X.env))) := by rfl) :
    PE X (.Call (.Attribute o m apos) (e :: es) kws pos) (tMethN C m n ks.length sp (fun vs zs => vs ++ (zs ++ ms.map (·.2))) E0 ta t tk) := by
  obtain ⟨f, fd, c, me, G, b⟩ := h
  obtain ⟨dd, hb⟩ := b _ hF
  exact pe_methN he c me G (hr.mono hj) hb passL ha hkw hall hks hst hpl ht
end
section
variable {α β : Type} {c : Cn} {env : Sy} {os : List SO} {te ta tb td ty : TE} {tr tk : TA} {u : TS} {D : Ends} {d e : PyData} {f : Nat → Nat} {x : α} {ds es : List SV} {dd : List PyData} {dv : List V} {sh0 : α → List SO} {sh1 : β → List SO} {R : α → List SV → β → SV → Prop} {B : α → List SV → Addr → PyData → Prop} {G : β → List SO} {C CE fI : Addr} {mn : Str} {k n j : Nat} {fs : List (Str × SV)}
theorem kwq_args {ad : Nat → Addr} {σ : L2.St} {H1 H2 H3 : Hp} {vs zs : List V} (hk : os[f k]? = some (.ob C fs)) (e : Ex H1 H2) (e3 : Ex H2 H3) (r : Paired (SvOk c.K (Nof c ad os) ad os.length H2) vs (ds.map (reV f))) (rz : Paired (SvOk c.K (Nof c ad os) ad os.length H3) zs (es.map (reV f))) (hd : ∀ N H, DnAll c.K N H dv dd) :
    Paired (SvOk c.K (Nof c ad os) ad os.length H3) (.ref (ad (f k)) :: (vs ++ (zs ++ dv))) ((SV.r k :: (ds ++ (es ++ dd.map SV.i))).map (reV f)) := by
  have hdd : dd.map SV.i = (dd.map SV.i).map (reV f) := by rw [List.map_map]; rfl
  have r3 := Paired.imp r fun _ _ z => SvOk.ext e3 z
  show Paired _ _ (.r (f k) :: (ds ++ (es ++ dd.map SV.i)).map (reV f))
  refine .cons ⟨rfl, (List.getElem?_eq_some_iff.mp hk).1⟩ ?_
  rw [List.map_append, List.map_append, ← hdd]
  exact paired_app r3 (paired_app rz (dn_paired (hd _ _)))
theorem kwq_lt {n0 : Nat} (hkn : k < n0) (hl : ∀ s ∈ ds ++ es, SvLt n0 s) : ∀ s ∈ SV.r k :: (ds ++ (es ++ dd.map SV.i)), SvLt n0 s := fun s hs => by
  rcases List.mem_cons.mp hs with e | hs
  · exact e ▸ hkn
  · rw [← List.append_assoc] at hs
    rcases List.mem_append.mp hs with hs | hs
    · exact hl s hs
    · obtain ⟨d, _, rfl⟩ := List.mem_map.mp hs
      exact True.intro
theorem lt1 {n0 : Nat} (hkn : k < n0) (hl : ∀ s ∈ ds, SvLt n0 s) : ∀ s ∈ SV.r k :: ds, SvLt n0 s := fun s hs => (List.mem_cons.mp hs).elim (fun e => e ▸ hkn) (hl s)
/-- a method that may raise answers -/
theorem ew_methWX {E : L2.St → XK} (S : SegAtW f sh0 sh1 x os G) (ho : EvR c env os te (f k)) (hk : os[f k]? = some (.ob C fs)) (hm : fs.lookup mn = none) (hkn : k < (sh0 x).length) (hl : ∀ s ∈ ds, SvLt (sh0 x).length s) (ha : EvAS c env os tr (ds.map (reV f))) (hR : ∃ y s, R x (.r k :: ds) y s) :
    EvWN c env os (tMethS C mn (spWX c.K sh0 sh1 R B) E te tr) (fun os' s => ∃ y t, R x (.r k :: ds) y t ∧ (sh0 x).length ≤ (sh1 y).length ∧ os' = G y ∧ s = reV (gAt f (sh0 x).length os.length) t) := fun ad σ H ok Q q => ho.2 ad σ H ok _ fun H1 e1 => by
  have ok1 := ok.ext e1
  obtain ⟨_, dx, vs0, h0, pv⟩ := ok1.obj (f k) _ hk rfl
  exact ⟨ad (f k), dx, vs0, rfl, h0, lookup_paired pv hm, ha ad σ H1 ok1 _ fun vs H2 e r => Or.inl (seg_callW (ds := .r k :: ds) S (ok1.ext e) (lt1 hkn hl) (show Paired _ (.ref (ad (f k)) :: vs) (.r (f k) :: ds.map (reV f)) from .cons ⟨rfl, (List.getElem?_eq_some_iff.mp hk).1⟩ r) hR fun v H3 ad' y s hd hle _ ok3 r3 => q ad' v H3 _ _ ⟨y, s, hd, hle, rfl, rfl⟩ ok3 r3)⟩
theorem ew_methWX0 {E : XK} (S : SegAtW f sh0 sh1 x os G) (ho : EvR c env os te (f k)) (hk : os[f k]? = some (.ob C fs)) (hm : fs.lookup mn = none) (hkn : k < (sh0 x).length) (hl : ∀ s ∈ ds, SvLt (sh0 x).length s) (ha : EvAS c env os tr (ds.map (reV f))) (hR : ∃ y s, R x (.r k :: ds) y s) :
    EvWN c env os (tMeth C mn (spWX c.K sh0 sh1 R B) [] E te tr) (fun os' s => ∃ y t, R x (.r k :: ds) y t ∧ (sh0 x).length ≤ (sh1 y).length ∧ os' = G y ∧ s = reV (gAt f (sh0 x).length os.length) t) := fun ad σ H ok Q q => ho.2 ad σ H ok _ fun H1 e1 => by
  have ok1 := ok.ext e1
  obtain ⟨_, dx, vs0, h0, pv⟩ := ok1.obj (f k) _ hk rfl
  refine ⟨ad (f k), dx, vs0, rfl, h0, lookup_paired pv hm, ha ad σ H1 ok1 _ fun vs H2 e r => ?_⟩
  rw [List.append_nil]
  exact Or.inl (seg_callW (ds := .r k :: ds) S (ok1.ext e) (lt1 hkn hl) (show Paired _ (.ref (ad (f k)) :: vs) (.r (f k) :: ds.map (reV f)) from .cons ⟨rfl, (List.getElem?_eq_some_iff.mp hk).1⟩ r) hR fun v H3 ad' y s hd hle _ ok3 r3 => q ad' v H3 _ _ ⟨y, s, hd, hle, rfl, rfl⟩ ok3 r3)
theorem ew_methWXQ {E : L2.St → XK} (S : SegAtW f sh0 sh1 x os G) (ho : EvR c env os te (f k)) (hk : os[f k]? = some (.ob C fs)) (hm : fs.lookup mn = none) (hkn : k < (sh0 x).length) (hl : ∀ s ∈ ds ++ es, SvLt (sh0 x).length s) (ha : EvAS c env os tr (ds.map (reV f))) (hz : EvAS c env os tk (es.map (reV f))) (hd : ∀ N H, DnAll c.K N H dv dd) (l1 : ds.length = n) (l2 : es.length = j) (hR : ∃ y s, R x (.r k :: (ds ++ (es ++ dd.map SV.i))) y s) :
    EvWN c env os (tMethNS C mn n j (spWX c.K sh0 sh1 R B) (fun vs zs => vs ++ (zs ++ dv)) E te tr tk) (fun os' s => ∃ y t, R x (.r k :: (ds ++ (es ++ dd.map SV.i))) y t ∧ (sh0 x).length ≤ (sh1 y).length ∧ os' = G y ∧ s = reV (gAt f (sh0 x).length os.length) t) := fun ad σ H ok Q q => ho.2 ad σ H ok _ fun H1 e1 => by
  have ok1 := ok.ext e1
  obtain ⟨_, dx, vs0, h0, pv⟩ := ok1.obj (f k) _ hk rfl
  refine ⟨ad (f k), dx, vs0, rfl, h0, lookup_paired pv hm, ha ad σ H1 ok1 _ fun vs H2 e r => hz ad σ H2 (ok1.ext e) _ fun zs H3 e3 rz => ⟨?_, ?_, Or.inl (seg_callW (ds := .r k :: (ds ++ (es ++ dd.map SV.i))) S ((ok1.ext e).ext e3) (kwq_lt hkn hl) (kwq_args (σ := σ) hk e e3 r rz hd) hR fun v H3 ad' y s hd hle _ ok3 r3 => q ad' v H3 _ _ ⟨y, s, hd, hle, rfl, rfl⟩ ok3 r3)⟩⟩
  · rw [r.length, List.length_map, l1]
  · rw [rz.length, List.length_map, l2]
theorem ew_methWXQ0 {E : XK} (S : SegAtW f sh0 sh1 x os G) (ho : EvR c env os te (f k)) (hk : os[f k]? = some (.ob C fs)) (hm : fs.lookup mn = none) (hkn : k < (sh0 x).length) (hl : ∀ s ∈ ds ++ es, SvLt (sh0 x).length s) (ha : EvAS c env os tr (ds.map (reV f))) (hz : EvAS c env os tk (es.map (reV f))) (hd : ∀ N H, DnAll c.K N H dv dd) (l1 : ds.length = n) (l2 : es.length = j) (hR : ∃ y s, R x (.r k :: (ds ++ (es ++ dd.map SV.i))) y s) :
    EvWN c env os (tMethN C mn n j (spWX c.K sh0 sh1 R B) (fun vs zs => vs ++ (zs ++ dv)) E te tr tk) (fun os' s => ∃ y t, R x (.r k :: (ds ++ (es ++ dd.map SV.i))) y t ∧ (sh0 x).length ≤ (sh1 y).length ∧ os' = G y ∧ s = reV (gAt f (sh0 x).length os.length) t) := fun ad σ H ok Q q => ho.2 ad σ H ok _ fun H1 e1 => by
  have ok1 := ok.ext e1
  obtain ⟨_, dx, vs0, h0, pv⟩ := ok1.obj (f k) _ hk rfl
  refine ⟨ad (f k), dx, vs0, rfl, h0, lookup_paired pv hm, ha ad σ H1 ok1 _ fun vs H2 e r => hz ad σ H2 (ok1.ext e) _ fun zs H3 e3 rz => ⟨?_, ?_, Or.inl (seg_callW (ds := .r k :: (ds ++ (es ++ dd.map SV.i))) S ((ok1.ext e).ext e3) (kwq_lt hkn hl) (kwq_args (σ := σ) hk e e3 r rz hd) hR fun v H3 ad' y s hd hle _ ok3 r3 => q ad' v H3 _ _ ⟨y, s, hd, hle, rfl, rfl⟩ ok3 r3)⟩⟩
  · rw [r.length, List.length_map, l1]
  · rw [rz.length, List.length_map, l2]
/-- .. raises -/
theorem xew_methWX {E : L2.St → XK} {G : α → List SO} (S : SegAtW f sh0 sh0 x os G) (hG : G x = os) (ho : EvR c env os te (f k)) (hk : os[f k]? = some (.ob C fs)) (hm : fs.lookup mn = none) (hkn : k < (sh0 x).length) (hl : ∀ s ∈ ds, SvLt (sh0 x).length s) (ha : EvAS c env os tr (ds.map (reV f))) (hB : B x (.r k :: ds) CE e) (he : ∃ xv, EvD e xv) :
    XEW c env os (tMethS C mn (spWX c.K sh0 sh1 R B) E te tr) CE e E := fun ad σ H ok kk Q => ho.2 ad σ H ok _ fun H1 e1 => by
  have ok1 := ok.ext e1
  obtain ⟨_, dx, vs0, h0, pv⟩ := ok1.obj (f k) _ hk rfl
  exact ⟨ad (f k), dx, vs0, rfl, h0, lookup_paired pv hm, ha ad σ H1 ok1 _ fun vs H2 e r => spWX_err (ds := .r k :: ds) S hG (ok1.ext e) (lt1 hkn hl) (show Paired _ (.ref (ad (f k)) :: vs) (.r (f k) :: ds.map (reV f)) from .cons ⟨rfl, (List.getElem?_eq_some_iff.mp hk).1⟩ r) hB he (k := kk)⟩
theorem xew_methWXQ {E : L2.St → XK} {G : α → List SO} (S : SegAtW f sh0 sh0 x os G) (hG : G x = os) (ho : EvR c env os te (f k)) (hk : os[f k]? = some (.ob C fs)) (hm : fs.lookup mn = none) (hkn : k < (sh0 x).length) (hl : ∀ s ∈ ds ++ es, SvLt (sh0 x).length s) (ha : EvAS c env os tr (ds.map (reV f))) (hz : EvAS c env os tk (es.map (reV f))) (hd : ∀ N H, DnAll c.K N H dv dd) (l1 : ds.length = n) (l2 : es.length = j) (hB : B x (.r k :: (ds ++ (es ++ dd.map SV.i))) CE e) (he : ∃ xv, EvD e xv) :
    XEW c env os (tMethNS C mn n j (spWX c.K sh0 sh1 R B) (fun vs zs => vs ++ (zs ++ dv)) E te tr tk) CE e E := fun ad σ H ok kk Q => ho.2 ad σ H ok _ fun H1 e1 => by
  have ok1 := ok.ext e1
  obtain ⟨_, dx, vs0, h0, pv⟩ := ok1.obj (f k) _ hk rfl
  refine ⟨ad (f k), dx, vs0, rfl, h0, lookup_paired pv hm, ha ad σ H1 ok1 _ fun vs H2 e r => hz ad σ H2 (ok1.ext e) _ fun zs H3 e3 rz => ⟨?_, ?_, spWX_err (ds := .r k :: (ds ++ (es ++ dd.map SV.i))) S hG ((ok1.ext e).ext e3) (kwq_lt hkn hl) (kwq_args (σ := σ) hk e e3 r rz hd) hB he (k := kk)⟩⟩
  · rw [r.length, List.length_map, l1]
  · rw [rz.length, List.length_map, l2]
/-! ### statements whose expression raises, within a def that lets the error out -/
theorem xsw_drop {E : XK} (h : XEW c env os te CE e (WL E)) (k : RetWE sh0 B c x ds CE e E) (hos : ∀ (i : Nat) (o : SO), (sh0 x)[i]? = some o → os[i]? = some o) (hs : ShOk (sh0 x).length (sh0 x)) (hB : B x ds CE e) : Go c env os (tSeq (tDrop te) u) D := fun ad σ H ok => h ad σ H ok (retWE_k k hos hs hB) _
theorem xsw_ret {E : XK} (h : XEW c env os te CE e (WL E)) (k : RetWE sh0 B c x ds CE e E) (hos : ∀ (i : Nat) (o : SO), (sh0 x)[i]? = some o → os[i]? = some o) (hs : ShOk (sh0 x).length (sh0 x)) (hB : B x ds CE e) : Go c env os (tSeq (tRet te) u) D := fun ad σ H ok => h ad σ H ok (retWE_k k hos hs hB) _
/-! ### try -/
/-- try: if b: f(..) else: g(..) -/
theorem gs_tryIf {tt : TT} {t1 t2 : Ends → TS} {b : Bool} (h : EvT c env os tt b) (h1 : b = true → Go c env os (tSeq (fun D σ H => t1 D D σ H) u) D) (h2 : b = false → Go c env os (tSeq (fun D σ H => t2 D D σ H) u) D) :
    Go c env os (tSeq (fun D σ H => tSeq (tIfS tt (tSeq (t1 D) tNext) (tSeq (t2 D) tNext)) tNext D σ H) u) D := fun ad σ H ok => h ad σ H ok _ fun H2 e => by
  cases b with
  | true => exact h1 rfl ad σ H2 (ok.ext e)
  | false => exact h2 rfl ad σ H2 (ok.ext e)
/-- the call of a try answers -/
theorem gs_tryVD {te : Ends → TE} {P : List SO → SV → Prop} (h : ∀ D', EvWN c env os (te D') P) (k : ∀ os' s, P os' s → Go c env os' u D) : Go c env os (tSeq (fun D σ H => tDrop (te D) D σ H) u) D := fun ad σ H ok =>
  h _ ad σ H ok _ fun ad' v H2 os' s p ok2 r => k os' s p ad' σ H2 ok2
/-- .. raises, a clause takes it -/
theorem gs_tryED {te : Ends → TE} {pre post : List Cl} {Wout : WX} {cv : Value} {i : Nat} {ts : Addr → Value → Option Addr → TS} (h : ∀ D', XEW c env os (te D') CE e (WE (wCl c.K Wout D' (pre ++ (cv, some i, ts) :: post)))) (hp : ∀ q ∈ pre, PySem.W.exmOne c.K (.ref CE) q.1 = some false) (hm : PySem.W.exmOne c.K (.ref CE) cv = some true)
    (hi : i < env.length) (k : ∀ a dx xv, EvD e xv → XGo i a dx xv c (env.set i none) os (ts a (.ref CE) (some dx)) (endAs i { D with nx := u D })) : Go c env os (tSeq (fun D σ H => tDrop (te D) D σ H) u) D := fun ad σ H ok =>
  h _ ad σ H ok (fun xv H' dx ad' hx ok2 hdd _ => wCl_pick (D := { D with nx := u D }) (n := some i) (ts := ts) (d := some dx) (σ := σ) (H := H') hm (fun a0 _ => k a0 dx xv hx ad' _ H' ok2.hole ⟨List.getElem?_set_self (by rw [ok2.len]; exact hi), hdd⟩) pre hp) _
/-- return of a suite, in a def with a segment -/
theorem gp_retW {i : Nat} {a ddr : Addr} {xv : V} {y : β} (h : XvE i a ddr xv c env os te d) (hn : noList d = true) (k : RetW sh0 sh1 R c x ds D) (hos : ∀ (i : Nat) (o : SO), (sh1 y)[i]? = some o → os[i]? = some o) (hs : ShOk (sh1 y).length (sh1 y)) (hle : (sh0 x).length ≤ (sh1 y).length) (hR : R x ds y (.i d)) : XGo i a ddr xv c env os (tSeq (tRet te) u) (endAs i { D with nx := u D }) := fun ad σ H ok p =>
  h ad σ H ok p _ fun v H2 e r => k ad env os σ v H2 y (.i d) (ok.ext e) hos hs hle True.intro hR (Dn.goF TP.refl d v hn r)
/-! ### tests and statements over a call's answer -/
theorem etw_op {r : R2} {P1 : List SO → SV → Prop} {P : List SO → Bool → Prop} (ha : EvWN c env os ta P1) (h : ∀ v os' s, P1 os' s → ∃ d b, s = .i d ∧ P os' b ∧ EvT (c.w ((v, .i d) :: c.fr) os'.length) env os' (tTest (tOp r (tC v) tb)) b) : EvTW c env os (tTest (tOp r ta tb)) P := fun ad σ H ok Q q => ha ad σ H ok _ fun ad' v H1 os' s p ok1 r1 => by
  obtain ⟨d, b, rfl, hb, ht⟩ := h v os' s p
  exact ht ad' σ H1 (ok1.pin (v := v) (s := .i d) r1) Q fun H2 e => q ad' H2 os' b hb (ok1.ext e)
/-- a and (b == e): the value of a test whose right side changes the store -/
theorem ew_op {r : R2} {P1 : List SO → SV → Prop} {P : List SO → SV → Prop} (ha : EvWN c env os ta P1) (h : ∀ v os' s, P1 os' s → ∃ d d2, s = .i d ∧ P os' (.i d2) ∧ EvX false (c.w ((v, .i d) :: c.fr) os'.length) env os' (tOp r (tC v) tb) d2) : EvWN c env os (tOp r ta tb) P := fun ad σ H ok Q q => ha ad σ H ok _ fun ad' v H1 os' s p ok1 r1 => by
  obtain ⟨d, d2, rfl, hb, ht⟩ := h v os' s p
  refine ht ad' σ H1 (ok1.pin (v := v) (s := .i d) r1) Q fun v2 H2 e r2 => q ad' v2 H2 os' (.i d2) hb (ok1.ext e) ?_
  rw [Nw_false] at r2
  exact r2
theorem ew_and {b : Bool} {P : List SO → SV → Prop} (h1 : EvX true c env os ta (.bool b)) (h2 : b = true → EvWN c env os tb P) (h3 : b = false → P os (.i (.bool false))) : EvWN c env os (tAndV ta tb) P := fun ad σ H ok Q q => h1 ad σ H ok _ fun v H2 e2 r2 => ⟨b, dn_bool r2, by
  cases b with
  | true =>
    rw [if_pos rfl]
    exact h2 rfl ad σ H2 (ok.ext e2) Q q
  | false =>
    rw [if_neg Bool.false_ne_true]
    exact q ad _ H2 os _ (h3 rfl) (ok.ext e2) (.bl _)⟩
/-- del d[k] -/
def delA {A B : Type} [DecidableEq A] (m : List (A × B)) (k : A) : List (A × B) := m.filter fun p => decide (p.1 ≠ k)
theorem drop_del {κ : Type} [DecidableEq κ] {F : V → SV → Prop} {k : κ} : ∀ {ws : List (κ × V)} {kvs : List (κ × SV)}, Paired (fun p q => p.1 = q.1 ∧ F p.2 q.2) ws kvs → Paired (fun p q => p.1 = q.1 ∧ F p.2 q.2) (dropK ws k) (delA kvs k)
  | _, _, .nil => .nil
  | _, _, .cons (a := p) (b := q) r rest => by
    have ih := drop_del (k := k) rest
    unfold dropK delA
    rw [List.filter_cons, List.filter_cons, r.1]
    split
    · exact .cons r ih
    · exact ih
theorem gs_ddel {kvs : List (Key × SV)} {kk : Key} (hl : EvR c env os td k) (hk : os[k]? = some (.dK kvs)) (hi : EvX true c env os ty (kdat kk)) (hg : (getA kvs kk).isSome = true) (g : Go c env (os.set k (.dK (delA kvs kk))) u D) : Go c env os (tSeq (sDDel td ty) u) D := fun ad σ H ok =>
  hl.2 ad σ H ok _ fun H1 e1 => hi ad σ H1 (ok.ext e1) _ fun y H2 e2 r2 => by
    have ok2 := (ok.ext e1).ext e2
    obtain ⟨_, ws, hws, pw⟩ := ok2.obj k _ hk rfl
    have hN : Nof c ad os (ad k) := Or.inr ⟨k, ⟨_, hk, rfl⟩, rfl⟩
    refine ⟨ad k, ws, kk, rfl, hws, dn_key r2, ?_, g ad σ _ (ok2.mut hk rfl rfl ⟨dropK ws kk, upd_same, drop_del (Paired.imp pw fun _ _ z => ⟨z.1, z.2.mut hws rfl hN⟩)⟩)⟩
    rcases val_get (F := SvOk c.K (Nof c ad os) ad os.length H2) pw kk with ⟨_, b⟩ | ⟨x, s, a, _, _⟩
    · rw [b] at hg; cases hg
    · rw [a]; rfl
/-- a tuple told by its object, told as a tuple -/
theorem fT_tup {K : PySem.W.Frag} {N : Addr → Prop} {H : Hp} {v : V} {ds : List PyData} (h : Dn K N H v (fT ds)) : Dn K N H v (.tuple ds) := by
  obtain ⟨a, o, xs, ys, rfl, _, _, h1, h2⟩ := dn_fT h
  exact .tup h1 h2
end
end DL
namespace DL
open PySem PySem.Spec PyProof.Rows L2
theorem evD_I {i : Int} (h0 : 0 ≤ i) (h : i ≤ 1000000000) : EvD (.int i) (.int i) := Or.inr ⟨i, rfl, rfl, by
  by_cases z : i.natAbs = 0
  · rw [z]; decide
  · refine (Nat.log2_lt z).mpr (Nat.lt_of_lt_of_le (show i.natAbs < 2 ^ 64 by omega) (Nat.pow_le_pow_right (by decide) (by decide)))⟩
theorem EvX.to {w : Bool} {c : Cn} {env : Sy} {os : List SO} {te : TE} {d d' : PyData} (h : EvX w c env os te d) (f : ∀ N H v, Dn c.K N H v d → Dn c.K N H v d') : EvX w c env os te d' := fun ad σ H ok Q q => h ad σ H ok Q fun v H2 e r => q v H2 e (f _ _ _ r)
theorem dnAll_to {K : PySem.W.Frag} {N : Addr → Prop} {H : Hp} {α : Type} {f g : α → PyData} : ∀ {l : List α} {vs : List V}, (∀ x ∈ l, ∀ v, Dn K N H v (f x) → Dn K N H v (g x)) → DnAll K N H vs (l.map f) → DnAll K N H vs (l.map g)
  | [], _, _, h => by cases h; exact .nil
  | x :: l, _, hs, h => by
    cases h with
    | cons a b => exact .cons (hs x (List.mem_cons_self ..) _ a) (dnAll_to (fun y hy => hs y (List.mem_cons_of_mem _ hy)) b)
theorem setA_new {A B : Type} [DecidableEq A] {m : List (A × B)} {k : A} {v : B} (h : getA m k = none) : setA m k v = m ++ [(k, v)] := by
  unfold setA
  rw [h]; exact if_neg (by simp)
theorem dcM_nd {α A B : Type} [DecidableEq A] {fk : α → A} {fv : α → B} (hi : ∀ a b, fk a = fk b → a = b) : ∀ (n : Nat) (l : List α), l.length = n → l.Nodup → dcM fk fv l = l.map fun x => (fk x, fv x)
  | 0, l, h, _ => by rw [List.length_eq_zero_iff.mp h]; rfl
  | n + 1, l, h, hn => by
    have hne : l ≠ [] := fun e => by rw [e] at h; cases h
    obtain ⟨a, x, rfl⟩ : ∃ a x, l = a ++ [x] := ⟨l.dropLast, l.getLast hne, (List.dropLast_concat_getLast hne).symm⟩
    obtain ⟨h1, _, h3⟩ := List.nodup_append.mp hn
    rw [dcM_snoc, dcM_nd hi n a (by simpa using h) h1, setA_new, List.map_append]
    · rfl
    · refine getA_none.mpr fun q hq e => ?_
      obtain ⟨y, hy, rfl⟩ := List.mem_map.mp hq
      exact h3 y hy x (List.mem_singleton.mpr rfl) (hi _ _ e)
end DL

set_option Elab.async false
set_option linter.all false
set_option maxRecDepth 100000
set_option maxHeartbeats 4000000
open PySem PySem.Spec PyProof.Rows L2 DL
namespace Q
open QH
abbrev T4 (x y w h : Int) : PyData := .tuple [.int x, .int y, .int w, .int h]
local macro_rules | `(tactic| walk_at "cc") => `(tactic| first
  | assumption | decide | omega
  | exact Or.inr ⟨by decide, by decide⟩ | exact Or.inl ⟨by decide, by decide⟩
  | (refine Or.inr ⟨?_, ?_⟩ <;> omega) | (refine Or.inl ⟨?_, ?_⟩ <;> omega)
  | (refine ⟨?_, ?_⟩ <;> omega) | (refine wide_div (b := 64) ?_ ?_ (by decide) (by decide) <;> omega) | (dsimp only; omega) | (simp only [CDiv, CMul, CPow]; omega))
local macro_rules | `(tactic| walk_at "at") => `(tactic| first | rfl | exact atI_nat rfl)
local macro_rules | `(tactic| walk_at "v") => `(tactic| first
  | exact ex_int | exact ex_bl | exact ex_non | exact ex_str
  | exact ex_var rfl
  | exact ex_const (by assumption)
  | (refine' ex_i2 ?va ?vb; (case va => walk_at "v"); (case vb => walk_at "v"))
  | (refine' ex_b2 ?va ?vb; (case va => walk_at "v"); (case vb => walk_at "v"))
  | (refine' ex_i2c ?va ?vb ?vc; (case va => walk_at "v"); (case vb => walk_at "v"); (case vc => walk_at "cc"))
  | (refine' ex_u ?va; (case va => walk_at "v"))
  | (refine' ex_tup ?va ?vb; (case va => walk_at "a"); (case vb => exact Nat.le_of_ble_eq_true rfl))
  | (refine' ex_int1 rfl ?va; (case va => walk_at "v"))
  | (refine' ex_and ?va ?vb; (case va => walk_at "v"); (case vb => intro _; walk_at "v"))
  | (refine' ex_or ?va ?vb; (case va => walk_at "v"); (case vb => intro _; walk_at "v"))
  | (refine' ex_not ?va; (case va => walk_at "v"))
  | (refine' ex_chain rfl rfl ?va ?vb ?vc; (case va => walk_at "v"); (case vb => walk_at "v"); (case vc => walk_at "v"))
  | (refine' ex_ixT ?va ?vb ?vc; (case va => walk_at "v"); (case vb => walk_at "v"); (case vc => walk_at "at"))
  | (refine' ex_eqI ?va ?vb; (case va => walk_at "v"); (case vb => walk_at "v"))
  | (refine' ex_neI ?va ?vb; (case va => walk_at "v"); (case vb => walk_at "v"))
  | (refine' ex_eqB ?va ?vb; (case va => walk_at "v"); (case vb => walk_at "v"))
  | (refine' ex_neB ?va ?vb; (case va => walk_at "v"); (case vb => walk_at "v"))
  | (refine' ex_eqD ?va ?vb ?vc ?vd; (case va => walk_at "v"); (case vb => walk_at "v"); (case vc => walk_at "sh"); (case vd => walk_at "sh"))
  | (refine' ex_neD ?va ?vb ?vc ?vd; (case va => walk_at "v"); (case vb => walk_at "v"); (case vc => walk_at "sh"); (case vd => walk_at "sh"))
  | (refine' ex_isi ?va ?vb; (case va => walk_at "v"); (case vb => walk_at "kit"))
  | (refine' ex_lenK ?va; (case va => walk_at "i"))
  | (refine' ex_lenTK ?va; (case va => walk_at "v"))
  | (refine' ex_max2 rfl ?va ?vb; (case va => walk_at "v"); (case vb => walk_at "v"))
  | (refine' ex_min2 rfl ?va ?vb; (case va => walk_at "v"); (case vb => walk_at "v"))
  | (refine' ex_call ?va ?vb; (case va => walk_at "a"); (case vb => walk_at "r"))
  | (refine' EvF.ev ?va; (case va => walk_at "f")))
local macro_rules | `(tactic| walk_at "a") => `(tactic| first
  | exact ea_nil
  | (refine' ea_cons ?va ?vb; (case va => walk_at "v"); (case vb => walk_at "a")))
local macro_rules | `(tactic| walk_at "f") => `(tactic| first
  | (refine' ef_lst (EvA.ss (ds := _) ?va) ?vb; (case va => walk_at "a"); (case vb => exact Nat.le_of_ble_eq_true rfl))
  | (refine' ef_listK ?va; (case va => walk_at "i")))
local macro_rules | `(tactic| walk_at "i") => `(tactic| first
  | (refine' EvX.it ?va; (case va => walk_at "v"))
  | (refine' EvR.it (er_var rfl ?va) rfl; (case va => decide)))
local macro_rules | `(tactic| walk_at "t") => `(tactic| first
  | (refine' et_test ?va; (case va => walk_at "v"))
  | (refine' et_B ?va; (case va => walk_at "v"))
  | (refine' et_and ?va ?vb; (case va => walk_at "t"); (case vb => intro _; walk_at "t"))
  | (refine' et_or ?va ?vb; (case va => walk_at "t"); (case vb => intro _; walk_at "t"))
  | (refine' et_not ?va; (case va => walk_at "t")))
local macro_rules | `(tactic| walk_at "r") => `(tactic| first | assumption | walk_at "r2")
local macro_rules | `(tactic| walk_at "set") => `(tactic| (refine' gs_asg ?va ?_; (case va => walk_at "v")))
local macro_rules | `(tactic| walk_at "env") => `(tactic| simp only [env0, List.map, List.length, List.replicate, List.append, List.cons_append, List.nil_append, Nat.reduceAdd, Nat.reduceSub, Nat.sub_self])
local macro_rules | `(tactic| walk_at "ret") => `(tactic| (refine' gs_ret (EvX.is ?va ?vb) (by assumption); (case va => walk_at "v"); (try (case vb => rfl))))
local macro_rules | `(tactic| walk_at "asg4") => `(tactic| (refine' gs_asgT ?va (tg_tup (tgs_cons tg_name (tgs_cons tg_name (tgs_cons tg_name (tgs_cons tg_name tgs_nil)))) rfl) ?_; (case va => walk_at "v")))
local macro_rules | `(tactic| walk_at "asg3") => `(tactic| (refine' gs_asgT ?va (tg_tup (tgs_cons tg_name (tgs_cons tg_name (tgs_cons tg_name tgs_nil))) rfl) ?_; (case va => walk_at "v")))
local macro_rules | `(tactic| walk_at "nf") => `(tactic| simp only [List.set_cons_zero, List.set_cons_succ])
local macro_rules | `(tactic| walk_at "wk") => `(tactic| (refine g_next ?_; intro ad σ H ok; exact (show OkE _ _ _ _ _ from ⟨ad, ok.weak (by simp [WkE]) (by simp [WkO]) (by simp [EnLt, SvLt]) (by walk_at "osl") (by simp)⟩)))
local macro_rules | `(tactic| walk_at "kit") => `(tactic| first | exact kit_int_int | exact kit_int_bool | exact kit_int_str | exact kit_int_tuple | exact kit_int_list | exact kit_int_dict | exact kit_bool_int | exact kit_bool_bool | exact kit_bool_str | exact kit_bool_tuple | exact kit_bool_list | exact kit_bool_dict | exact kit_str_int | exact kit_str_bool | exact kit_str_str | exact kit_str_tuple | exact kit_str_list | exact kit_str_dict | exact kit_tuple_int | exact kit_tuple_bool | exact kit_tuple_str | exact kit_tuple_tuple | exact kit_tuple_list | exact kit_tuple_dict | exact kit_list_int | exact kit_list_bool | exact kit_list_str | exact kit_list_tuple | exact kit_list_list | exact kit_list_dict | exact kit_NoneType_int | exact kit_NoneType_bool | exact kit_NoneType_str | exact kit_NoneType_tuple | exact kit_NoneType_list | exact kit_NoneType_dict | exact kit_dict_int | exact kit_dict_bool | exact kit_dict_str | exact kit_dict_tuple | exact kit_dict_list | exact kit_dict_dict)
local macro_rules | `(tactic| walk_at "sh") => `(tactic| first | exact shaped_T4 _ _ _ _ | assumption | rfl)
local macro_rules | `(tactic| walk_at "f") => `(tactic| (refine' ef_call ?va ?vb; (case va => walk_at "a"); (case vb => walk_at "r")))
local macro_rules | `(tactic| walk_at "f") => `(tactic| (refine' ef_cat ?va ?vb ?vc; (case va => walk_at "f"); (case vb => walk_at "f"); (case vc => first | exact Nat.le_of_ble_eq_true rfl | assumption)))
local macro_rules | `(tactic| walk_at "skip") => `(tactic| (refine' gs_if (b := false) (EvT.is ?va ?vb) (fun hb => nomatch hb) (fun _ => g_nextU ?_); (case va => walk_at "t"); (case vb => first | rfl | (simp; done))))
local macro_rules | `(tactic| walk_at "t") => `(tactic| (refine' et_truK ?va; (case va => walk_at "i")))
local macro_rules | `(tactic| walk_at "t") => `(tactic| exact et_yes)
local macro_rules | `(tactic| walk_at "js") => `(tactic| (intro j hj; first | (simpa using hj) | (simp at hj; simp [hj])))
local macro_rules | `(tactic| walk_at "we") => `(tactic| simp only [wipeE, List.set_cons_zero, List.set_cons_succ, List.map_cons, List.map_nil])
local macro_rules | `(tactic| walk_at "tg4") => `(tactic| exact tg_tup (tgs_cons tg_name (tgs_cons tg_name (tgs_cons tg_name (tgs_cons tg_name tgs_nil)))) rfl)
local macro_rules | `(tactic| walk_at "osl1") => `(tactic| first | exact soLt_data | exact True.intro | exact soLt_dK | exact soLt_dT)
local macro_rules | `(tactic| walk_at "osl") => `(tactic| first | exact True.intro | (refine ⟨?_, ?_⟩; (walk_at "osl1"); (walk_at "osl")) | simp [OsLt, SoLt, SvLt])
local macro_rules | `(tactic| walk_at "wkP") => `(tactic| (refine g_next ?_; intro ad σ H ok; refine ⟨?_, (show OkE _ _ _ _ _ from ⟨ad, ok.weak (by simp [WkE]) (by simp [WkO]) (by simp [EnLt, SvLt]) (by walk_at "osl") (by simp)⟩)⟩))

local macro_rules | `(tactic| walk_at "lt") => `(tactic| first | exact Nat.le_of_ble_eq_true rfl | (simp; done) | omega)
local macro_rules | `(tactic| walk_at "o") => `(tactic| first
  | (refine' er_var rfl ?va; (case va => walk_at "lt"))
  | (refine' er_fldO ?va ?hk ?vb ?vc ?hf ?vd; (case va => walk_at "o"); (case hk => rfl); (case vb => assumption); (case vc => assumption); (case hf => rfl); (case vd => walk_at "lt")))
local macro_rules | `(tactic| walk_at "v") => `(tactic| first
  | (refine' ex_fldD ?va ?vb ?vc ?vd; (case va => walk_at "v"); (case vb => assumption); (case vc => assumption); (case vd => rfl))
  | (refine' ex_fldO ?va ?hk ?vb ?vc ?hf; (case va => walk_at "o"); (case hk => rfl); (case vb => assumption); (case vc => assumption); (case hf => rfl))
  | (refine' ex_eqT ?va ?vb; (case va => walk_at "v"); (case vb => walk_at "v"))
  | (refine' ex_neT ?va ?vb; (case va => walk_at "v"); (case vb => walk_at "v"))
  | (refine' ex_eqS ?va ?vb; (case va => walk_at "v"); (case vb => walk_at "v"))
  | (refine' ex_neS ?va ?vb; (case va => walk_at "v"); (case vb => walk_at "v"))
  | (refine' ex_methD ?va ?hx ?vb ?vc; (case va => walk_at "v"); (case hx => rfl); (case vb => walk_at "a"); (case vc => walk_at "r")))

theorem sc_PageError___init__ : FnScope ["self", "value"] ["self", "value"] (defScope s_PageError___init__) := ⟨rfl, rfl, rfl, by decide +kernel, rfl, by decide +kernel, by decide +kernel⟩
theorem ok_PageError___init__ {P : Program} {w : World} {K : PySem.W.Frag} {mg : Str → Option Value} {base : Heap} {f : Addr} {fd : FuncData} (F : DL.FnM K "__init__" "PageError.__init__" s_PageError___init__ [] f fd) (z_ValueError : mg "ValueError" = none) (z_str : mg "str" = none) (hv : DL.veB K = true) :
    FnOk P w K mg base CX0 1 f fd ["self", "value"] (DL.spE0 K) :=
  DL.init_mk F sc_PageError___init__ (fun cdv A outer s H E hr => pss_cons (ps_expr (pe_veinit (by rfl) z_ValueError (DL.veB_ok hv) (pa_cons (pv 0) (pa_cons (pe_callTy DL.call_strV (by rfl) z_str (by decide +kernel) (pa_cons (pv 1) pa_nil)) pa_nil)))) (pss_one (ps_ost (pv 0) (pv 1))))
theorem sc_is_number : FnScope ["value"] ["value"] (defScope s_is_number) := ⟨rfl, rfl, rfl, by decide +kernel, rfl, by decide +kernel, by decide +kernel⟩
def R_is_number : List PyData → PyData → Prop := fun ds d => ∃ i, ds = [.int i] ∧ d = .bool true
theorem R_is_number_i {i : Int} : R_is_number [.int i] (.bool true) := ⟨i, rfl, rfl⟩
local macro_rules | `(tactic| walk_at "r2") => `(tactic| exact R_is_number_i)
theorem R_is_number_len : ∀ ds d, R_is_number ds d → ds.length = 1 := by
  intro ds d hh
  unfold R_is_number at hh
  repeat (obtain ⟨_, hh⟩ := hh)
  subst_eqs
  rfl
theorem ok_is_number {P : Program} {w : World} {K : PySem.W.Frag} {mg : Str → Option Value} {base : Heap} {f : Addr} {fd : FuncData} (F : FnP K "is_number" s_is_number f fd) (g0 : mg "is_number" = some (.ref f)) (z_isinstance : mg "isinstance" = none) (z_int : mg "int" = none) (z_bool : mg "bool" = none) : Cal P w K mg base 1 "is_number" ["value"] (spD K  R_is_number) := by
  refine cal_mk F sc_is_number g0 (spD_len R_is_number_len) (fun _ _ _ _ _ _ us hl => match us, hl with | [_], _ => rfl) (fun cdv A outer s H vs Q E hr h => ⟨_,
    (pss_cons (ps_ret (pe_and (pe_callB (DL.kIsi (K := K)) (by rfl) z_isinstance (by decide +kernel) (pa_cons (pv 0) (pa_cons (pe_bltn (v := .ty "int") (u := .type "int") (by rfl) z_int (by decide +kernel) rfl) pa_nil))) (pe_one (pe_not (pe_callB (DL.kIsi (K := K)) (by rfl) z_isinstance (by decide +kernel) (pa_cons (pv 0) (pa_cons (pe_bltn (v := .ty "bool") (u := .type "bool") (by rfl) z_bool (by decide +kernel) rfl) pa_nil)))))))
     pss_nil), ?_⟩)
  refine run_spD h fun N ds d hR hq => ?_
  obtain ⟨i, rfl, rfl⟩ := hR
  walk_at "env"
  walk_at "ret"
-- END is_number
theorem sc_is_within : FnScope ["value", "low", "high"] ["value", "low", "high"] (defScope s_is_within) := ⟨rfl, rfl, rfl, by decide +kernel, rfl, by decide +kernel, by decide +kernel⟩
def R_is_within : List PyData → PyData → Prop := fun ds d => ∃ v lo hi : Int, ds = [.int v, .int lo, .int hi] ∧ d = .bool (decide (lo ≤ v) && decide (v ≤ hi))
theorem R_is_within_i {v lo hi : Int} : R_is_within [.int v, .int lo, .int hi] (.bool (decide (lo ≤ v) && decide (v ≤ hi))) := ⟨v, lo, hi, rfl, rfl⟩
local macro_rules | `(tactic| walk_at "r2") => `(tactic| exact R_is_within_i)
theorem R_is_within_len : ∀ ds d, R_is_within ds d → ds.length = 3 := by
  intro ds d hh
  unfold R_is_within at hh
  repeat (obtain ⟨_, hh⟩ := hh)
  subst_eqs
  rfl
theorem ok_is_within {P : Program} {w : World} {K : PySem.W.Frag} {mg : Str → Option Value} {base : Heap} {f : Addr} {fd : FuncData} (F : FnP K "is_within" s_is_within f fd) (g0 : mg "is_within" = some (.ref f)) (h_is_number : Cal P w K mg base 1 "is_number" ["value"] (spD K  R_is_number)) : Cal P w K mg base 2 "is_within" ["value", "low", "high"] (spD K  R_is_within) := by
  refine cal_mk F sc_is_within g0 (spD_len R_is_within_len) (fun _ _ _ _ _ _ us hl => match us, hl with | [_, _, _], _ => rfl) (fun cdv A outer s H vs Q E hr h => ⟨_,
    (pss_cons (ps_ret (pe_and (DL.pe_cal h_is_number hr (by decide) (by rfl) pass0 (pa_cons (pv 0) pa_nil)) (pe_one (pe_chain op_le op_le (pv 1) (pv 0) (pv 2)))))
     pss_nil), ?_⟩)
  refine run_spD h fun N ds d hR hq => ?_
  obtain ⟨v, lo, hi, rfl, rfl⟩ := hR
  walk_at "env"
  refine gs_ret (EvX.is (ex_and (ex_call (ea_cons (ex_var rfl) ea_nil) R_is_number_i) (fun _ => ex_chain rfl rfl (ex_var rfl) (ex_var rfl) (ex_var rfl))) rfl) hq
-- END is_within
theorem sc_is_word : FnScope ["value", "char"] ["value"] (defScope s_is_word) := ⟨rfl, rfl, rfl, by decide +kernel, rfl, by decide +kernel, by decide +kernel⟩
def wB (l : List Nat) : Bool := decide (1 ≤ l.length) && decide (l.length ≤ 12) && l.all (fun x => decide (97 ≤ x) && decide (x ≤ 122))
def R_is_word : List PyData → PyData → Prop := fun ds d => ∃ l : List Nat, l.length ≤ 40000 ∧ ds = [dT l] ∧ d = .bool (wB l)
theorem R_is_word_i {l : List Nat} (h : l.length ≤ 40000) : R_is_word [dT l] (.bool (wB l)) := ⟨l, h, rfl, rfl⟩
local macro_rules | `(tactic| walk_at "r2") => `(tactic| exact R_is_word_i (by assumption))
theorem R_is_word_len : ∀ ds d, R_is_word ds d → ds.length = 1 := by
  intro ds d hh
  unfold R_is_word at hh
  repeat (obtain ⟨_, hh⟩ := hh)
  subst_eqs
  rfl
theorem ok_is_word {P : Program} {w : World} {K : PySem.W.Frag} {mg : Str → Option Value} {base : Heap} {f : Addr} {fd : FuncData} (F : FnP K "is_word" s_is_word f fd) (g0 : mg "is_word" = some (.ref f)) (z_isinstance : mg "isinstance" = none) (z_str : mg "str" = none) (z_len : mg "len" = none) (z_all : mg "all" = none) (c_LONGEST_WORD : ∃ t, mg "LONGEST_WORD" = some (.int 12 t)) : Cal P w K mg base 1 "is_word" ["value"] (spD K  R_is_word) := by
  refine cal_mk F sc_is_word g0 (spD_len R_is_word_len) (fun _ _ _ _ _ _ us hl => match us, hl with | [_], _ => rfl) (fun cdv A outer s H vs Q E hr h => ⟨_,
    (pss_cons (ps_if (PW.pt (pw_or (pt_not (pt_val (pe_callB (DL.kIsi (K := K)) (by rfl) z_isinstance (by decide +kernel) (pa_cons (pv 0) (pa_cons (pe_bltn (v := .ty "str") (u := .type "str") (by rfl) z_str (by decide +kernel) rfl) pa_nil))))) (pw_or1 (pt_not (pt_chain op_le op_le pe_int (pe_callB call_len_str (by rfl) z_len (by decide +kernel) (pa_cons (pv 0) pa_nil)) (C8.pe_gc (v := .int 12) (by rfl) (DL.gci c_LONGEST_WORD)))))))
     (pss_cons (ps_ret pe_bl)
     pss_nil)
     pss_nil)
     (pss_cons (ps_ret (pe_callB (DL.kAll (K := K) rfl) (by rfl) z_all (by decide +kernel) (pa_cons (pe_lc (own := [("char", 1)]) (by rfl) sc_is_word.nd (pi_str (pv 0)) (blkOk_by (own := [("char", 1)]) (N := ["value", "char"]) (sc := defScope s_is_word) (by decide +kernel)) (fun _ _ _ _ _ => (pg_name (i := 1) sc_is_word.nd rfl (by first | exact Or.inl rfl | exact Or.inr rfl))) (fun _ _ _ _ _ => pts_nil) (fun _ _ _ _ _ => (pe_chain op_le_str op_le_str pe_str (pv 1) pe_str))) pa_nil)))
     pss_nil)), ?_⟩)
  refine run_spD h fun N ds d hR hq => ?_
  obtain ⟨l, hl, rfl, rfl⟩ := hR
  walk_at "env"
  refine gs_if (b := !(decide ((1 : Int) ≤ (l.length : Int)) && decide ((l.length : Int) ≤ 12))) (EvT.is (et_or (et_not (et_B (ex_isi (ex_var rfl) kit_str_str))) (fun _ => et_not (et_test (ex_chain rfl rfl ex_int (ex_lenS rfl (ex_var rfl) (by omega)) ex_int)))) rfl) (fun h => ?_) (fun h => g_nextU ?_)
  · refine gs_ret (EvX.is ex_bl ?_) hq
    unfold wB
    refine congrArg PyData.bool (Eq.symm ?_)
    have h2 : (decide (1 ≤ l.length) && decide (l.length ≤ 12)) = false := by
      simp only [Bool.not_eq_true', Bool.and_eq_false_iff, decide_eq_false_iff_not] at h ⊢
      omega
    rw [h2, Bool.false_and]
  · refine gs_ret (EvX.is (ex_all (ns := l.map fun x => decide (97 ≤ x) && decide (x ≤ 122)) (EvF.it ?f1)) ?f2) hq
    case f1 =>
      refine EvF.is2 (ef_lc (xs := l) (e := fun x => .i (dT [x])) (fun _ => true) (fun x => .bool (decide (97 ≤ x) && decide (x ≤ 122))) (ew_str (ex_var rfl)) rfl (fun i x hx => by rw [List.getD_eq_getElem?_getD, hx]; rfl) (fun _ => True.intro) hl (fun fr lo up acc x hx => ⟨_, _, fun j hj => hj, tg_name, ?g1, fun _ => ?g2⟩)) ?g3
      case g1 => exact et_yes
      case g2 => exact ex_chainS rfl rfl (ex_txt (l := [97]) (by decide +kernel)) (ex_var rfl) (ex_txt (l := [122]) (by decide +kernel))
      case g3 => simp only [filt_all, List.map_map]; rfl
    case f2 =>
      refine congrArg PyData.bool ?_
      have h2 : (decide (1 ≤ l.length) && decide (l.length ≤ 12)) = true := by
        simp only [Bool.not_eq_false', Bool.and_eq_true, decide_eq_true_eq] at h ⊢
        omega
      unfold wB
      rw [h2, Bool.true_and, List.all_map]
      rfl
-- END is_word
theorem sc__is_allowed : FnScope ["char"] ["char"] (defScope s__is_allowed) := ⟨rfl, rfl, rfl, by decide +kernel, rfl, by decide +kernel, by decide +kernel⟩
def okC (x : Nat) : Bool := decide (x = 10) || (decide (32 ≤ x) && decide (x ≤ 126) && !decide (x = 37))
def okT (l : List Nat) : Prop := ∀ x ∈ l, okC x = true
def R__is_allowed : List PyData → PyData → Prop := fun ds d => ∃ x : Nat, ds = [dT [x]] ∧ d = .bool (okC x)
theorem R__is_allowed_i {x : Nat} : R__is_allowed [dT [x]] (.bool (okC x)) := ⟨x, rfl, rfl⟩
local macro_rules | `(tactic| walk_at "r2") => `(tactic| exact R__is_allowed_i)
theorem R__is_allowed_len : ∀ ds d, R__is_allowed ds d → ds.length = 1 := by
  intro ds d hh
  unfold R__is_allowed at hh
  repeat (obtain ⟨_, hh⟩ := hh)
  subst_eqs
  rfl
theorem ok__is_allowed {P : Program} {w : World} {K : PySem.W.Frag} {mg : Str → Option Value} {base : Heap} {f : Addr} {fd : FuncData} (F : FnP K "_is_allowed" s__is_allowed f fd) (g0 : mg "_is_allowed" = some (.ref f)) (z_ord : mg "ord" = none) (c_PERCENT : ∃ t, mg "PERCENT" = some (.int 37 t)) : Cal P w K mg base 1 "_is_allowed" ["char"] (spD K  R__is_allowed) := by
  refine cal_mk F sc__is_allowed g0 (spD_len R__is_allowed_len) (fun _ _ _ _ _ _ us hl => match us, hl with | [_], _ => rfl) (fun cdv A outer s H vs Q E hr h => ⟨_,
    (pss_cons (ps_ret (pe_or (pe_cmpR op_eq (pv 0) pe_str (nomark _)) (pe_one (pe_and (pe_chain op_le_str op_le_str pe_str (pv 0) pe_str) (pe_one (pe_cmpR op_ne (pe_callB call_ord (by rfl) z_ord (by decide +kernel) (pa_cons (pv 0) pa_nil)) (C8.pe_gc (v := .int 37) (by rfl) (DL.gci c_PERCENT)) (nomark _)))))))
     pss_nil), ?_⟩)
  refine run_spD h fun N ds d hR hq => ?_
  obtain ⟨x, rfl, rfl⟩ := hR
  walk_at "env"
  refine gs_ret (EvX.is (ex_or (ex_eqT (b := [10]) (ex_var rfl) (ex_txt (by decide +kernel))) (fun _ => ex_and (ex_chainS rfl rfl (ex_txt (l := [32]) (by decide +kernel)) (ex_var rfl) (ex_txt (l := [126]) (by decide +kernel))) (fun _ => ex_neI (ex_ord rfl (ex_var rfl)) ex_int))) ?_) hq
  unfold okC
  have e1 : decide ([x] = [10]) = decide (x = 10) := by simp
  have e2 : decide ((x : Int) = 37) = decide (x = 37) := decide_eq_decide.mpr (by omega)
  rw [e1, e2, Bool.and_assoc]
-- END _is_allowed
theorem sc_is_string : FnScope ["value", "char"] ["value"] (defScope s_is_string) := ⟨rfl, rfl, rfl, by decide +kernel, rfl, by decide +kernel, by decide +kernel⟩
def R_is_string : List PyData → PyData → Prop := fun ds d => ∃ l : List Nat, l.length ≤ 40000 ∧ ds = [dT l] ∧ d = .bool (l.all okC)
theorem R_is_string_i {l : List Nat} (h : l.length ≤ 40000) : R_is_string [dT l] (.bool (l.all okC)) := ⟨l, h, rfl, rfl⟩
local macro_rules | `(tactic| walk_at "r2") => `(tactic| exact R_is_string_i (by omega))
theorem R_is_string_len : ∀ ds d, R_is_string ds d → ds.length = 1 := by
  intro ds d hh
  unfold R_is_string at hh
  repeat (obtain ⟨_, hh⟩ := hh)
  subst_eqs
  rfl
theorem ok_is_string {P : Program} {w : World} {K : PySem.W.Frag} {mg : Str → Option Value} {base : Heap} {f : Addr} {fd : FuncData} (F : FnP K "is_string" s_is_string f fd) (g0 : mg "is_string" = some (.ref f)) (h__is_allowed : Cal P w K mg base 1 "_is_allowed" ["char"] (spD K  R__is_allowed)) (z_isinstance : mg "isinstance" = none) (z_str : mg "str" = none) (z_all : mg "all" = none) : Cal P w K mg base 2 "is_string" ["value"] (spD K  R_is_string) := by
  refine cal_mk F sc_is_string g0 (spD_len R_is_string_len) (fun _ _ _ _ _ _ us hl => match us, hl with | [_], _ => rfl) (fun cdv A outer s H vs Q E hr h => ⟨_,
    (pss_cons (ps_ret (pe_and (pe_callB (DL.kIsi (K := K)) (by rfl) z_isinstance (by decide +kernel) (pa_cons (pv 0) (pa_cons (pe_bltn (v := .ty "str") (u := .type "str") (by rfl) z_str (by decide +kernel) rfl) pa_nil))) (pe_one (pe_callB (DL.kAll (K := K) rfl) (by rfl) z_all (by decide +kernel) (pa_cons (pe_lc (own := [("char", 1)]) (by rfl) sc_is_string.nd (pi_str (pv 0)) (blkOk_by (own := [("char", 1)]) (N := ["value", "char"]) (sc := defScope s_is_string) (by decide +kernel)) (fun _ _ _ _ _ => (pg_name (i := 1) sc_is_string.nd rfl (by first | exact Or.inl rfl | exact Or.inr rfl))) (fun _ _ _ _ _ => pts_nil) (fun _ _ _ _ _ => (DL.pe_cal h__is_allowed hr (by decide) (by rfl) pass0 (pa_cons (pv 1) pa_nil)))) pa_nil)))))
     pss_nil), ?_⟩)
  refine run_spD h fun N ds d hR hq => ?_
  obtain ⟨l, hl, rfl, rfl⟩ := hR
  walk_at "env"
  refine gs_ret (EvX.is (ex_and (ex_isi (ex_var rfl) kit_str_str) (fun _ => ex_all (ns := l.map okC) (EvF.it ?f1))) ?f2) hq
  case f1 =>
    refine EvF.is2 (ef_lc (xs := l) (e := fun x => .i (dT [x])) (fun _ => true) (fun x => .bool (okC x)) (ew_str (ex_var rfl)) rfl (fun i x hx => by rw [List.getD_eq_getElem?_getD, hx]; rfl) (fun _ => True.intro) hl (fun fr lo up acc x hx => ⟨_, _, fun j hj => hj, tg_name, ?g1, fun _ => ?g2⟩)) ?g3
    case g1 => exact et_yes
    case g2 => exact ex_call (ea_cons (ex_var rfl) ea_nil) R__is_allowed_i
    case g3 => simp only [filt_all, List.map_map]; rfl
  case f2 => simp [List.all_map]
-- END is_string
theorem sc_check_number : FnScope ["name", "value", "high"] ["name", "value", "high"] (defScope s_check_number) := ⟨rfl, rfl, rfl, by decide +kernel, rfl, by decide +kernel, by decide +kernel⟩
def R_check_number : List PyData → PyData → Prop := fun ds d => ∃ (nm : PyData) (v hi : Int), 0 ≤ v ∧ v ≤ hi ∧ ds = [nm, .int v, .int hi] ∧ d = .none
theorem R_check_number_i {nm : PyData} {v hi : Int} (h1 : 0 ≤ v) (h2 : v ≤ hi) : R_check_number [nm, .int v, .int hi] .none := ⟨nm, v, hi, h1, h2, rfl, rfl⟩
local macro_rules | `(tactic| walk_at "r2") => `(tactic| exact R_check_number_i (by assumption) (by assumption))
theorem R_check_number_len : ∀ ds d, R_check_number ds d → ds.length = 3 := by
  intro ds d hh
  unfold R_check_number at hh
  repeat (obtain ⟨_, hh⟩ := hh)
  subst_eqs
  rfl
theorem ok_check_number {P : Program} {w : World} {K : PySem.W.Frag} {mg : Str → Option Value} {base : Heap} {f : Addr} {fd : FuncData} (F : FnP K "check_number" s_check_number f fd) (g0 : mg "check_number" = some (.ref f)) (h_is_within : Cal P w K mg base 2 "is_within" ["value", "low", "high"] (spD K  R_is_within)) : Cal P w K mg base 3 "check_number" ["name", "value", "high"] (spD K  R_check_number) := by
  refine cal_mk F sc_check_number g0 (spD_len R_check_number_len) (fun _ _ _ _ _ _ us hl => match us, hl with | [_, _, _], _ => rfl) (fun cdv A outer s H vs Q E hr h => ⟨_,
    (pss_cons (ps_if (pt_not (pt_val (DL.pe_cal h_is_within hr (by decide) (by rfl) pass0 (pa_cons (pv 1) (pa_cons pe_int (pa_cons (pv 2) pa_nil))))))
     (pss_cons DL.ps_never
     pss_nil)
     pss_nil)
     pss_nil), ?_⟩)
  refine run_spD h fun N ds d hR hq => ?_
  obtain ⟨nm, v, hi, h1, h2, rfl, rfl⟩ := hR
  walk_at "env"
  refine gs_if (b := false) (EvT.is (et_not (et_B (ex_call (ea_cons (ex_var rfl) (ea_cons ex_int (ea_cons (ex_var rfl) ea_nil))) R_is_within_i))) ?_) (fun z => nomatch z) fun _ => g_nextU (g_endR hq)
  rw [decide_eq_true h1, decide_eq_true h2]; rfl
-- END check_number
theorem sc_check_index : FnScope ["index", "high"] ["index", "high"] (defScope s_check_index) := ⟨rfl, rfl, rfl, by decide +kernel, rfl, by decide +kernel, by decide +kernel⟩
def R_check_index (C_BadPlace : Addr) : List PyData → DL.Out → Prop := fun ds o => ∃ (v hi : Int), 0 ≤ v ∧ v ≤ 1000000 ∧ ds = [.int v, .int hi] ∧ o = if v ≤ hi then .val .none else .err C_BadPlace (.int v)
theorem R_check_index_i {C : Addr} {v hi : Int} (h1 : 0 ≤ v) (h2 : v ≤ 1000000) : R_check_index C [.int v, .int hi] (if v ≤ hi then .val .none else .err C (.int v)) := ⟨v, hi, h1, h2, rfl, rfl⟩
local macro_rules | `(tactic| walk_at "r2") => `(tactic| exact R_check_index_i (by omega) (by omega))
theorem R_check_index_len : ∀ (C_BadPlace : Addr) ds d, R_check_index C_BadPlace ds d → ds.length = 2 := by
  intro C_BadPlace ds d hh
  unfold R_check_index at hh
  repeat (obtain ⟨_, hh⟩ := hh)
  subst_eqs
  rfl
theorem ok_check_index {P : Program} {w : World} {K : PySem.W.Frag} {mg : Str → Option Value} {base : Heap} {f : Addr} {fd : FuncData} (F : FnP K "check_index" s_check_index f fd) (g0 : mg "check_index" = some (.ref f)) {f_I : Addr} {C_BadPlace : Addr} (g_BadPlace : mg "BadPlace" = some (.ref C_BadPlace)) (e_BadPlace : DL.ErC K C_BadPlace f_I) {fd_I : FuncData} (h_init : FnOk P w K mg base CX0 1 f_I fd_I ["self", "value"] (DL.spE0 K)) (b_init : Binds K fd_I ["self", "value"] []) (h_is_within : Cal P w K mg base 2 "is_within" ["value", "low", "high"] (spD K  R_is_within)) : DL.CalX P w K mg base 3 "check_index" ["index", "high"] (DL.spX K (R_check_index C_BadPlace)) := by
  refine DL.cal_mkX F sc_check_index g0 (DL.spX_len (R_check_index_len C_BadPlace)) (fun _ _ _ _ _ _ us hl => match us, hl with | [_, _], _ => rfl) (fun cdv A outer s H vs Q E hr h => ⟨_,
    (pss_cons (ps_if (pt_not (pt_val (DL.pe_cal h_is_within hr (by decide) (by rfl) pass0 (pa_cons (pv 0) (pa_cons pe_int (pa_cons (pv 1) pa_nil))))))
     (pss_cons (ps_raise rfl (takes_of rfl rfl rfl rfl) (pmk_oex e_BadPlace.o e_BadPlace.i e_BadPlace.t h_init (hr.mono (by decide)) b_init .nil pass0 (by rfl) g_BadPlace (pa_cons (pv 0) pa_nil)))
     pss_nil)
     pss_nil)
     pss_nil), ?_⟩)
  refine DL.run_spX h fun N ds o hR hq => ?_
  obtain ⟨v, hi, h1, h2, rfl, rfl⟩ := hR
  walk_at "env"
  refine gs_if (b := decide (hi < v)) (EvT.is (et_not (et_B (ex_call (ea_cons (ex_var rfl) (ea_cons ex_int (ea_cons (ex_var rfl) ea_nil))) R_is_within_i))) ?a1) (fun hb => ?b1) fun hb => g_nextU ?c1
  case a1 =>
    rw [decide_eq_true h1, Bool.true_and, ← decide_not]
    exact decide_eq_decide.mpr Int.not_le
  case b1 =>
    have hb := of_decide_eq_true hb
    rw [if_neg (by omega)] at hq
    exact DL.gs_raise e_BadPlace (DL.evD_I h1 (by omega)) (ea_cons (ex_var rfl) ea_nil) (hq.2 _ _ _ rfl (DL.evD_I h1 (by omega)))
  case c1 =>
    have hb := of_decide_eq_false hb
    rw [if_pos (by omega)] at hq
    exact g_endR (hq.1 _ rfl)
-- END check_index
theorem sc_check_word : FnScope ["word"] ["word"] (defScope s_check_word) := ⟨rfl, rfl, rfl, by decide +kernel, rfl, by decide +kernel, by decide +kernel⟩
/-! Steps of a selector and their texts. -/
def isW (l : List Nat) : Prop := 1 ≤ l.length ∧ l.length ≤ 12 ∧ ∀ x ∈ l, 97 ≤ x ∧ x ≤ 122
abbrev Stp := List Nat × List Nat × List (List Nat)
def dStp (s : Stp) : PyData := .tuple [dT s.1, dT s.2.1, .tuple (s.2.2.map dT)]
/-- a step's text, its joint aside -/
def stT (s : Stp) : List Nat := s.2.1 ++ (s.2.2.map (fun m => 46 :: m)).flatten
def stOk (s : Stp) : Prop := (s.2.1 = [42] ∧ s.2.2 = []) ∨ ((isW s.2.1 ∨ (s.2.1 = [] ∧ s.2.2 ≠ [])) ∧ (∀ m ∈ s.2.2, isW m) ∧ s.2.2.Nodup)
/-! the text of all steps -/
def jnT (j : List Nat) : List Nat := if j = [62] then [32, 62, 32] else j
def wrT : List Stp → List Nat
  | [] => []
  | s :: r => jnT s.1 ++ stT s ++ wrT r
/-- steps as they follow a first one -/
def folOk (s : Stp) : Prop := (s.1 = [32] ∨ s.1 = [62]) ∧ stOk s
def stepsOk : List Stp → Prop
  | [] => False
  | s :: r => s.1 = [] ∧ stOk s ∧ ∀ x ∈ r, folOk x
/-- the parts that parse meets behind a step -/
def parts : List Stp → List (List Nat)
  | [] => []
  | s :: r => (if s.1 = [62] then [[62]] else []) ++ stT s :: parts r
def R_check_word : List PyData → PyData → Prop := fun ds d => ∃ l : List Nat, Q.isW l ∧ ds = [dT l] ∧ d = .none
theorem R_check_word_i {l : List Nat} (h : Q.isW l) : R_check_word [dT l] .none := ⟨l, h, rfl, rfl⟩
local macro_rules | `(tactic| walk_at "r2") => `(tactic| exact R_check_word_i (by assumption))
theorem R_check_word_len : ∀ ds d, R_check_word ds d → ds.length = 1 := by
  intro ds d hh
  unfold R_check_word at hh
  repeat (obtain ⟨_, hh⟩ := hh)
  subst_eqs
  rfl
theorem ok_check_word {P : Program} {w : World} {K : PySem.W.Frag} {mg : Str → Option Value} {base : Heap} {f : Addr} {fd : FuncData} (F : FnP K "check_word" s_check_word f fd) (g0 : mg "check_word" = some (.ref f)) (h_is_word : Cal P w K mg base 1 "is_word" ["value"] (spD K  R_is_word)) : Cal P w K mg base 2 "check_word" ["word"] (spD K  R_check_word) := by
  refine cal_mk F sc_check_word g0 (spD_len R_check_word_len) (fun _ _ _ _ _ _ us hl => match us, hl with | [_], _ => rfl) (fun cdv A outer s H vs Q E hr h => ⟨_,
    (pss_cons (ps_if (pt_not (pt_val (DL.pe_cal h_is_word hr (by decide) (by rfl) pass0 (pa_cons (pv 0) pa_nil))))
     (pss_cons DL.ps_never
     pss_nil)
     pss_nil)
     pss_nil), ?_⟩)
  refine run_spD h fun N ds d hR hq => ?_
  obtain ⟨l, hl, rfl, rfl⟩ := hR
  walk_at "env"
  refine gs_if (b := false) (EvT.is (et_not (et_B (ex_call (ea_cons (ex_var rfl) ea_nil) (R_is_word_i (by have := hl.2.1; omega))))) ?_) (fun z => nomatch z) fun _ => g_nextU (g_endR hq)
  have e : wB l = true := by
    unfold wB
    rw [decide_eq_true hl.1, decide_eq_true hl.2.1]
    refine List.all_eq_true.mpr fun x hx => ?_
    obtain ⟨a, b⟩ := hl.2.2 x hx
    rw [decide_eq_true a, decide_eq_true b]; rfl
  rw [e]; rfl
-- END check_word
theorem sc_check_string : FnScope ["string"] ["string"] (defScope s_check_string) := ⟨rfl, rfl, rfl, by decide +kernel, rfl, by decide +kernel, by decide +kernel⟩
def R_check_string : List PyData → PyData → Prop := fun ds d => ∃ l : List Nat, okT l ∧ l.length ≤ 500 ∧ ds = [dT l] ∧ d = .none
theorem R_check_string_i {l : List Nat} (h : okT l) (h2 : l.length ≤ 500) : R_check_string [dT l] .none := ⟨l, h, h2, rfl, rfl⟩
local macro_rules | `(tactic| walk_at "r2") => `(tactic| exact R_check_string_i (by assumption) (by omega))
theorem R_check_string_len : ∀ ds d, R_check_string ds d → ds.length = 1 := by
  intro ds d hh
  unfold R_check_string at hh
  repeat (obtain ⟨_, hh⟩ := hh)
  subst_eqs
  rfl
theorem ok_check_string {P : Program} {w : World} {K : PySem.W.Frag} {mg : Str → Option Value} {base : Heap} {f : Addr} {fd : FuncData} (F : FnP K "check_string" s_check_string f fd) (g0 : mg "check_string" = some (.ref f)) (h_is_string : Cal P w K mg base 2 "is_string" ["value"] (spD K  R_is_string)) (z_len : mg "len" = none) (c_MOST_CHARACTERS : ∃ t, mg "MOST_CHARACTERS" = some (.int 500 t)) : Cal P w K mg base 3 "check_string" ["string"] (spD K  R_check_string) := by
  refine cal_mk F sc_check_string g0 (spD_len R_check_string_len) (fun _ _ _ _ _ _ us hl => match us, hl with | [_], _ => rfl) (fun cdv A outer s H vs Q E hr h => ⟨_,
    (pss_cons (ps_if (PW.pt (pw_or (pt_not (pt_val (DL.pe_cal h_is_string hr (by decide) (by rfl) pass0 (pa_cons (pv 0) pa_nil)))) (pw_or1 (pt_cmpR op_gt (pe_callB call_len_str (by rfl) z_len (by decide +kernel) (pa_cons (pv 0) pa_nil)) (C8.pe_gc (v := .int 500) (by rfl) (DL.gci c_MOST_CHARACTERS)) (nomark _)))))
     (pss_cons DL.ps_never
     pss_nil)
     pss_nil)
     pss_nil), ?_⟩)
  refine run_spD h fun N ds d hR hq => ?_
  obtain ⟨l, h, hl, rfl, rfl⟩ := hR
  walk_at "env"
  refine gs_if (b := false) (EvT.is (et_or (et_not (et_B (ex_call (ea_cons (ex_var rfl) ea_nil) (R_is_string_i (by omega))))) (fun _ => et_test (ex_b2 (ex_lenS rfl (ex_var rfl) (by omega)) ex_int))) ?_) (fun z => nomatch z) fun _ => g_nextU (g_endR hq)
  have e : l.all okC = true := List.all_eq_true.mpr h
  rw [e]
  simp
  omega
-- END check_string
theorem sc_read_marks : FnScope ["marks", "mark", "distinct"] ["marks"] (defScope s_read_marks) := ⟨rfl, rfl, rfl, by decide +kernel, rfl, by decide +kernel, by decide +kernel⟩
def R_read_marks : List PyData → PyData → Prop := fun ds d => ∃ ms : List (List Nat), (∀ m ∈ ms, Q.isW m) ∧ ms.length ≤ 1000 ∧ (sortT ms).length ≤ 8 ∧ ds = [.tuple (ms.map dT)] ∧ d = .tuple ((sortT ms).map dT)
theorem R_read_marks_i {ms : List (List Nat)} (h : ∀ m ∈ ms, Q.isW m) (hl : ms.length ≤ 1000) (h8 : (sortT ms).length ≤ 8) : R_read_marks [.tuple (ms.map dT)] (.tuple ((sortT ms).map dT)) := ⟨ms, h, hl, h8, rfl, rfl⟩
local macro_rules | `(tactic| walk_at "r2") => `(tactic| exact R_read_marks_i)
theorem R_read_marks_len : ∀ ds d, R_read_marks ds d → ds.length = 1 := by
  intro ds d hh
  unfold R_read_marks at hh
  repeat (obtain ⟨_, hh⟩ := hh)
  subst_eqs
  rfl
theorem ok_read_marks {P : Program} {w : World} {K : PySem.W.Frag} {mg : Str → Option Value} {base : Heap} {f : Addr} {fd : FuncData} (F : FnP K "read_marks" s_read_marks f fd) (g0 : mg "read_marks" = some (.ref f)) (h_check_word : Cal P w K mg base 2 "check_word" ["word"] (spD K  R_check_word)) (z_isinstance : mg "isinstance" = none) (z_list : mg "list" = none) (z_tuple : mg "tuple" = none) (z_sorted : mg "sorted" = none) (z_set : mg "set" = none) (z_len : mg "len" = none) (c_MOST_MARKS : ∃ t, mg "MOST_MARKS" = some (.int 8 t)) : Cal P w K mg base 3 "read_marks" ["marks"] (spD K  R_read_marks) := by
  refine cal_mk F sc_read_marks g0 (spD_len R_read_marks_len) (fun _ _ _ _ _ _ us hl => match us, hl with | [_], _ => rfl) (fun cdv A outer s H vs Q E hr h => ⟨_,
    (pss_cons (ps_if (pt_not (pt_val (pe_callB (DL.kIsiT (K := K)) (by rfl) z_isinstance (by decide +kernel) (pa_cons (pv 0) (pa_cons (pe_tup (pa_cons (pe_bltn (v := .ty "list") (u := .type "list") (by rfl) z_list (by decide +kernel) rfl) (pa_cons (pe_bltn (v := .ty "tuple") (u := .type "tuple") (by rfl) z_tuple (by decide +kernel) rfl) pa_nil))) pa_nil)))))
     (pss_cons DL.ps_never
     pss_nil)
     pss_nil)
     (pss_cons (ps_for PassesOwn.never rfl (DL.kPiT (K := K) (pv 0)) (pg_name (i := 1) sc_read_marks.nd rfl (by first | exact Or.inl rfl | exact Or.inr rfl))
     (pss_cons (ps_expr (DL.pe_cal h_check_word hr (by decide) (by rfl) pass0 (pa_cons (pv 1) pa_nil)))
     pss_nil))
     (pss_cons (ps_set (i := 2) sc_read_marks.nd rfl (by first | exact Or.inl rfl | exact Or.inr rfl) (DL.kSortSt (K := K) (DL.pe_sortSt (by rfl) z_sorted (by rfl) z_set (pv 0) hr.units)))
     (pss_cons (ps_if (pt_cmpR op_gt (pe_callB (DL.kLen (K := K)) (by rfl) z_len (by decide +kernel) (pa_cons (pv 2) pa_nil)) (C8.pe_gc (v := .int 8) (by rfl) (DL.gci c_MOST_MARKS)) (nomark _))
     (pss_cons DL.ps_never
     pss_nil)
     pss_nil)
     (pss_cons (ps_ret (pe_callTy (DL.kTupleOf (K := K)) (by rfl) z_tuple (by decide +kernel) (pa_cons (pv 2) pa_nil)))
     pss_nil))))), ?_⟩)
  refine run_spD h fun N ds d hR hq => ?_
  obtain ⟨ms, hm, hl, h8, rfl, rfl⟩ := hR
  walk_at "env"
  refine gs_if (b := false) (EvT.is (et_not (et_B (ex_isiT (b1 := false) (b2 := true) (ex_var rfl) kit_tuple_list kit_tuple_tuple))) rfl) (fun z => nomatch z) fun _ => g_nextU ?_
  refine' gs_forTu (xs := ms) (f := dT) (fun pre => [some (.i (.tuple (ms.map dT))), none, none]) (fun _ => []) (ex_var rfl) (fun c' _ ad σ H ok => ok) (fun fr up pre x post hx => ⟨_, _, tg_name, ?b1⟩) ?b2
  case b1 =>
    walk_at "nf"
    refine gs_drop (w := true) (d := .none) (ex_call (ea_cons (ex_var rfl) ea_nil) (R_check_word_i (hm x (hx ▸ List.mem_append_right _ (List.mem_cons_self ..))))) ?_
    walk_at "wk"
  case b2 =>
  refine gs_asgF (o := .lst (((sortT ms).map dT).map SV.i)) (ef_sortStT (ex_var rfl) (by omega)) ?_
  walk_at "nf"
  refine gs_if (b := false) (EvT.is (et_test (ex_b2 (ex_lenK (EvR.it (er_var rfl (by simp)) rfl)) ex_int)) ?_) (fun z => nomatch z) fun _ => g_nextU ?_
  · simp; omega
  refine gs_ret (ex_tupleOf rfl (EvR.it (er_var rfl (by simp)) rfl)) hq
-- END read_marks
theorem sc_History___init__ : FnScope ["self", "cells"] ["self", "cells"] (defScope s_History___init__) := ⟨rfl, rfl, rfl, by decide +kernel, rfl, by decide +kernel, by decide +kernel⟩
/-! The page: what its history holds. -/
structure Hs where
  cells : List (Key × PyData)
  done : List PyData
abbrev dkO (m : List (Key × PyData)) : SO := .dK (m.map fun p => (p.1, SV.i p.2))
def shapeH (CH : Addr) (h : Hs) : List SO := [.ob CH [("cells", .r 1), ("_done", .r 2), ("_undone", .i (.list []))], dkO h.cells, .lst (h.done.map SV.i)]
theorem dkO_lt (n : Nat) (m : List (Key × PyData)) : SoLt n (dkO m) := fun p hp => by
  obtain ⟨q, _, rfl⟩ := List.mem_map.mp hp
  exact True.intro
theorem shapeH_ok (CH : Addr) (h : Hs) : ShOk 3 (shapeH CH h) := ⟨rfl, fun i o e => by
  match i, e with
  | 0, e => cases e; rfl
  | 1, e => cases e; rfl
  | 2, e => cases e; rfl, ⟨by simp [SoLt, SvLt], dkO_lt _ _, soLt_data, True.intro⟩⟩
/-- the cells with the changes put in -/
def putM (m : List (Key × PyData)) : List (Key × PyData) → List (Key × PyData)
  | [] => m
  | p :: r => putM (setA m p.1 p.2) r
def preH (CH : Addr) (m : List (Key × PyData)) : List SO := [.ob CH [], dkO m]
theorem preH_ok (CH : Addr) (m : List (Key × PyData)) : ShOk 2 (preH CH m) := ⟨rfl, fun i o e => by
  match i, e with
  | 0, e => cases e; rfl
  | 1, e => cases e; rfl, ⟨by simp [SoLt], dkO_lt _ _, True.intro⟩⟩
structure Pg where
  w : Int
  h : Int
  last : Int
  mom : Int
  marked : List (Key × PyData)
  hs : Hs
def shapeP (CP CH : Addr) (p : Pg) : List SO := [.ob CP [("width", .i (.int p.w)), ("height", .i (.int p.h)), ("_last_id", .i (.int p.last)), ("_moment", .i (.int p.mom)), ("_marked", .r 1), ("_history", .r 3)], dkO p.marked, dkO p.hs.cells, .ob CH [("cells", .r 2), ("_done", .r 4), ("_undone", .i (.list []))], .lst (p.hs.done.map SV.i)]
theorem shapeP_ok (CP CH : Addr) (p : Pg) : ShOk 5 (shapeP CP CH p) := ⟨rfl, fun i o e => by
  match i, e with
  | 0, e => cases e; rfl
  | 1, e => cases e; rfl
  | 2, e => cases e; rfl
  | 3, e => cases e; rfl
  | 4, e => cases e; rfl, ⟨by simp [SoLt, SvLt], dkO_lt _ _, dkO_lt _ _, by simp [SoLt, SvLt], soLt_data, True.intro⟩⟩
/-- where the history stands within a page -/
def fHP : Nat → Nat := fun i => if i = 0 then 3 else if i = 1 then 2 else 4
theorem preP_ok (CP : Addr) (u : Unit) : ShOk 1 ((fun _ : Unit => [SO.ob CP []]) u) := ⟨rfl, fun i o e => by
  match i, e with
  | 0, e => cases e; rfl, ⟨by simp [SoLt], True.intro⟩⟩
theorem getA_dkO {k : Key} : ∀ {m : List (Key × PyData)}, getA (m.map fun p => (p.1, SV.i p.2)) k = (getA m k).map SV.i
  | [] => rfl
  | p :: r => by
    show getA ((p.1, SV.i p.2) :: r.map fun p => (p.1, SV.i p.2)) k = _
    unfold getA
    by_cases h : p.1 = k
    · rw [if_pos h, if_pos h]; rfl
    · rw [if_neg h, if_neg h]; exact getA_dkO
theorem setA_dkO {k : Key} {d : PyData} {m : List (Key × PyData)} : setA (m.map fun p => (p.1, SV.i p.2)) k (SV.i d) = (setA m k d).map fun p => (p.1, SV.i p.2) := by
  unfold setA
  rw [getA_dkO, Option.isSome_map]
  by_cases h : (getA m k).isSome = true
  · rw [if_pos h, if_pos h, List.map_map, List.map_map]
    refine List.map_congr_left fun p _ => ?_
    show (p.1, if p.1 = k then SV.i d else SV.i p.2) = (p.1, SV.i (if p.1 = k then d else p.2))
    by_cases hk : p.1 = k
    · rw [if_pos hk, if_pos hk]
    · rw [if_neg hk, if_neg hk]
  · rw [if_neg h, if_neg h, List.map_append]; rfl
theorem setA_lenQ {k : Key} {d : PyData} (m : List (Key × PyData)) : (setA m k d).length ≤ m.length + 1 := by
  unfold setA
  split <;> simp
theorem putM_len : ∀ (c m : List (Key × PyData)), (putM m c).length ≤ m.length + c.length
  | [], m => Nat.le_refl _
  | p :: r, m => by
    have h1 := putM_len r (setA m p.1 p.2)
    have h2 := setA_lenQ (k := p.1) (d := p.2) m
    show (putM (setA m p.1 p.2) r).length ≤ _
    rw [List.length_cons]; omega
theorem putM_snoc : ∀ (a : List (Key × PyData)) (m : List (Key × PyData)) (p : Key × PyData), putM m (a ++ [p]) = setA (putM m a) p.1 p.2
  | [], _, _ => rfl
  | q :: a, m, p => putM_snoc a (setA m q.1 q.2) p
theorem getA_mid {p : Key × PyData} : ∀ {a b : List (Key × PyData)}, ((a ++ p :: b).map (·.1)).Nodup → getA (a ++ p :: b) p.1 = some p.2
  | [], b, _ => by unfold getA; show (if p.1 = p.1 then _ else _) = _; rw [if_pos rfl]
  | q :: a, b, h => by
    rw [List.cons_append, List.map_cons, List.nodup_cons] at h
    have hne : ¬ q.1 = p.1 := fun e => h.1 (by rw [e]; exact List.mem_map.mpr ⟨p, List.mem_append_right _ (List.mem_cons_self ..), rfl⟩)
    show (if q.1 = p.1 then _ else getA (a ++ p :: b) p.1) = _
    rw [if_neg hne]
    exact getA_mid h.2
def R_History___init__ : List (Key × PyData) → List SV → Hs → Prop := fun m ds y => ds = [.r 0, .r 1] ∧ y = ⟨m, []⟩
theorem R_History___init___len : ∀ x ds y, R_History___init__ x ds y → ds.length = 2 := by
  intro x ds y hh
  unfold R_History___init__ at hh
  repeat (obtain ⟨_, hh⟩ := hh)
  subst_eqs
  rfl
theorem ok_History___init__ {P : Program} {w : World} {K : PySem.W.Frag} {mg : Str → Option Value} {base : Heap} {f : Addr} {fd : FuncData} (F : DL.FnM K "__init__" "History.__init__" s_History___init__ [] f fd) {C_History : Addr} (kC_History : Cls K C_History) (n_History_cells : NoAttr K C_History "cells") (n_History__done : NoAttr K C_History "_done") (n_History__undone : NoAttr K C_History "_undone") (M : Mk K C_History f) (g0 : mg "History" = some (.ref C_History)) : DL.MakN P w K mg base 1 "History" C_History ["self", "cells"] (DL.spK K 2 3 (preH C_History) (shapeH C_History) R_History___init__) := by
  refine DL.makN_mk F sc_History___init__ M g0 (DL.spK_len R_History___init___len) (fun _ _ _ _ _ _ us hl => match us, hl with | [_, _], _ => rfl) (fun cdv A outer s H vs Q E hr h => ⟨_,
    (pss_cons (DL.kSetFld (K := K) (pv 0) (pv 1))
     (pss_cons (DL.kSetFld (K := K) (pv 0) (pe_lst pa_nil))
     (pss_cons (DL.kSetFld (K := K) (pv 0) (pe_lst pa_nil))
     pss_nil))), ?_⟩)
  refine DL.run_spK h (Nat.le_trans (Nat.le_of_eq (DL.spK_len R_History___init___len _ _ _ _ h)) (by decide)) (by decide) fun N ad x ds hsh hR hq => ?_
  obtain ⟨y, rfl, rfl⟩ := hR
  simp only [envG, List.map, List.length, List.replicate, List.cons_append, List.nil_append, Nat.reduceAdd, Nat.reduceSub, Nat.sub_self]
  unfold preH
  refine gs_setFld (k := 0) (s := .r 1) (show EvR _ _ _ _ _ from er_var rfl (by simp)) (er_var rfl (by simp)) rfl kC_History n_History_cells (by simp) ?_
  refine gs_is (os' := [.ob C_History [("cells", .r 1)], dkO x]) rfl rfl ?_
  refine gs_setFldF (k := 0) (o := .lst []) (ef_lst eas_nil (Nat.zero_le _)) (er_var rfl (by simp)) rfl kC_History n_History__done (by simp) ?_
  refine gs_is (os' := [.ob C_History [("cells", .r 1), ("_done", .r 2)], dkO x, .lst []]) rfl rfl ?_
  refine gs_setFld (k := 0) (s := .i (.list [])) (show EvX false _ _ _ _ _ from EvF.ev (ds := []) (ef_lst eas_nil (Nat.zero_le _))) (er_var rfl (by simp)) rfl kC_History n_History__undone (by simp) ?_
  refine gs_is (os' := shapeH C_History ⟨x, []⟩) rfl rfl ?_
  exact g_endK (y := ⟨x, []⟩) hq (fun i o e => e) (shapeH_ok _ _) ⟨rfl, rfl⟩
-- END History___init__
theorem sc_History__put : FnScope ["self", "changes", "key"] ["self", "changes"] (defScope s_History__put) := ⟨rfl, rfl, rfl, by decide +kernel, rfl, by decide +kernel, by decide +kernel⟩
/-! The tree of a page. -/
structure Rw where
  par : Int
  box : Bool
  con : PyData
  marks : PyData
  own : PyData
  scr : PyData
  kids : List Int
def kdS (b : Bool) : Str := if b then "box" else "text"
def Rw.l (r : Rw) : List PyData := [.int r.par, .str (kdS r.box), r.con, r.marks, r.own, r.scr, .tuple (r.kids.map PyData.int)]
def Rw.d (r : Rw) : PyData := .tuple r.l
def intsOf : List PyData → Option (List Int)
  | [] => some []
  | .int i :: r => (intsOf r).map (i :: ·)
  | _ => none
theorem intsOf_map : ∀ l : List Int, intsOf (l.map PyData.int) = some l
  | [] => rfl
  | i :: l => by show (intsOf (l.map PyData.int)).map (i :: ·) = _; rw [intsOf_map l]; rfl
def kdOf (k : Str) : Option Bool := if k = kdS true then some true else if k = kdS false then some false else none
theorem kdOf_kdS (b : Bool) : kdOf (kdS b) = some b := by cases b <;> decide +kernel
def decR : PyData → Option Rw
  | .tuple [.int p, .str k, c, m, o, s, .tuple ks] => (intsOf ks).bind fun l => (kdOf k).map fun b => ⟨p, b, c, m, o, s, l⟩
  | _ => none
theorem decR_d (r : Rw) : decR r.d = some r := by
  show (intsOf (r.kids.map PyData.int)).bind (fun l => (kdOf (kdS r.box)).map fun b => (⟨r.par, b, r.con, r.marks, r.own, r.scr, l⟩ : Rw)) = _
  rw [intsOf_map, kdOf_kdS]
  rfl
theorem Rw.d_inj {r s : Rw} (h : r.d = s.d) : r = s := Option.some.inj ((decR_d r).symm.trans ((congrArg decR h).trans (decR_d s)))
/-- the tree of the cells -/
def tr (m : List (Key × PyData)) (n : Int) : Option Rw := (getA m (.inl n)).bind decR
/-- what stands under a number is a row -/
def Rows (m : List (Key × PyData)) : Prop := ∀ n d, getA m (.inl n) = some d → ∃ r : Rw, d = r.d ∧ noList r.d = true
theorem tr_get {m : List (Key × PyData)} (h : Rows m) {n : Int} {r : Rw} : tr m n = some r ↔ getA m (.inl n) = some r.d := by
  unfold tr
  constructor
  · intro e
    cases hg : getA m (.inl n) with
    | none => rw [hg] at e; cases e
    | some d =>
      rw [hg] at e
      obtain ⟨r2, rfl, _⟩ := h n d hg
      have e : decR r2.d = some r := e
      rw [decR_d] at e
      cases e
      rfl
  · intro e
    rw [e]
    exact decR_d r
theorem tr_none {m : List (Key × PyData)} (h : Rows m) {n : Int} : tr m n = none ↔ getA m (.inl n) = none := by
  unfold tr
  constructor
  · intro e
    cases hg : getA m (.inl n) with
    | none => rfl
    | some d =>
      rw [hg] at e
      obtain ⟨r2, rfl, _⟩ := h n d hg
      have e : decR r2.d = none := e
      rw [decR_d] at e
      cases e
  · intro e
    rw [e]
    rfl
theorem tr_nl {m : List (Key × PyData)} (h : Rows m) {n : Int} {r : Rw} (hr : tr m n = some r) : noList r.d = true := by
  obtain ⟨r2, e, h2⟩ := h n _ ((tr_get h).mp hr)
  rwa [e]
theorem noLists_int : ∀ l : List Int, noLists (l.map PyData.int) = true
  | [] => rfl
  | _ :: l => by rw [List.map_cons]; show (true && noLists (l.map PyData.int)) = true; rw [noLists_int l]; rfl
theorem noList_kids {r : Rw} {l : List Int} (h : noList r.d = true) : noList ({ r with kids := l } : Rw).d = true := by
  simp only [Rw.d, Rw.l, noList, noLists, noLists_int] at h ⊢
  exact h
abbrev Tree := Int → Option Rw
/-- the nodes below n, in document order -/
def pre (t : Tree) : Nat → Int → List Int
  | 0, _ => []
  | f + 1, n => match t n with
    | none => []
    | some r => n :: (r.kids.map (pre t f)).flatten
def sub (t : Tree) (n : Int) : List Int := pre t 31 n
def dp (t : Tree) : Nat → Int → Nat
  | 0, _ => 0
  | f + 1, n => match t n with
    | none => 0
    | some r => if r.par = 0 then 1 else dp t f r.par + 1
def depth (t : Tree) (n : Int) : Nat := dp t 31 n
structure WF (t : Tree) (last : Int) (dep : Int → Nat) : Prop where
  root : ∃ r, t 1 = some r ∧ r.par = 0 ∧ r.box = true
  d1 : dep 1 = 1
  kid : ∀ n r c, t n = some r → c ∈ r.kids → ∃ rc, t c = some rc ∧ rc.par = n ∧ dep c = dep n + 1
  par : ∀ n r, t n = some r → n ≠ 1 → ∃ rp, t r.par = some rp ∧ rp.box = true ∧ n ∈ rp.kids
  nd : ∀ n r, t n = some r → r.kids.Nodup
  dep30 : ∀ n r, t n = some r → 1 ≤ dep n ∧ dep n ≤ 30
  id : ∀ n r, t n = some r → 1 ≤ n ∧ n ≤ last
  txt : ∀ n r, t n = some r → r.box = false → r.kids = []
section
variable {t : Tree} {last : Int} {dep : Int → Nat}
theorem pre_eq (W : WF t last dep) : ∀ (f g : Nat) (n : Int) (r : Rw), t n = some r → 31 - dep n ≤ f → 31 - dep n ≤ g → pre t f n = pre t g n
  | 0, g, n, r, h, h1, h2 => by have := W.dep30 n r h; omega
  | f + 1, 0, n, r, h, h1, h2 => by have := W.dep30 n r h; omega
  | f + 1, g + 1, n, r, h, h1, h2 => by
    show (match t n with | none => [] | some r => n :: (r.kids.map (pre t f)).flatten) = (match t n with | none => [] | some r => n :: (r.kids.map (pre t g)).flatten)
    rw [h]
    show n :: (r.kids.map (pre t f)).flatten = n :: (r.kids.map (pre t g)).flatten
    rw [List.map_congr_left (fun c hc => by
      obtain ⟨rc, e1, _, e3⟩ := W.kid n r c h hc
      exact pre_eq W f g c rc e1 (by omega) (by omega))]
theorem sub_eq (W : WF t last dep) {n : Int} {r : Rw} (h : t n = some r) : sub t n = n :: (r.kids.map (sub t)).flatten := by
  have e : sub t n = pre t 32 n := pre_eq W 31 32 n r h (by omega) (by omega)
  rw [e]
  show (match t n with | none => [] | some r => n :: (r.kids.map (pre t 31)).flatten) = _
  rw [h]
  rfl
theorem sub_self (W : WF t last dep) {n : Int} {r : Rw} (h : t n = some r) : n ∈ sub t n := by rw [sub_eq W h]; exact List.mem_cons_self ..
/-- below n: n itself, or below a child of it -/
theorem mem_sub (W : WF t last dep) {n x : Int} {r : Rw} (h : t n = some r) : x ∈ sub t n ↔ x = n ∨ ∃ c ∈ r.kids, x ∈ sub t c := by
  rw [sub_eq W h, List.mem_cons, List.mem_flatten]
  constructor
  · rintro (e | ⟨l, hl, hx⟩)
    · exact Or.inl e
    · obtain ⟨c, hc, rfl⟩ := List.mem_map.mp hl
      exact Or.inr ⟨c, hc, hx⟩
  · rintro (e | ⟨c, hc, hx⟩)
    · exact Or.inl e
    · exact Or.inr ⟨_, List.mem_map.mpr ⟨c, hc, rfl⟩, hx⟩
theorem sub_in (W : WF t last dep) : ∀ (k : Nat) {n x : Int} {r : Rw}, 31 - dep n ≤ k → t n = some r → x ∈ sub t n → ∃ rx, t x = some rx ∧ dep n ≤ dep x
  | 0, n, x, r, hk, h, hx => by have := W.dep30 n r h; omega
  | k + 1, n, x, r, hk, h, hx => by
    rcases (mem_sub W h).mp hx with e | ⟨c, hc, hx⟩
    · subst e; exact ⟨r, h, Nat.le_refl _⟩
    · obtain ⟨rc, e1, _, e3⟩ := W.kid n r c h hc
      obtain ⟨rx, z1, z2⟩ := sub_in W k (n := c) (by omega) e1 hx
      exact ⟨rx, z1, by omega⟩
theorem sub_some (W : WF t last dep) {n x : Int} {r : Rw} (h : t n = some r) (hx : x ∈ sub t n) : ∃ rx, t x = some rx ∧ dep n ≤ dep x := sub_in W _ (Nat.le_refl _) h hx
/-- .. then its parent is below n, too -/
theorem sub_par (W : WF t last dep) : ∀ (k : Nat) {n x : Int} {r rx : Rw}, 31 - dep n ≤ k → t n = some r → t x = some rx → x ∈ sub t n → x = n ∨ rx.par ∈ sub t n
  | 0, n, x, r, rx, hk, h, _, hx => by have := W.dep30 n r h; omega
  | k + 1, n, x, r, rx, hk, h, hr, hx => by
    rcases (mem_sub W h).mp hx with e | ⟨c, hc, hx⟩
    · exact Or.inl e
    · obtain ⟨rc, e1, e2, e3⟩ := W.kid n r c h hc
      rcases sub_par W k (n := c) (by omega) e1 hr hx with e | z
      · subst e
        rw [hr] at e1
        cases e1
        rw [e2]
        exact Or.inr (sub_self W h)
      · exact Or.inr ((mem_sub W h).mpr (Or.inr ⟨c, hc, z⟩))
theorem sub_dep (W : WF t last dep) {n x : Int} {r : Rw} (h : t n = some r) (hx : x ∈ sub t n) (hd : dep x = dep n) : x = n := by
  rcases (mem_sub W h).mp hx with e | ⟨c, hc, hx⟩
  · exact e
  · obtain ⟨rc, e1, e2, e3⟩ := W.kid n r c h hc
    obtain ⟨rx, z1, z2⟩ := sub_some W e1 hx
    omega
/-- two nodes of one depth have nothing in common below -/
theorem sub_disj (W : WF t last dep) {a b : Int} {ra rb : Rw} (ha : t a = some ra) (hb : t b = some rb) (hd : dep a = dep b) : ∀ (k : Nat) (x : Int), dep x ≤ k → x ∈ sub t a → x ∈ sub t b → a = b
  | k, x, hk, xa, xb => by
    obtain ⟨rx, hx, h1⟩ := sub_some W ha xa
    rcases sub_par W _ (Nat.le_refl _) ha hx xa with e | pa
    · exact sub_dep W hb (e ▸ xb) (e ▸ hd)
    · rcases sub_par W _ (Nat.le_refl _) hb hx xb with e | pb
      · exact (sub_dep W ha (e ▸ xa) (e ▸ hd.symm)).symm
      · obtain ⟨rp, hp, h2⟩ := sub_some W ha pa
        have h3 := (W.dep30 _ _ hp).1
        have hx1 : x ≠ 1 := fun e => by
          obtain ⟨r1, g1, g2, _⟩ := W.root
          subst e
          rw [hx] at g1
          cases g1
          rw [g2] at hp
          have := (W.id _ _ hp).1
          omega
        obtain ⟨rq, e1, _, e3⟩ := W.par x rx hx hx1
        obtain ⟨_, _, _, e4⟩ := W.kid _ rq x e1 e3
        match k, hk with
        | 0, hk => omega
        | k + 1, hk => exact sub_disj W ha hb hd k rx.par (by omega) pa pb
theorem sub_nodup (W : WF t last dep) : ∀ (k : Nat) {n : Int} {r : Rw}, 31 - dep n ≤ k → t n = some r → (sub t n).Nodup
  | 0, n, r, hk, h => by have := W.dep30 n r h; omega
  | k + 1, n, r, hk, h => by
    rw [sub_eq W h, List.nodup_cons]
    constructor
    · rw [List.mem_flatten]
      rintro ⟨l, hl, hx⟩
      obtain ⟨c, hc, rfl⟩ := List.mem_map.mp hl
      obtain ⟨rc, e1, e2, e3⟩ := W.kid n r c h hc
      obtain ⟨_, _, z⟩ := sub_some W e1 hx
      omega
    · refine List.pairwise_flatten.mpr ⟨fun l hl => ?_, ?_⟩
      · obtain ⟨c, hc, rfl⟩ := List.mem_map.mp hl
        obtain ⟨rc, e1, e2, e3⟩ := W.kid n r c h hc
        exact sub_nodup W k (n := c) (by omega) e1
      · rw [List.pairwise_map]
        refine List.Pairwise.imp_of_mem ?_ (W.nd n r h)
        intro a b ha hb hab x hx y hy hxy
        obtain ⟨ra, e1, _, e3⟩ := W.kid n r a h ha
        obtain ⟨rb, g1, _, g3⟩ := W.kid n r b h hb
        subst hxy
        exact hab (sub_disj W e1 g1 (by omega) _ x (Nat.le_refl _) hx hy)
theorem sub_nd (W : WF t last dep) {n : Int} {r : Rw} (h : t n = some r) : (sub t n).Nodup := sub_nodup W _ (Nat.le_refl _) h
theorem kid_sub (W : WF t last dep) : ∀ (k : Nat) {n x c : Int} {r rx : Rw}, 31 - dep n ≤ k → t n = some r → x ∈ sub t n → t x = some rx → c ∈ rx.kids → c ∈ sub t n
  | 0, n, _, _, r, _, hk, h, _, _, _ => by have := W.dep30 n r h; omega
  | k + 1, n, x, c, r, rx, hk, h, hx, hrx, hc => by
    rcases (mem_sub W h).mp hx with e | ⟨a, ha, hx⟩
    · subst e
      rw [hrx] at h
      cases h
      obtain ⟨rc, e1, _, _⟩ := W.kid x _ c hrx hc
      exact (mem_sub W hrx).mpr (Or.inr ⟨c, hc, sub_self W e1⟩)
    · obtain ⟨ra, e1, _, e3⟩ := W.kid n r a h ha
      exact (mem_sub W h).mpr (Or.inr ⟨a, ha, kid_sub W k (n := a) (by omega) e1 hx hrx hc⟩)
theorem all_sub (W : WF t last dep) : ∀ (k : Nat) {n : Int} {r : Rw}, dep n ≤ k → t n = some r → n ∈ sub t 1
  | 0, n, r, hk, h => by have := (W.dep30 n r h).1; omega
  | k + 1, n, r, hk, h => by
    obtain ⟨r1, g1, g2, _⟩ := W.root
    by_cases e : n = 1
    · subst e; exact sub_self W h
    · obtain ⟨rp, e1, _, e3⟩ := W.par n r h e
      obtain ⟨_, _, _, e4⟩ := W.kid _ rp n e1 e3
      exact kid_sub W _ (Nat.le_refl _) g1 (all_sub W k (n := r.par) (by omega) e1) e1 e3
theorem mem_all (W : WF t last dep) {n : Int} : n ∈ sub t 1 ↔ (t n).isSome = true := by
  obtain ⟨r1, g1, _, _⟩ := W.root
  constructor
  · intro h
    obtain ⟨rx, e, _⟩ := sub_some W g1 h
    rw [e]; rfl
  · intro h
    obtain ⟨r, e⟩ := Option.isSome_iff_exists.mp h
    exact all_sub W _ (Nat.le_refl _) e
theorem sub_le (W : WF t last dep) {n : Int} {r : Rw} (h : t n = some r) : (sub t n).length ≤ (sub t 1).length :=
  List.Nodup.length_le_of_subset (sub_nd W h) fun x hx => by
    obtain ⟨rx, e, _⟩ := sub_some W h hx
    exact (mem_all W).mpr (by rw [e]; rfl)
theorem dp_eq (W : WF t last dep) : ∀ (f : Nat) {n : Int} {r : Rw}, t n = some r → dep n ≤ f → dp t f n = dep n
  | 0, n, r, h, hf => by have := (W.dep30 n r h).1; omega
  | f + 1, n, r, h, hf => by
    show (match t n with | none => 0 | some r => if r.par = 0 then 1 else dp t f r.par + 1) = _
    rw [h]
    show (if r.par = 0 then 1 else dp t f r.par + 1) = _
    by_cases e : n = 1
    · obtain ⟨r1, g1, g2, _⟩ := W.root
      subst e
      rw [h] at g1
      cases g1
      rw [if_pos g2, W.d1]
    · obtain ⟨rp, e1, _, e3⟩ := W.par n r h e
      obtain ⟨_, _, _, e4⟩ := W.kid _ rp n e1 e3
      have := (W.id _ _ e1).1
      rw [if_neg (by omega), dp_eq W f e1 (by omega)]
      omega
theorem depth_eq (W : WF t last dep) {n : Int} {r : Rw} (h : t n = some r) : depth t n = dep n := dp_eq W 31 h (by have := W.dep30 n r h; omega)
end
/-! ### a new node -/
def setT (t : Tree) (n : Int) (r : Option Rw) : Tree := fun k => if k = n then r else t k
def insL (l : List Int) (i : Nat) (c : Int) : List Int := l.take i ++ [c] ++ l.drop i
theorem mem_insL {l : List Int} {i : Nat} {c x : Int} : x ∈ insL l i c ↔ x = c ∨ x ∈ l := by
  unfold insL
  constructor
  · intro h
    simp only [List.mem_append, List.mem_singleton] at h
    rcases h with (h | h) | h
    · exact Or.inr (List.mem_of_mem_take h)
    · exact Or.inl h
    · exact Or.inr (List.mem_of_mem_drop h)
  · intro h
    simp only [List.mem_append, List.mem_singleton]
    rcases h with h | h
    · exact Or.inl (Or.inr h)
    · rw [← List.take_append_drop i l] at h
      rcases List.mem_append.mp h with h | h
      · exact Or.inl (Or.inl h)
      · exact Or.inr h
theorem nodup_insL {l : List Int} {i : Nat} {c : Int} (h : l.Nodup) (hc : c ∉ l) : (insL l i c).Nodup := by
  unfold insL
  have h2 := h
  rw [← List.take_append_drop i l, List.nodup_append] at h2
  obtain ⟨a1, a2, a3⟩ := h2
  rw [List.append_assoc, List.nodup_append]
  refine ⟨a1, ?_, fun a ha b hb => ?_⟩
  · rw [List.singleton_append, List.nodup_cons]
    exact ⟨fun z => hc (List.mem_of_mem_drop z), a2⟩
  · rw [List.singleton_append] at hb
    rcases List.mem_cons.mp hb with e | hb
    · subst e; exact fun e => hc (e ▸ List.mem_of_mem_take ha)
    · exact a3 a ha b hb
def insT (t : Tree) (p : Int) (rp : Rw) (i : Nat) (n : Int) (r : Rw) : Tree := setT (setT t p (some { rp with kids := insL rp.kids i n })) n (some r)
theorem wf_ins {t : Tree} {last : Int} {dep : Int → Nat} (W : WF t last dep) {p : Int} {rp r : Rw} {i : Nat} (hp : t p = some rp) (hb : rp.box = true) (hd : dep p + 1 ≤ 30) (hr : r.par = p) (hk : r.kids = []) : WF (insT t p rp i (last + 1) r) (last + 1) (fun k => if k = last + 1 then dep p + 1 else dep k) := by
  obtain ⟨r1, g1, g2, g3⟩ := W.root
  have hpl := W.id p rp hp
  have hfree : t (last + 1) = none := by
    cases h : t (last + 1) with
    | none => rfl
    | some q => have := (W.id _ _ h).2; omega
  have gN : insT t p rp i (last + 1) r (last + 1) = some r := by unfold insT setT; rw [if_pos rfl]
  have gP : insT t p rp i (last + 1) r p = some { rp with kids := insL rp.kids i (last + 1) } := by unfold insT setT; rw [if_neg (by omega), if_pos rfl]
  have gO : ∀ k, k ≠ last + 1 → k ≠ p → insT t p rp i (last + 1) r k = t k := fun k h1 h2 => by unfold insT setT; rw [if_neg h1, if_neg h2]
  have h1l := W.id 1 r1 g1
  have dN : ∀ k q, t k = some q → (if k = last + 1 then dep p + 1 else dep k) = dep k := fun k q h => by
    have := (W.id k q h).2
    rw [if_neg (by omega)]
  -- what stands in the new tree
  have cs : ∀ k q, insT t p rp i (last + 1) r k = some q → (k = last + 1 ∧ q = r) ∨ (k ≠ last + 1 ∧ ∃ q0, t k = some q0 ∧ q.par = q0.par ∧ q.box = q0.box ∧ ((k ≠ p ∧ q = q0) ∨ (k = p ∧ q0 = rp ∧ q.kids = insL rp.kids i (last + 1)))) := fun k q h => by
    by_cases e1 : k = last + 1
    · subst e1; rw [gN] at h; cases h; exact Or.inl ⟨rfl, rfl⟩
    · by_cases e2 : k = p
      · subst e2; rw [gP] at h; cases h; exact Or.inr ⟨e1, rp, hp, rfl, rfl, Or.inr ⟨rfl, rfl, rfl⟩⟩
      · rw [gO k e1 e2] at h; exact Or.inr ⟨e1, q, h, rfl, rfl, Or.inl ⟨e2, rfl⟩⟩
  -- what stood stands
  have up : ∀ k q0, t k = some q0 → ∃ q, insT t p rp i (last + 1) r k = some q ∧ q.par = q0.par ∧ q.box = q0.box ∧ ∀ c ∈ q0.kids, c ∈ q.kids := fun k q0 h => by
    have e1 : k ≠ last + 1 := by have := (W.id k q0 h).2; omega
    by_cases e2 : k = p
    · subst e2
      rw [hp] at h
      cases h
      exact ⟨_, gP, rfl, rfl, fun c hc => mem_insL.mpr (Or.inr hc)⟩
    · exact ⟨q0, (gO k e1 e2).trans h, rfl, rfl, fun c hc => hc⟩
  refine ⟨?_, ?_, ?_, ?_, ?_, ?_, ?_, ?_⟩
  · obtain ⟨q, a, b, c, _⟩ := up 1 r1 g1
    exact ⟨q, a, b.trans g2, c.trans g3⟩
  · show (if (1 : Int) = last + 1 then _ else _) = 1
    rw [dN 1 r1 g1]
    exact W.d1
  · intro n q c hn hc
    rcases cs n q hn with ⟨e, rfl⟩ | ⟨e, q0, h0, _, _, ⟨e2, rfl⟩ | ⟨rfl, rfl, e3⟩⟩
    · rw [hk] at hc; cases hc
    · obtain ⟨rc, z1, z2, z3⟩ := W.kid n q c h0 hc
      obtain ⟨q2, y1, y2, _⟩ := up c rc z1
      refine ⟨q2, y1, y2.trans z2, ?_⟩
      show (if c = last + 1 then _ else _) = (if n = last + 1 then _ else _) + 1
      rw [dN c rc z1, dN n q h0, z3]
    · rw [e3] at hc
      rcases mem_insL.mp hc with rfl | hc
      · refine ⟨r, gN, hr, ?_⟩
        show (if last + 1 = last + 1 then _ else _) = (if n = last + 1 then _ else _) + 1
        rw [if_pos rfl, if_neg e]
      · obtain ⟨rc, z1, z2, z3⟩ := W.kid n q0 c h0 hc
        obtain ⟨q2, y1, y2, _⟩ := up c rc z1
        refine ⟨q2, y1, y2.trans z2, ?_⟩
        show (if c = last + 1 then _ else _) = (if n = last + 1 then _ else _) + 1
        rw [dN c rc z1, dN n q0 h0, z3]
  · intro n q hn h1
    rcases cs n q hn with ⟨rfl, rfl⟩ | ⟨e, q0, h0, e4, _, _⟩
    · rw [hr]
      exact ⟨_, gP, hb, mem_insL.mpr (Or.inl rfl)⟩
    · obtain ⟨rq, z1, z2, z3⟩ := W.par n q0 h0 h1
      obtain ⟨q2, y1, _, y3, y4⟩ := up _ rq z1
      rw [e4]
      exact ⟨q2, y1, y3.trans z2, y4 _ z3⟩
  · intro n q hn
    rcases cs n q hn with ⟨rfl, rfl⟩ | ⟨e, q0, h0, e4, _, ⟨e2, rfl⟩ | ⟨rfl, rfl, e3⟩⟩
    · rw [hk]; exact List.nodup_nil
    · exact W.nd n q h0
    · rw [e3]
      refine nodup_insL (W.nd n q0 h0) fun z => ?_
      obtain ⟨rc, z1, _⟩ := W.kid n q0 _ h0 z
      rw [hfree] at z1
      cases z1
  · intro n q hn
    show 1 ≤ (if n = last + 1 then _ else _) ∧ (if n = last + 1 then _ else _) ≤ 30
    rcases cs n q hn with ⟨rfl, rfl⟩ | ⟨e, q0, h0, _⟩
    · rw [if_pos rfl]; omega
    · rw [if_neg e]; exact W.dep30 n q0 h0
  · intro n q hn
    rcases cs n q hn with ⟨rfl, rfl⟩ | ⟨e, q0, h0, _⟩
    · omega
    · have := W.id n q0 h0; omega
  · intro n q hn h1
    rcases cs n q hn with ⟨rfl, rfl⟩ | ⟨e, q0, h0, _, e5, ⟨e2, rfl⟩ | ⟨rfl, rfl, e3⟩⟩
    · exact hk
    · exact W.txt n q h0 h1
    · rw [e5, hb] at h1; cases h1
theorem count_ins {t : Tree} {last : Int} {dep : Int → Nat} (W : WF t last dep) {p : Int} {rp r : Rw} {i : Nat} (hp : t p = some rp) (hb : rp.box = true) (hd : dep p + 1 ≤ 30) (hr : r.par = p) (hk : r.kids = []) : (sub (insT t p rp i (last + 1) r) 1).length = (sub t 1).length + 1 := by
  have W2 := wf_ins W (i := i) hp hb hd hr hk
  obtain ⟨r1, g1, _⟩ := W.root
  obtain ⟨r2, g2, _⟩ := W2.root
  have hfree : t (last + 1) = none := by
    cases h : t (last + 1) with
    | none => rfl
    | some q => have := (W.id _ _ h).2; omega
  have key : ∀ x, x ∈ sub (insT t p rp i (last + 1) r) 1 ↔ x ∈ (last + 1) :: sub t 1 := fun x => by
    rw [mem_all W2, List.mem_cons, mem_all W]
    unfold insT setT
    by_cases e : x = last + 1
    · simp [e]
    · by_cases e2 : x = p
      · have := (W.id p rp hp).2
        have e3 : ¬ p = last + 1 := by omega
        simp [e2, hp, e3]
      · simp [e, e2]
  have nd : ((last + 1) :: sub t 1).Nodup := by
    rw [List.nodup_cons]
    refine ⟨fun z => ?_, sub_nd W g1⟩
    rw [mem_all W, hfree] at z
    cases z
  have h1 := List.Nodup.length_le_of_subset (sub_nd W2 g2) fun x hx => (key x).mp hx
  have h2 := List.Nodup.length_le_of_subset nd fun x hx => (key x).mpr hx
  rw [List.length_cons] at h1 h2
  omega
/-! A page as data, and what holds of it. -/
abbrev hsM (h : Hs) : List (Str × PyData) := [("cells", dK0 h.cells), ("_done", .list h.done), ("_undone", .list [])]
abbrev pgM (CH : Addr) (p : Pg) : List (Str × PyData) := [("width", .int p.w), ("height", .int p.h), ("_last_id", .int p.last), ("_moment", .int p.mom), ("_marked", dK0 p.marked), ("_history", insD CH (hsM p.hs))]
abbrev pgD (CP CH : Addr) (p : Pg) : PyData := insD CP (pgM CH p)
/-- a page in the store, read as data -/
theorem pg_dat {CP CH : Addr} {p : Pg} {os : List SO} {b m k cl dn : Nat} (h0 : os[b]? = some (.ob CP [("width", .i (.int p.w)), ("height", .i (.int p.h)), ("_last_id", .i (.int p.last)), ("_moment", .i (.int p.mom)), ("_marked", .r m), ("_history", .r k)])) (h1 : os[m]? = some (dkO p.marked)) (h2 : os[cl]? = some (dkO p.hs.cells)) (h3 : os[k]? = some (.ob CH [("cells", .r cl), ("_done", .r dn), ("_undone", .i (.list []))])) (h4 : os[dn]? = some (.lst (p.hs.done.map SV.i))) : DatO os (.r b) (pgD CP CH p) :=
  .ob h0 (.cons (.i _) (.cons (.i _) (.cons (.i _) (.cons (.i _) (.cons (.dK h1 (DatK.i _)) (.cons (.ob h3 (.cons (.dK h2 (DatK.i _)) (.cons (.lst h4 (DatL.i _)) (.cons (.i _) .nil)))) .nil))))))
theorem pg_datS (CP CH : Addr) (p : Pg) : DatO (shapeP CP CH p) (.r 0) (pgD CP CH p) := pg_dat (m := 1) (k := 3) (cl := 2) (dn := 4) rfl rfl rfl rfl rfl
/-- the tree of a page -/
abbrev Pg.t (p : Pg) : Tree := tr p.hs.cells
/-- what holds of a page -/
structure PgOk (p : Pg) : Prop where
  rows : Rows p.hs.cells
  wf : ∃ dep, WF p.t p.last dep
  win : getA p.hs.cells (.inr "window") = some (.tuple [.int p.w, .int p.h])
  n300 : (sub p.t 1).length ≤ 300
  cl : p.hs.cells.length ≤ p.hs.done.length + 3
  dn : p.hs.done.length ≤ 4000
  mkd : (p.marked.map (·.1)).Nodup ∧ (∀ q ∈ p.marked, ∃ n : Int, q.1 = .inl n ∧ 1 ≤ n ∧ n ≤ p.last)
  ls : p.last ≤ p.hs.done.length + 1
theorem nodup_ints : ∀ {l : List Int} {m : Nat}, l.Nodup → (∀ n ∈ l, 1 ≤ n ∧ n ≤ (m : Int)) → l.length ≤ m := fun {l m} h hb => by
  have h2 : ((List.range m).map fun i => ((i + 1 : Nat) : Int)).length = m := by simp
  have := List.Nodup.length_le_of_subset (l₂ := (List.range m).map fun i => ((i + 1 : Nat) : Int)) h fun x hx => by
    obtain ⟨a, b⟩ := hb x hx
    refine List.mem_map.mpr ⟨x.toNat - 1, List.mem_range.mpr (by omega), by omega⟩
  omega
theorem PgOk.mkl {p : Pg} (h : PgOk p) : p.marked.length ≤ 4001 := by
  have h2 := h.ls
  have h3 := h.dn
  obtain ⟨a, b⟩ := h.mkd
  have hl : ∃ l : List Int, p.marked.map (·.1) = l.map Sum.inl ∧ ∀ n ∈ l, 1 ≤ n ∧ n ≤ p.last := by
    clear a
    generalize p.marked = mm at b
    induction mm with
    | nil => exact ⟨[], rfl, fun _ h => absurd h List.not_mem_nil⟩
    | cons q mm ih =>
      obtain ⟨l, e, hl⟩ := ih fun q hq => b q (List.mem_cons_of_mem _ hq)
      obtain ⟨n, e1, e2⟩ := b q (List.mem_cons_self ..)
      refine ⟨n :: l, by rw [List.map_cons, e, e1]; rfl, fun k hk => ?_⟩
      rcases List.mem_cons.mp hk with z | z
      · rw [z]; exact e2
      · exact hl k z
  obtain ⟨l, e, hl⟩ := hl
  have hn : l.Nodup := by
    rw [e] at a
    exact List.Pairwise.of_map _ (fun x y hxy e => hxy (congrArg Sum.inl e)) a
  have := nodup_ints (m := 4001) hn fun n hn => by have := hl n hn; omega
  have e2 := congrArg List.length e
  rw [List.length_map, List.length_map] at e2
  omega
/-! What a step does to a page. -/
def winOf (m : List (Key × PyData)) : Int × Int := match getA m (.inr "window") with | some (.tuple [.int w, .int h]) => (w, h) | _ => (0, 0)
def below (m : List (Key × PyData)) (n : Int) : List Int := if (getA m (.inl n)).isSome then sub (tr m) n else []
def markM (m : List (Key × PyData)) (l : List Int) (t : Int) : List (Key × PyData) := putM m (l.map fun k => ((.inl k : Key), PyData.int t))
def follow (p : Pg) (n : Int) : Pg := { p with w := (winOf p.hs.cells).1, h := (winOf p.hs.cells).2, mom := p.mom + 1, marked := markM p.marked (below p.hs.cells n) (p.mom + 1) }
structure FolOk (p : Pg) (n : Int) : Prop where
  win : getA p.hs.cells (.inr "window") = some (.tuple [.int (winOf p.hs.cells).1, .int (winOf p.hs.cells).2])
  br : getA p.hs.cells (.inl n) = none ∨ ∃ last dep r, Rows p.hs.cells ∧ WF (tr p.hs.cells) last dep ∧ (sub (tr p.hs.cells) 1).length ≤ 300 ∧ tr p.hs.cells n = some r
  mkl : p.marked.length ≤ 90000
theorem markM_snoc (m : List (Key × PyData)) (l : List Int) (k t : Int) : markM m (l ++ [k]) t = setA (markM m l t) (.inl k) (.int t) := by
  unfold markM
  rw [List.map_append]
  exact putM_snoc _ m _
theorem markM_len (m : List (Key × PyData)) (l : List Int) (t : Int) : (markM m l t).length ≤ m.length + l.length := by
  have := putM_len (l.map fun k => ((.inl k : Key), PyData.int t)) m
  rw [List.length_map] at this
  exact this
/-- what the cells held before -/
def befM (m c : List (Key × PyData)) : List (Key × PyData) := dcM (fun p : Key × PyData => p.1) (fun p : Key × PyData => (getA m p.1).getD .none) c
def wroteH (h : Hs) (c : List (Key × PyData)) (nt : PyData) : Hs := ⟨putM h.cells c, h.done ++ [.tuple [dK0 (befM h.cells c), dK0 c, nt]]⟩
def wrote (p : Pg) (c : List (Key × PyData)) (nt : Int) : Pg := { p with hs := wroteH p.hs c (.int nt) }
structure WrOk (h : Hs) (c : List (Key × PyData)) : Prop where
  nd : (c.map (·.1)).Nodup
  nn : ∀ q ∈ c, q.2 ≠ .none
  cl : c.length ≤ 5000
  hl : h.cells.length ≤ 5000
  dl : h.done.length < 90000
/-- where the history stands within a page -/
theorem segHP (CP CH : Addr) (p : Pg) : SegAt fHP 3 (shapeH CH) (fun hs => shapeP CP CH { p with hs := hs }) := ⟨fun i j hi hj e => by
  match i, j, hi, hj, e with
  | 0, 0, _, _, _ => rfl
  | 0, 1, _, _, e => cases e
  | 0, 2, _, _, e => cases e
  | 1, 0, _, _, e => cases e
  | 1, 1, _, _, _ => rfl
  | 1, 2, _, _, e => cases e
  | 2, 0, _, _, e => cases e
  | 2, 1, _, _, e => cases e
  | 2, 2, _, _, _ => rfl, shapeH_ok CH, fun x i o e => by
  match i, e with
  | 0, e => cases e; rfl
  | 1, e => cases e; exact congrArg some (reS_dk _ _).symm
  | 2, e => cases e; exact congrArg some (reS_ls _ _).symm, fun x y => rfl, fun x y j hj => by
  match j, hj with
  | 0, _ => rfl
  | 1, _ => rfl
  | 2, hj => exact absurd rfl (hj 1 (by decide))
  | 3, hj => exact absurd rfl (hj 0 (by decide))
  | 4, hj => exact absurd rfl (hj 2 (by decide))
  | _ + 5, _ => rfl⟩
theorem getA_putM : ∀ (c m : List (Key × PyData)) (k : Key), (c.map (·.1)).Nodup → getA (putM m c) k = (getA c k).or (getA m k)
  | [], m, k, _ => rfl
  | p :: c, m, k, h => by
    rw [List.map_cons, List.nodup_cons] at h
    show getA (putM (setA m p.1 p.2) c) k = _
    rw [getA_putM c _ k h.2, getA_set, getA_cons]
    by_cases e : k = p.1
    · subst e
      rw [if_pos rfl, if_pos rfl]
      have : getA c p.1 = none := getA_none.mpr fun q hq e => h.1 (List.mem_map.mpr ⟨q, hq, e⟩)
      rw [this]
      rfl
    · rw [if_neg e, if_neg (fun z => e z.symm)]
/-- the keys of a table that is written to -/
theorem putM_keys : ∀ (c m : List (Key × PyData)), (∀ k, k ∈ (putM m c).map (·.1) → k ∈ m.map (·.1) ∨ k ∈ c.map (·.1)) ∧ ((m.map (·.1)).Nodup → ((putM m c).map (·.1)).Nodup)
  | [], m => ⟨fun k h => Or.inl h, id⟩
  | p :: c, m => by
    obtain ⟨h1, h2⟩ := putM_keys c (setA m p.1 p.2)
    refine ⟨fun k h => ?_, fun h => h2 (setA_nodup _ _ h)⟩
    rcases h1 k h with z | z
    · rw [setA_keys] at z
      split at z
      · exact Or.inl z
      · rcases List.mem_append.mp z with y | y
        · exact Or.inl y
        · exact Or.inr (by rw [List.map_cons, List.mem_singleton.mp y]; exact List.mem_cons_self ..)
    · exact Or.inr (by rw [List.map_cons]; exact List.mem_cons_of_mem _ z)
/-- a node is put in -/
def insC (p : Pg) (i : Nat) (r : Rw) : List (Key × PyData) := match p.t r.par with
  | some rp => [(.inl r.par, ({ rp with kids := insL rp.kids i (p.last + 1) } : Rw).d), (.inl (p.last + 1), r.d)]
  | none => []
def insW (p : Pg) (i : Nat) (r : Rw) : Pg := wrote { p with last := p.last + 1 } (insC p i r) (p.last + 1)
def insP (p : Pg) (i : Nat) (r : Rw) : Pg := follow (insW p i r) (p.last + 1)
structure InsOk (p : Pg) (i : Nat) (r : Rw) (rp : Rw) : Prop where
  ok : PgOk p
  par : p.t r.par = some rp
  box : rp.box = true
  ix : i ≤ rp.kids.length
  dep : depth p.t r.par + 1 ≤ 30
  many : (sub p.t 1).length + 1 ≤ 300
  dn : p.hs.done.length < 4000
  kids : r.kids = []
  nl : noList r.d = true
theorem insC_eq {p : Pg} {i : Nat} {r rp : Rw} (h : p.t r.par = some rp) : insC p i r = [(.inl r.par, ({ rp with kids := insL rp.kids i (p.last + 1) } : Rw).d), (.inl (p.last + 1), r.d)] := by unfold insC; rw [h]
section
variable {p : Pg} {i : Nat} {r rp : Rw}
theorem InsOk.ne (h : InsOk p i r rp) : r.par ≠ p.last + 1 := by
  obtain ⟨dep, W⟩ := h.ok.wf
  have := (W.id _ _ h.par).2
  omega
theorem InsOk.nd (h : InsOk p i r rp) : ((insC p i r).map (·.1)).Nodup := by
  rw [insC_eq h.par]
  simp only [List.map_cons, List.map_nil, List.nodup_cons, List.mem_singleton, List.not_mem_nil, not_false_eq_true, List.nodup_nil, and_true]
  intro e
  injection e with e
  exact h.ne e
theorem InsOk.get (h : InsOk p i r rp) (k : Key) : getA (insW p i r).hs.cells k = if k = .inl (p.last + 1) then some r.d else if k = .inl r.par then some ({ rp with kids := insL rp.kids i (p.last + 1) } : Rw).d else getA p.hs.cells k := by
  show getA (putM p.hs.cells (insC p i r)) k = _
  rw [getA_putM _ _ _ h.nd, insC_eq h.par, getA_cons, getA_cons]
  have hne := h.ne
  by_cases e1 : k = .inl (p.last + 1)
  · subst e1
    rw [if_neg (fun e => by injection e with e; exact hne e), if_pos rfl, if_pos rfl]
    rfl
  · by_cases e2 : k = .inl r.par
    · subst e2
      rw [if_pos rfl, if_neg e1, if_pos rfl]
      rfl
    · rw [if_neg (fun e => e2 e.symm), if_neg (fun e => e1 e.symm), if_neg e1, if_neg e2]
      rfl
theorem InsOk.rows (h : InsOk p i r rp) : Rows (insW p i r).hs.cells := fun n d hd => by
  rw [h.get] at hd
  split at hd
  · cases hd; exact ⟨_, rfl, h.nl⟩
  · split at hd
    · cases hd; exact ⟨_, rfl, noList_kids (tr_nl h.ok.rows h.par)⟩
    · exact h.ok.rows n d hd
theorem InsOk.tree (h : InsOk p i r rp) : (insW p i r).t = insT p.t r.par rp i (p.last + 1) r := by
  funext n
  show (getA (insW p i r).hs.cells (.inl n)).bind decR = _
  rw [h.get]
  unfold insT setT
  by_cases e1 : n = p.last + 1
  · rw [if_pos (by rw [e1]), if_pos e1]
    exact decR_d _
  · rw [if_neg (fun e => e1 (by injection e)), if_neg e1]
    by_cases e2 : n = r.par
    · rw [if_pos (by rw [e2]), if_pos e2]
      exact decR_d _
    · rw [if_neg (fun e => e2 (by injection e)), if_neg e2]
      rfl
theorem InsOk.wf (h : InsOk p i r rp) : ∃ dep, WF (insW p i r).t (p.last + 1) dep := by
  obtain ⟨dep, W⟩ := h.ok.wf
  rw [h.tree]
  exact ⟨_, wf_ins W h.par h.box (by rw [← depth_eq W h.par]; exact h.dep) rfl h.kids⟩
theorem InsOk.count (h : InsOk p i r rp) : (sub (insW p i r).t 1).length = (sub p.t 1).length + 1 := by
  obtain ⟨dep, W⟩ := h.ok.wf
  rw [h.tree]
  exact count_ins W h.par h.box (by rw [← depth_eq W h.par]; exact h.dep) rfl h.kids
theorem InsOk.new (h : InsOk p i r rp) : (insW p i r).t (p.last + 1) = some r := by
  rw [h.tree]
  unfold insT setT
  rw [if_pos rfl]
theorem InsOk.win (h : InsOk p i r rp) : getA (insW p i r).hs.cells (.inr "window") = some (.tuple [.int p.w, .int p.h]) := by
  rw [h.get, if_neg (fun e => nomatch e), if_neg (fun e => nomatch e)]
  exact h.ok.win
theorem InsOk.winOf (h : InsOk p i r rp) : winOf (insW p i r).hs.cells = (p.w, p.h) := by
  unfold Q.winOf
  rw [h.win]
theorem InsOk.fol (h : InsOk p i r rp) : FolOk (insW p i r) (p.last + 1) := by
  refine ⟨?_, Or.inr ?_, ?_⟩
  · rw [h.winOf]; exact h.win
  · obtain ⟨dep, W⟩ := h.wf
    exact ⟨_, dep, r, h.rows, W, by have := h.count; have := h.many; show (sub (insW p i r).t 1).length ≤ 300; omega, h.new⟩
  · exact Nat.le_trans h.ok.mkl (by decide)
theorem InsOk.wr (h : InsOk p i r rp) : WrOk p.hs (insC p i r) := by
  have h1 := h.ok.cl
  have h2 := h.dn
  refine ⟨h.nd, ?_, by rw [insC_eq h.par]; exact Nat.le_of_ble_eq_true rfl, by omega, by omega⟩
  rw [insC_eq h.par]
  intro q hq
  rcases List.mem_cons.mp hq with e | hq
  · rw [e]; exact fun z => nomatch z
  · rw [List.mem_singleton.mp hq]; exact fun z => nomatch z
theorem InsOk.below (h : InsOk p i r rp) : below (insW p i r).hs.cells (p.last + 1) = [p.last + 1] := by
  unfold Q.below
  have e : getA (insW p i r).hs.cells (.inl (p.last + 1)) = some r.d := by rw [h.get, if_pos rfl]
  rw [e]
  obtain ⟨dep, W⟩ := h.wf
  show sub (insW p i r).t (p.last + 1) = _
  rw [sub_eq W h.new, h.kids]
  rfl
theorem InsOk.t (h : InsOk p i r rp) : (insP p i r).t = insT p.t r.par rp i (p.last + 1) r := h.tree
theorem InsOk.pg (h : InsOk p i r rp) : PgOk (insP p i r) := by
  obtain ⟨dep, W⟩ := h.wf
  have hdl : (insW p i r).hs.done.length = p.hs.done.length + 1 := by
    show (p.hs.done ++ [_]).length = _
    rw [List.length_append]; rfl
  have h1 := h.ok.cl
  have h2 := h.dn
  have h3 := h.ok.ls
  refine ⟨h.rows, ⟨dep, W⟩, ?_, ?_, ?_, ?_, ?_, ?_⟩
  · show getA (insW p i r).hs.cells _ = some (.tuple [.int (Q.winOf _).1, .int (Q.winOf _).2])
    rw [h.winOf]
    exact h.win
  · have := h.count; have := h.many; show (sub (insW p i r).t 1).length ≤ 300; omega
  · show (putM p.hs.cells (insC p i r)).length ≤ (insW p i r).hs.done.length + 3
    have h4 : (putM p.hs.cells (insC p i r)).length ≤ p.hs.cells.length + 1 := by
      rw [insC_eq h.par]
      have e0 : putM p.hs.cells [((.inl r.par : Key), ({ rp with kids := insL rp.kids i (p.last + 1) } : Rw).d), ((.inl (p.last + 1) : Key), r.d)] = setA (setA p.hs.cells (.inl r.par) ({ rp with kids := insL rp.kids i (p.last + 1) } : Rw).d) (.inl (p.last + 1)) r.d := rfl
      rw [e0]
      have e1 : (setA p.hs.cells (.inl r.par) ({ rp with kids := insL rp.kids i (p.last + 1) } : Rw).d).length = p.hs.cells.length := by
        unfold setA
        rw [if_pos (by rw [(tr_get h.ok.rows).mp h.par]; rfl), List.length_map]
      have e2 := DL.setA_len (setA p.hs.cells (.inl r.par) ({ rp with kids := insL rp.kids i (p.last + 1) } : Rw).d) (.inl (p.last + 1)) r.d
      omega
    omega
  · show (insW p i r).hs.done.length ≤ 4000
    omega
  · show ((markM p.marked (Q.below _ _) _).map (·.1)).Nodup ∧ _
    obtain ⟨a, b⟩ := h.ok.mkd
    have hk := putM_keys ((Q.below (insW p i r).hs.cells (p.last + 1)).map fun k => ((.inl k : Key), PyData.int (p.mom + 1))) p.marked
    refine ⟨hk.2 a, fun q hq => ?_⟩
    rcases hk.1 q.1 (List.mem_map.mpr ⟨q, hq, rfl⟩) with z | z
    · obtain ⟨q2, hq2, e⟩ := List.mem_map.mp z
      obtain ⟨n, e1, e2, e3⟩ := b q2 hq2
      exact ⟨n, e.symm.trans e1, e2, by show n ≤ p.last + 1; omega⟩
    · rw [h.below] at z
      have e : q.1 = .inl (p.last + 1) := by simpa using z
      exact ⟨_, e, (W.id _ _ h.new).1, Int.le_refl _⟩
  · show p.last + 1 ≤ ((insW p i r).hs.done.length : Int) + 1
    omega
end
/-- the row of a new text -/
def txR (n : Int) (l : List Nat) : Rw := ⟨n, false, dT l, .tuple [], fT [], .tuple [.int 0, .int 0], []⟩
def bxR (n : Int) (l : List Nat) (m : PyData) : Rw := ⟨n, true, dT l, m, fT [], .tuple [.int 0, .int 0], []⟩
/-- a new page -/
def rootR : Rw := ⟨0, true, .str "page", .tuple [], fT [], .tuple [.int 0, .int 0], []⟩
def pgN (w h : Int) : Pg := ⟨w, h, 1, 0, [], ⟨[(.inr "window", .tuple [.int w, .int h]), (.inr "rules", .tuple []), (.inl 1, rootR.d)], []⟩⟩
theorem pgN_get (w h : Int) (n : Int) : getA (pgN w h).hs.cells (.inl n) = if n = 1 then some rootR.d else none := by
  show getA [((.inr "window" : Key), PyData.tuple [.int w, .int h]), (.inr "rules", .tuple []), (.inl 1, rootR.d)] (.inl n) = _
  rw [getA_cons, if_neg (fun e => nomatch e), getA_cons, if_neg (fun e => nomatch e), getA_cons]
  by_cases e : n = 1
  · subst e; rw [if_pos rfl, if_pos rfl]
  · rw [if_neg (fun z => e (by injection z with z; exact z.symm)), if_neg e]; rfl
theorem pgN_t (w h : Int) : (pgN w h).t = fun n => if n = 1 then some rootR else none := by
  funext n
  show (getA (pgN w h).hs.cells (.inl n)).bind decR = _
  rw [pgN_get]
  by_cases e : n = 1
  · rw [if_pos e, if_pos e]
    show decR rootR.d = some rootR
    exact decR_d _
  · rw [if_neg e, if_neg e]; rfl
theorem pgN_ok (w h : Int) : PgOk (pgN w h) := by
  have ht := pgN_t w h
  have h1 : (pgN w h).t 1 = some rootR := by rw [ht]; rfl
  have hs : ∀ n r, (pgN w h).t n = some r → n = 1 ∧ r = rootR := fun n r e => by
    rw [ht] at e
    by_cases z : n = 1
    · simp only [z, if_true] at e; cases e; exact ⟨z, rfl⟩
    · simp only [z, if_false] at e; cases e
  have W : WF (pgN w h).t 1 (fun _ => 1) := by
    refine ⟨⟨rootR, h1, rfl, rfl⟩, rfl, fun n r c e hc => ?_, fun n r e z => absurd (hs n r e).1 z, fun n r e => ?_, fun n r e => ⟨Nat.le_refl _, by decide⟩, fun n r e => ?_, fun n r e z => ?_⟩
    · obtain ⟨_, rfl⟩ := hs n r e
      cases hc
    · obtain ⟨_, rfl⟩ := hs n r e
      exact List.nodup_nil
    · obtain ⟨rfl, _⟩ := hs n r e
      exact ⟨Int.le_refl _, Int.le_refl _⟩
    · obtain ⟨_, rfl⟩ := hs n r e
      rfl
  refine ⟨fun n d hd => ?_, ⟨_, W⟩, rfl, ?_, Nat.le_refl _, Nat.zero_le _, ⟨List.nodup_nil, fun q hq => absurd hq List.not_mem_nil⟩, Int.le_refl _⟩
  · rw [pgN_get] at hd
    split at hd
    · cases hd; exact ⟨rootR, rfl, rfl⟩
    · cases hd
  · rw [sub_eq W h1]
    exact Nat.le_of_ble_eq_true rfl
theorem pgN_depth (w h : Int) : depth (pgN w h).t 1 = 1 := by
  obtain ⟨dep, W⟩ := (pgN_ok w h).wf
  rw [depth_eq W (r := rootR) (by rw [pgN_t]; rfl)]
  exact W.d1
theorem pgN_count (w h : Int) : (sub (pgN w h).t 1).length = 1 := by
  obtain ⟨dep, W⟩ := (pgN_ok w h).wf
  rw [sub_eq W (r := rootR) (by rw [pgN_t]; rfl)]
  rfl
/-! A row of a page is put in the place of another of the same shape. -/
def SameSh (r r' : Rw) : Prop := r'.par = r.par ∧ r'.box = r.box ∧ r'.kids = r.kids
section
variable {t : Tree} {last : Int} {dep : Int → Nat} {n : Int} {r r' : Rw}
end
/-- a row is changed, mk is marked -/
def edW (p : Pg) (n : Int) (r' : Rw) (mk : Int) : Pg := wrote p [(.inl n, r'.d)] mk
def edP (p : Pg) (n : Int) (r' : Rw) (mk : Int) : Pg := follow (edW p n r' mk) mk
structure EdOk (p : Pg) (n : Int) (r r' : Rw) (mk : Int) : Prop where
  ok : PgOk p
  row : p.t n = some r
  sh : SameSh r r'
  nl : noList r'.d = true
  dn : p.hs.done.length < 4000
  mk0 : mk = 0 ∨ ∃ rk, p.t mk = some rk
section
variable {p : Pg} {n : Int} {r r' : Rw} {mk : Int}
end
/-- how many levels a node and those below it take up -/
def hgF (t : Tree) : Nat → Int → Int
  | 0, _ => 0
  | f + 1, n => match t n with
    | none => 0
    | some r => 1 + maxDf 0 (r.kids.map (hgF t f))
def hgT (t : Tree) (n : Int) : Int := hgF t 31 n
theorem hgF_eq {t : Tree} {last : Int} {dep : Int → Nat} (W : WF t last dep) : ∀ (f g : Nat) (n : Int) (r : Rw), t n = some r → 31 - dep n ≤ f → 31 - dep n ≤ g → hgF t f n = hgF t g n
  | 0, g, n, r, h, h1, h2 => by have := W.dep30 n r h; omega
  | f + 1, 0, n, r, h, h1, h2 => by have := W.dep30 n r h; omega
  | f + 1, g + 1, n, r, h, h1, h2 => by
    show (match t n with | none => 0 | some r => 1 + maxDf 0 (r.kids.map (hgF t f))) = (match t n with | none => 0 | some r => 1 + maxDf 0 (r.kids.map (hgF t g)))
    rw [h]
    have e : r.kids.map (hgF t f) = r.kids.map (hgF t g) := List.map_congr_left fun c hc => by
      obtain ⟨rc, g1, _, g3⟩ := W.kid n r c h hc
      exact hgF_eq W f g c rc g1 (by omega) (by omega)
    show 1 + maxDf 0 (r.kids.map (hgF t f)) = 1 + maxDf 0 (r.kids.map (hgF t g))
    rw [e]
theorem hgT_eq {t : Tree} {last : Int} {dep : Int → Nat} (W : WF t last dep) {n : Int} {r : Rw} (h : t n = some r) : hgT t n = 1 + maxDf 0 (r.kids.map (hgT t)) := by
  have e1 : hgT t n = 1 + maxDf 0 (r.kids.map (hgF t 30)) := by
    show (match t n with | none => 0 | some r => 1 + maxDf 0 (r.kids.map (hgF t 30))) = _
    rw [h]
  rw [e1]
  have e : r.kids.map (hgF t 30) = r.kids.map (hgT t) := List.map_congr_left fun c hc => by
    obtain ⟨rc, g1, _, g3⟩ := W.kid n r c h hc
    have := W.dep30 n r h
    exact hgF_eq W 30 31 c rc g1 (by omega) (by omega)
  rw [e]
/-! A step that writes to cells that stand, and keeps all nodes. -/
def chW (p : Pg) (c : List (Key × PyData)) (mk : Int) : Pg := wrote p c mk
def chP (p : Pg) (c : List (Key × PyData)) (mk : Int) : Pg := follow (chW p c mk) mk
theorem putM_lenO : ∀ (c m : List (Key × PyData)), (∀ q ∈ c, (getA m q.1).isSome = true) → (putM m c).length = m.length
  | [], m, _ => rfl
  | p :: c, m, h => by
    have h1 := h p (List.mem_cons_self ..)
    show (putM (setA m p.1 p.2) c).length = _
    rw [putM_lenO c _ fun q hq => ?_]
    · unfold setA
      rw [if_pos h1, List.length_map]
    · rw [getA_set]
      split
      · rfl
      · exact h q (List.mem_cons_of_mem _ hq)
structure ChOk (p : Pg) (c : List (Key × PyData)) (mk : Int) : Prop where
  ok : PgOk p
  nd : (c.map (·.1)).Nodup
  nn : ∀ q ∈ c, q.2 ≠ .none
  c5 : c.length ≤ 5000
  old : ∀ q ∈ c, (getA p.hs.cells q.1).isSome = true
  dn : p.hs.done.length < 4000
  rows : Rows (putM p.hs.cells c)
  wf : ∃ dep, WF (tr (putM p.hs.cells c)) p.last dep
  wn : ∃ w h : Int, getA (putM p.hs.cells c) (.inr "window") = some (.tuple [.int w, .int h])
  n300 : (sub (tr (putM p.hs.cells c)) 1).length ≤ 300
section
variable {p : Pg} {c : List (Key × PyData)} {mk : Int}
theorem ChOk.win (h : ChOk p c mk) : getA (putM p.hs.cells c) (.inr "window") = some (.tuple [.int (winOf (putM p.hs.cells c)).1, .int (winOf (putM p.hs.cells c)).2]) := by
  obtain ⟨w, q, e⟩ := h.wn
  unfold winOf
  rw [e]
theorem ChOk.fol (h : ChOk p c mk) : FolOk (chW p c mk) mk := by
  refine ⟨h.win, ?_, Nat.le_trans h.ok.mkl (by decide)⟩
  cases e : tr (putM p.hs.cells c) mk with
  | none => exact Or.inl ((tr_none h.rows).mp e)
  | some rk =>
    obtain ⟨dep, W⟩ := h.wf
    exact Or.inr ⟨_, dep, rk, h.rows, W, h.n300, e⟩
theorem ChOk.wr (h : ChOk p c mk) : WrOk p.hs c := by
  have h1 := h.ok.cl
  have h2 := h.dn
  exact ⟨h.nd, h.nn, h.c5, by omega, by omega⟩
theorem ChOk.pg (h : ChOk p c mk) : PgOk (chP p c mk) := by
  obtain ⟨dep, W⟩ := h.wf
  have hdl : (chW p c mk).hs.done.length = p.hs.done.length + 1 := by
    show (p.hs.done ++ [_]).length = _
    rw [List.length_append]; rfl
  have h1 := h.ok.cl
  have h2 := h.dn
  have h3 := h.ok.ls
  refine ⟨h.rows, ⟨dep, W⟩, h.win, h.n300, ?_, ?_, ?_, ?_⟩
  · show (putM p.hs.cells c).length ≤ (chW p c mk).hs.done.length + 3
    rw [putM_lenO _ _ h.old]
    omega
  · show (chW p c mk).hs.done.length ≤ 4000
    omega
  · show ((markM p.marked (Q.below _ _) _).map (·.1)).Nodup ∧ _
    obtain ⟨a, b⟩ := h.ok.mkd
    have hk := putM_keys ((Q.below (chW p c mk).hs.cells mk).map fun k => ((.inl k : Key), PyData.int (p.mom + 1))) p.marked
    refine ⟨hk.2 a, fun q hq => ?_⟩
    rcases hk.1 q.1 (List.mem_map.mpr ⟨q, hq, rfl⟩) with z | z
    · obtain ⟨q2, hq2, e⟩ := List.mem_map.mp z
      obtain ⟨n, e1, e2, e3⟩ := b q2 hq2
      exact ⟨n, e.symm.trans e1, e2, e3⟩
    · rw [List.map_map] at z
      obtain ⟨k, hk1, hk2⟩ := List.mem_map.mp z
      have hk3 : k ∈ Q.sub (tr (putM p.hs.cells c)) mk := by
        unfold Q.below at hk1
        split at hk1
        · exact hk1
        · cases hk1
      cases y : tr (putM p.hs.cells c) mk with
      | none =>
        exfalso
        have e0 : Q.sub (tr (putM p.hs.cells c)) mk = [] := by
          show (match tr (putM p.hs.cells c) mk with | none => [] | some r => mk :: (r.kids.map (pre _ 30)).flatten) = []
          rw [y]
        rw [e0] at hk3
        cases hk3
      | some rk =>
        obtain ⟨rx, hx, _⟩ := sub_some W y hk3
        exact ⟨k, hk2.symm, (W.id _ _ hx).1, (W.id _ _ hx).2⟩
  · show p.last ≤ ((chW p c mk).hs.done.length : Int) + 1
    omega
end
/-! A branch moves. -/
theorem le_maxDf {d : Int} {l : List Int} {x : Int} (h : x ∈ l) : x ≤ maxDf d l := by
  unfold maxDf
  have hn : l ≠ [] := List.ne_nil_of_mem h
  rw [if_neg hn]
  exact (maxL_spec hn).2 x h
def wo (r : Rw) (n : Int) : Rw := { r with kids := r.kids.filter fun k => !decide (k = n) }
def tgR (o q : Int) (ro rq : Rw) (n : Int) : Rw := if q = o then wo ro n else rq
def inR (r : Rw) (i : Nat) (n : Int) : Rw := { r with kids := insL r.kids i n }
def mvT (t : Tree) (n : Int) (r : Rw) (q : Int) (ro rq : Rw) (i : Nat) : Tree := setT (setT (setT t r.par (some (wo ro n))) q (some (inR (tgR r.par q ro rq n) i n))) n (some { r with par := q })
structure MvOk (t : Tree) (n q : Int) (r ro rq : Rw) (i : Nat) : Prop where
  row : t n = some r
  n1 : n ≠ 1
  orow : t r.par = some ro
  qrow : t q = some rq
  qbox : rq.box = true
  out : q ∉ sub t n
  deep : (depth t q : Int) + hgT t n ≤ 30
  ix : i ≤ (tgR r.par q ro rq n).kids.length
section
variable {t : Tree} {last : Int} {dep : Int → Nat} {n q : Int} {r ro rq : Rw} {i : Nat}
/-- heights: nothing below lies deeper -/
theorem hg_dep (W : WF t last dep) : ∀ (k : Nat) {n x : Int} {r : Rw}, 31 - dep n ≤ k → t n = some r → x ∈ sub t n → ((dep x : Int) - dep n) + 1 ≤ hgT t n
  | 0, n, x, r, hk, h, _ => by have := W.dep30 n r h; omega
  | k + 1, n, x, r, hk, h, hx => by
    rw [hgT_eq W h]
    rcases (mem_sub W h).mp hx with e | ⟨c, hc, hx⟩
    · subst e
      have : (0 : Int) ≤ maxDf 0 (r.kids.map (hgT t)) := by
        cases hl : r.kids with
        | nil => exact Int.le_refl _
        | cons c l =>
          obtain ⟨rc, e1, _, e3⟩ := W.kid x r c h (by rw [hl]; exact List.mem_cons_self ..)
          have h2 := hg_dep W k (n := c) (x := c) (by omega) e1 (sub_self W e1)
          have h3 := le_maxDf (d := 0) (l := (c :: l).map (hgT t)) (x := hgT t c) (by simp)
          omega
      omega
    · obtain ⟨rc, e1, _, e3⟩ := W.kid n r c h hc
      have h2 := hg_dep W k (n := c) (by omega) e1 hx
      have h3 := le_maxDf (d := 0) (l := r.kids.map (hgT t)) (x := hgT t c) (List.mem_map.mpr ⟨c, hc, rfl⟩)
      omega
theorem MvOk.nq (W : WF t last dep) (M : MvOk t n q r ro rq i) : n ≠ q := fun e => M.out (e ▸ sub_self W M.row)
theorem MvOk.no (W : WF t last dep) (M : MvOk t n q r ro rq i) : n ≠ r.par := fun e => by
  obtain ⟨rp, z1, _, z3⟩ := W.par n r M.row M.n1
  obtain ⟨_, _, _, z4⟩ := W.kid _ rp n z1 z3
  rw [← e] at z4
  omega
/-- the rows behind the move -/
structure MvR (t : Tree) (n q x : Int) (rx ry : Rw) : Prop where
  box : ry.box = rx.box
  con : ry.con = rx.con ∧ ry.marks = rx.marks ∧ ry.own = rx.own ∧ ry.scr = rx.scr
  par : x ≠ n → ry.par = rx.par
  parn : x = n → ry.par = q
  kids : ∀ c, c ∈ ry.kids ↔ (c ≠ n ∧ c ∈ rx.kids) ∨ (c = n ∧ x = q)
  nd : ry.kids.Nodup
theorem mv_to (W : WF t last dep) (M : MvOk t n q r ro rq i) {x : Int} {rx : Rw} (h : t x = some rx) : ∃ ry, mvT t n r q ro rq i x = some ry ∧ MvR t n q x rx ry := by
  have hnq := M.nq W
  have hno := M.no W
  have hk : ∀ {y : Int} {ry : Rw}, t y = some ry → n ∈ ry.kids → y = r.par := fun hy hn => by
    obtain ⟨rc, e1, e2, _⟩ := W.kid _ _ n hy hn
    rw [M.row] at e1
    cases e1
    exact e2.symm
  have hwo : ∀ c, c ∈ (wo ro n).kids ↔ c ≠ n ∧ c ∈ ro.kids := fun c => by
    show c ∈ ro.kids.filter _ ↔ _
    rw [List.mem_filter]
    simp only [Bool.not_eq_true', decide_eq_false_iff_not]
    exact And.comm
  have hwn : (wo ro n).kids.Nodup := (W.nd _ _ M.orow).filter _
  unfold mvT setT
  by_cases e1 : x = n
  · subst e1
    rw [M.row] at h
    cases h
    rw [if_pos rfl]
    refine ⟨_, rfl, rfl, ⟨rfl, rfl, rfl, rfl⟩, fun z => absurd rfl z, fun _ => rfl, fun c => ?_, (show r.kids.Nodup from W.nd _ r M.row)⟩
    constructor
    · intro hc
      exact Or.inl ⟨fun e => hno (hk M.row (e ▸ hc)), hc⟩
    · rintro (z | z)
      · exact z.2
      · exact absurd z.2 hnq
  rw [if_neg e1]
  by_cases e2 : x = q
  · subst e2
    rw [if_pos rfl]
    rw [M.qrow] at h
    cases h
    have ht : (tgR r.par x ro rq n).box = rq.box ∧ ((tgR r.par x ro rq n).con = rq.con ∧ (tgR r.par x ro rq n).marks = rq.marks ∧ (tgR r.par x ro rq n).own = rq.own ∧ (tgR r.par x ro rq n).scr = rq.scr) ∧ (tgR r.par x ro rq n).par = rq.par ∧ (∀ c, c ∈ (tgR r.par x ro rq n).kids ↔ c ≠ n ∧ c ∈ rq.kids) ∧ (tgR r.par x ro rq n).kids.Nodup := by
      unfold tgR
      by_cases e3 : x = r.par
      · rw [if_pos e3]
        have : ro = rq := by
          have h1 := M.orow
          rw [← e3, M.qrow] at h1
          exact (Option.some.inj h1).symm
        subst this
        exact ⟨rfl, ⟨rfl, rfl, rfl, rfl⟩, rfl, hwo, hwn⟩
      · rw [if_neg e3]
        exact ⟨rfl, ⟨rfl, rfl, rfl, rfl⟩, rfl, fun c => ⟨fun hc => ⟨fun e => e3 (hk M.qrow (e ▸ hc)), hc⟩, fun z => z.2⟩, W.nd _ _ M.qrow⟩
    obtain ⟨t1, t2, t3, t4, t5⟩ := ht
    refine ⟨_, rfl, t1, t2, fun _ => t3, fun z => absurd z e1, fun c => ?_, nodup_insL t5 fun z => ((t4 n).mp z).1 rfl⟩
    show c ∈ insL _ i n ↔ _
    rw [mem_insL, t4]
    constructor
    · rintro (z | z)
      · exact Or.inr ⟨z, rfl⟩
      · exact Or.inl z
    · rintro (z | z)
      · exact Or.inr z
      · exact Or.inl z.1
  rw [if_neg e2]
  by_cases e3 : x = r.par
  · subst e3
    rw [if_pos rfl]
    rw [M.orow] at h
    cases h
    refine ⟨_, rfl, rfl, ⟨rfl, rfl, rfl, rfl⟩, fun _ => rfl, fun z => absurd z e1, fun c => ?_, hwn⟩
    rw [hwo]
    exact ⟨Or.inl, fun z => z.resolve_right fun y => e2 y.2⟩
  rw [if_neg e3]
  exact ⟨rx, h, rfl, ⟨rfl, rfl, rfl, rfl⟩, fun _ => rfl, fun z => absurd z e1, fun c => ⟨fun hc => Or.inl ⟨fun e => e3 (hk h (e ▸ hc)), hc⟩, fun z => (z.resolve_right fun y => e2 y.2).2⟩, W.nd _ _ h⟩
theorem mv_back (W : WF t last dep) (M : MvOk t n q r ro rq i) {x : Int} {ry : Rw} (h : mvT t n r q ro rq i x = some ry) : ∃ rx, t x = some rx ∧ MvR t n q x rx ry := by
  have hx : ∃ rx, t x = some rx := by
    unfold mvT setT at h
    by_cases e1 : x = n
    · exact ⟨r, e1 ▸ M.row⟩
    rw [if_neg e1] at h
    by_cases e2 : x = q
    · exact ⟨rq, e2 ▸ M.qrow⟩
    rw [if_neg e2] at h
    by_cases e3 : x = r.par
    · exact ⟨ro, e3 ▸ M.orow⟩
    rw [if_neg e3] at h
    exact ⟨ry, h⟩
  obtain ⟨rx, hx⟩ := hx
  obtain ⟨rz, e, k⟩ := mv_to W M hx
  rw [h] at e
  cases e
  exact ⟨rx, hx, k⟩
open Classical in
theorem wf_mv (W : WF t last dep) (M : MvOk t n q r ro rq i) : WF (mvT t n r q ro rq i) last (fun x => if x ∈ sub t n then dep x + dep q + 1 - dep n else dep x) where
  root := by
    obtain ⟨r1, g1, g2, g3⟩ := W.root
    obtain ⟨ry, e, k⟩ := mv_to W M g1
    exact ⟨ry, e, (k.par (Ne.symm M.n1)).trans g2, k.box.trans g3⟩
  d1 := by
    show (if (1 : Int) ∈ sub t n then _ else _) = 1
    rw [if_neg, W.d1]
    intro z
    obtain ⟨r1, g1, _⟩ := W.root
    obtain ⟨_, _, h2⟩ := sub_some W M.row z
    have h3 := (W.dep30 n r M.row).1
    rw [W.d1] at h2
    exact M.n1 (sub_dep W M.row z (by rw [W.d1]; omega)).symm
  kid := fun x rx' c hx hc => by
    obtain ⟨rx, h1, k⟩ := mv_back W M hx
    rcases (k.kids c).mp hc with ⟨h2, h3⟩ | ⟨rfl, rfl⟩
    · obtain ⟨rc, e1, e2, e3⟩ := W.kid x rx c h1 h3
      obtain ⟨rd, g1, kc⟩ := mv_to W M e1
      refine ⟨rd, g1, (kc.par h2).trans e2, ?_⟩
      have hi : c ∈ sub t n ↔ x ∈ sub t n := ⟨fun z => by
        rcases sub_par W _ (Nat.le_refl _) M.row e1 z with y | y
        · exact absurd y h2
        · exact e2 ▸ y, fun z => kid_sub W _ (Nat.le_refl _) M.row z h1 h3⟩
      show (if c ∈ sub t n then _ else _) = (if x ∈ sub t n then _ else _) + 1
      by_cases z : x ∈ sub t n
      · rw [if_pos z, if_pos (hi.mpr z)]
        obtain ⟨_, _, h5⟩ := sub_some W M.row z
        omega
      · rw [if_neg z, if_neg (fun y => z (hi.mp y))]
        exact e3
    · obtain ⟨rd, g1, kc⟩ := mv_to W M M.row
      refine ⟨rd, g1, kc.parn rfl, ?_⟩
      show (if c ∈ sub t c then _ else _) = (if x ∈ sub t c then _ else _) + 1
      rw [if_pos (sub_self W M.row), if_neg M.out]
      omega
  par := fun x rx' hx h1 => by
    obtain ⟨rx, g1, k⟩ := mv_back W M hx
    by_cases e : x = n
    · rw [k.parn e]
      obtain ⟨ry, g2, ky⟩ := mv_to W M M.qrow
      exact ⟨ry, g2, ky.box.trans M.qbox, (ky.kids x).mpr (Or.inr ⟨e, rfl⟩)⟩
    · rw [k.par e]
      obtain ⟨rp, z1, z2, z3⟩ := W.par x rx g1 h1
      obtain ⟨ry, g2, ky⟩ := mv_to W M z1
      exact ⟨ry, g2, ky.box.trans z2, (ky.kids x).mpr (Or.inl ⟨e, z3⟩)⟩
  nd := fun x rx' hx => by
    obtain ⟨rx, g1, k⟩ := mv_back W M hx
    exact k.nd
  dep30 := fun x rx' hx => by
    obtain ⟨rx, g1, k⟩ := mv_back W M hx
    have h1 := W.dep30 x rx g1
    have h2 := W.dep30 q rq M.qrow
    have h3 := M.deep
    rw [depth_eq W M.qrow] at h3
    show 1 ≤ (if x ∈ sub t n then _ else _) ∧ (if x ∈ sub t n then _ else _) ≤ 30
    by_cases z : x ∈ sub t n
    · rw [if_pos z]
      obtain ⟨_, _, h5⟩ := sub_some W M.row z
      have h6 := hg_dep W _ (Nat.le_refl _) M.row z
      omega
    · rw [if_neg z]
      exact h1
  id := fun x rx' hx => by
    obtain ⟨rx, g1, k⟩ := mv_back W M hx
    exact W.id x rx g1
  txt := fun x rx' hx hb => by
    obtain ⟨rx, g1, k⟩ := mv_back W M hx
    have h1 := W.txt x rx g1 (k.box.symm.trans hb)
    refine List.eq_nil_iff_forall_not_mem.mpr fun c hc => ?_
    rcases (k.kids c).mp hc with z | ⟨_, rfl⟩
    · rw [h1] at z
      exact absurd z.2 List.not_mem_nil
    · rw [M.qrow] at g1
      cases g1
      have := M.qbox
      rw [← k.box, hb] at this
      cases this
theorem count_mv (W : WF t last dep) (M : MvOk t n q r ro rq i) : (sub (mvT t n r q ro rq i) 1).length = (sub t 1).length := by
  have W2 := wf_mv W M
  obtain ⟨r1, g1, _⟩ := W.root
  obtain ⟨r2, g2, _⟩ := W2.root
  have key : ∀ x, x ∈ sub (mvT t n r q ro rq i) 1 ↔ x ∈ sub t 1 := fun x => by
    rw [mem_all W2, mem_all W]
    constructor
    · intro h
      obtain ⟨a, e⟩ := Option.isSome_iff_exists.mp h
      obtain ⟨b, e2, _⟩ := mv_back W M e
      rw [e2]; rfl
    · intro h
      obtain ⟨a, e⟩ := Option.isSome_iff_exists.mp h
      obtain ⟨b, e2, _⟩ := mv_to W M e
      rw [e2]; rfl
  exact Nat.le_antisymm (List.Nodup.length_le_of_subset (sub_nd W2 g2) fun x hx => (key x).mp hx) (List.Nodup.length_le_of_subset (sub_nd W g1) fun x hx => (key x).mpr hx)
end
/-- the cells that a move writes -/
def mvC (n : Int) (r : Rw) (q : Int) (ro rq : Rw) (i : Nat) : List (Key × PyData) := setA (setA [((.inl r.par : Key), (wo ro n).d)] (.inl q) (inR (tgR r.par q ro rq n) i n).d) (.inl n) ({ r with par := q } : Rw).d
theorem mvC_get (n : Int) (r : Rw) (q : Int) (ro rq : Rw) (i : Nat) (k : Key) : getA (mvC n r q ro rq i) k = if k = .inl n then some ({ r with par := q } : Rw).d else if k = .inl q then some (inR (tgR r.par q ro rq n) i n).d else if k = .inl r.par then some (wo ro n).d else none := by
  unfold mvC
  rw [getA_set, getA_set, getA_cons]
  by_cases e : k = .inl r.par
  · subst e; simp
  · rw [if_neg e, if_neg (fun z : (Sum.inl r.par : Key) = k => e z.symm)]; rfl
theorem mvC_nd (n : Int) (r : Rw) (q : Int) (ro rq : Rw) (i : Nat) : ((mvC n r q ro rq i).map (·.1)).Nodup := setA_nodup _ _ (setA_nodup _ _ (by simp))
theorem getA_mem {m : List (Key × PyData)} (hn : (m.map (·.1)).Nodup) {p : Key × PyData} (h : p ∈ m) : getA m p.1 = some p.2 := by
  obtain ⟨a, b, rfl⟩ := List.append_of_mem h
  exact getA_mid hn
theorem mv_ok {p : Pg} {n q : Int} {r ro rq : Rw} {i : Nat} (ok : PgOk p) (dn : p.hs.done.length < 4000) (M : MvOk p.t n q r ro rq i) (mk : Int) : ChOk p (mvC n r q ro rq i) mk ∧ tr (putM p.hs.cells (mvC n r q ro rq i)) = mvT p.t n r q ro rq i := by
  obtain ⟨dep, W⟩ := ok.wf
  have hget : ∀ k, getA (putM p.hs.cells (mvC n r q ro rq i)) k = (getA (mvC n r q ro rq i) k).or (getA p.hs.cells k) := fun k => getA_putM _ _ k (mvC_nd ..)
  have nlo : noList (wo ro n).d = true := noList_kids (tr_nl ok.rows M.orow)
  have nlt : noList (inR (tgR r.par q ro rq n) i n).d = true := by
    refine noList_kids ?_
    unfold tgR
    split
    · exact nlo
    · exact tr_nl ok.rows M.qrow
  have nlr : noList ({ r with par := q } : Rw).d = true := by
    have := tr_nl ok.rows M.row
    simp only [Rw.d, Rw.l, noList, noLists, noLists_int] at this ⊢
    exact this
  have tree : tr (putM p.hs.cells (mvC n r q ro rq i)) = mvT p.t n r q ro rq i := by
    funext x
    show (getA (putM p.hs.cells (mvC n r q ro rq i)) (.inl x)).bind decR = _
    rw [hget, mvC_get]
    unfold mvT setT
    by_cases e1 : x = n
    · rw [if_pos (by rw [e1]), if_pos e1]; exact decR_d _
    · rw [if_neg (fun e => e1 (by injection e)), if_neg e1]
      by_cases e2 : x = q
      · rw [if_pos (by rw [e2]), if_pos e2]; exact decR_d _
      · rw [if_neg (fun e => e2 (by injection e)), if_neg e2]
        by_cases e3 : x = r.par
        · rw [if_pos (by rw [e3]), if_pos e3]; exact decR_d _
        · rw [if_neg (fun e => e3 (by injection e)), if_neg e3]; rfl
  have hmem : ∀ c ∈ mvC n r q ro rq i, (c.1 = .inl n ∧ c.2 = ({ r with par := q } : Rw).d) ∨ (c.1 = .inl q ∧ c.2 = (inR (tgR r.par q ro rq n) i n).d) ∨ (c.1 = .inl r.par ∧ c.2 = (wo ro n).d) := fun c hc => by
    have h1 := getA_mem (mvC_nd ..) hc
    rw [mvC_get] at h1
    split at h1
    · exact Or.inl ⟨‹_›, (Option.some.inj h1).symm⟩
    · split at h1
      · exact Or.inr (Or.inl ⟨‹_›, (Option.some.inj h1).symm⟩)
      · split at h1
        · exact Or.inr (Or.inr ⟨‹_›, (Option.some.inj h1).symm⟩)
        · cases h1
  refine ⟨⟨ok, mvC_nd .., fun c hc => ?_, ?_, fun c hc => ?_, dn, ?_, ?_, ?_, ?_⟩, tree⟩
  · rcases hmem c hc with ⟨_, e⟩ | ⟨_, e⟩ | ⟨_, e⟩ <;> rw [e] <;> exact fun z => nomatch z
  · have h1 := DL.setA_len (setA [((.inl r.par : Key), (wo ro n).d)] (.inl q) (inR (tgR r.par q ro rq n) i n).d) (.inl n) ({ r with par := q } : Rw).d
    have h2 := DL.setA_len [((.inl r.par : Key), (wo ro n).d)] (.inl q) (inR (tgR r.par q ro rq n) i n).d
    have h3 : [((.inl r.par : Key), (wo ro n).d)].length = 1 := rfl
    unfold mvC
    omega
  · rcases hmem c hc with ⟨e, _⟩ | ⟨e, _⟩ | ⟨e, _⟩ <;> rw [e]
    · rw [(tr_get ok.rows).mp M.row]; rfl
    · rw [(tr_get ok.rows).mp M.qrow]; rfl
    · rw [(tr_get ok.rows).mp M.orow]; rfl
  · intro x d hd
    rw [hget, mvC_get] at hd
    split at hd
    · cases hd; exact ⟨_, rfl, nlr⟩
    · split at hd
      · cases hd; exact ⟨_, rfl, nlt⟩
      · split at hd
        · cases hd; exact ⟨_, rfl, nlo⟩
        · exact ok.rows x d hd
  · rw [tree]; exact ⟨_, wf_mv W M⟩
  · refine ⟨p.w, p.h, ?_⟩
    rw [hget, mvC_get, if_neg (fun e => nomatch e), if_neg (fun e => nomatch e), if_neg (fun e => nomatch e)]
    exact ok.win
  · rw [tree, count_mv W M]; exact ok.n300
/-! A step whose cells may go: a node is removed with all below it. -/
def isNo : PyData → Bool
  | .none => true
  | _ => false
theorem isNo_f {d : PyData} (h : d ≠ .none) : isNo d = false := by cases d <;> first | rfl | exact absurd rfl h
theorem isNo_d (r : Rw) : isNo r.d = false := rfl
def put1 (m : List (Key × PyData)) (p : Key × PyData) : List (Key × PyData) := if isNo p.2 = true then DL.delA m p.1 else setA m p.1 p.2
def putX (m c : List (Key × PyData)) : List (Key × PyData) := c.foldl put1 m
theorem putX_snoc (a m : List (Key × PyData)) (p : Key × PyData) : putX m (a ++ [p]) = put1 (putX m a) p := by unfold putX; rw [List.foldl_append]; rfl
theorem putX_cons (m c : List (Key × PyData)) (p : Key × PyData) : putX m (p :: c) = putX (put1 m p) c := rfl
theorem putX_nn : ∀ (c m : List (Key × PyData)), (∀ q ∈ c, q.2 ≠ .none) → putX m c = putM m c
  | [], _, _ => rfl
  | p :: c, m, h => by
    have h1 := isNo_f (h p (List.mem_cons_self ..))
    show putX (put1 m p) c = putM (setA m p.1 p.2) c
    unfold put1
    rw [h1, if_neg (by decide)]
    exact putX_nn c _ fun q hq => h q (List.mem_cons_of_mem _ hq)
theorem put1_len (m : List (Key × PyData)) (p : Key × PyData) : (put1 m p).length ≤ m.length + 1 := by
  unfold put1
  split
  · exact Nat.le_trans (List.length_filter_le ..) (Nat.le_succ _)
  · exact setA_lenQ m
theorem putX_len : ∀ (c m : List (Key × PyData)), (putX m c).length ≤ m.length + c.length
  | [], m => Nat.le_refl _
  | p :: c, m => by
    have h1 := putX_len c (put1 m p)
    have h2 := put1_len m p
    rw [putX_cons, List.length_cons]
    omega
theorem getA_del {m : List (Key × PyData)} (k j : Key) : getA (DL.delA m k) j = if j = k then none else getA m j := by
  induction m with
  | nil => unfold DL.delA; rw [List.filter_nil]; split <;> rfl
  | cons p m ih =>
    unfold DL.delA at ih ⊢
    rw [List.filter_cons]
    by_cases e : p.1 = k
    · rw [if_neg (by simp [e]), ih, getA_cons]
      by_cases z : j = k
      · rw [if_pos z, if_pos z]
      · rw [if_neg z, if_neg z, if_neg (fun q => z (q.symm.trans e))]
    · rw [if_pos (by simp [e]), getA_cons, getA_cons, ih]
      by_cases z : p.1 = j
      · rw [if_pos z, if_pos z, if_neg (fun q => e (z.trans q))]
      · rw [if_neg z, if_neg z]
theorem getA_put1 (m : List (Key × PyData)) (p : Key × PyData) (j : Key) : getA (put1 m p) j = if j = p.1 then (if isNo p.2 = true then none else some p.2) else getA m j := by
  unfold put1
  by_cases h : isNo p.2 = true
  · rw [if_pos h, if_pos h, getA_del]
  · rw [if_neg h, if_neg h, getA_set]
def fin1 (o : Option PyData) (d : Option PyData) : Option PyData := match o with
  | some x => if isNo x = true then none else some x
  | none => d
theorem getA_putX : ∀ (c m : List (Key × PyData)) (k : Key), (c.map (·.1)).Nodup → getA (putX m c) k = fin1 (getA c k) (getA m k)
  | [], m, k, _ => rfl
  | p :: c, m, k, h => by
    rw [List.map_cons, List.nodup_cons] at h
    rw [putX_cons, getA_putX c _ k h.2, getA_put1, getA_cons]
    by_cases e : k = p.1
    · subst e
      have : getA c p.1 = none := getA_none.mpr fun q hq e => h.1 (List.mem_map.mpr ⟨q, hq, e⟩)
      rw [this, if_pos rfl, if_pos rfl]
      rfl
    · rw [if_neg e, if_neg (fun z => e z.symm)]
def wroteHX (h : Hs) (c : List (Key × PyData)) (nt : PyData) : Hs := ⟨putX h.cells c, h.done ++ [.tuple [dK0 (befM h.cells c), dK0 c, nt]]⟩
def wroteX (p : Pg) (c : List (Key × PyData)) (nt : Int) : Pg := { p with hs := wroteHX p.hs c (.int nt) }
structure WrX (h : Hs) (c : List (Key × PyData)) : Prop where
  nd : (c.map (·.1)).Nodup
  cl : c.length ≤ 5000
  hl : h.cells.length ≤ 5000
  dl : h.done.length < 90000
theorem WrOk.x {h : Hs} {c : List (Key × PyData)} (w : WrOk h c) : WrX h c := ⟨w.nd, w.cl, w.hl, w.dl⟩
theorem wroteX_eq {p : Pg} {c : List (Key × PyData)} {n : Int} (h : ∀ q ∈ c, q.2 ≠ .none) : wroteX p c n = wrote p c n := by
  unfold wroteX wrote wroteHX wroteH
  rw [putX_nn _ _ h]
/-! the tree without a branch -/
open Classical in
def rmT (t : Tree) (n : Int) (r ro : Rw) : Tree := fun x => if x ∈ sub t n then none else if x = r.par then some (wo ro n) else t x
def rmC (t : Tree) (n : Int) (r ro : Rw) : List (Key × PyData) := (sub t n).map (fun x => ((.inl x : Key), PyData.none)) ++ [((.inl r.par : Key), (wo ro n).d)]
section
variable {t : Tree} {last : Int} {dep : Int → Nat} {n : Int} {r ro : Rw}
theorem rm_par (W : WF t last dep) (h : t n = some r) (h1 : n ≠ 1) (ho : t r.par = some ro) : dep n = dep r.par + 1 ∧ n ∈ ro.kids ∧ r.par ∉ sub t n ∧ ro.box = true := by
  obtain ⟨rp, e1, e2, e3⟩ := W.par n r h h1
  rw [ho] at e1
  cases e1
  obtain ⟨_, _, _, e4⟩ := W.kid _ ro n ho e3
  refine ⟨e4, e3, fun z => ?_, e2⟩
  obtain ⟨_, _, h3⟩ := sub_some W h z
  omega
theorem rm_in (W : WF t last dep) (h : t n = some r) {x : Int} (hx : x ∈ sub t n) : rmT t n r ro x = none := by unfold rmT; rw [if_pos hx]
theorem rm_o {x : Int} (hx : x ∉ sub t n) (h2 : x ≠ r.par) : rmT t n r ro x = t x := by unfold rmT; rw [if_neg hx, if_neg h2]
theorem rm_p {x : Int} (hx : x ∉ sub t n) (h2 : x = r.par) : rmT t n r ro x = some (wo ro n) := by unfold rmT; rw [if_neg hx, if_pos h2]
/-- what stands in the new tree stood in the old one -/
theorem rm_back (W : WF t last dep) (h : t n = some r) (h1 : n ≠ 1) (ho : t r.par = some ro) {x : Int} {rx : Rw} (hx : rmT t n r ro x = some rx) : x ∉ sub t n ∧ ∃ ry, t x = some ry ∧ rx.par = ry.par ∧ rx.box = ry.box ∧ rx.con = ry.con ∧ rx.marks = ry.marks ∧ rx.own = ry.own ∧ rx.scr = ry.scr ∧ (∀ c, c ∈ rx.kids ↔ c ≠ n ∧ c ∈ ry.kids) ∧ rx.kids.Nodup := by
  by_cases z : x ∈ sub t n
  · rw [rm_in W h z] at hx; cases hx
  refine ⟨z, ?_⟩
  by_cases e : x = r.par
  · rw [rm_p z e] at hx
    cases hx
    refine ⟨ro, e ▸ ho, rfl, rfl, rfl, rfl, rfl, rfl, fun c => ?_, (W.nd _ _ ho).filter _⟩
    show c ∈ ro.kids.filter _ ↔ _
    rw [List.mem_filter]
    simp only [Bool.not_eq_true', decide_eq_false_iff_not]
    exact And.comm
  · rw [rm_o z e] at hx
    refine ⟨rx, hx, rfl, rfl, rfl, rfl, rfl, rfl, fun c => ⟨fun hc => ⟨fun q => ?_, hc⟩, fun q => q.2⟩, W.nd _ _ hx⟩
    subst q
    obtain ⟨rc, e1, e2, _⟩ := W.kid x rx c hx hc
    rw [h] at e1
    cases e1
    exact e e2.symm
theorem rm_to (W : WF t last dep) (h : t n = some r) (h1 : n ≠ 1) (ho : t r.par = some ro) {x : Int} {ry : Rw} (hx : t x = some ry) (z : x ∉ sub t n) : ∃ rx, rmT t n r ro x = some rx := by
  by_cases e : x = r.par
  · exact ⟨_, rm_p z e⟩
  · exact ⟨_, (rm_o z e).trans hx⟩
theorem wf_rm (W : WF t last dep) (h : t n = some r) (h1 : n ≠ 1) (ho : t r.par = some ro) : WF (rmT t n r ro) last dep where
  root := by
    obtain ⟨r1, g1, g2, g3⟩ := W.root
    have z : (1 : Int) ∉ sub t n := fun z => by
      obtain ⟨_, _, h2⟩ := sub_some W h z
      have h3 := (W.dep30 n r h).1
      rw [W.d1] at h2
      exact h1 (sub_dep W h z (by rw [W.d1]; omega)).symm
    obtain ⟨rx, e⟩ := rm_to W h h1 ho g1 z
    obtain ⟨_, ry, e1, e2, e3, _⟩ := rm_back W h h1 ho e
    rw [g1] at e1
    cases e1
    exact ⟨rx, e, e2.trans g2, e3.trans g3⟩
  d1 := W.d1
  kid := fun x rx c hx hc => by
    obtain ⟨z, ry, e1, _, _, _, _, _, _, e4, _⟩ := rm_back W h h1 ho hx
    obtain ⟨cn, hc2⟩ := (e4 c).mp hc
    obtain ⟨rc, g1, g2, g3⟩ := W.kid x ry c e1 hc2
    have zc : c ∉ sub t n := fun zc => by
      rcases sub_par W _ (Nat.le_refl _) h g1 zc with q | q
      · exact cn q
      · exact z (g2 ▸ q)
    obtain ⟨rd, e⟩ := rm_to W h h1 ho g1 zc
    obtain ⟨_, ry2, k1, k2, _⟩ := rm_back W h h1 ho e
    rw [g1] at k1
    cases k1
    exact ⟨rd, e, k2.trans g2, g3⟩
  par := fun x rx hx hx1 => by
    obtain ⟨z, ry, e1, e2, _, _, _, _, _, _, _⟩ := rm_back W h h1 ho hx
    obtain ⟨rp, g1, g2, g3⟩ := W.par x ry e1 hx1
    have zp : ry.par ∉ sub t n := fun zp => z (kid_sub W _ (Nat.le_refl _) h zp g1 g3)
    obtain ⟨rq, e⟩ := rm_to W h h1 ho g1 zp
    obtain ⟨_, ry2, k1, _, k3, _, _, _, _, k4, _⟩ := rm_back W h h1 ho e
    rw [g1] at k1
    cases k1
    exact ⟨rq, by rw [e2]; exact e, k3.trans g2, (k4 x).mpr ⟨fun q => z (by rw [q]; exact sub_self W h), g3⟩⟩
  nd := fun x rx hx => (rm_back W h h1 ho hx).2.elim fun _ q => q.2.2.2.2.2.2.2.2
  dep30 := fun x rx hx => by
    obtain ⟨_, ry, e1, _⟩ := rm_back W h h1 ho hx
    exact W.dep30 x ry e1
  id := fun x rx hx => by
    obtain ⟨_, ry, e1, _⟩ := rm_back W h h1 ho hx
    exact W.id x ry e1
  txt := fun x rx hx hb => by
    obtain ⟨_, ry, e1, _, e3, _, _, _, _, e4, _⟩ := rm_back W h h1 ho hx
    have h2 := W.txt x ry e1 (e3.symm.trans hb)
    refine List.eq_nil_iff_forall_not_mem.mpr fun c hc => ?_
    have := ((e4 c).mp hc).2
    rw [h2] at this
    exact absurd this List.not_mem_nil
theorem count_rm (W : WF t last dep) (h : t n = some r) (h1 : n ≠ 1) (ho : t r.par = some ro) : (sub (rmT t n r ro) 1).length + (sub t n).length = (sub t 1).length := by
  have W2 := wf_rm W h h1 ho
  obtain ⟨r1, g1, _⟩ := W.root
  obtain ⟨r2, g2, _⟩ := W2.root
  have key : ∀ x, x ∈ sub (rmT t n r ro) 1 ++ sub t n ↔ x ∈ sub t 1 := fun x => by
    rw [List.mem_append, mem_all W2, mem_all W]
    constructor
    · rintro (q | q)
      · obtain ⟨a, e⟩ := Option.isSome_iff_exists.mp q
        obtain ⟨_, b, e2, _⟩ := rm_back W h h1 ho e
        rw [e2]; rfl
      · obtain ⟨b, e2, _⟩ := sub_some W h q
        rw [e2]; rfl
    · intro q
      obtain ⟨a, e⟩ := Option.isSome_iff_exists.mp q
      by_cases z : x ∈ sub t n
      · exact Or.inr z
      · obtain ⟨b, e2⟩ := rm_to W h h1 ho e z
        exact Or.inl (by rw [e2]; rfl)
  have nd : (sub (rmT t n r ro) 1 ++ sub t n).Nodup := List.nodup_append.mpr ⟨sub_nd W2 g2, sub_nd W h, fun a ha b hb e => by
    subst e
    obtain ⟨x, e⟩ := Option.isSome_iff_exists.mp ((mem_all W2).mp ha)
    exact (rm_back W h h1 ho e).1 hb⟩
  have := Nat.le_antisymm (List.Nodup.length_le_of_subset nd fun x hx => (key x).mp hx) (List.Nodup.length_le_of_subset (sub_nd W g1) fun x hx => (key x).mpr hx)
  rw [List.length_append] at this
  exact this
theorem rmC_nd (W : WF t last dep) (h : t n = some r) (h1 : n ≠ 1) (ho : t r.par = some ro) : ((rmC t n r ro).map (·.1)).Nodup := by
  unfold rmC
  rw [List.map_append, List.map_map]
  refine List.nodup_append.mpr ⟨?_, by simp, fun a ha b hb e => ?_⟩
  · exact List.Pairwise.map _ (fun a b hab e => hab (by injection e)) (sub_nd W h)
  · obtain ⟨x, hx, rfl⟩ := List.mem_map.mp ha
    have hb := List.mem_singleton.mp hb
    rw [hb] at e
    injection e with e
    exact (rm_par W h h1 ho).2.2.1 (e ▸ hx)
theorem getA_no {l : List Int} {k : Key} {q : Key × PyData} : getA (l.map (fun x => ((.inl x : Key), PyData.none)) ++ [q]) k = if (∃ x ∈ l, k = .inl x) then some .none else if q.1 = k then some q.2 else none := by
  induction l with
  | nil =>
    rw [if_neg (by rintro ⟨x, hx, _⟩; cases hx), List.map_nil, List.nil_append, getA_cons]
    rfl
  | cons y l ih =>
    rw [List.map_cons, List.cons_append, getA_cons, ih]
    by_cases e : k = .inl y
    · rw [if_pos (show (Sum.inl y : Key) = k from e.symm), if_pos ⟨y, List.mem_cons_self .., e⟩]
    · rw [if_neg (show ¬ (Sum.inl y : Key) = k from fun z => e z.symm)]
      by_cases z : ∃ x ∈ l, k = .inl x
      · obtain ⟨x, hx, hk⟩ := z
        rw [if_pos ⟨x, hx, hk⟩, if_pos ⟨x, List.mem_cons_of_mem _ hx, hk⟩]
      · have z2 : ¬ ∃ x ∈ y :: l, k = .inl x := by
          rintro ⟨x, hx, hk⟩
          rcases List.mem_cons.mp hx with q | q
          · exact e (q ▸ hk)
          · exact z ⟨x, q, hk⟩
        rw [if_neg z, if_neg z2]
end
structure RmOk (p : Pg) (n : Int) (r ro : Rw) : Prop where
  ok : PgOk p
  dn : p.hs.done.length < 4000
  row : p.t n = some r
  n1 : n ≠ 1
  orow : p.t r.par = some ro
def rmW (p : Pg) (n : Int) (r ro : Rw) : Pg := wroteX p (rmC p.t n r ro) n
def rmP (p : Pg) (n : Int) (r ro : Rw) : Pg := follow (rmW p n r ro) n
section
variable {p : Pg} {n : Int} {r ro : Rw}
theorem RmOk.get (h : RmOk p n r ro) (k : Key) : getA (rmW p n r ro).hs.cells k = if (∃ x ∈ sub p.t n, k = .inl x) then none else if k = .inl r.par then some (wo ro n).d else getA p.hs.cells k := by
  obtain ⟨dep, W⟩ := h.ok.wf
  show getA (putX p.hs.cells (rmC p.t n r ro)) k = _
  rw [getA_putX _ _ _ (rmC_nd W h.row h.n1 h.orow)]
  unfold rmC
  rw [getA_no]
  by_cases z : ∃ x ∈ sub p.t n, k = .inl x
  · rw [if_pos z, if_pos z]; rfl
  · rw [if_neg z, if_neg z]
    by_cases e : k = .inl r.par
    · rw [if_pos (show (Sum.inl r.par : Key) = k from e.symm), if_pos e]; rfl
    · rw [if_neg (show ¬ (Sum.inl r.par : Key) = k from fun q => e q.symm), if_neg e]; rfl
theorem RmOk.rows (h : RmOk p n r ro) : Rows (rmW p n r ro).hs.cells := fun x d hd => by
  rw [h.get] at hd
  split at hd
  · cases hd
  · split at hd
    · cases hd; exact ⟨_, rfl, noList_kids (tr_nl h.ok.rows h.orow)⟩
    · exact h.ok.rows x d hd
theorem RmOk.tree (h : RmOk p n r ro) : (rmW p n r ro).t = rmT p.t n r ro := by
  funext x
  show (getA (rmW p n r ro).hs.cells (.inl x)).bind decR = _
  rw [h.get]
  unfold rmT
  by_cases z : x ∈ sub p.t n
  · rw [if_pos ⟨x, z, rfl⟩, if_pos z]; rfl
  · rw [if_neg (by rintro ⟨y, hy, e⟩; injection e with e; exact z (e ▸ hy)), if_neg z]
    by_cases e : x = r.par
    · rw [if_pos (by rw [e]), if_pos e]; exact decR_d _
    · rw [if_neg (fun q => e (by injection q)), if_neg e]; rfl
theorem RmOk.win (h : RmOk p n r ro) : getA (rmW p n r ro).hs.cells (.inr "window") = some (.tuple [.int p.w, .int p.h]) := by
  rw [h.get, if_neg (by rintro ⟨x, _, e⟩; cases e), if_neg (fun e => nomatch e)]
  exact h.ok.win
theorem RmOk.winOf (h : RmOk p n r ro) : winOf (rmW p n r ro).hs.cells = (p.w, p.h) := by
  unfold Q.winOf
  rw [h.win]
theorem RmOk.gone (h : RmOk p n r ro) : getA (rmW p n r ro).hs.cells (.inl n) = none := by
  obtain ⟨dep, W⟩ := h.ok.wf
  rw [h.get, if_pos ⟨n, sub_self W h.row, rfl⟩]
theorem RmOk.below (h : RmOk p n r ro) : below (rmW p n r ro).hs.cells n = [] := by
  unfold Q.below
  rw [h.gone]
  rfl
theorem RmOk.fol (h : RmOk p n r ro) : FolOk (rmW p n r ro) n := ⟨by rw [h.winOf]; exact h.win, Or.inl h.gone, Nat.le_trans h.ok.mkl (by decide)⟩
theorem RmOk.len (h : RmOk p n r ro) : (sub p.t n).length ≤ 300 := by
  obtain ⟨dep, W⟩ := h.ok.wf
  exact Nat.le_trans (sub_le W h.row) h.ok.n300
theorem RmOk.wr (h : RmOk p n r ro) : WrX p.hs (rmC p.t n r ro) := by
  obtain ⟨dep, W⟩ := h.ok.wf
  have h1 := h.ok.cl
  have h2 := h.dn
  have h3 := h.len
  refine ⟨rmC_nd W h.row h.n1 h.orow, ?_, by omega, by omega⟩
  unfold rmC
  rw [List.length_append, List.length_map, List.length_singleton]
  omega
theorem RmOk.count (h : RmOk p n r ro) : (sub (rmP p n r ro).t 1).length + (sub p.t n).length = (sub p.t 1).length := by
  obtain ⟨dep, W⟩ := h.ok.wf
  show (sub (rmW p n r ro).t 1).length + _ = _
  rw [h.tree]
  exact count_rm W h.row h.n1 h.orow
theorem RmOk.t (h : RmOk p n r ro) : (rmP p n r ro).t = rmT p.t n r ro := h.tree
theorem RmOk.dlen : (rmP p n r ro).hs.done.length = p.hs.done.length + 1 := by
  show (p.hs.done ++ [_]).length = _
  rw [List.length_append]; rfl
theorem putX_no : ∀ (l : List Int) (m : List (Key × PyData)), (putX m (l.map (fun x => ((.inl x : Key), PyData.none)))).length ≤ m.length
  | [], m => Nat.le_refl _
  | x :: l, m => by
    rw [List.map_cons, putX_cons]
    exact Nat.le_trans (putX_no l _) (List.length_filter_le ..)
theorem RmOk.pg (h : RmOk p n r ro) : PgOk (rmP p n r ro) := by
  obtain ⟨dep, W⟩ := h.ok.wf
  have hdl : (rmW p n r ro).hs.done.length = p.hs.done.length + 1 := by
    show (p.hs.done ++ [_]).length = _
    rw [List.length_append]; rfl
  have h1 := h.ok.cl
  have h2 := h.dn
  have h3 := h.ok.ls
  refine ⟨h.rows, ⟨dep, ?_⟩, ?_, ?_, ?_, ?_, ?_, ?_⟩
  · show WF (rmW p n r ro).t p.last dep
    rw [h.tree]; exact wf_rm W h.row h.n1 h.orow
  · show getA (rmW p n r ro).hs.cells _ = some (.tuple [.int (Q.winOf _).1, .int (Q.winOf _).2])
    rw [h.winOf]
    exact h.win
  · have h4 := h.ok.n300
    have h5 := h.count
    omega
  · show (putX p.hs.cells (rmC p.t n r ro)).length ≤ (rmW p n r ro).hs.done.length + 3
    have h6 : (putX p.hs.cells (rmC p.t n r ro)).length ≤ p.hs.cells.length := by
      unfold rmC
      rw [putX_snoc]
      unfold put1
      rw [isNo_d, if_neg (by decide)]
      unfold setA
      have hp : (getA (putX p.hs.cells ((sub p.t n).map fun x => ((.inl x : Key), PyData.none))) (.inl r.par)).isSome = true := by
        rw [getA_putX]
        · have : getA ((sub p.t n).map fun x => ((.inl x : Key), PyData.none)) (.inl r.par) = none := getA_none.mpr fun q hq e => by
            obtain ⟨x, hx, rfl⟩ := List.mem_map.mp hq
            have e : (Sum.inl x : Key) = .inl r.par := e
            injection e with e
            exact (rm_par W h.row h.n1 h.orow).2.2.1 (e ▸ hx)
          rw [this, (tr_get h.ok.rows).mp h.orow]
          rfl
        · rw [List.map_map]
          exact List.Pairwise.map _ (fun a b hab e => hab (by injection e)) (sub_nd W h.row)
      rw [if_pos hp, List.length_map]
      exact putX_no _ _
    omega
  · show (rmW p n r ro).hs.done.length ≤ 4000
    omega
  · show ((markM p.marked (Q.below _ _) _).map (·.1)).Nodup ∧ _
    have e0 : (rmP p n r ro).marked = p.marked := by
      show markM p.marked (Q.below (rmW p n r ro).hs.cells n) _ = _
      rw [h.below]; rfl
    show ((rmP p n r ro).marked.map (·.1)).Nodup ∧ _
    rw [e0]
    exact h.ok.mkd
  · show p.last ≤ ((rmW p n r ro).hs.done.length : Int) + 1
    omega
end
/-! the value of a page -/
def unO : PyData → PyData
  | .dict [(_, d)] => d
  | d => d
def rowS (n : Int) (r : Rw) : PyData := .tuple [.int n, .int r.par, .str (kdS r.box), r.con, r.marks, unO r.own, r.scr]
def LayD (d : PyData) : Prop := d.canLay0 = true ∧ d.depth ≤ 8
structure RwS (r : Rw) : Prop where
  con : LayD r.con
  mks : LayD r.marks
  own : ∃ ds, r.own = fT ds ∧ LayD (.tuple ds)
  scr : LayD r.scr
def snR (t : Tree) (n : Int) : PyData := match t n with
  | some r => rowS n r
  | none => .none
def snapD (p : Pg) : PyData := .tuple [.int p.w, .int p.h, .tuple [], .tuple ((sub p.t 1).map (snR p.t))]
structure PgS (p : Pg) : Prop where
  ok : PgOk p
  rw_ : ∀ n r, p.t n = some r → RwS r
  ru : getA p.hs.cells (.inr "rules") = some (.tuple [])
theorem depthAll_le {k : Nat} : ∀ {ds : List PyData}, (∀ d ∈ ds, d.canLay0 = true ∧ d.depth ≤ k) → PyData.canLayAll0 ds = true ∧ PyData.depthAll ds ≤ k
  | [], _ => ⟨rfl, Nat.zero_le _⟩
  | d :: ds, h => by
    obtain ⟨a, b⟩ := h d (List.mem_cons_self ..)
    obtain ⟨c, e⟩ := depthAll_le (ds := ds) fun x hx => h x (List.mem_cons_of_mem _ hx)
    simp only [PyData.canLayAll0, PyData.depthAll, a, c, Bool.and_self, true_and]
    omega
theorem lay_tup {k : Nat} {ds : List PyData} (h : ∀ d ∈ ds, d.canLay0 = true ∧ d.depth ≤ k) : (PyData.tuple ds).canLay0 = true ∧ (PyData.tuple ds).depth ≤ k + 1 := by
  obtain ⟨a, b⟩ := depthAll_le h
  simp only [PyData.canLay0, PyData.depth, a, true_and]
  omega
theorem rowS_lay {n : Int} {r : Rw} (h : RwS r) : (rowS n r).canLay0 = true ∧ (rowS n r).depth ≤ 9 := lay_tup fun d hd => by
  obtain ⟨ds, e, ho⟩ := h.own
  have hk : (PyData.str (kdS r.box)).canLay0 = true := by cases r.box <;> decide +kernel
  simp only [List.mem_cons, List.not_mem_nil, or_false] at hd
  rcases hd with e1 | e1 | e1 | e1 | e1 | e1 | e1
  · rw [e1]; exact ⟨rfl, Nat.zero_le _⟩
  · rw [e1]; exact ⟨rfl, Nat.zero_le _⟩
  · rw [e1]; exact ⟨hk, Nat.zero_le _⟩
  · rw [e1]; exact h.con
  · rw [e1]; exact h.mks
  · rw [e1, e]; exact ho
  · rw [e1]; exact h.scr
theorem shaped_snap {p : Pg} (h : PgS p) : SeqAt.shaped (snapD p) = true := by
  have h1 := lay_tup (k := 10) (ds := [.int p.w, .int p.h, .tuple [], .tuple ((sub p.t 1).map (snR p.t))]) fun d hd => by
    simp only [List.mem_cons, List.not_mem_nil, or_false] at hd
    rcases hd with e | e | e | e
    · rw [e]; exact ⟨rfl, Nat.zero_le _⟩
    · rw [e]; exact ⟨rfl, Nat.zero_le _⟩
    · rw [e]; exact ⟨rfl, Nat.le_of_ble_eq_true rfl⟩
    · rw [e]
      refine lay_tup (k := 9) fun d hd => ?_
      obtain ⟨x, hx, rfl⟩ := List.mem_map.mp hd
      unfold snR
      cases q : p.t x with
      | none => exact ⟨rfl, Nat.zero_le _⟩
      | some r => exact rowS_lay (h.rw_ x r q)
  unfold SeqAt.shaped
  rw [Bool.and_eq_true]
  refine ⟨h1.1, decide_eq_true ?_⟩
  have := h1.2
  unfold snapD
  omega
theorem snap_self {p : Pg} (h : PgS p) : PyData.eqv (snapD p) (snapD p) = true := SeqAt.eqv_refl _ (SeqAt.canLay_of_shaped (shaped_snap h))
theorem PgS.ins {p : Pg} {i : Nat} {r rp : Rw} (h : PgS p) (I : InsOk p i r rp) (hr : RwS r) : PgS (insP p i r) := by
  refine ⟨I.pg, fun n rn hn => ?_, ?_⟩
  · rw [I.t] at hn
    unfold insT setT at hn
    split at hn
    · cases hn; exact hr
    · split at hn
      · cases hn
        have := h.rw_ _ _ I.par
        exact ⟨this.con, this.mks, this.own, this.scr⟩
      · exact h.rw_ n rn hn
  · show getA (insW p i r).hs.cells _ = _
    rw [I.get, if_neg (fun e => nomatch e), if_neg (fun e => nomatch e)]
    exact h.ru
theorem PgS.rm {p : Pg} {n : Int} {r ro : Rw} (h : PgS p) (I : RmOk p n r ro) : PgS (rmP p n r ro) := by
  obtain ⟨dep, W⟩ := h.ok.wf
  refine ⟨I.pg, fun x rx hx => ?_, ?_⟩
  · rw [I.t] at hx
    obtain ⟨_, ry, e1, _, _, c1, c2, c3, c4, _⟩ := rm_back W I.row I.n1 I.orow hx
    have := h.rw_ _ _ e1
    exact ⟨c1 ▸ this.con, c2 ▸ this.mks, c3 ▸ this.own, c4 ▸ this.scr⟩
  · show getA (rmW p n r ro).hs.cells _ = _
    rw [I.get, if_neg (by rintro ⟨x, _, e⟩; cases e), if_neg (fun e => nomatch e)]
    exact h.ru
/-! Pages that grow by chains of boxes. -/
theorem bx_S {n : Int} {l : List Nat} (h : LayD (dT l)) : RwS (bxR n l (.tuple [])) := ⟨h, ⟨rfl, Nat.le_of_ble_eq_true rfl⟩, ⟨[], rfl, rfl, Nat.le_of_ble_eq_true rfl⟩, ⟨rfl, Nat.le_of_ble_eq_true rfl⟩⟩
theorem tx_S {n : Int} {l : List Nat} (h : LayD (dT l)) : RwS (txR n l) := ⟨h, ⟨rfl, Nat.le_of_ble_eq_true rfl⟩, ⟨[], rfl, rfl, Nat.le_of_ble_eq_true rfl⟩, ⟨rfl, Nat.le_of_ble_eq_true rfl⟩⟩
theorem root_S : RwS rootR := ⟨⟨by decide +kernel, Nat.zero_le _⟩, ⟨rfl, Nat.le_of_ble_eq_true rfl⟩, ⟨[], rfl, rfl, Nat.le_of_ble_eq_true rfl⟩, ⟨rfl, Nat.le_of_ble_eq_true rfl⟩⟩
theorem pgN_S (w h : Int) : PgS (pgN w h) := by
  refine ⟨pgN_ok w h, fun n r e => ?_, rfl⟩
  rw [pgN_t] at e
  by_cases z : n = 1
  · simp only [z, if_true] at e
    cases e
    exact root_S
  · simp only [z, if_false] at e
    cases e
/-! a chain in a tree -/
def Chn (t : Tree) (a : Int) (k : Nat) : Prop := ∀ j : Nat, j < k → ∃ r, t (a + j) = some r ∧ r.kids = if j + 1 < k then [a + j + 1] else []
section
variable {t : Tree} {last : Int} {dep : Int → Nat} {a : Int} {k : Nat}
theorem chn_sub (W : WF t last dep) (h : Chn t a k) : ∀ (i j : Nat), j < k → k - j ≤ i → (sub t (a + j)).length = k - j ∧ (∀ x ∈ sub t (a + j), a + j ≤ x) ∧ (a + k - 1) ∈ sub t (a + j)
  | 0, j, hj, hi => by omega
  | i + 1, j, hj, hi => by
    obtain ⟨r, hr, hk⟩ := h j hj
    rw [sub_eq W hr, hk]
    by_cases z : j + 1 < k
    · rw [if_pos z]
      obtain ⟨h1, h2, h3⟩ := chn_sub W h i (j + 1) z (by omega)
      have e : a + ((j + 1 : Nat) : Int) = a + j + 1 := by omega
      rw [e] at h1 h2 h3
      simp only [List.map_cons, List.map_nil, List.flatten_cons, List.flatten_nil, List.append_nil, List.length_cons]
      refine ⟨by omega, fun x hx => ?_, List.mem_cons_of_mem _ h3⟩
      rcases List.mem_cons.mp hx with q | q
      · omega
      · have := h2 x q; omega
    · rw [if_neg z]
      simp only [List.map_nil, List.flatten_nil, List.length_cons, List.length_nil]
      refine ⟨by omega, fun x hx => ?_, ?_⟩
      · rw [List.mem_singleton.mp hx]; omega
      · rw [List.mem_singleton]; omega
theorem chn_hg (W : WF t last dep) (h : Chn t a k) : ∀ (i j : Nat), j < k → k - j ≤ i → hgT t (a + j) = (k : Int) - j
  | 0, j, hj, hi => by omega
  | i + 1, j, hj, hi => by
    obtain ⟨r, hr, hk⟩ := h j hj
    rw [hgT_eq W hr, hk]
    by_cases z : j + 1 < k
    · rw [if_pos z]
      have h1 := chn_hg W h i (j + 1) z (by omega)
      have e : a + ((j + 1 : Nat) : Int) = a + j + 1 := by omega
      rw [e] at h1
      show 1 + hgT t (a + j + 1) = _
      omega
    · rw [if_neg z]
      show (1 : Int) + 0 = _
      omega
end
theorem ins_depth {p : Pg} {i : Nat} {r rp : Rw} (I : InsOk p i r rp) : (∀ x rx, p.t x = some rx → depth (insP p i r).t x = depth p.t x) ∧ depth (insP p i r).t (p.last + 1) = depth p.t r.par + 1 := by
  obtain ⟨dep, W⟩ := I.ok.wf
  have W2 := wf_ins (i := i) (r := r) W I.par I.box (by rw [← depth_eq W I.par]; exact I.dep) rfl I.kids
  have hn : insT p.t r.par rp i (p.last + 1) r (p.last + 1) = some r := by unfold insT setT; rw [if_pos rfl]
  rw [I.t]
  refine ⟨fun x rx hx => ?_, ?_⟩
  · have hl := (W.id x rx hx).2
    have hs : ∃ ry, insT p.t r.par rp i (p.last + 1) r x = some ry := by
      unfold insT setT
      rw [if_neg (by omega)]
      split
      · exact ⟨_, rfl⟩
      · exact ⟨_, hx⟩
    obtain ⟨ry, e⟩ := hs
    rw [depth_eq W2 e, depth_eq W hx, if_neg (by omega)]
  · rw [depth_eq W2 hn, depth_eq W I.par, if_pos rfl]
theorem ins_old {p : Pg} {i : Nat} {r rp : Rw} (I : InsOk p i r rp) {x : Int} (h1 : x ≠ r.par) (h2 : x ≠ p.last + 1) : (insP p i r).t x = p.t x := by
  rw [I.t]
  unfold insT setT
  rw [if_neg h2, if_neg h1]
theorem ins_par {p : Pg} {i : Nat} {r rp : Rw} (I : InsOk p i r rp) : (insP p i r).t r.par = some { rp with kids := insL rp.kids i (p.last + 1) } := by
  rw [I.t]
  unfold insT setT
  rw [if_neg I.ne, if_pos rfl]
theorem ins_new {p : Pg} {i : Nat} {r rp : Rw} (I : InsOk p i r rp) : (insP p i r).t (p.last + 1) = some r := I.new
theorem ins_done {p : Pg} {i : Nat} {r : Rw} : (insP p i r).hs.done.length = p.hs.done.length + 1 := by
  show (p.hs.done ++ [_]).length = _
  rw [List.length_append]; rfl
theorem ins_count {p : Pg} {i : Nat} {r rp : Rw} (I : InsOk p i r rp) : (sub (insP p i r).t 1).length = (sub p.t 1).length + 1 := I.count
/-- a box below a0, a box below that, .. -/
def curL (last : Int) (a0 : Int) (k : Nat) : Int := if k = 0 then a0 else last + k
def lnP (l : List Nat) (p : Pg) (a0 : Int) : Nat → Pg
  | 0 => p
  | k + 1 => insP (lnP l p a0 k) 0 (bxR (curL p.last a0 k) l (.tuple []))
structure LnI (l : List Nat) (p : Pg) (a0 : Int) (r0 : Rw) (d0 k : Nat) : Prop where
  s : PgS (lnP l p a0 k)
  last : (lnP l p a0 k).last = p.last + k
  count : (sub (lnP l p a0 k).t 1).length = (sub p.t 1).length + k
  done : (lnP l p a0 k).hs.done.length = p.hs.done.length + k
  old : ∀ x, x ≠ a0 → x ≤ p.last → (lnP l p a0 k).t x = p.t x
  at0 : (lnP l p a0 k).t a0 = some (if k = 0 then r0 else { r0 with kids := insL r0.kids 0 (p.last + 1) })
  ch : Chn (lnP l p a0 k).t (p.last + 1) k
  bx : ∀ j : Nat, j < k → ∃ r, (lnP l p a0 k).t (p.last + 1 + j) = some r ∧ r.box = true
  dep : ∀ x rx, p.t x = some rx → depth (lnP l p a0 k).t x = depth p.t x
  cdep : depth (lnP l p a0 k).t (curL p.last a0 k) = d0 + k
theorem lnI (l : List Nat) (p : Pg) (a0 : Int) (r0 : Rw) (d0 : Nat) (hl : LayD (dT l)) (S : PgS p) (h0 : p.t a0 = some r0) (hb : r0.box = true) (hd : depth p.t a0 = d0) : ∀ k : Nat, d0 + k ≤ 30 → (sub p.t 1).length + k ≤ 300 → p.hs.done.length + k ≤ 4000 → LnI l p a0 r0 d0 k ∧ (k = 0 ∨ ∃ rp, InsOk (lnP l p a0 (k - 1)) 0 (bxR (curL p.last a0 (k - 1)) l (.tuple [])) rp)
  | 0, _, _, _ => ⟨⟨S, by show p.last = _; omega, rfl, rfl, fun _ _ _ => rfl, h0, fun j hj => absurd hj (Nat.not_lt_zero _), fun j hj => absurd hj (Nat.not_lt_zero _), fun _ _ _ => rfl, hd⟩, Or.inl rfl⟩
  | k + 1, h1, h2, h3 => by
    obtain ⟨I, _⟩ := lnI l p a0 r0 d0 hl S h0 hb hd k (by omega) (by omega) (by omega)
    obtain ⟨dep, W⟩ := S.ok.wf
    have ha0 := (W.id _ _ h0).2
    -- the row under which the next one stands
    have hcur : ∃ rp, (lnP l p a0 k).t (curL p.last a0 k) = some rp ∧ rp.box = true ∧ (k ≠ 0 → rp.kids = []) ∧ (k = 0 → rp = r0) := by
      unfold curL
      by_cases z : k = 0
      · subst z
        exact ⟨r0, I.at0, hb, fun q => absurd rfl q, fun _ => rfl⟩
      · rw [if_neg z]
        obtain ⟨r, e, hk⟩ := I.ch (k - 1) (by omega)
        obtain ⟨r2, e2, hb2⟩ := I.bx (k - 1) (by omega)
        rw [if_neg (by omega)] at hk
        rw [e] at e2
        cases e2
        have q : p.last + 1 + ((k - 1 : Nat) : Int) = p.last + k := by omega
        rw [q] at e
        exact ⟨r, e, hb2, fun _ => hk, fun q => absurd q z⟩
    obtain ⟨rp, c1, c2, c3, c4⟩ := hcur
    have hnl : noList (bxR (curL p.last a0 k) l (.tuple [])).d = true := rfl
    have J : InsOk (lnP l p a0 k) 0 (bxR (curL p.last a0 k) l (.tuple [])) rp := ⟨I.s.ok, c1, c2, Nat.zero_le _, by show depth _ (curL p.last a0 k) + 1 ≤ 30; rw [I.cdep]; omega, by rw [I.count]; omega, by rw [I.done]; omega, rfl, hnl⟩
    obtain ⟨D1, D2⟩ := ins_depth J
    have hlast := I.last
    have hne : curL p.last a0 k ≠ p.last + k + 1 := by unfold curL; split <;> omega
    have hpar := ins_par J
    have hnew := ins_new J
    have hold := fun (x : Int) (h1 : x ≠ curL p.last a0 k) (h2 : x ≠ (lnP l p a0 k).last + 1) => ins_old J h1 h2
    refine ⟨⟨I.s.ins J (bx_S hl), ?_, ?_, ?_, fun x x1 x2 => ?_, ?_, fun j hj => ?_, fun j hj => ?_, fun x rx hx => ?_, ?_⟩, Or.inr ⟨rp, J⟩⟩
    · show (lnP l p a0 k).last + 1 = _; rw [hlast]; omega
    · show (sub (insP _ _ _).t 1).length = _; rw [ins_count J, I.count]; omega
    · show (insP _ _ _).hs.done.length = _; rw [ins_done, I.done]; omega
    · rw [← I.old x x1 x2]
      refine hold x ?_ (by omega)
      unfold curL
      split
      · exact x1
      · omega
    · rw [if_neg (by omega)]
      by_cases z : k = 0
      · subst z
        have e := hpar
        rw [c4 rfl] at e
        exact e
      · have e := hold a0 (by unfold curL; rw [if_neg z]; omega) (by omega)
        have e2 := I.at0
        rw [if_neg z] at e2
        exact e.trans e2
    · by_cases z : j = k
      · subst z
        refine ⟨bxR (curL p.last a0 j) l (.tuple []), ?_, by rw [if_neg (by omega)]; rfl⟩
        have q : p.last + 1 + (j : Int) = (lnP l p a0 j).last + 1 := by omega
        rw [q]
        exact hnew
      · obtain ⟨r, e, hk⟩ := I.ch j (by omega)
        by_cases y : j + 1 = k
        · have hc : curL p.last a0 k = p.last + 1 + j := by unfold curL; rw [if_neg (by omega)]; omega
          have e3 := c1
          rw [hc, e] at e3
          cases e3
          refine ⟨{ rp with kids := insL rp.kids 0 ((lnP l p a0 k).last + 1) }, ?_, ?_⟩
          · rw [← hc]; exact hpar
          rw [if_pos (by omega)]
          show insL rp.kids 0 _ = _
          rw [c3 (by omega), hlast]
          show [p.last + k + 1] = _
          rw [show p.last + 1 + (j : Int) + 1 = p.last + k + 1 by omega]
        · refine ⟨r, (hold _ ?_ (by omega)).trans e, ?_⟩
          · unfold curL; split <;> omega
          · rw [hk, if_pos (by omega), if_pos (by omega)]
    · by_cases z : j = k
      · subst z
        refine ⟨bxR (curL p.last a0 j) l (.tuple []), ?_, rfl⟩
        have q : p.last + 1 + (j : Int) = (lnP l p a0 j).last + 1 := by omega
        rw [q]
        exact hnew
      · obtain ⟨r, e, hk⟩ := I.bx j (by omega)
        by_cases y : p.last + 1 + (j : Int) = curL p.last a0 k
        · refine ⟨{ rp with kids := insL rp.kids 0 ((lnP l p a0 k).last + 1) }, ?_, c2⟩
          rw [y]; exact hpar
        · exact ⟨r, (hold _ y (by omega)).trans e, hk⟩
    · have hs : ∃ ry, (lnP l p a0 k).t x = some ry := by
        by_cases y : x = a0
        · exact ⟨_, (congrArg _ y).trans I.at0⟩
        · exact ⟨rx, (I.old x y (W.id _ _ hx).2).trans hx⟩
      obtain ⟨ry, e⟩ := hs
      show depth (insP _ _ _).t x = _
      rw [D1 x ry e, I.dep x rx hx]
    · have q : curL p.last a0 (k + 1) = (lnP l p a0 k).last + 1 := by unfold curL; rw [if_neg (by omega)]; omega
      rw [q]
      show depth (insP _ _ _).t _ = _
      rw [D2, show (bxR (curL p.last a0 k) l (.tuple [])).par = curL p.last a0 k from rfl, I.cdep]
      omega
def aL : List Nat := [97]
def bL2 : List Nat := [98]
def cL : List Nat := [99]
def zL : List Nat := [122]
/-- the page with a chain of m below the root -/
def chPg (m : Nat) : Pg := lnP aL (pgN 1 1) 1 m
theorem chI (m : Nat) (hm : m ≤ 29) : LnI aL (pgN 1 1) 1 rootR 1 m ∧ (m = 0 ∨ ∃ rp, InsOk (chPg (m - 1)) 0 (bxR (curL 1 1 (m - 1)) aL (.tuple [])) rp) :=
  lnI aL (pgN 1 1) 1 rootR 1 ⟨by decide +kernel, Nat.zero_le _⟩ (pgN_S 1 1) (by rw [pgN_t]; rfl) rfl (pgN_depth 1 1) m (by omega) (by rw [pgN_count]; omega) (by show 0 + m ≤ 4000; omega)
theorem ch_last (m : Nat) (hm : m ≤ 29) : (chPg m).last = m + 1 := by have := (chI m hm).1.last; show (lnP aL (pgN 1 1) 1 m).last = _; rw [this]; show (1 : Int) + m = _; omega
theorem ch_count (m : Nat) (hm : m ≤ 29) : (sub (chPg m).t 1).length = m + 1 := by have := (chI m hm).1.count; show (sub (lnP aL (pgN 1 1) 1 m).t 1).length = _; rw [this, pgN_count]; omega
theorem ch_done (m : Nat) (hm : m ≤ 29) : (chPg m).hs.done.length = m := by have := (chI m hm).1.done; show (lnP aL (pgN 1 1) 1 m).hs.done.length = _; rw [this]; show 0 + m = _; omega
/-- its last node -/
theorem ch_end (m : Nat) (hm : m ≤ 29) : ∃ r, (chPg m).t ((m : Int) + 1) = some r ∧ r.box = true ∧ r.kids = [] ∧ depth (chPg m).t ((m : Int) + 1) = m + 1 := by
  have I := (chI m hm).1
  have hc : curL (pgN 1 1).last 1 m = (m : Int) + 1 := by
    unfold curL
    split
    · rename_i h; subst h; rfl
    · show (1 : Int) + m = _; omega
  have hd := I.cdep
  rw [hc] at hd
  by_cases z : m = 0
  · subst z
    exact ⟨rootR, I.at0, rfl, rfl, hd.trans (by omega)⟩
  · obtain ⟨r, e, hk⟩ := I.ch (m - 1) (by omega)
    obtain ⟨r2, e2, hb⟩ := I.bx (m - 1) (by omega)
    rw [e] at e2
    cases e2
    rw [if_neg (by omega)] at hk
    have q : (pgN 1 1).last + 1 + ((m - 1 : Nat) : Int) = (m : Int) + 1 := by show (1 : Int) + 1 + _ = _; omega
    rw [q] at e
    exact ⟨r, e, hb, hk, hd.trans (by omega)⟩
/-! What an insertion and a move may be refused for. -/
inductive Er where
  | place
  | deep
  | many
def Er.ad (a b c : Addr) : Er → Addr
  | .place => a
  | .deep => b
  | .many => c
def Er.nm : Er → Str
  | .place => "BadPlace"
  | .deep => "TooDeep"
  | .many => "TooMany"
structure InsPre (p : Pg) (r rp : Rw) : Prop where
  ok : PgOk p
  par : p.t r.par = some rp
  box : rp.box = true
  dn : p.hs.done.length < 4000
  kids : r.kids = []
  nl : noList r.d = true
theorem InsOk.pre {p : Pg} {i : Nat} {r rp : Rw} (h : InsOk p i r rp) : InsPre p r rp := ⟨h.ok, h.par, h.box, h.dn, h.kids, h.nl⟩
theorem kids_le {p : Pg} (ok : PgOk p) {y : Int} {ry : Rw} (hy : p.t y = some ry) : ry.kids.length ≤ 300 := by
  obtain ⟨dep, W⟩ := ok.wf
  have h1 := sub_le W hy
  have h2 : ry.kids.length ≤ (sub p.t y).length := List.Nodup.length_le_of_subset (W.nd _ _ hy) fun c hc => (mem_sub W hy).mpr (Or.inr ⟨c, hc, by obtain ⟨rc, e, _⟩ := W.kid _ _ c hy hc; exact sub_self W e⟩)
  have h3 := ok.n300
  omega
theorem InsPre.kl {p : Pg} {r rp : Rw} (h : InsPre p r rp) : rp.kids.length ≤ 300 := kids_le h.ok h.par
def insEr (p : Pg) (i : Nat) (r rp : Rw) : Option (Er × PyData) := if rp.kids.length < i then some (.place, .int i) else if 30 < depth p.t r.par + 1 then some (.deep, .int ((depth p.t r.par : Nat) + 1)) else if 300 < (sub p.t 1).length + 1 then some (.many, .int ((sub p.t 1).length + 1)) else none
theorem InsPre.ok_ {p : Pg} {i : Nat} {r rp : Rw} (h : InsPre p r rp) (e : insEr p i r rp = none) : InsOk p i r rp := by
  unfold insEr at e
  split at e
  · cases e
  · split at e
    · cases e
    · split at e
      · cases e
      · exact ⟨h.ok, h.par, h.box, by omega, by omega, by omega, h.dn, h.kids, h.nl⟩
structure MvPre (p : Pg) (n q : Int) (r ro rq : Rw) : Prop where
  ok : PgOk p
  dn : p.hs.done.length < 4000
  row : p.t n = some r
  n1 : n ≠ 1
  orow : p.t r.par = some ro
  qrow : p.t q = some rq
  qbox : rq.box = true
  out : q ∉ sub p.t n
  hg : 0 ≤ hgT p.t n ∧ hgT p.t n ≤ 1000
def mvEr (t : Tree) (n q : Int) (r ro rq : Rw) (i : Nat) : Option (Er × PyData) := if (tgR r.par q ro rq n).kids.length < i then some (.place, .int i) else if 30 < (depth t q : Int) + hgT t n then some (.deep, .int ((depth t q : Int) + hgT t n)) else none
theorem MvPre.ok_ {p : Pg} {n q : Int} {r ro rq : Rw} {i : Nat} (h : MvPre p n q r ro rq) (e : mvEr p.t n q r ro rq i = none) : MvOk p.t n q r ro rq i := by
  unfold mvEr at e
  split at e
  · cases e
  · split at e
    · cases e
    · exact ⟨h.row, h.n1, h.orow, h.qrow, h.qbox, h.out, by omega, by omega⟩
theorem insEr_ev {p : Pg} {i : Nat} {r rp : Rw} {k : Er} {e : PyData} (h : InsPre p r rp) (hi : i ≤ 1000) (he : insEr p i r rp = some (k, e)) : ∃ xv, DL.EvD e xv := by
  obtain ⟨dep, W⟩ := h.ok.wf
  have h1 := W.dep30 _ _ h.par
  have h2 := depth_eq W h.par
  have h3 := h.ok.n300
  unfold insEr at he
  split at he
  · cases he; exact ⟨_, DL.evD_I (by omega) (by omega)⟩
  · split at he
    · cases he; exact ⟨_, DL.evD_I (by omega) (by omega)⟩
    · split at he
      · cases he; exact ⟨_, DL.evD_I (by omega) (by omega)⟩
      · cases he
theorem mvEr_ev {p : Pg} {n q : Int} {r ro rq : Rw} {i : Nat} {k : Er} {e : PyData} (h : MvPre p n q r ro rq) (hi : i ≤ 1000) (he : mvEr p.t n q r ro rq i = some (k, e)) : ∃ xv, DL.EvD e xv := by
  obtain ⟨dep, W⟩ := h.ok.wf
  have h1 := W.dep30 _ _ h.qrow
  have h2 := depth_eq W h.qrow
  have h3 := h.hg
  unfold mvEr at he
  split at he
  · cases he; exact ⟨_, DL.evD_I (by omega) (by omega)⟩
  · split at he
    · cases he; exact ⟨_, DL.evD_I (by omega) (by omega)⟩
    · cases he
def R_History__put : Hs → List SV → Hs → PyData → Prop := fun h ds h' d => ∃ c : List (Key × PyData), (c.map (·.1)).Nodup ∧ h.cells.length + c.length ≤ 10000 ∧ ds = [.r 0, .z c] ∧ h' = ⟨putX h.cells c, h.done⟩ ∧ d = .none
theorem R_History__put_len : ∀ x ds x' d, R_History__put x ds x' d → ds.length = 2 := by
  intro x ds x' d hh
  unfold R_History__put at hh
  repeat (obtain ⟨_, hh⟩ := hh)
  subst_eqs
  rfl
theorem ok_History__put {P : Program} {w : World} {K : PySem.W.Frag} {mg : Str → Option Value} {base : Heap} {f : Addr} {fd : FuncData} (F : DL.FnM K "_put" "History._put" s_History__put [] f fd) {C_History : Addr} (kC_History : Cls K C_History) (n_History_cells : NoAttr K C_History "cells") (n_History__done : NoAttr K C_History "_done") (n_History__undone : NoAttr K C_History "_undone") (me : Meth K C_History "_put" f) : DL.MetP P w K mg base 1 C_History "_put" ["self", "changes"] (DL.spS K 3 (shapeH C_History) R_History__put) := by
  refine DL.met_mk F sc_History__put kC_History me (DL.spS_len R_History__put_len) (fun _ _ _ _ _ _ us hl => match us, hl with | [_, _], _ => rfl) (fun cdv A outer s H vs Q E hr h => ⟨_,
    (pss_cons (ps_for PassesOwn.never rfl (pi_keys (pv 1)) (pg_name (i := 2) sc_History__put.nd rfl (by first | exact Or.inl rfl | exact Or.inr rfl))
     (pss_cons (ps_if (pt_cmpR op_notN (pe_dget (DL.u1 hr.units) (pv 1) (pv 2) (fun _ _ => rfl)) pe_non (nomark _))
     (pss_cons (ps_dput (DL.u1 hr.units) (DL.kFld (K := K) (pv 0)) (pv 2) (pe_dget (DL.u1 hr.units) (pv 1) (pv 2) (fun _ _ => rfl)) rfl)
     pss_nil)
     (pss_cons (ps_if (pt_cmp (pc_din (DL.u1 hr.units) (pv 2) (DL.kFld (K := K) (pv 0))))
     (pss_cons (ps_ddel (DL.kFld (K := K) (pv 0)) (pv 2))
     pss_nil)
     pss_nil)
     pss_nil))
     pss_nil))
     pss_nil), ?_⟩)
  refine DL.run_spS h (Nat.le_trans (Nat.le_of_eq (DL.spS_len R_History__put_len _ _ _ _ h)) (by decide)) fun N ad x ds hsh hR hq => ?_
  obtain ⟨x', d, c, hn, hz, rfl, rfl, rfl⟩ := hR
  simp only [envG, List.map, List.length, List.replicate, List.cons_append, List.nil_append, Nat.reduceAdd, Nat.reduceSub, Nat.sub_self]
  unfold shapeH
  refine' gs_forL (xs := c) (e := fun p : Key × PyData => .i (kdat p.1)) (fun _ => [some (.r 0), some (.z c), none]) (fun pre => [.ob C_History [("cells", .r 1), ("_done", .r 2), ("_undone", .i (.list []))], dkO (putX x.cells pre), .lst (x.done.map SV.i)]) (ew_keysZ (ez_var rfl)) rfl (fun i p hp => itD_map i p hp) (fun c' _ ad σ H ok => ok) (fun _ _ _ => True.intro) (fun fr up pre p post hx => ⟨_, _, tg_name, ?a1⟩) ?a2
  case a2 =>
    exact g_endS (x' := ⟨putX x.cells c, x.done⟩) hq (fun i o e => (show (shapeH C_History ⟨putX x.cells c, x.done⟩)[i]? = some o from e)) (shapeH_ok _ _) ⟨c, hn, hz, rfl, rfl, rfl⟩
  case a1 =>
    walk_at "nf"
    have hg : getA c p.1 = some p.2 := by rw [hx] at hn ⊢; exact getA_mid hn
    have hlen : (putX x.cells pre).length < 100000 := by
      have h1 := putX_len pre x.cells
      have h2 : pre.length ≤ c.length := by rw [hx]; simp
      omega
    refine gs_if (b := !isNo p.2) (EvT.is (et_test (ex_notN rfl (ex_dgetZ (ez_var rfl) (ex_var rfl) hg))) ?b0) (fun hb => ?b1) (fun hb => ?b2)
    case b0 =>
      obtain ⟨p1, p2⟩ := p
      cases p2 <;> rfl
    case b1 =>
      have hb : isNo p.2 = false := by simpa using hb
      refine gs_dput (k := 1) (kk := p.1) (s := .i p.2) (show EvX false _ _ _ _ _ from ex_dgetZ (ez_var rfl) (ex_var rfl) hg) (er_fldO (k := 0) (er_var rfl (by simp)) rfl kC_History n_History_cells rfl (by simp)) rfl (ex_var rfl) (by rw [List.length_map]; exact hlen) ?_
      refine g_nextU ?_
      have e : putX x.cells (pre ++ [p]) = setA (putX x.cells pre) p.1 p.2 := by
        rw [putX_snoc]
        unfold put1
        rw [hb, if_neg (by decide)]
      refine gs_is (os' := [.ob C_History [("cells", .r 1), ("_done", .r 2), ("_undone", .i (.list []))], dkO (putX x.cells (pre ++ [p])), .lst (x.done.map SV.i)]) rfl (by rw [setA_dkO, e]; rfl) ?_
      exact g_next fun ad σ H ok => ⟨ad, ok.weak (by simp [WkE]) (WkO.refl _) (by simp [EnLt, SvLt]) ⟨by simp [SoLt, SvLt], dkO_lt _ _, soLt_data, True.intro⟩ (by simp)⟩
    case b2 =>
      have hb : isNo p.2 = true := by simpa using hb
      refine gs_if (b := (getA (putX x.cells pre) p.1).isSome) (EvT.is (et_test (ex_inD (ek := fun k : Key => k) (ev := fun d : PyData => d) (a := p.1) (fun _ _ e => e) (ex_var rfl) (ex_dat (er_fldO (k := 0) (er_var rfl (by simp)) rfl kC_History n_History_cells rfl (by simp)) (DatO.dK (kvs := (putX x.cells pre).map fun p => (p.1, SV.i p.2)) rfl (DatK.i _))))) rfl) (fun hc => ?c1) (fun hc => ?c2)
      case c1 =>
        refine gs_ddel (k := 1) (kk := p.1) (er_fldO (k := 0) (er_var rfl (by simp)) rfl kC_History n_History_cells rfl (by simp)) rfl (ex_var rfl) (by rw [getA_dkO, Option.isSome_map]; exact hc) ?_
        refine g_nextU (g_nextU ?_)
        have e : putX x.cells (pre ++ [p]) = DL.delA (putX x.cells pre) p.1 := by
          rw [putX_snoc]
          unfold put1
          rw [hb, if_pos rfl]
        refine gs_is (os' := [.ob C_History [("cells", .r 1), ("_done", .r 2), ("_undone", .i (.list []))], dkO (putX x.cells (pre ++ [p])), .lst (x.done.map SV.i)]) rfl (by rw [e]; unfold DL.delA dkO; rw [List.filter_map]; rfl) ?_
        exact g_next fun ad σ H ok => ⟨ad, ok.weak (by simp [WkE]) (WkO.refl _) (by simp [EnLt, SvLt]) ⟨by simp [SoLt, SvLt], dkO_lt _ _, soLt_data, True.intro⟩ (by simp)⟩
      case c2 =>
        refine g_nextU (g_nextU ?_)
        have hn0 : getA (putX x.cells pre) p.1 = none := by
          cases q : getA (putX x.cells pre) p.1 with
          | none => rfl
          | some d => rw [q] at hc; cases hc
        have e : putX x.cells (pre ++ [p]) = putX x.cells pre := by
          rw [putX_snoc]
          unfold put1
          rw [hb, if_pos rfl]
          unfold DL.delA
          refine List.filter_eq_self.mpr fun q hq2 => ?_
          have := getA_none.mp hn0 q hq2
          simpa using this
        refine gs_is (os' := [.ob C_History [("cells", .r 1), ("_done", .r 2), ("_undone", .i (.list []))], dkO (putX x.cells (pre ++ [p])), .lst (x.done.map SV.i)]) rfl (by rw [e]) ?_
        exact g_next fun ad σ H ok => ⟨ad, ok.weak (by simp [WkE]) (WkO.refl _) (by simp [EnLt, SvLt]) ⟨by simp [SoLt, SvLt], dkO_lt _ _, soLt_data, True.intro⟩ (by simp)⟩
-- END History__put
theorem sc_History_write : FnScope ["self", "after", "note", "before", "key"] ["self", "after", "note"] (defScope s_History_write) := ⟨rfl, rfl, rfl, by decide +kernel, rfl, by decide +kernel, by decide +kernel⟩
def R_History_write : Hs → List SV → Hs → PyData → Prop := fun h ds h' d => ∃ (c : List (Key × PyData)) (nt : PyData), ds = [.r 0, .z c, .i nt] ∧ WrX h c ∧ h' = wroteHX h c nt ∧ d = .none
theorem R_History_write_len : ∀ x ds x' d, R_History_write x ds x' d → ds.length = 3 := by
  intro x ds x' d hh
  unfold R_History_write at hh
  repeat (obtain ⟨_, hh⟩ := hh)
  subst_eqs
  rfl
theorem ok_History_write {P : Program} {w : World} {K : PySem.W.Frag} {mg : Str → Option Value} {base : Heap} {f : Addr} {fd : FuncData} (F : DL.FnM K "write" "History.write" s_History_write [] f fd) {C_History : Addr} (kC_History : Cls K C_History) (n_History_cells : NoAttr K C_History "cells") (n_History__done : NoAttr K C_History "_done") (n_History__undone : NoAttr K C_History "_undone") (h_History__put : DL.MetP P w K mg base 1 C_History "_put" ["self", "changes"] (DL.spS K 3 (shapeH C_History) R_History__put)) (me : Meth K C_History "write" f) : DL.MetP P w K mg base 2 C_History "write" ["self", "after", "note"] (DL.spS K 3 (shapeH C_History) R_History_write) := by
  refine DL.met_mk F sc_History_write kC_History me (DL.spS_len R_History_write_len) (fun _ _ _ _ _ _ us hl => match us, hl with | [_, _, _], _ => rfl) (fun cdv A outer s H vs Q E hr h => ⟨_,
    (pss_cons (ps_setDc (i := 3) (own := [("key", 4)]) (by rfl) sc_History_write.nd rfl rfl (sw_trueD rfl rfl rfl (by decide +kernel)) (pi_keys (pv 1)) (blkOk_by (own := [("key", 4)]) (N := ["self", "after", "note", "before", "key"]) (sc := defScope s_History_write) (by decide +kernel)) (fun _ _ _ _ _ => (pg_name (i := 4) sc_History_write.nd rfl (by first | exact Or.inl rfl | exact Or.inr rfl))) (fun _ _ _ _ _ => pts_nil) (fun _ _ _ _ _ => (pv 4)) (fun _ _ _ _ _ => (pe_dget1 (DL.u1 hr.units) (DL.kFld (K := K) (pv 0)) (pv 4) ⟨rfl, rfl, rfl, rfl⟩)))
     (pss_cons (ps_expr (DL.kBm (K := K) (pe_bm PySem.F.plainAttrs_list PySem.F.slot_list_append PySem.F.type_list_append mt_append (DL.kFld (K := K) (pv 0)) (pa_cons (pe_tup (pa_cons (pv 3) (pa_cons (pv 1) (pa_cons (pv 2) pa_nil)))) pa_nil))))
     (pss_cons (DL.kSetFld (K := K) (pv 0) (pe_lst pa_nil))
     (pss_cons (ps_expr (DL.pe_metP h_History__put hr (by decide) pass0 (pv 0) (pa_cons (pv 1) pa_nil)))
     pss_nil)))), ?_⟩)
  refine DL.run_spS h (Nat.le_trans (Nat.le_of_eq (DL.spS_len R_History_write_len _ _ _ _ h)) (by decide)) fun N ad x ds hsh hR hq => ?_
  obtain ⟨x', d, c, nt, rfl, hwr, rfl, rfl⟩ := hR
  have hn := hwr.nd
  have hz := hwr.cl
  have hz2 := hwr.hl
  have hz3 := hwr.dl
  simp only [envG, List.map, List.length, List.replicate, List.cons_append, List.nil_append, Nat.reduceAdd, Nat.reduceSub, Nat.sub_self]
  unfold shapeH
  refine' gs_asgF (o := dkO (befM x.cells c)) (ef_dc (ek := fun k : Key => k) (ev := fun d : PyData => d) (fun _ _ e => e) (xs := c) (e := fun p : Key × PyData => .i (kdat p.1)) (fun p : Key × PyData => p.1) (fun p : Key × PyData => (getA x.cells p.1).getD .none) (ew_keysZ (ez_var rfl)) rfl (fun i p hp => itD_map i p hp) (fun _ => True.intro) (by omega) (fun fr lo up acc p hp => ⟨_, _, fun j hj => hj, tg_name, et_yes, ex_var rfl, ex_dget1O (k := 1) (er_fldO (k := 0) (er_var rfl (by simp)) rfl kC_History n_History_cells rfl (by simp)) rfl (ex_var rfl)⟩)) ?_
  walk_at "nf"
  refine gs_ownK (i := 3) (k := 3) (m := befM x.cells c) rfl rfl ?_
  walk_at "nf"
  refine gs_app (k := 2) (er_fldO (k := 0) (er_var rfl (by simp)) rfl kC_History n_History__done rfl (by simp)) rfl (s := .i (.tuple [dK0 (befM x.cells c), dK0 c, nt])) (show EvX false _ _ _ _ _ from ex_tup (ea_cons (ex_var rfl) (ea_cons (EvZ.ev (ez_var rfl)) (ea_cons (ex_var rfl) ea_nil))) (Nat.le_of_ble_eq_true rfl)) (by rw [List.length_map]; omega) ?_
  refine gs_setFld (k := 0) (s := .i (.list [])) (show EvX false _ _ _ _ _ from EvF.ev (ds := []) (ef_lst eas_nil (Nat.zero_le _))) (er_var rfl (by simp)) rfl kC_History n_History__undone (Nat.le_of_ble_eq_true rfl) ?_
  refine gs_weak (env' := [some (.r 0), some (.z c), some (.i nt), none, none]) (os' := shapeH C_History ⟨x.cells, x.done ++ [.tuple [dK0 (befM x.cells c), dK0 c, nt]]⟩) (by simp [WkE]) ?a1 (by simp [EnLt, SvLt, shapeH]) (shapeH_ok _ _).lt (Nat.le_refl _) ?_
  case a1 =>
    refine ⟨Or.inr rfl, Or.inr rfl, Or.inr ?_, True.intro⟩
    show SO.lst _ = SO.lst _
    rw [List.map_append]
    rfl
  refine gs_doN (en_meth (k := 0) (ds := [.z c]) (x := ⟨x.cells, x.done ++ [.tuple [dK0 (befM x.cells c), dK0 c, nt]]⟩) (segAt_self (shapeH_ok C_History)) (er_var rfl (by simp [shapeH])) rfl rfl (by decide) (fun s hs => by rw [List.mem_singleton.mp hs]; exact True.intro) (eas_cons (show EvZ _ _ _ _ _ from ez_var rfl) eas_nil) ⟨_, _, c, hn, by show x.cells.length + c.length ≤ 10000; omega, rfl, rfl, rfl⟩) ?_
  rintro _ _ ⟨_, ⟨c2, _, _, e1, rfl, rfl⟩, rfl⟩
  cases e1
  exact g_endS (x' := wroteHX x c nt) hq (fun i o e => e) (shapeH_ok _ _) ⟨c, nt, rfl, hwr, rfl, rfl⟩
-- END History_write
theorem sc_new_row : FnScope ["parent", "kind", "content", "marks"] ["parent", "kind", "content", "marks"] (defScope s_new_row) := ⟨rfl, rfl, rfl, by decide +kernel, rfl, by decide +kernel, by decide +kernel⟩
def rowO (p k c m : PyData) : PyData := .tuple [p, k, c, m, fT [], .tuple [.int 0, .int 0], .tuple []]
def R_new_row : List PyData → PyData → Prop := fun ds d => ∃ p k c m, ds = [p, k, c, m] ∧ d = rowO p k c m
theorem R_new_row_i {p k c m : PyData} : R_new_row [p, k, c, m] (rowO p k c m) := ⟨p, k, c, m, rfl, rfl⟩
local macro_rules | `(tactic| walk_at "r2") => `(tactic| exact R_new_row_i)
theorem R_new_row_len : ∀ ds d, R_new_row ds d → ds.length = 4 := by
  intro ds d hh
  unfold R_new_row at hh
  repeat (obtain ⟨_, hh⟩ := hh)
  subst_eqs
  rfl
theorem ok_new_row {P : Program} {w : World} {K : PySem.W.Frag} {mg : Str → Option Value} {base : Heap} {f : Addr} {fd : FuncData} (F : FnP K "new_row" s_new_row f fd) (g0 : mg "new_row" = some (.ref f)) : Cal P w K mg base 1 "new_row" ["parent", "kind", "content", "marks"] (spD K  R_new_row) := by
  refine cal_mk F sc_new_row g0 (spD_len R_new_row_len) (fun _ _ _ _ _ _ us hl => match us, hl with | [_, _, _, _], _ => rfl) (fun cdv A outer s H vs Q E hr h => ⟨_,
    (pss_cons (ps_ret (pe_tup (pa_cons (pv 0) (pa_cons (pv 1) (pa_cons (pv 2) (pa_cons (pv 3) (pa_cons (DL.pe_tupF pa_nil) (pa_cons (pe_tup (pa_cons pe_int (pa_cons pe_int pa_nil))) (pa_cons (pe_tup pa_nil) pa_nil)))))))))
     pss_nil), ?_⟩)
  refine run_spD h fun N ds d hR hq => ?_
  obtain ⟨p, k, c, m, rfl, rfl⟩ := hR
  walk_at "env"
  refine gs_ret (ex_tup (ea_cons (ex_var rfl) (ea_cons (ex_var rfl) (ea_cons (ex_var rfl) (ea_cons (ex_var rfl) (ea_cons (ex_tupF ea_nil (Nat.zero_le _)) (ea_cons (ex_tup (ea_cons ex_int (ea_cons ex_int ea_nil)) (Nat.le_of_ble_eq_true rfl)) (ea_cons (ex_tup ea_nil (Nat.zero_le _)) ea_nil))))))) (Nat.le_of_ble_eq_true rfl)) hq
-- END new_row
theorem sc_replaced : FnScope ["row", "at", "value"] ["row", "at", "value"] (defScope s_replaced) := ⟨rfl, rfl, rfl, by decide +kernel, rfl, by decide +kernel, by decide +kernel⟩
def repl (r : List PyData) (at_ : Nat) (v : PyData) : List PyData := r.take at_ ++ [v] ++ r.drop (at_ + 1)
def R_replaced : List PyData → PyData → Prop := fun ds d => ∃ (r : List PyData) (i : Nat) (v : PyData), r.length ≤ 1000 ∧ ds = [.tuple r, .int (i : Int), v] ∧ d = .tuple (repl r i v)
theorem R_replaced_i {r : List PyData} {i : Nat} {v : PyData} (h2 : r.length ≤ 1000) : R_replaced [.tuple r, .int (i : Int), v] (.tuple (repl r i v)) := ⟨r, i, v, h2, rfl, rfl⟩
local macro_rules | `(tactic| walk_at "r2") => `(tactic| exact R_replaced_i (by assumption))
theorem R_replaced_len : ∀ ds d, R_replaced ds d → ds.length = 3 := by
  intro ds d hh
  unfold R_replaced at hh
  repeat (obtain ⟨_, hh⟩ := hh)
  subst_eqs
  rfl
theorem ok_replaced {P : Program} {w : World} {K : PySem.W.Frag} {mg : Str → Option Value} {base : Heap} {f : Addr} {fd : FuncData} (F : FnP K "replaced" s_replaced f fd) (g0 : mg "replaced" = some (.ref f)) : Cal P w K mg base 1 "replaced" ["row", "at", "value"] (spD K  R_replaced) := by
  refine cal_mk F sc_replaced g0 (spD_len R_replaced_len) (fun _ _ _ _ _ _ us hl => match us, hl with | [_, _, _], _ => rfl) (fun cdv A outer s H vs Q E hr h => ⟨_,
    (pss_cons (ps_ret (pe_op (DL.kCatA (K := K)) (pe_op (DL.kCatA (K := K)) (pe_slice (DL.kSlA (K := K)) (pv 0) po_none (po_some (pv 1))) (pe_tup (pa_cons (pv 2) pa_nil))) (pe_slice (DL.kSlA (K := K)) (pv 0) (po_some (pe_op op_add (pv 1) pe_int)) po_none)))
     pss_nil), ?_⟩)
  refine run_spD h fun N ds d hR hq => ?_
  obtain ⟨r, i, v, h2, rfl, rfl⟩ := hR
  walk_at "env"
  refine gs_ret (EvX.n0 (w := false) (EvX.is (ex_catA (ds := r.take i ++ [v]) (ex_catA (ds := r.take i) (EvX.is (ex_slA (ds := r) (lo := none) (hi := some (i : Int)) (ex_var rfl) eo_none (eo_some (ex_var rfl))) (by rw [cutG_to])) (ex_tup (ea_cons (ex_var rfl) ea_nil) (Nat.le_of_ble_eq_true rfl)) ?a2) (EvX.is (ex_slA (ds := r) (lo := some ((i + 1 : Nat) : Int)) (hi := none) (ex_var rfl) (eo_some (EvX.is (ex_i2 (ex_var rfl) ex_int) (by push_cast; rfl))) eo_none) (by rw [cutG_from])) ?a3) rfl)) hq
  case a2 => simp only [List.length_take, List.length_cons, List.length_nil]; omega
  case a3 => simp only [List.length_append, List.length_take, List.length_drop, List.length_cons, List.length_nil]; omega
-- END replaced
theorem sc_with_child : FnScope ["row", "index", "child", "children"] ["row", "index", "child"] (defScope s_with_child) := ⟨rfl, rfl, rfl, by decide +kernel, rfl, by decide +kernel, by decide +kernel⟩
def R_with_child : List PyData → PyData → Prop := fun ds d => ∃ (r : Rw) (i : Nat) (c : Int), r.kids.length ≤ 5000 ∧ ds = [r.d, .int (i : Int), .int c] ∧ d = ({ r with kids := insL r.kids i c } : Rw).d
theorem R_with_child_i {r : Rw} {i : Nat} {c : Int} (h : r.kids.length ≤ 5000) : R_with_child [r.d, .int (i : Int), .int c] ({ r with kids := insL r.kids i c } : Rw).d := ⟨r, i, c, h, rfl, rfl⟩
local macro_rules | `(tactic| walk_at "r2") => `(tactic| exact R_with_child_i (by assumption))
theorem R_with_child_len : ∀ ds d, R_with_child ds d → ds.length = 3 := by
  intro ds d hh
  unfold R_with_child at hh
  repeat (obtain ⟨_, hh⟩ := hh)
  subst_eqs
  rfl
theorem ok_with_child {P : Program} {w : World} {K : PySem.W.Frag} {mg : Str → Option Value} {base : Heap} {f : Addr} {fd : FuncData} (F : FnP K "with_child" s_with_child f fd) (g0 : mg "with_child" = some (.ref f)) (h_replaced : Cal P w K mg base 1 "replaced" ["row", "at", "value"] (spD K  R_replaced)) (c_CHILDREN : ∃ t, mg "CHILDREN" = some (.int 6 t)) : Cal P w K mg base 2 "with_child" ["row", "index", "child"] (spD K  R_with_child) := by
  refine cal_mk F sc_with_child g0 (spD_len R_with_child_len) (fun _ _ _ _ _ _ us hl => match us, hl with | [_, _, _], _ => rfl) (fun cdv A outer s H vs Q E hr h => ⟨_,
    (pss_cons (ps_set (i := 3) sc_with_child.nd rfl (by first | exact Or.inl rfl | exact Or.inr rfl) (pe_ix (DL.kIxT (K := K)) (pv 0) (C8.pe_gc (v := .int 6) (by rfl) (DL.gci c_CHILDREN)) (fun _ _ => rfl)))
     (pss_cons (ps_ret (DL.pe_cal h_replaced hr (by decide) (by rfl) pass0 (pa_cons (pv 0) (pa_cons (C8.pe_gc (v := .int 6) (by rfl) (DL.gci c_CHILDREN)) (pa_cons (pe_op (DL.kCatA (K := K)) (pe_op (DL.kCatA (K := K)) (pe_slice (DL.kSlA (K := K)) (pv 3) po_none (po_some (pv 1))) (pe_tup (pa_cons (pv 2) pa_nil))) (pe_slice (DL.kSlA (K := K)) (pv 3) (po_some (pv 1)) po_none)) pa_nil)))))
     pss_nil)), ?_⟩)
  refine run_spD h fun N ds d hR hq => ?_
  obtain ⟨r, i, ch, hk, rfl, rfl⟩ := hR
  walk_at "env"
  refine gs_asg (d := .tuple (r.kids.map PyData.int)) (ex_ixT (ds := r.l) (ex_var rfl) ex_int (atI_nat (j := 6) rfl)) ?_
  walk_at "nf"
  refine gs_ret (EvX.is (ex_call (ea_cons (ex_var rfl) (ea_cons ex_int (ea_cons (EvX.is (ex_catA (ds := (r.kids.map PyData.int).take i ++ [.int ch]) (ex_catA (ds := (r.kids.map PyData.int).take i) (EvX.is (ex_slA (ds := r.kids.map PyData.int) (lo := none) (hi := some (i : Int)) (ex_var rfl) eo_none (eo_some (ex_var rfl))) (by rw [cutG_to])) (ex_tup (ea_cons (ex_var rfl) ea_nil) (Nat.le_of_ble_eq_true rfl)) ?a2) (EvX.is (ex_slA (ds := r.kids.map PyData.int) (lo := some (i : Int)) (hi := none) (ex_var rfl) (eo_some (ex_var rfl)) eo_none) (by rw [cutG_from])) ?a3) ?a4) ea_nil))) (R_replaced_i (r := r.l) (i := 6) (v := .tuple ((insL r.kids i ch).map PyData.int)) (Nat.le_of_ble_eq_true rfl))) rfl) hq
  case a2 => simp only [List.length_take, List.length_map, List.length_cons, List.length_nil]; omega
  case a3 => simp only [List.length_append, List.length_take, List.length_drop, List.length_map, List.length_cons, List.length_nil]; omega
  case a4 => simp [insL, List.map_append, List.map_take, List.map_drop]
-- END with_child
theorem sc_without_child : FnScope ["row", "child", "other"] ["row", "child"] (defScope s_without_child) := ⟨rfl, rfl, rfl, by decide +kernel, rfl, by decide +kernel, by decide +kernel⟩
def R_without_child : List PyData → PyData → Prop := fun ds d => ∃ (r : Rw) (c : Int), r.kids.length ≤ 5000 ∧ ds = [r.d, .int c] ∧ d = ({ r with kids := r.kids.filter fun k => !decide (k = c) } : Rw).d
theorem R_without_child_i {r : Rw} {c : Int} (h : r.kids.length ≤ 5000) : R_without_child [r.d, .int c] ({ r with kids := r.kids.filter fun k => !decide (k = c) } : Rw).d := ⟨r, c, h, rfl, rfl⟩
local macro_rules | `(tactic| walk_at "r2") => `(tactic| exact R_without_child_i (by assumption))
theorem R_without_child_len : ∀ ds d, R_without_child ds d → ds.length = 2 := by
  intro ds d hh
  unfold R_without_child at hh
  repeat (obtain ⟨_, hh⟩ := hh)
  subst_eqs
  rfl
theorem ok_without_child {P : Program} {w : World} {K : PySem.W.Frag} {mg : Str → Option Value} {base : Heap} {f : Addr} {fd : FuncData} (F : FnP K "without_child" s_without_child f fd) (g0 : mg "without_child" = some (.ref f)) (h_replaced : Cal P w K mg base 1 "replaced" ["row", "at", "value"] (spD K  R_replaced)) (z_tuple : mg "tuple" = none) (c_CHILDREN : ∃ t, mg "CHILDREN" = some (.int 6 t)) : Cal P w K mg base 2 "without_child" ["row", "child"] (spD K  R_without_child) := by
  refine cal_mk F sc_without_child g0 (spD_len R_without_child_len) (fun _ _ _ _ _ _ us hl => match us, hl with | [_, _], _ => rfl) (fun cdv A outer s H vs Q E hr h => ⟨_,
    (pss_cons (ps_ret (DL.pe_cal h_replaced hr (by decide) (by rfl) pass0 (pa_cons (pv 0) (pa_cons (C8.pe_gc (v := .int 6) (by rfl) (DL.gci c_CHILDREN)) (pa_cons (pe_callTy (DL.kTupleOf (K := K)) (by rfl) z_tuple (by decide +kernel) (pa_cons (pe_lc (own := [("other", 2)]) (by rfl) sc_without_child.nd (DL.kPiT (K := K) (pe_ix (DL.kIxT (K := K)) (pv 0) (C8.pe_gc (v := .int 6) (by rfl) (DL.gci c_CHILDREN)) (fun _ _ => rfl))) (blkOk_by (own := [("other", 2)]) (N := ["row", "child", "other"]) (sc := defScope s_without_child) (by decide +kernel)) (fun _ _ _ _ _ => (pg_name (i := 2) sc_without_child.nd rfl (by first | exact Or.inl rfl | exact Or.inr rfl))) (fun _ _ _ _ _ => (pts_one (pt_cmpR op_ne (pv 2) (pv 1) (nomark _)))) (fun _ _ _ _ _ => (pv 2))) pa_nil)) pa_nil)))))
     pss_nil), ?_⟩)
  refine run_spD h fun N ds d hR hq => ?_
  obtain ⟨r, ch, hk, rfl, rfl⟩ := hR
  walk_at "env"
  refine gs_ret (EvX.is (ex_call (ea_cons (ex_var rfl) (ea_cons ex_int (ea_cons (ex_tupleOf (ds := (r.kids.filter fun k => !decide (k = ch)).map PyData.int) rfl (EvF.it (EvF.is (ef_lc (xs := r.kids) (e := fun k => .i (.int k)) (fun k => !decide (k = ch)) (fun k => .int k) (ew_tup (ds := r.kids.map PyData.int) (ex_ixT (ds := r.l) (ex_var rfl) ex_int (atI_nat (j := 6) rfl))) (by simp) itD_map (fun _ => True.intro) (by omega) (fun fr lo up acc x hx => ⟨_, _, ?a1, tg_name, et_test (ex_neI (ex_var rfl) (ex_var rfl)), fun _ => ex_var rfl⟩)) ?a3))) ea_nil))) (R_replaced_i (r := r.l) (i := 6) (v := .tuple ((r.kids.filter fun k => !decide (k = ch)).map PyData.int)) (Nat.le_of_ble_eq_true rfl))) rfl) hq
  case a1 => intro j hj; simpa using hj
  case a3 => rfl
-- END without_child
theorem sc_branch : FnScope ["rows", "node", "found", "waiting", "last"] ["rows", "node"] (defScope s_branch) := ⟨rfl, rfl, rfl, by decide +kernel, rfl, by decide +kernel, by decide +kernel⟩
def R_branch : List PyData → List PyData → Prop := fun ds rs => ∃ (m : List (Key × PyData)) (last : Int) (dep : Int → Nat) (n : Int) (r : Rw), Rows m ∧ WF (tr m) last dep ∧ (sub (tr m) 1).length ≤ 300 ∧ tr m n = some r ∧ ds = [dK0 m, .int n] ∧ rs = (sub (tr m) n).map PyData.int
theorem R_branch_i {m : List (Key × PyData)} {last : Int} {dep : Int → Nat} {n : Int} {r : Rw} (h1 : Rows m) (h2 : WF (tr m) last dep) (h3 : (sub (tr m) 1).length ≤ 300) (h4 : tr m n = some r) : R_branch [dK0 m, .int n] ((sub (tr m) n).map PyData.int) := ⟨m, last, dep, n, r, h1, h2, h3, h4, rfl, rfl⟩
local macro_rules | `(tactic| walk_at "r2") => `(tactic| exact R_branch_i (by assumption) (by assumption) (by assumption) (by assumption))
theorem R_branch_len : ∀ ds d, R_branch ds d → ds.length = 2 := by
  intro ds d hh
  unfold R_branch at hh
  repeat (obtain ⟨_, hh⟩ := hh)
  subst_eqs
  rfl
theorem ok_branch {P : Program} {w : World} {K : PySem.W.Frag} {mg : Str → Option Value} {base : Heap} {f : Addr} {fd : FuncData} (F : FnP K "branch" s_branch f fd) (g0 : mg "branch" = some (.ref f)) (c_CHILDREN : ∃ t, mg "CHILDREN" = some (.int 6 t)) : Cal P w K mg base 1 "branch" ["rows", "node"] (spF K  R_branch) := by
  refine cal_mk F sc_branch g0 (spF_len R_branch_len) (fun _ _ _ _ _ _ us hl => match us, hl with | [_, _], _ => rfl) (fun cdv A outer s H vs Q E hr h => ⟨_,
    (pss_cons (ps_set (i := 2) sc_branch.nd rfl (by first | exact Or.inl rfl | exact Or.inr rfl) (pe_lst pa_nil))
     (pss_cons (ps_set (i := 3) sc_branch.nd rfl (by first | exact Or.inl rfl | exact Or.inr rfl) (pe_lst (pa_cons (pv 1) pa_nil)))
     (pss_cons (ps_while PassesOwn.never (DL.kTru (K := K) (pv 3) (by intro _; rfl))
     (pss_cons (ps_set (i := 4) sc_branch.nd rfl (by first | exact Or.inl rfl | exact Or.inr rfl) (DL.kBm0 (K := K) (pe_bm0 PySem.F.plainAttrs_list PySem.F.slot_list_pop PySem.F.type_list_pop mt_pop (pv 3))))
     (pss_cons (ps_expr (DL.kBm (K := K) (pe_bm PySem.F.plainAttrs_list PySem.F.slot_list_append PySem.F.type_list_append mt_append (pv 2) (pa_cons (pv 4) pa_nil))))
     (pss_cons (ps_expr (DL.kExtT (K := K) (pe_bm PySem.F.plainAttrs_list PySem.F.slot_list_extend PySem.F.type_list_extend mt_extT (pv 3) (pa_cons (DL.kRevT (K := K) (pe_ix (DL.kIxT (K := K)) (pe_dget (DL.u1 hr.units) (pv 0) (pv 4) (fun _ _ => rfl)) (C8.pe_gc (v := .int 6) (by rfl) (DL.gci c_CHILDREN)) (fun _ _ => rfl))) pa_nil))))
     pss_nil))))
     (pss_cons (ps_ret (pv 2))
     pss_nil)))), ?_⟩)
  refine run_spF h fun N ds d hR hq => ?_
  obtain ⟨m, last, dep, n, r, hrow, W, hN, ht, rfl, rfl⟩ := hR
  walk_at "env"
  refine gs_asgF (o := .lst []) (ef_lst eas_nil (Nat.zero_le _)) ?_
  walk_at "nf"
  refine gs_asgF (o := .lst [.i (.int n)]) (ef_lst (eas_cons (show EvX false _ _ _ _ _ from ex_var rfl) eas_nil) (Nat.le_of_ble_eq_true rfl)) ?_
  walk_at "nf"
  generalize hT : tr m = t at *
  have hsub := sub_le W ht
  refine' gs_while (S := List Int × List Int) (fun _ => [some (.i (dK0 m)), some (.i (.int n)), some (.r 0), some (.r 1), none]) (fun s => [.lst ((s.1.map PyData.int).map SV.i), .lst ((s.2.reverse.map PyData.int).map SV.i)]) (fun s => s.1 ++ (s.2.map (sub t)).flatten = sub t n ∧ ∀ x ∈ s.2, ∃ rx, t x = some rx) (fun s => !s.2.isEmpty) (fun s => ((s.2.map (sub t)).flatten).length) ([], [n]) (fun c' _ ad σ H ok => ok) ⟨by simp, fun x hx => ⟨r, by rw [List.mem_singleton.mp hx]; exact ht⟩⟩ (fun fr up s hs => ?t1) (fun fr up s hs hb => ?s1) (fun s hs hb => ?d1)
  case t1 => exact EvT.is (et_truK (EvR.it (er_var rfl (by simp)) rfl)) (by cases h : s.2 <;> simp)
  case s1 =>
    obtain ⟨fd, st⟩ := s
    cases st with
    | nil => cases hb
    | cons x st =>
      obtain ⟨h1, h2⟩ := hs
      obtain ⟨rx, hx⟩ := h2 x (List.mem_cons_self ..)
      have e1 := sub_eq W hx
      have hlen := congrArg List.length h1
      rw [List.map_cons, List.flatten_cons, e1] at hlen
      simp only [List.length_append, List.length_cons] at hlen
      have hst : st.length ≤ ((st.map (sub t)).flatten).length := by
        have h3 : ∀ y ∈ st, ∃ rx, t y = some rx := fun y hy => h2 y (List.mem_cons_of_mem _ hy)
        clear h1 h2 hlen hb
        induction st with
        | nil => exact Nat.zero_le _
        | cons y st ih =>
          obtain ⟨ry, hy⟩ := h3 y (List.mem_cons_self ..)
          have := ih fun z hz => h3 z (List.mem_cons_of_mem _ hz)
          rw [List.map_cons, List.flatten_cons, sub_eq W hy]
          simp only [List.length_append, List.length_cons]
          omega
      have hkids : rx.kids.length ≤ ((rx.kids.map (sub t)).flatten).length := by
        have h3 : ∀ y ∈ rx.kids, ∃ rx, t y = some rx := fun y hy => (W.kid x rx y hx hy).imp fun _ h => h.1
        generalize rx.kids = ks at h3
        induction ks with
        | nil => exact Nat.zero_le _
        | cons y ks ih =>
          obtain ⟨ry, hy⟩ := h3 y (List.mem_cons_self ..)
          have := ih fun z hz => h3 z (List.mem_cons_of_mem _ hz)
          rw [List.map_cons, List.flatten_cons, sub_eq W hy]
          simp only [List.length_append, List.length_cons]
          omega
      refine gs_asgPop (k := 1) (s := .i (.int x)) (ss := (st.reverse.map PyData.int).map SV.i) (er_var rfl (by simp)) (by simp) ?_
      walk_at "nf"
      refine gs_app (k := 0) (er_var rfl (by simp)) rfl (s := .i (.int x)) (show EvX false _ _ _ _ _ from ex_var rfl) (by simp; omega) ?_
      refine gs_extT (k := 1) (ds := (rx.kids.map PyData.int).reverse) (er_var rfl (by simp)) rfl (ex_revT (ex_ixT (ds := rx.l) (ex_dgetD (ek := fun k : Key => k) (ev := fun d : PyData => d) (a := .inl x) (b := rx.d) (fun _ _ e => e) (ex_var rfl) (ex_var rfl) ((tr_get hrow).mp (by rw [hT]; exact hx))) ex_int (atI_nat (j := 6) rfl))) (by simp; omega) ?_
      refine g_next fun ad σ H ok => ⟨(fd ++ [x], rx.kids ++ st), ⟨?p1, fun y hy => ?p2⟩, ?p3, ad, ?p4⟩
      case p1 =>
        rw [← h1, List.map_cons, List.flatten_cons, e1]
        simp
      case p2 =>
        rcases List.mem_append.mp hy with z | z
        · exact (W.kid x rx y hx z).imp fun _ h => h.1
        · exact h2 y (List.mem_cons_of_mem _ z)
      case p3 =>
        show ((((rx.kids ++ st).map (sub t)).flatten).length) < (((x :: st).map (sub t)).flatten).length
        rw [List.map_cons, List.flatten_cons, e1]
        simp only [List.map_append, List.flatten_append, List.length_append, List.length_cons]
        omega
      case p4 =>
        refine ok.weak (by simp [WkE]) ?_ (by simp [EnLt, SvLt]) ⟨soLt_data, soLt_data, True.intro⟩ (by simp)
        refine ⟨Or.inr ?_, Or.inr ?_, True.intro⟩
        · simp
        · simp
  case d1 =>
  obtain ⟨fd, st⟩ := s
  obtain ⟨h1, _⟩ := hs
  have : st = [] := by simpa using hb
  subst this
  have h1 : fd = sub t n := by simpa using h1
  subst h1
  exact gs_retO (k := 0) (er_var rfl (by simp)) rfl (fun _ h => h) hq
-- END branch
theorem sc_depth_of : FnScope ["rows", "node", "depth"] ["rows", "node"] (defScope s_depth_of) := ⟨rfl, rfl, rfl, by decide +kernel, rfl, by decide +kernel, by decide +kernel⟩
def R_depth_of : List PyData → PyData → Prop := fun ds d => ∃ (m : List (Key × PyData)) (last : Int) (dep : Int → Nat) (n : Int) (r : Rw), Rows m ∧ WF (tr m) last dep ∧ tr m n = some r ∧ ds = [dK0 m, .int n] ∧ d = .int ((depth (tr m) n : Nat) : Int)
theorem R_depth_of_i {m : List (Key × PyData)} {last : Int} {dep : Int → Nat} {n : Int} {r : Rw} (h1 : Rows m) (h2 : WF (tr m) last dep) (h4 : tr m n = some r) : R_depth_of [dK0 m, .int n] (.int ((depth (tr m) n : Nat) : Int)) := ⟨m, last, dep, n, r, h1, h2, h4, rfl, rfl⟩
local macro_rules | `(tactic| walk_at "r2") => `(tactic| exact R_depth_of_i (by assumption) (by assumption) (by assumption))
theorem R_depth_of_len : ∀ ds d, R_depth_of ds d → ds.length = 2 := by
  intro ds d hh
  unfold R_depth_of at hh
  repeat (obtain ⟨_, hh⟩ := hh)
  subst_eqs
  rfl
theorem ok_depth_of {P : Program} {w : World} {K : PySem.W.Frag} {mg : Str → Option Value} {base : Heap} {f : Addr} {fd : FuncData} (F : FnP K "depth_of" s_depth_of f fd) (g0 : mg "depth_of" = some (.ref f)) (c_NOBODY : ∃ t, mg "NOBODY" = some (.int 0 t)) (c_PARENT : ∃ t, mg "PARENT" = some (.int 0 t)) : Cal P w K mg base 1 "depth_of" ["rows", "node"] (spD K  R_depth_of) := by
  refine cal_mk F sc_depth_of g0 (spD_len R_depth_of_len) (fun _ _ _ _ _ _ us hl => match us, hl with | [_, _], _ => rfl) (fun cdv A outer s H vs Q E hr h => ⟨_,
    (pss_cons (ps_set (i := 2) sc_depth_of.nd rfl (by first | exact Or.inl rfl | exact Or.inr rfl) pe_int)
     (pss_cons (ps_while PassesOwn.never (pt_cmpR op_ne (pe_ix (DL.kIxT (K := K)) (pe_dget (DL.u1 hr.units) (pv 0) (pv 1) (fun _ _ => rfl)) (C8.pe_gc (v := .int 0) (by rfl) (DL.gci c_PARENT)) (fun _ _ => rfl)) (C8.pe_gc (v := .int 0) (by rfl) (DL.gci c_NOBODY)) (nomark _))
     (pss_cons (ps_set (i := 1) sc_depth_of.nd rfl (by first | exact Or.inl rfl | exact Or.inr rfl) (pe_ix (DL.kIxT (K := K)) (pe_dget (DL.u1 hr.units) (pv 0) (pv 1) (fun _ _ => rfl)) (C8.pe_gc (v := .int 0) (by rfl) (DL.gci c_PARENT)) (fun _ _ => rfl)))
     (pss_cons (ps_aug (i := 2) sc_depth_of.nd rfl (by first | exact Or.inl rfl | exact Or.inr rfl) pe_int ip_add)
     pss_nil)))
     (pss_cons (ps_ret (pv 2))
     pss_nil))), ?_⟩)
  refine run_spD h fun N ds d hR hq => ?_
  obtain ⟨m, last, dep, n, r, hrow, W, ht, rfl, rfl⟩ := hR
  rw [depth_eq W ht] at hq
  walk_at "env"
  refine gs_asg (d := .int ((1 : Nat) : Int)) ex_int ?_
  walk_at "nf"
  have hget : ∀ {x : Int} {rx : Rw}, tr m x = some rx → getA m (.inl x) = some rx.d := fun h => (tr_get hrow).mp h
  have hd1 := (W.dep30 n r ht).1
  refine' gs_while (S := Int × Nat) (fun s => [some (.i (dK0 m)), some (.i (.int s.1)), some (.i (.int (s.2 : Int)))]) (fun _ => []) (fun s => (∃ rx, tr m s.1 = some rx) ∧ 1 ≤ s.2 ∧ s.2 + dep s.1 = dep n + 1) (fun s => !decide (s.1 = 1)) (fun s => dep s.1) (n, 1) (fun c' _ ad σ H ok => ok) ⟨⟨r, ht⟩, Nat.le_refl _, by show 1 + dep n = dep n + 1; omega⟩ (fun fr up s hs => ?t1) (fun fr up s hs hb => ?s1) (fun s hs hb => ?d1)
  case t1 =>
    obtain ⟨x, k⟩ := s
    obtain ⟨⟨rx, hx⟩, h1, h2⟩ := hs
    refine EvT.is (et_test (ex_neI (ex_ixT (ds := rx.l) (ex_dgetD (ek := fun k : Key => k) (ev := fun d : PyData => d) (a := .inl x) (b := rx.d) (fun _ _ e => e) (ex_var rfl) (ex_var rfl) (hget hx)) ex_int (atI_nat (j := 0) rfl)) ex_int)) ?_
    obtain ⟨r1, g1, g2, _⟩ := W.root
    by_cases e : x = 1
    · subst e
      rw [g1] at hx
      cases hx
      simp [g2]
    · obtain ⟨rp, z1, _, _⟩ := W.par x rx hx e
      have := (W.id _ _ z1).1
      simp only [e, decide_false]
      rw [decide_eq_false (by omega)]
  case s1 =>
    obtain ⟨x, k⟩ := s
    obtain ⟨⟨rx, hx⟩, h1, h2⟩ := hs
    have e : x ≠ 1 := by simpa using hb
    obtain ⟨rp, z1, _, z3⟩ := W.par x rx hx e
    obtain ⟨_, _, _, z4⟩ := W.kid _ rp x z1 z3
    have h2 : k + dep x = dep n + 1 := h2
    refine gs_asg (d := .int rx.par) (ex_ixT (ds := rx.l) (ex_dgetD (ek := fun k : Key => k) (ev := fun d : PyData => d) (a := .inl x) (b := rx.d) (fun _ _ e => e) (ex_var rfl) (ex_var rfl) (hget hx)) ex_int (atI_nat (j := 0) rfl)) ?_
    walk_at "nf"
    refine gs_aug (a := (k : Int)) (b := 1) rfl ex_int ?_
    walk_at "nf"
    refine g_next fun ad σ H ok => ⟨(rx.par, k + 1), ⟨⟨rp, z1⟩, by omega, by show k + 1 + dep rx.par = _; omega⟩, by show dep rx.par < dep x; omega, ad, ok⟩
  case d1 =>
  obtain ⟨x, k⟩ := s
  obtain ⟨⟨rx, hx⟩, h1, h2⟩ := hs
  have e : x = 1 := by simpa using hb
  subst e
  rw [W.d1] at h2
  have : k = dep n := by omega
  subst this
  exact gs_ret (ex_var rfl) hq
-- END depth_of
theorem sc_height_of : FnScope ["rows", "node", "child"] ["rows", "node"] (defScope s_height_of) := ⟨rfl, rfl, rfl, by decide +kernel, rfl, by decide +kernel, by decide +kernel⟩
def R_height_of : Nat → List PyData → PyData → Prop := fun h ds d => ∃ (m : List (Key × PyData)) (last : Int) (dep : Int → Nat) (n : Int) (r : Rw), Rows m ∧ WF (tr m) last dep ∧ tr m n = some r ∧ 31 - dep n ≤ h ∧ (∀ x rx, tr m x = some rx → rx.kids.length ≤ 5000) ∧ ds = [dK0 m, .int n] ∧ d = .int (hgT (tr m) n)
theorem R_height_of_0 : ∀ ds d, ¬ R_height_of 0 ds d := fun ds d ⟨m, last, dep, n, r, _, W, h, h2, _⟩ => by have := W.dep30 n r h; omega
theorem R_height_of_len : ∀ (hgt : Nat) ds d, R_height_of hgt ds d → ds.length = 2 := by
  intro hgt ds d hh
  unfold R_height_of at hh
  repeat (obtain ⟨_, hh⟩ := hh)
  subst_eqs
  rfl
theorem ok_height_of {P : Program} {w : World} {K : PySem.W.Frag} {mg : Str → Option Value} {base : Heap} {f : Addr} {fd : FuncData} (F : FnP K "height_of" s_height_of f fd) (g0 : mg "height_of" = some (.ref f)) (hgt : Nat) (h_height_of : Cal P w K mg base (0 + 1 * hgt + 1) "height_of" ["rows", "node"] (DL.spD K  (R_height_of hgt))) (z_max : mg "max" = none) (c_CHILDREN : ∃ t, mg "CHILDREN" = some (.int 6 t)) : Cal P w K mg base (0 + 1 * (hgt + 1) + 1) "height_of" ["rows", "node"] (DL.spD K  (R_height_of (hgt + 1))) := by
  refine cal_mk F sc_height_of g0 (spD_len (R_height_of_len (hgt + 1))) (fun _ _ _ _ _ _ us hl => match us, hl with | [_, _], _ => rfl) (fun cdv A outer s H vs Q E hr h => ⟨_,
    (pss_cons (ps_ret (pe_op op_add pe_int (pe_callBK (DL.kMaxDf (K := K) rfl hr.units) (by rfl) z_max (by decide +kernel) (pa_cons (pe_lc (own := [("child", 2)]) (by rfl) sc_height_of.nd (DL.kPiT (K := K) (pe_ix (DL.kIxT (K := K)) (pe_dget (DL.u1 hr.units) (pv 0) (pv 1) (fun _ _ => rfl)) (C8.pe_gc (v := .int 6) (by rfl) (DL.gci c_CHILDREN)) (fun _ _ => rfl))) (blkOk_by (own := [("child", 2)]) (N := ["rows", "node", "child"]) (sc := defScope s_height_of) (by decide +kernel)) (fun _ _ _ _ _ => (pg_name (i := 2) sc_height_of.nd rfl (by first | exact Or.inl rfl | exact Or.inr rfl))) (fun _ _ _ _ _ => pts_nil) (fun _ _ _ _ _ => (DL.pe_cal h_height_of hr (by omega) (by rfl) pass0 (pa_cons (pv 0) (pa_cons (pv 2) pa_nil))))) pa_nil) (pk_cons pe_int pk_nil))))
     pss_nil), ?_⟩)
  refine run_spD h fun N ds d hR hq => ?_
  obtain ⟨m, last, dep, n, r, hrow, W, ht, hd, hks, rfl, rfl⟩ := hR
  have hk := hks n r ht
  walk_at "env"



  have hget : getA m (.inl n) = some r.d := (tr_get hrow).mp ht
  rw [hgT_eq W ht] at hq
  refine' gs_ret (ex_i2 ex_int (ex_maxDf (ns := r.kids.map (hgT (tr m))) (EvF.it (EvF.is (ef_lc (xs := r.kids) (e := fun k => .i (.int k)) (fun _ => true) (fun k => .int (hgT (tr m) k)) (ew_tup (ds := r.kids.map PyData.int) (ex_ixT (ds := r.l) (ex_dgetD (ek := fun k : Key => k) (ev := fun d : PyData => d) (a := .inl n) (b := r.d) (fun _ _ e => e) (ex_var rfl) (ex_var rfl) hget) ex_int (atI_nat (j := 6) rfl))) ?a0 itD_map (fun _ => True.intro) (by omega) (fun fr lo up acc x hx => ⟨_, _, ?a1, tg_name, et_yes, fun _ => ?a2⟩)) ?a3)) ex_int)) hq
  case a0 => simp
  case a1 => intro j hj; simpa using hj
  case a2 =>
    obtain ⟨rc, g1, _, g3⟩ := W.kid n r x ht hx
    exact ex_call (ea_cons (ex_var rfl) (ea_cons (ex_var rfl) ea_nil)) ⟨m, last, dep, x, rc, hrow, W, g1, by omega, hks, rfl, rfl⟩
  case a3 => simp only [filt_all, List.map_map]; rfl
-- END height_of
theorem sc_Page___init__ : FnScope ["self", "width", "height", "root"] ["self", "width", "height"] (defScope s_Page___init__) := ⟨rfl, rfl, rfl, by decide +kernel, rfl, by decide +kernel, by decide +kernel⟩
theorem segHP0 (CH : Addr) (o0 o1 : SO) (m : List (Key × PyData)) : SegAtK fHP 2 3 (preH CH) (shapeH CH) m ([o0, o1, dkO m] ++ [.ob CH []]) (fun y => [o0, o1, dkO y.cells, .ob CH [("cells", .r 2), ("_done", .r 4), ("_undone", .i (.list []))], .lst (y.done.map SV.i)]) := ⟨by decide, fun i j hi hj e => by
  match i, j, hi, hj, e with
  | 0, 0, _, _, _ => rfl
  | 0, 1, _, _, e => cases e
  | 1, 0, _, _, e => cases e
  | 1, 1, _, _, _ => rfl, preH_ok CH m, fun i o e => by
  match i, e with
  | 0, e => cases e; rfl
  | 1, e => cases e; exact congrArg some (reS_dk _ m).symm, fun y => rfl, fun y i o e => by
  match i, e with
  | 0, e => cases e; rfl
  | 1, e => cases e; exact congrArg some (reS_dk _ _).symm
  | 2, e => cases e; exact congrArg some (reS_ls _ _).symm, fun y j hj hn => by
  match j, hj, hn with
  | 0, _, _ => rfl
  | 1, _, _ => rfl
  | 2, _, hn => exact absurd rfl (hn 1 (by decide))
  | 3, _, hn => exact absurd rfl (hn 0 (by decide))⟩
def R_Page___init__ : Unit → List SV → Pg → Prop := fun _ ds y => ∃ w h : Int, 0 ≤ w ∧ w ≤ 1000 ∧ 0 ≤ h ∧ h ≤ 1000 ∧ ds = [.r 0, .i (.int w), .i (.int h)] ∧ y = pgN w h
theorem R_Page___init___len : ∀ x ds y, R_Page___init__ x ds y → ds.length = 3 := by
  intro x ds y hh
  unfold R_Page___init__ at hh
  repeat (obtain ⟨_, hh⟩ := hh)
  subst_eqs
  rfl
theorem ok_Page___init__ {P : Program} {w : World} {K : PySem.W.Frag} {mg : Str → Option Value} {base : Heap} {f : Addr} {fd : FuncData} (F : DL.FnM K "__init__" "Page.__init__" s_Page___init__ [] f fd) {C_History : Addr} (kC_History : Cls K C_History) (n_History_cells : NoAttr K C_History "cells") (n_History__done : NoAttr K C_History "_done") (n_History__undone : NoAttr K C_History "_undone") {C_Page : Addr} (kC_Page : Cls K C_Page) (n_Page_width : NoAttr K C_Page "width") (n_Page_height : NoAttr K C_Page "height") (n_Page__last_id : NoAttr K C_Page "_last_id") (n_Page__moment : NoAttr K C_Page "_moment") (n_Page__marked : NoAttr K C_Page "_marked") (n_Page__history : NoAttr K C_Page "_history") (h_check_number : Cal P w K mg base 3 "check_number" ["name", "value", "high"] (spD K  R_check_number)) (h_new_row : Cal P w K mg base 1 "new_row" ["parent", "kind", "content", "marks"] (spD K  R_new_row)) (h_History___init__ : DL.MakN P w K mg base 1 "History" C_History ["self", "cells"] (DL.spK K 2 3 (preH C_History) (shapeH C_History) R_History___init__)) (c_MOST_WINDOW : ∃ t, mg "MOST_WINDOW" = some (.int 1000 t)) (c_NOBODY : ∃ t, mg "NOBODY" = some (.int 0 t)) (c_ROOT : ∃ t, mg "ROOT" = some (.int 1 t)) (c_WINDOW : ∃ t, mg "WINDOW" = some (.str "window" t)) (c_RULES : ∃ t, mg "RULES" = some (.str "rules" t)) (M : Mk K C_Page f) (g0 : mg "Page" = some (.ref C_Page)) : DL.MakN P w K mg base 4 "Page" C_Page ["self", "width", "height"] (DL.spK K 1 5 (fun _ : Unit => [SO.ob C_Page []]) (shapeP C_Page C_History) R_Page___init__) := by
  refine DL.makN_mk F sc_Page___init__ M g0 (DL.spK_len R_Page___init___len) (fun _ _ _ _ _ _ us hl => match us, hl with | [_, _, _], _ => rfl) (fun cdv A outer s H vs Q E hr h => ⟨_,
    (pss_cons (ps_expr (DL.pe_cal h_check_number hr (by decide) (by rfl) pass0 (pa_cons pe_str (pa_cons (pv 1) (pa_cons (C8.pe_gc (v := .int 1000) (by rfl) (DL.gci c_MOST_WINDOW)) pa_nil)))))
     (pss_cons (ps_expr (DL.pe_cal h_check_number hr (by decide) (by rfl) pass0 (pa_cons pe_str (pa_cons (pv 2) (pa_cons (C8.pe_gc (v := .int 1000) (by rfl) (DL.gci c_MOST_WINDOW)) pa_nil)))))
     (pss_cons (ps_set (i := 3) sc_Page___init__.nd rfl (by first | exact Or.inl rfl | exact Or.inr rfl) (DL.pe_cal h_new_row hr (by decide) (by rfl) pass0 (pa_cons (C8.pe_gc (v := .int 0) (by rfl) (DL.gci c_NOBODY)) (pa_cons pe_str (pa_cons pe_str (pa_cons (pe_tup pa_nil) pa_nil))))))
     (pss_cons (DL.kSetFld (K := K) (pv 0) (pv 1))
     (pss_cons (DL.kSetFld (K := K) (pv 0) (pv 2))
     (pss_cons (DL.kSetFld (K := K) (pv 0) (C8.pe_gc (v := .int 1) (by rfl) (DL.gci c_ROOT)))
     (pss_cons (DL.kSetFld (K := K) (pv 0) pe_int)
     (pss_cons (DL.kSetFld (K := K) (pv 0) pe_dnewK)
     (pss_cons (DL.kSetFld (K := K) (pv 0) (DL.pe_makN h_History___init__ hr (by decide) (by rfl) pass0 (pa_cons (pe_disp (pps_cons (C8.pe_gc (v := .str "window") (by rfl) (DL.gcs c_WINDOW)) (pe_tup (pa_cons (pv 1) (pa_cons (pv 2) pa_nil))) (pps_cons (C8.pe_gc (v := .str "rules") (by rfl) (DL.gcs c_RULES)) (pe_tup pa_nil) (pps_cons (C8.pe_gc (v := .int 1) (by rfl) (DL.gci c_ROOT)) (pv 3) pps_nil))) (by rfl) (by rfl) (by simp) (by decide)) pa_nil)))
     pss_nil))))))))), ?_⟩)
  refine DL.run_spK h (Nat.le_trans (Nat.le_of_eq (DL.spK_len R_Page___init___len _ _ _ _ h)) (by decide)) (by decide) fun N ad x ds hsh hR hq => ?_
  obtain ⟨y, w, h, w0, w1, h0, h1, rfl, rfl⟩ := hR
  simp only [envG, List.map, List.length, List.replicate, List.cons_append, List.nil_append, Nat.reduceAdd, Nat.reduceSub, Nat.sub_self]
  refine gs_doN (EvM.asN (em_x (P := fun _ => True) (ex_call (ea_cons ex_str (ea_cons (ex_var rfl) (ea_cons ex_int ea_nil))) (R_check_number_i w0 w1)) True.intro)) ?_
  rintro os' d ⟨rfl, _⟩
  refine gs_doN (EvM.asN (em_x (P := fun _ => True) (ex_call (ea_cons ex_str (ea_cons (ex_var rfl) (ea_cons ex_int ea_nil))) (R_check_number_i h0 h1)) True.intro)) ?_
  rintro os' d ⟨rfl, _⟩
  refine gs_asg (d := rootR.d) (ex_call (ea_cons ex_int (ea_cons ex_str (ea_cons ex_str (ea_cons (ex_tup ea_nil (Nat.zero_le _)) ea_nil)))) R_new_row_i) ?_
  walk_at "nf"
  refine gs_setFld (k := 0) (s := .i (.int w)) (show EvX false _ _ _ _ _ from ex_var rfl) (er_var rfl (by simp)) rfl kC_Page n_Page_width (by simp) ?_
  refine gs_is (os' := [.ob C_Page [("width", .i (.int w))]]) rfl rfl ?_
  refine gs_setFld (k := 0) (s := .i (.int h)) (show EvX false _ _ _ _ _ from ex_var rfl) (er_var rfl (by simp)) rfl kC_Page n_Page_height (by simp) ?_
  refine gs_is (os' := [.ob C_Page [("width", .i (.int w)), ("height", .i (.int h))]]) rfl rfl ?_
  refine gs_setFld (k := 0) (s := .i (.int 1)) (show EvX false _ _ _ _ _ from ex_int) (er_var rfl (by simp)) rfl kC_Page n_Page__last_id (by simp) ?_
  refine gs_is (os' := [.ob C_Page [("width", .i (.int w)), ("height", .i (.int h)), ("_last_id", .i (.int 1))]]) rfl rfl ?_
  refine gs_setFld (k := 0) (s := .i (.int 0)) (show EvX false _ _ _ _ _ from ex_int) (er_var rfl (by simp)) rfl kC_Page n_Page__moment (by simp) ?_
  refine gs_is (os' := [.ob C_Page [("width", .i (.int w)), ("height", .i (.int h)), ("_last_id", .i (.int 1)), ("_moment", .i (.int 0))]]) rfl rfl ?_
  refine gs_setFldF (k := 0) (o := .dK []) ef_dnewK (er_var rfl (by simp)) rfl kC_Page n_Page__marked (by simp) ?_
  refine gs_is (os' := [.ob C_Page [("width", .i (.int w)), ("height", .i (.int h)), ("_last_id", .i (.int 1)), ("_moment", .i (.int 0)), ("_marked", .r 1)], .dK []]) rfl rfl ?_
  refine gs_setFldGN (k := 0) (C := C_Page) (egn_makeN (f := fHP) (ds := [.r 1]) (os2 := [.ob C_Page [("width", .i (.int w)), ("height", .i (.int h)), ("_last_id", .i (.int 1)), ("_moment", .i (.int 0)), ("_marked", .r 1)], .dK [], dkO (pgN w h).hs.cells]) (eapg_g (k := 2) (eg_F (ef_disp (kvs := (pgN w h).hs.cells) (ep_cons ex_str (ex_tup (ea_cons (ex_var rfl) (ea_cons (ex_var rfl) ea_nil)) (Nat.le_of_ble_eq_true rfl)) rfl (ep_cons ex_str (ex_tup ea_nil (Nat.zero_le _)) rfl (ep_cons ex_int (ex_var rfl) rfl ep_nil))) (show ([.inr "window", .inr "rules", .inl 1] : List Key).Nodup by decide +kernel) (Nat.le_of_ble_eq_true rfl))) (fun v => eas_nil.asG)) rfl (by decide) (fun s hs => by rw [List.mem_singleton.mp hs]; exact Nat.lt_succ_self 1) (segHP0 C_History _ _ _) ⟨_, rfl, rfl⟩) ?_
  rintro j os' ⟨rfl, y, ⟨_, rfl⟩, rfl⟩
  refine ⟨_, er_var rfl (by simp), rfl, kC_Page, n_Page__history, by simp, ?_⟩
  refine gs_is (os' := shapeP C_Page C_History (pgN w h)) rfl rfl ?_
  exact g_endK (y := pgN w h) hq (fun i o e => e) (shapeP_ok _ _ _) ⟨w, h, w0, w1, h0, h1, rfl, rfl⟩
-- END Page___init__
theorem sc_Page__row : FnScope ["self", "node"] ["self", "node"] (defScope s_Page__row) := ⟨rfl, rfl, rfl, by decide +kernel, rfl, by decide +kernel, by decide +kernel⟩
def R_Page__row : Addr → Addr → List PyData → PyData → Prop := fun CP CH ds d => ∃ (p : Pg) (n : Int), getA p.hs.cells (.inl n) = some d ∧ ds = [pgD CP CH p, .int n]
theorem R_Page__row_i {CP CH : Addr} {p : Pg} {n : Int} {d : PyData} (h : getA p.hs.cells (.inl n) = some d) : R_Page__row CP CH [pgD CP CH p, .int n] d := ⟨p, n, h, rfl⟩
local macro_rules | `(tactic| walk_at "r2") => `(tactic| exact R_Page__row_i (by assumption))
theorem R_Page__row_len : ∀ (C_Page C_History : Addr) ds d, R_Page__row C_Page C_History ds d → ds.length = 2 := by
  intro C_Page C_History ds d hh
  unfold R_Page__row at hh
  repeat (obtain ⟨_, hh⟩ := hh)
  subst_eqs
  rfl
theorem ok_Page__row {P : Program} {w : World} {K : PySem.W.Frag} {mg : Str → Option Value} {base : Heap} {f : Addr} {fd : FuncData} (F : DL.FnM K "_row" "Page._row" s_Page__row [] f fd) {C_History : Addr} (kC_History : Cls K C_History) (n_History_cells : NoAttr K C_History "cells") (n_History__done : NoAttr K C_History "_done") (n_History__undone : NoAttr K C_History "_undone") {C_Page : Addr} (kC_Page : Cls K C_Page) (n_Page_width : NoAttr K C_Page "width") (n_Page_height : NoAttr K C_Page "height") (n_Page__last_id : NoAttr K C_Page "_last_id") (n_Page__moment : NoAttr K C_Page "_moment") (n_Page__marked : NoAttr K C_Page "_marked") (n_Page__history : NoAttr K C_Page "_history") (h_is_number : Cal P w K mg base 1 "is_number" ["value"] (spD K  R_is_number)) (me : Meth K C_Page "_row" f) : DL.MetP P w K mg base 2 C_Page "_row" ["self", "node"] (spD K  (R_Page__row C_Page C_History)) := by
  refine DL.met_mk F sc_Page__row kC_Page me (spD_len (R_Page__row_len C_Page C_History)) (fun _ _ _ _ _ _ us hl => match us, hl with | [_, _], _ => rfl) (fun cdv A outer s H vs Q E hr h => ⟨_,
    (pss_cons (ps_if (PW.pt (pw_or (pt_not (pt_val (DL.pe_cal h_is_number hr (by decide) (by rfl) pass0 (pa_cons (pv 1) pa_nil)))) (pw_or1 (pt_cmp (pc_dnotin (DL.u1 hr.units) (pv 1) (DL.kFld (K := K) (DL.kFld (K := K) (pv 0))))))))
     (pss_cons DL.ps_never
     pss_nil)
     pss_nil)
     (pss_cons (ps_ret (pe_dget (DL.u1 hr.units) (DL.kFld (K := K) (DL.kFld (K := K) (pv 0))) (pv 1) (fun _ _ => rfl)))
     pss_nil)), ?_⟩)
  refine run_spD h fun N ds d hR hq => ?_
  obtain ⟨p, n, hg, rfl⟩ := hR
  walk_at "env"
  refine gs_if (b := false) (EvT.is (et_or (et_not (et_B (ex_call (ea_cons (ex_var rfl) ea_nil) R_is_number_i))) (fun _ => et_test (ex_notinD (ek := fun k : Key => k) (ev := fun d : PyData => d) (a := .inl n) (fun _ _ e => e) (ex_var rfl) (by walk_at "v")))) ?_) (fun z => nomatch z) fun _ => g_nextU ?_
  · rw [hg]; rfl
  refine gs_ret (ex_dgetD (ek := fun k : Key => k) (ev := fun d : PyData => d) (a := .inl n) (fun _ _ e => e) (by walk_at "v") (ex_var rfl) hg) hq
-- END Page__row
theorem sc_Page_parent : FnScope ["self", "node"] ["self", "node"] (defScope s_Page_parent) := ⟨rfl, rfl, rfl, by decide +kernel, rfl, by decide +kernel, by decide +kernel⟩
def R_Page_parent : Addr → Addr → List PyData → PyData → Prop := fun CP CH ds d => ∃ (p : Pg) (n : Int) (r : Rw), getA p.hs.cells (.inl n) = some r.d ∧ ds = [pgD CP CH p, .int n] ∧ d = .int r.par
theorem R_Page_parent_i {CP CH : Addr} {p : Pg} {n : Int} {r : Rw} (h : getA p.hs.cells (.inl n) = some r.d) : R_Page_parent CP CH [pgD CP CH p, .int n] (.int r.par) := ⟨p, n, r, h, rfl, rfl⟩
local macro_rules | `(tactic| walk_at "r2") => `(tactic| exact R_Page_parent_i (by assumption))
theorem R_Page_parent_len : ∀ (C_Page C_History : Addr) ds d, R_Page_parent C_Page C_History ds d → ds.length = 2 := by
  intro C_Page C_History ds d hh
  unfold R_Page_parent at hh
  repeat (obtain ⟨_, hh⟩ := hh)
  subst_eqs
  rfl
theorem ok_Page_parent {P : Program} {w : World} {K : PySem.W.Frag} {mg : Str → Option Value} {base : Heap} {f : Addr} {fd : FuncData} (F : DL.FnM K "parent" "Page.parent" s_Page_parent [] f fd) {C_History : Addr} (kC_History : Cls K C_History) (n_History_cells : NoAttr K C_History "cells") (n_History__done : NoAttr K C_History "_done") (n_History__undone : NoAttr K C_History "_undone") {C_Page : Addr} (kC_Page : Cls K C_Page) (n_Page_width : NoAttr K C_Page "width") (n_Page_height : NoAttr K C_Page "height") (n_Page__last_id : NoAttr K C_Page "_last_id") (n_Page__moment : NoAttr K C_Page "_moment") (n_Page__marked : NoAttr K C_Page "_marked") (n_Page__history : NoAttr K C_Page "_history") (h_Page__row : DL.MetP P w K mg base 2 C_Page "_row" ["self", "node"] (spD K  (R_Page__row C_Page C_History))) (c_PARENT : ∃ t, mg "PARENT" = some (.int 0 t)) (me : Meth K C_Page "parent" f) : DL.MetP P w K mg base 3 C_Page "parent" ["self", "node"] (spD K  (R_Page_parent C_Page C_History)) := by
  refine DL.met_mk F sc_Page_parent kC_Page me (spD_len (R_Page_parent_len C_Page C_History)) (fun _ _ _ _ _ _ us hl => match us, hl with | [_, _], _ => rfl) (fun cdv A outer s H vs Q E hr h => ⟨_,
    (pss_cons (ps_ret (pe_ix (DL.kIxT (K := K)) (DL.pe_metP h_Page__row hr (by decide) pass0 (pv 0) (pa_cons (pv 1) pa_nil)) (C8.pe_gc (v := .int 0) (by rfl) (DL.gci c_PARENT)) (fun _ _ => rfl)))
     pss_nil), ?_⟩)
  refine run_spD h fun N ds d hR hq => ?_
  obtain ⟨p, n, r, hg, rfl, rfl⟩ := hR
  walk_at "env"
  exact gs_ret (ex_ixT (ds := r.l) (by walk_at "v") ex_int (atI_nat (j := 0) rfl)) hq
-- END Page_parent
theorem sc_Page_depth : FnScope ["self", "node"] ["self", "node"] (defScope s_Page_depth) := ⟨rfl, rfl, rfl, by decide +kernel, rfl, by decide +kernel, by decide +kernel⟩
def R_Page_depth : Addr → Addr → List PyData → PyData → Prop := fun CP CH ds d => ∃ (p : Pg) (n : Int) (r : Rw), PgOk p ∧ p.t n = some r ∧ ds = [pgD CP CH p, .int n] ∧ d = .int ((depth p.t n : Nat) : Int)
theorem R_Page_depth_i {CP CH : Addr} {p : Pg} {n : Int} {r : Rw} (h : PgOk p) (h2 : p.t n = some r) : R_Page_depth CP CH [pgD CP CH p, .int n] (.int ((depth p.t n : Nat) : Int)) := ⟨p, n, r, h, h2, rfl, rfl⟩
local macro_rules | `(tactic| walk_at "r2") => `(tactic| exact R_Page_depth_i (by assumption) (by assumption))
theorem R_Page_depth_len : ∀ (C_Page C_History : Addr) ds d, R_Page_depth C_Page C_History ds d → ds.length = 2 := by
  intro C_Page C_History ds d hh
  unfold R_Page_depth at hh
  repeat (obtain ⟨_, hh⟩ := hh)
  subst_eqs
  rfl
theorem ok_Page_depth {P : Program} {w : World} {K : PySem.W.Frag} {mg : Str → Option Value} {base : Heap} {f : Addr} {fd : FuncData} (F : DL.FnM K "depth" "Page.depth" s_Page_depth [] f fd) {C_History : Addr} (kC_History : Cls K C_History) (n_History_cells : NoAttr K C_History "cells") (n_History__done : NoAttr K C_History "_done") (n_History__undone : NoAttr K C_History "_undone") {C_Page : Addr} (kC_Page : Cls K C_Page) (n_Page_width : NoAttr K C_Page "width") (n_Page_height : NoAttr K C_Page "height") (n_Page__last_id : NoAttr K C_Page "_last_id") (n_Page__moment : NoAttr K C_Page "_moment") (n_Page__marked : NoAttr K C_Page "_marked") (n_Page__history : NoAttr K C_Page "_history") (h_Page__row : DL.MetP P w K mg base 2 C_Page "_row" ["self", "node"] (spD K  (R_Page__row C_Page C_History))) (h_depth_of : Cal P w K mg base 1 "depth_of" ["rows", "node"] (spD K  R_depth_of)) (me : Meth K C_Page "depth" f) : DL.MetP P w K mg base 3 C_Page "depth" ["self", "node"] (spD K  (R_Page_depth C_Page C_History)) := by
  refine DL.met_mk F sc_Page_depth kC_Page me (spD_len (R_Page_depth_len C_Page C_History)) (fun _ _ _ _ _ _ us hl => match us, hl with | [_, _], _ => rfl) (fun cdv A outer s H vs Q E hr h => ⟨_,
    (pss_cons (ps_expr (DL.pe_metP h_Page__row hr (by decide) pass0 (pv 0) (pa_cons (pv 1) pa_nil)))
     (pss_cons (ps_ret (DL.pe_cal h_depth_of hr (by decide) (by rfl) pass0 (pa_cons (DL.kFld (K := K) (DL.kFld (K := K) (pv 0))) (pa_cons (pv 1) pa_nil))))
     pss_nil)), ?_⟩)
  refine run_spD h fun N ds d hR hq => ?_
  obtain ⟨p, n, r, hok, ht, rfl, rfl⟩ := hR
  have hg := (tr_get hok.rows).mp ht
  obtain ⟨dep, W⟩ := hok.wf
  have hrow := hok.rows
  walk_at "env"
  refine gs_drop (d := r.d) (w := true) (by walk_at "v") ?_
  exact gs_ret (ex_call (ea_cons (by walk_at "v") (ea_cons (ex_var rfl) ea_nil)) (R_depth_of_i hrow W ht)) hq
-- END Page_depth
theorem sc_Page_nodes : FnScope ["self"] ["self"] (defScope s_Page_nodes) := ⟨rfl, rfl, rfl, by decide +kernel, rfl, by decide +kernel, by decide +kernel⟩
def R_Page_nodes : Addr → Addr → List PyData → List PyData → Prop := fun CP CH ds rs => ∃ (p : Pg), PgOk p ∧ ds = [pgD CP CH p] ∧ rs = (sub p.t 1).map PyData.int
theorem R_Page_nodes_i {CP CH : Addr} {p : Pg} (h : PgOk p) : R_Page_nodes CP CH [pgD CP CH p] ((sub p.t 1).map PyData.int) := ⟨p, h, rfl, rfl⟩
local macro_rules | `(tactic| walk_at "r2") => `(tactic| exact R_Page_nodes_i (by assumption))
theorem R_Page_nodes_len : ∀ (C_Page C_History : Addr) ds d, R_Page_nodes C_Page C_History ds d → ds.length = 1 := by
  intro C_Page C_History ds d hh
  unfold R_Page_nodes at hh
  repeat (obtain ⟨_, hh⟩ := hh)
  subst_eqs
  rfl
theorem ok_Page_nodes {P : Program} {w : World} {K : PySem.W.Frag} {mg : Str → Option Value} {base : Heap} {f : Addr} {fd : FuncData} (F : DL.FnM K "nodes" "Page.nodes" s_Page_nodes [] f fd) {C_History : Addr} (kC_History : Cls K C_History) (n_History_cells : NoAttr K C_History "cells") (n_History__done : NoAttr K C_History "_done") (n_History__undone : NoAttr K C_History "_undone") {C_Page : Addr} (kC_Page : Cls K C_Page) (n_Page_width : NoAttr K C_Page "width") (n_Page_height : NoAttr K C_Page "height") (n_Page__last_id : NoAttr K C_Page "_last_id") (n_Page__moment : NoAttr K C_Page "_moment") (n_Page__marked : NoAttr K C_Page "_marked") (n_Page__history : NoAttr K C_Page "_history") (h_branch : Cal P w K mg base 1 "branch" ["rows", "node"] (spF K  R_branch)) (c_ROOT : ∃ t, mg "ROOT" = some (.int 1 t)) (me : Meth K C_Page "nodes" f) : DL.MetP P w K mg base 2 C_Page "nodes" ["self"] (spF K  (R_Page_nodes C_Page C_History)) := by
  refine DL.met_mk F sc_Page_nodes kC_Page me (spF_len (R_Page_nodes_len C_Page C_History)) (fun _ _ _ _ _ _ us hl => match us, hl with | [_], _ => rfl) (fun cdv A outer s H vs Q E hr h => ⟨_,
    (pss_cons (ps_ret (DL.pe_cal h_branch hr (by decide) (by rfl) pass0 (pa_cons (DL.kFld (K := K) (DL.kFld (K := K) (pv 0))) (pa_cons (C8.pe_gc (v := .int 1) (by rfl) (DL.gci c_ROOT)) pa_nil))))
     pss_nil), ?_⟩)
  refine run_spF h fun N ds d hR hq => ?_
  obtain ⟨p, hok, rfl, rfl⟩ := hR
  obtain ⟨dep, W⟩ := hok.wf
  obtain ⟨r1, g1, _⟩ := W.root
  walk_at "env"
  exact gs_retF (ef_call (ea_cons (by walk_at "v") (ea_cons ex_int ea_nil)) (R_branch_i hok.rows W hok.n300 g1)) (fun _ h => h) hq
-- END Page_nodes
theorem sc_Page__box : FnScope ["self", "node", "row"] ["self", "node"] (defScope s_Page__box) := ⟨rfl, rfl, rfl, by decide +kernel, rfl, by decide +kernel, by decide +kernel⟩
def R_Page__box : Addr → Addr → List PyData → PyData → Prop := fun CP CH ds d => ∃ (p : Pg) (n : Int) (r : Rw), getA p.hs.cells (.inl n) = some r.d ∧ r.box = true ∧ ds = [pgD CP CH p, .int n] ∧ d = r.d
theorem R_Page__box_i {CP CH : Addr} {p : Pg} {n : Int} {r : Rw} (h : getA p.hs.cells (.inl n) = some r.d) (h2 : r.box = true) : R_Page__box CP CH [pgD CP CH p, .int n] r.d := ⟨p, n, r, h, h2, rfl, rfl⟩
local macro_rules | `(tactic| walk_at "r2") => `(tactic| exact R_Page__box_i (by assumption) (by assumption))
theorem R_Page__box_len : ∀ (C_Page C_History : Addr) ds d, R_Page__box C_Page C_History ds d → ds.length = 2 := by
  intro C_Page C_History ds d hh
  unfold R_Page__box at hh
  repeat (obtain ⟨_, hh⟩ := hh)
  subst_eqs
  rfl
theorem ok_Page__box {P : Program} {w : World} {K : PySem.W.Frag} {mg : Str → Option Value} {base : Heap} {f : Addr} {fd : FuncData} (F : DL.FnM K "_box" "Page._box" s_Page__box [] f fd) {C_History : Addr} (kC_History : Cls K C_History) (n_History_cells : NoAttr K C_History "cells") (n_History__done : NoAttr K C_History "_done") (n_History__undone : NoAttr K C_History "_undone") {C_Page : Addr} (kC_Page : Cls K C_Page) (n_Page_width : NoAttr K C_Page "width") (n_Page_height : NoAttr K C_Page "height") (n_Page__last_id : NoAttr K C_Page "_last_id") (n_Page__moment : NoAttr K C_Page "_moment") (n_Page__marked : NoAttr K C_Page "_marked") (n_Page__history : NoAttr K C_Page "_history") (h_Page__row : DL.MetP P w K mg base 2 C_Page "_row" ["self", "node"] (spD K  (R_Page__row C_Page C_History))) (c_KIND : ∃ t, mg "KIND" = some (.int 1 t)) (me : Meth K C_Page "_box" f) : DL.MetP P w K mg base 3 C_Page "_box" ["self", "node"] (spD K  (R_Page__box C_Page C_History)) := by
  refine DL.met_mk F sc_Page__box kC_Page me (spD_len (R_Page__box_len C_Page C_History)) (fun _ _ _ _ _ _ us hl => match us, hl with | [_, _], _ => rfl) (fun cdv A outer s H vs Q E hr h => ⟨_,
    (pss_cons (ps_set (i := 2) sc_Page__box.nd rfl (by first | exact Or.inl rfl | exact Or.inr rfl) (DL.pe_metP h_Page__row hr (by decide) pass0 (pv 0) (pa_cons (pv 1) pa_nil)))
     (pss_cons (ps_if (pt_cmpR op_ne (pe_ix (DL.kIxT (K := K)) (pv 2) (C8.pe_gc (v := .int 1) (by rfl) (DL.gci c_KIND)) (fun _ _ => rfl)) pe_str (nomark _))
     (pss_cons DL.ps_never
     pss_nil)
     pss_nil)
     (pss_cons (ps_ret (pv 2))
     pss_nil))), ?_⟩)
  refine run_spD h fun N ds d hR hq => ?_
  obtain ⟨p, n, r, hg, hb, rfl, rfl⟩ := hR
  walk_at "env"
  refine gs_asg (d := r.d) (by walk_at "v") ?_
  walk_at "nf"
  refine gs_if (b := false) (EvT.is (et_test (ex_neS (ex_ixT (ds := r.l) (ex_var rfl) ex_int (atI_nat (j := 1) rfl)) ex_str)) (by rw [hb]; decide +kernel)) (fun z => nomatch z) fun _ => g_nextU ?_
  exact gs_ret (ex_var rfl) hq
-- END Page__box
theorem sc__check_depth : FnScope ["depth"] ["depth"] (defScope s__check_depth) := ⟨rfl, rfl, rfl, by decide +kernel, rfl, by decide +kernel, by decide +kernel⟩
def R__check_depth (C_TooDeep : Addr) : List PyData → DL.Out → Prop := fun ds o => ∃ v : Int, 0 ≤ v ∧ v ≤ 1000000 ∧ ds = [.int v] ∧ o = if v ≤ 30 then .val .none else .err C_TooDeep (.int v)
theorem R__check_depth_i {C : Addr} {v : Int} (h1 : 0 ≤ v) (h2 : v ≤ 1000000) : R__check_depth C [.int v] (if v ≤ 30 then .val .none else .err C (.int v)) := ⟨v, h1, h2, rfl, rfl⟩
local macro_rules | `(tactic| walk_at "r2") => `(tactic| exact R__check_depth_i (by omega) (by omega))
theorem R__check_depth_len : ∀ (C_TooDeep : Addr) ds d, R__check_depth C_TooDeep ds d → ds.length = 1 := by
  intro C_TooDeep ds d hh
  unfold R__check_depth at hh
  repeat (obtain ⟨_, hh⟩ := hh)
  subst_eqs
  rfl
theorem ok__check_depth {P : Program} {w : World} {K : PySem.W.Frag} {mg : Str → Option Value} {base : Heap} {f : Addr} {fd : FuncData} (F : FnP K "_check_depth" s__check_depth f fd) (g0 : mg "_check_depth" = some (.ref f)) {f_I : Addr} {C_TooDeep : Addr} (g_TooDeep : mg "TooDeep" = some (.ref C_TooDeep)) (e_TooDeep : DL.ErC K C_TooDeep f_I) {fd_I : FuncData} (h_init : FnOk P w K mg base CX0 1 f_I fd_I ["self", "value"] (DL.spE0 K)) (b_init : Binds K fd_I ["self", "value"] []) (c_MOST_DEPTH : ∃ t, mg "MOST_DEPTH" = some (.int 30 t)) : DL.CalX P w K mg base 3 "_check_depth" ["depth"] (DL.spX K (R__check_depth C_TooDeep)) := by
  refine DL.cal_mkX F sc__check_depth g0 (DL.spX_len (R__check_depth_len C_TooDeep)) (fun _ _ _ _ _ _ us hl => match us, hl with | [_], _ => rfl) (fun cdv A outer s H vs Q E hr h => ⟨_,
    (pss_cons (ps_if (pt_cmpR op_gt (pv 0) (C8.pe_gc (v := .int 30) (by rfl) (DL.gci c_MOST_DEPTH)) (nomark _))
     (pss_cons (ps_raise rfl (takes_of rfl rfl rfl rfl) (pmk_oex e_TooDeep.o e_TooDeep.i e_TooDeep.t h_init (hr.mono (by decide)) b_init .nil pass0 (by rfl) g_TooDeep (pa_cons (pv 0) pa_nil)))
     pss_nil)
     pss_nil)
     pss_nil), ?_⟩)
  refine DL.run_spX h fun N ds o hR hq => ?_
  obtain ⟨v, h1, h2, rfl, rfl⟩ := hR
  walk_at "env"
  refine gs_if (b := decide (v > 30)) (EvT.is (et_test (ex_b2 (ex_var rfl) ex_int)) rfl) (fun hb => ?b1) fun hb => g_nextU ?c1
  case b1 =>
    have hb := of_decide_eq_true hb
    rw [if_neg (by omega)] at hq
    exact DL.gs_raise e_TooDeep (DL.evD_I h1 (by omega)) (ea_cons (ex_var rfl) ea_nil) (hq.2 _ _ _ rfl (DL.evD_I h1 (by omega)))
  case c1 =>
    have hb := of_decide_eq_false hb
    rw [if_pos (by omega)] at hq
    exact g_endR (hq.1 _ rfl)
-- END _check_depth
theorem sc_Page__follow : FnScope ["self", "marked", "cells", "node"] ["self", "marked"] (defScope s_Page__follow) := ⟨rfl, rfl, rfl, by decide +kernel, rfl, by decide +kernel, by decide +kernel⟩
def R_Page__follow : Pg → List SV → Pg → PyData → Prop := fun p ds p' d => ∃ n : Int, ds = [.r 0, .i (.int n)] ∧ FolOk p n ∧ p' = follow p n ∧ d = .bool true
theorem R_Page__follow_len : ∀ x ds x' d, R_Page__follow x ds x' d → ds.length = 2 := by
  intro x ds x' d hh
  unfold R_Page__follow at hh
  repeat (obtain ⟨_, hh⟩ := hh)
  subst_eqs
  rfl
theorem ok_Page__follow {P : Program} {w : World} {K : PySem.W.Frag} {mg : Str → Option Value} {base : Heap} {f : Addr} {fd : FuncData} (F : DL.FnM K "_follow" "Page._follow" s_Page__follow [] f fd) {C_History : Addr} (kC_History : Cls K C_History) (n_History_cells : NoAttr K C_History "cells") (n_History__done : NoAttr K C_History "_done") (n_History__undone : NoAttr K C_History "_undone") {C_Page : Addr} (kC_Page : Cls K C_Page) (n_Page_width : NoAttr K C_Page "width") (n_Page_height : NoAttr K C_Page "height") (n_Page__last_id : NoAttr K C_Page "_last_id") (n_Page__moment : NoAttr K C_Page "_moment") (n_Page__marked : NoAttr K C_Page "_marked") (n_Page__history : NoAttr K C_Page "_history") (h_branch : Cal P w K mg base 1 "branch" ["rows", "node"] (spF K  R_branch)) (c_WINDOW : ∃ t, mg "WINDOW" = some (.str "window" t)) (me : Meth K C_Page "_follow" f) : DL.MetP P w K mg base 2 C_Page "_follow" ["self", "marked"] (DL.spS K 5 (shapeP C_Page C_History) R_Page__follow) := by
  refine DL.met_mk F sc_Page__follow kC_Page me (DL.spS_len R_Page__follow_len) (fun _ _ _ _ _ _ us hl => match us, hl with | [_, _], _ => rfl) (fun cdv A outer s H vs Q E hr h => ⟨_,
    (pss_cons (ps_if (pt_cmpR op_isN (pv 1) pe_non (nomark _))
     (pss_cons (ps_ret pe_bl)
     pss_nil)
     pss_nil)
     (pss_cons (ps_set (i := 2) sc_Page__follow.nd rfl (by first | exact Or.inl rfl | exact Or.inr rfl) (DL.kFld (K := K) (DL.kFld (K := K) (pv 0))))
     (pss_cons (ps_asg (pe_dget (DL.u1 hr.units) (pv 2) (C8.pe_gc (v := .str "window") (by rfl) (DL.gcs c_WINDOW)) (fun _ _ => rfl)) (DL.kTup (K := K) (n := 2) rfl (pgs_cons (DL.kGFld (K := K) (pv 0)) (pgs_cons (DL.kGFld (K := K) (pv 0)) pgs_nil))))
     (pss_cons (DL.kFldAug (K := K) (pv 0) pe_int)
     (pss_cons (ps_if (pt_cmp (pc_din (DL.u1 hr.units) (pv 1) (pv 2)))
     (pss_cons (ps_for PassesOwn.never rfl (DL.kPiL (K := K) (DL.pe_cal h_branch hr (by decide) (by rfl) pass0 (pa_cons (pv 2) (pa_cons (pv 1) pa_nil)))) (pg_name (i := 3) sc_Page__follow.nd rfl (by first | exact Or.inl rfl | exact Or.inr rfl))
     (pss_cons (ps_dput (DL.u1 hr.units) (DL.kFld (K := K) (pv 0)) (pv 3) (DL.kFld (K := K) (pv 0)) rfl)
     pss_nil))
     pss_nil)
     pss_nil)
     (pss_cons (ps_ret pe_bl)
     pss_nil)))))), ?_⟩)
  refine DL.run_spS h (Nat.le_trans (Nat.le_of_eq (DL.spS_len R_Page__follow_len _ _ _ _ h)) (by decide)) fun N ad x ds hsh hR hq => ?_
  obtain ⟨x', d, n, rfl, hf, rfl, rfl⟩ := hR
  have hmkl := hf.mkl
  simp only [envG, List.map, List.length, List.replicate, List.cons_append, List.nil_append, Nat.reduceAdd, Nat.reduceSub, Nat.sub_self]
  refine gs_if (b := false) (EvT.is (et_test (ex_isN rfl (ex_var rfl))) rfl) (fun z => nomatch z) fun _ => g_nextU ?_
  refine gs_asgR (k := 2) (by walk_at "o") ?_
  walk_at "nf"
  have hdat : ∀ p : Pg, DatO (shapeP C_Page C_History p) (.r 2) (dK0 p.hs.cells) := fun p => .dK rfl (DatK.i _)
  refine gs_asgFF (k := 0) (C := C_Page) (d1 := .int (winOf x.hs.cells).1) (d2 := .int (winOf x.hs.cells).2) (ex_dget (kk := .inr "window") (k := 2) (er_var rfl (by simp [shapeP])) rfl ex_str (by rw [getA_dkO, hf.win]; rfl)) (er_var rfl (by simp [shapeP])) rfl kC_Page n_Page_width n_Page_height (Nat.le_of_ble_eq_true rfl) (er_var rfl (by simp [shapeP])) ?_
  refine gs_is (os' := shapeP C_Page C_History { x with w := (winOf x.hs.cells).1, h := (winOf x.hs.cells).2 }) rfl rfl ?_
  refine gs_fldAug (k := 0) (C := C_Page) (i := x.mom) (j := 1) (er_var rfl (by simp [shapeP])) rfl kC_Page n_Page__moment rfl ex_int (Nat.le_of_ble_eq_true rfl) ?_
  refine gs_is (os' := shapeP C_Page C_History { x with w := (winOf x.hs.cells).1, h := (winOf x.hs.cells).2, mom := x.mom + 1 }) rfl rfl ?_
  generalize hy : ({ x with w := (winOf x.hs.cells).1, h := (winOf x.hs.cells).2, mom := x.mom + 1 } : Pg) = y
  have hyc : y.hs = x.hs := by rw [← hy]
  have hym : y.mom = x.mom + 1 := by rw [← hy]
  have hyk : y.marked = x.marked := by rw [← hy]
  have hend : ∀ {nd : Option SV} {l : List Int}, l = below x.hs.cells n → Go (cnS K H N ad 5) [some (.r 0), some (.i (.int n)), some (.r 2), nd] (shapeP C_Page C_History { y with marked := markM x.marked l (x.mom + 1) }) _ (De Q) := fun {nd l} hl => gs_retS (x' := follow x n) (te := tC (.bl true)) (u := tNext) (d := .bool true) ex_bl hq (fun i o e => by rw [hl, ← hy]; exact e) (shapeP_ok _ _ _) ⟨n, rfl, hf, rfl, rfl⟩
  refine gs_if (b := (getA x.hs.cells (.inl n)).isSome) (EvT.is (et_test (ex_inD (ek := fun k : Key => k) (ev := fun d : PyData => d) (a := .inl n) (fun _ _ e => e) (ex_var rfl) (ex_dat (er_var rfl (by simp [shapeP])) (hdat y)))) (by rw [hyc])) (fun hb => ?y1) (fun hb => ?n1)
  case n1 =>
    refine g_nextU ?_
    have := hend (nd := none) (l := []) (by unfold below; rw [hb]; rfl)
    have e : ({ y with marked := markM x.marked [] (x.mom + 1) } : Pg) = y := by show ({ y with marked := x.marked } : Pg) = y; rw [← hyk]
    rw [e] at this
    exact this
  case y1 =>
  rcases hf.br with z | ⟨last, dep, r, hrow, W, h300, ht⟩
  · rw [z] at hb; cases hb
  have hbel : below x.hs.cells n = sub (tr x.hs.cells) n := by unfold below; rw [hb]; rfl
  have hsl := sub_le W ht
  generalize hL : sub (tr x.hs.cells) n = L at *
  refine gs_forL (xs := L) (e := fun k : Int => .i (.int k)) (fun _ => [some (.r 0), some (.i (.int n)), some (.r 2), none]) (fun pre => shapeP C_Page C_History { y with marked := markM x.marked pre (x.mom + 1) }) (ew_list (ds := L.map PyData.int) (EvF.ev ?f1)) (by simp) (fun i k hk => itD_map i k hk) (fun c' _ ad σ H ok => ?o1) (fun _ _ _ => True.intro) (fun fr up pre k post hx => ⟨_, _, tg_name, ?b1⟩) ?d1
  case f1 => exact ef_callW (ea_cons (ex_dat (er_var rfl (by simp [shapeP])) (hyc ▸ hdat y)) (ea_cons (ex_var rfl) ea_nil)) (hL ▸ R_branch_i hrow W h300 ht) (noLists_int L)
  case o1 =>
    have e : ({ y with marked := markM x.marked [] (x.mom + 1) } : Pg) = y := by show ({ y with marked := x.marked } : Pg) = y; rw [← hyk]
    rw [e]
    exact ok
  case b1 =>
    walk_at "nf"
    have h1 := markM_len x.marked pre (x.mom + 1)
    have h2 : pre.length ≤ L.length := by rw [hx]; simp
    refine gs_dput (k := 1) (kk := .inl k) (s := .i (.int (x.mom + 1))) (show EvX false _ _ _ _ _ from ex_fldO (k := 0) (er_var rfl (by simp [shapeP])) rfl kC_Page n_Page__moment (by rw [← hym]; rfl)) (by walk_at "o") rfl (ex_var rfl) (by rw [List.length_map]; show (markM x.marked pre (x.mom + 1)).length < 100000; omega) ?_
    refine g_next fun ad σ H ok => ⟨ad, ?_⟩
    have ok := ok
    rw [setA_dkO, ← markM_snoc] at ok
    exact ok.weak (by simp [WkE]) (WkO.refl _) (by simp [EnLt, SvLt, shapeP]) (shapeP_ok _ _ _).lt (by simp [shapeP])
  case d1 => exact g_nextU (hend hbel.symm)
-- END Page__follow
theorem sc_Page__write : FnScope ["self", "changes", "marked"] ["self", "changes", "marked"] (defScope s_Page__write) := ⟨rfl, rfl, rfl, by decide +kernel, rfl, by decide +kernel, by decide +kernel⟩
def R_Page__write : Pg → List SV → Pg → PyData → Prop := fun p ds p' d => ∃ (c : List (Key × PyData)) (n : Int), ds = [.r 0, .z c, .i (.int n)] ∧ WrX p.hs c ∧ FolOk (wroteX p c n) n ∧ p' = follow (wroteX p c n) n ∧ d = .none
theorem R_Page__write_len : ∀ x ds x' d, R_Page__write x ds x' d → ds.length = 3 := by
  intro x ds x' d hh
  unfold R_Page__write at hh
  repeat (obtain ⟨_, hh⟩ := hh)
  subst_eqs
  rfl
theorem ok_Page__write {P : Program} {w : World} {K : PySem.W.Frag} {mg : Str → Option Value} {base : Heap} {f : Addr} {fd : FuncData} (F : DL.FnM K "_write" "Page._write" s_Page__write [] f fd) {C_History : Addr} (kC_History : Cls K C_History) (n_History_cells : NoAttr K C_History "cells") (n_History__done : NoAttr K C_History "_done") (n_History__undone : NoAttr K C_History "_undone") {C_Page : Addr} (kC_Page : Cls K C_Page) (n_Page_width : NoAttr K C_Page "width") (n_Page_height : NoAttr K C_Page "height") (n_Page__last_id : NoAttr K C_Page "_last_id") (n_Page__moment : NoAttr K C_Page "_moment") (n_Page__marked : NoAttr K C_Page "_marked") (n_Page__history : NoAttr K C_Page "_history") (h_History_write : DL.MetP P w K mg base 2 C_History "write" ["self", "after", "note"] (DL.spS K 3 (shapeH C_History) R_History_write)) (h_Page__follow : DL.MetP P w K mg base 2 C_Page "_follow" ["self", "marked"] (DL.spS K 5 (shapeP C_Page C_History) R_Page__follow)) (me : Meth K C_Page "_write" f) : DL.MetP P w K mg base 3 C_Page "_write" ["self", "changes", "marked"] (DL.spS K 5 (shapeP C_Page C_History) R_Page__write) := by
  refine DL.met_mk F sc_Page__write kC_Page me (DL.spS_len R_Page__write_len) (fun _ _ _ _ _ _ us hl => match us, hl with | [_, _, _], _ => rfl) (fun cdv A outer s H vs Q E hr h => ⟨_,
    (pss_cons (ps_expr (DL.pe_metP h_History_write hr (by decide) pass0 (DL.kFld (K := K) (pv 0)) (pa_cons (pv 1) (pa_cons (pv 2) pa_nil))))
     (pss_cons (ps_expr (DL.pe_metP h_Page__follow hr (by decide) pass0 (pv 0) (pa_cons (pv 2) pa_nil)))
     pss_nil)), ?_⟩)
  refine DL.run_spS h (Nat.le_trans (Nat.le_of_eq (DL.spS_len R_Page__write_len _ _ _ _ h)) (by decide)) fun N ad x ds hsh hR hq => ?_
  obtain ⟨x', d, c, n, rfl, hw, hf, rfl, rfl⟩ := hR
  simp only [envG, List.map, List.length, List.replicate, List.cons_append, List.nil_append, Nat.reduceAdd, Nat.reduceSub, Nat.sub_self]
  have S := segHP C_Page C_History x
  have ho : EvR (cnS K H N ad 5) [some (SV.r 0), some (SV.z c), some (SV.i (PyData.int n))] (shapeP C_Page C_History x) (tFld K (tVar 0) (Str.ofString "_history")) (fHP 0) := er_fldO (k := 0) (er_var rfl (by simp [shapeP])) rfl kC_Page n_Page__history rfl (Nat.le_of_ble_eq_true rfl)
  refine gs_doN (en_meth (G := fun hs => shapeP C_Page C_History { x with hs := hs }) (k := 0) (ds := [.z c, .i (.int n)]) (x := x.hs) S ho rfl rfl (by decide) (by intro s hs; simp at hs; rcases hs with rfl | rfl <;> exact True.intro) (eas_cons (show EvZ _ _ _ _ _ from ez_var rfl) (eas_cons (show EvX false _ _ _ _ _ from ex_var rfl) eas_nil)) ⟨_, _, c, .int n, rfl, hw, rfl, rfl⟩) ?_
  rintro _ _ ⟨_, ⟨c2, _, e1, _, rfl, rfl⟩, rfl⟩
  cases e1
  refine gs_doN (en_meth (k := 0) (ds := [.i (.int n)]) (x := wroteX x c n) (segAt_self (shapeP_ok C_Page C_History)) (er_var rfl (by simp [shapeP])) rfl rfl (by decide) (fun s hs => by rw [List.mem_singleton.mp hs]; exact True.intro) (eas_cons (show EvX false _ _ _ _ _ from ex_var rfl) eas_nil) ⟨_, _, n, rfl, hf, rfl, rfl⟩) ?_
  rintro _ _ ⟨_, ⟨c2, e1, _, rfl, rfl⟩, rfl⟩
  cases e1
  exact g_endS (x' := follow (wroteX x c n) n) hq (fun i o e => e) (shapeP_ok _ _ _) ⟨c, n, rfl, hw, hf, rfl, rfl⟩
-- END Page__write
theorem sc_Page__insert : FnScope ["self", "index", "row", "parent", "holder", "count", "node"] ["self", "index", "row"] (defScope s_Page__insert) := ⟨rfl, rfl, rfl, by decide +kernel, rfl, by decide +kernel, by decide +kernel⟩
def R_Page__insert : Pg → List SV → Pg → SV → Prop := fun p ds p' s => ∃ (i : Nat) (r : Rw), ds = [.r 0, .i (.int (i : Int)), .i r.d] ∧ (∃ rp, InsOk p i r rp) ∧ p' = insP p i r ∧ s = .i (.int (p.last + 1))
def B_Page__insert (C_BadPlace C_TooDeep C_TooMany : Addr) : Pg → List SV → Addr → PyData → Prop := fun p ds C e => ∃ (i : Nat) (r : Rw), ds = [.r 0, .i (.int (i : Int)), .i r.d] ∧ ∃ rp k, InsPre p r rp ∧ i ≤ 1000 ∧ insEr p i r rp = some (k, e) ∧ C = k.ad C_BadPlace C_TooDeep C_TooMany
theorem R_Page__insert_len : ∀ x ds y s, R_Page__insert x ds y s → ds.length = 3 := by
  intro x ds y s hh
  unfold R_Page__insert at hh
  repeat (obtain ⟨_, hh⟩ := hh)
  subst_eqs
  rfl
theorem B_Page__insert_len : ∀ (C_BadPlace C_TooDeep C_TooMany : Addr) x ds C e, B_Page__insert C_BadPlace C_TooDeep C_TooMany x ds C e → ds.length = 3 := by
  intro C_BadPlace C_TooDeep C_TooMany x ds C e hh
  unfold B_Page__insert at hh
  repeat (obtain ⟨_, hh⟩ := hh)
  subst_eqs
  rfl
theorem ok_Page__insert {P : Program} {w : World} {K : PySem.W.Frag} {mg : Str → Option Value} {base : Heap} {f : Addr} {fd : FuncData} (F : DL.FnM K "_insert" "Page._insert" s_Page__insert [] f fd) {C_History : Addr} (kC_History : Cls K C_History) (n_History_cells : NoAttr K C_History "cells") (n_History__done : NoAttr K C_History "_done") (n_History__undone : NoAttr K C_History "_undone") {C_Page : Addr} (kC_Page : Cls K C_Page) (n_Page_width : NoAttr K C_Page "width") (n_Page_height : NoAttr K C_Page "height") (n_Page__last_id : NoAttr K C_Page "_last_id") (n_Page__moment : NoAttr K C_Page "_moment") (n_Page__marked : NoAttr K C_Page "_marked") (n_Page__history : NoAttr K C_Page "_history") {f_I : Addr} {C_BadPlace : Addr} (g_BadPlace : mg "BadPlace" = some (.ref C_BadPlace)) (e_BadPlace : DL.ErC K C_BadPlace f_I) {C_TooDeep : Addr} (g_TooDeep : mg "TooDeep" = some (.ref C_TooDeep)) (e_TooDeep : DL.ErC K C_TooDeep f_I) {C_TooMany : Addr} (g_TooMany : mg "TooMany" = some (.ref C_TooMany)) (e_TooMany : DL.ErC K C_TooMany f_I) {fd_I : FuncData} (h_init : FnOk P w K mg base CX0 1 f_I fd_I ["self", "value"] (DL.spE0 K)) (b_init : Binds K fd_I ["self", "value"] []) (h_Page__row : DL.MetP P w K mg base 2 C_Page "_row" ["self", "node"] (spD K  (R_Page__row C_Page C_History))) (h_check_index : DL.CalX P w K mg base 3 "check_index" ["index", "high"] (DL.spX K (R_check_index C_BadPlace))) (h__check_depth : DL.CalX P w K mg base 3 "_check_depth" ["depth"] (DL.spX K (R__check_depth C_TooDeep))) (h_Page_depth : DL.MetP P w K mg base 3 C_Page "depth" ["self", "node"] (spD K  (R_Page_depth C_Page C_History))) (h_Page_nodes : DL.MetP P w K mg base 2 C_Page "nodes" ["self"] (spF K  (R_Page_nodes C_Page C_History))) (h_Page__write : DL.MetP P w K mg base 3 C_Page "_write" ["self", "changes", "marked"] (DL.spS K 5 (shapeP C_Page C_History) R_Page__write)) (h_with_child : Cal P w K mg base 2 "with_child" ["row", "index", "child"] (spD K  R_with_child)) (z_len : mg "len" = none) (c_PARENT : ∃ t, mg "PARENT" = some (.int 0 t)) (c_CHILDREN : ∃ t, mg "CHILDREN" = some (.int 6 t)) (c_MOST_NODES : ∃ t, mg "MOST_NODES" = some (.int 300 t)) (me : Meth K C_Page "_insert" f) : DL.MetX P w K mg base 4 C_Page "_insert" ["self", "index", "row"] (DL.spWX K (shapeP C_Page C_History) (shapeP C_Page C_History) R_Page__insert (B_Page__insert C_BadPlace C_TooDeep C_TooMany)) := by
  refine DL.metX_mk F sc_Page__insert kC_Page me (DL.spWX_len R_Page__insert_len (B_Page__insert_len C_BadPlace C_TooDeep C_TooMany)) (fun _ _ _ _ _ _ us hl => match us, hl with | [_, _, _], _ => rfl) (fun cdv A outer s H vs Q E hr h => ⟨_,
    (pss_cons (ps_set (i := 3) sc_Page__insert.nd rfl (by first | exact Or.inl rfl | exact Or.inr rfl) (pe_ix (DL.kIxT (K := K)) (pv 2) (C8.pe_gc (v := .int 0) (by rfl) (DL.gci c_PARENT)) (fun _ _ => rfl)))
     (pss_cons (ps_set (i := 4) sc_Page__insert.nd rfl (by first | exact Or.inl rfl | exact Or.inr rfl) (DL.pe_metP h_Page__row hr (by decide) pass0 (pv 0) (pa_cons (pv 3) pa_nil)))
     (pss_cons (ps_expr (DL.pe_calX h_check_index hr (by decide) (by rfl) (takes_of rfl rfl rfl rfl) (pa_cons (pv 1) (pa_cons (pe_callB (DL.kLen (K := K)) (by rfl) z_len (by decide +kernel) (pa_cons (pe_ix (DL.kIxT (K := K)) (pv 4) (C8.pe_gc (v := .int 6) (by rfl) (DL.gci c_CHILDREN)) (fun _ _ => rfl)) pa_nil)) pa_nil))))
     (pss_cons (ps_expr (DL.pe_calX h__check_depth hr (by decide) (by rfl) (takes_of rfl rfl rfl rfl) (pa_cons (pe_op op_add (DL.pe_metP h_Page_depth hr (by decide) pass0 (pv 0) (pa_cons (pv 3) pa_nil)) pe_int) pa_nil)))
     (pss_cons (ps_set (i := 5) sc_Page__insert.nd rfl (by first | exact Or.inl rfl | exact Or.inr rfl) (pe_op op_add (pe_callB (DL.kLen (K := K)) (by rfl) z_len (by decide +kernel) (pa_cons (DL.pe_metP0 h_Page_nodes hr (by decide) pass0 (pv 0)) pa_nil)) pe_int))
     (pss_cons (ps_if (pt_cmpR op_gt (pv 5) (C8.pe_gc (v := .int 300) (by rfl) (DL.gci c_MOST_NODES)) (nomark _))
     (pss_cons (ps_raise rfl (takes_of rfl rfl rfl rfl) (pmk_oex e_TooMany.o e_TooMany.i e_TooMany.t h_init (hr.mono (by decide)) b_init .nil pass0 (by rfl) g_TooMany (pa_cons (pv 5) pa_nil)))
     pss_nil)
     pss_nil)
     (pss_cons (DL.kFldAug (K := K) (pv 0) pe_int)
     (pss_cons (ps_set (i := 6) sc_Page__insert.nd rfl (by first | exact Or.inl rfl | exact Or.inr rfl) (DL.kFld (K := K) (pv 0)))
     (pss_cons (ps_expr (DL.pe_metP h_Page__write hr (by decide) pass0 (pv 0) (pa_cons (DL.pe_frz (pe_disp (pps_cons (pv 3) (DL.pe_cal h_with_child hr (by decide) (by rfl) pass0 (pa_cons (pv 4) (pa_cons (pv 1) (pa_cons (pv 6) pa_nil)))) (pps_cons (pv 6) (pv 2) pps_nil)) (by rfl) (by rfl) (by simp) (by decide))) (pa_cons (pv 6) pa_nil))))
     (pss_cons (ps_ret (pv 6))
     pss_nil)))))))))), ?_⟩)
  refine DL.run_spWX h (Nat.le_trans (Nat.le_of_eq ((DL.spWX_len R_Page__insert_len (B_Page__insert_len C_BadPlace C_TooDeep C_TooMany)) _ _ _ _ h)) (by decide)) (fun N ad x ds hsh hR hq => ?gA) (fun N ad x ds CE ev hsh hB hq => ?gB)
  case gA =>
    obtain ⟨x', s0, i, r, rfl, ⟨rp, hi⟩, rfl, rfl⟩ := hR
    simp only [envG, List.map, List.length, List.replicate, List.cons_append, List.nil_append, Nat.reduceAdd, Nat.reduceSub, Nat.sub_self]
    have hpar := hi.par
    have hok := hi.ok
    have hgp := (tr_get hok.rows).mp hpar
    have hnl := tr_nl hok.rows hpar
    have hix := hi.ix
    have hdep := hi.dep
    have hmany := hi.many
    have hwr := hi.wr
    have hfo := hi.fol
    obtain ⟨dep, W⟩ := hok.wf
    have hkl := hi.pre.kl
    have hself : ∀ e : Sy, e[0]? = some (some (.r 0)) → EvX true (cnS K H N ad 5) e (shapeP C_Page C_History x) (tVar 0) (pgD C_Page C_History x) := fun e he => ex_dat (er_var he (by simp [shapeP])) (pg_datS _ _ x)
    show Go (cnS K H N ad 5) _ (shapeP C_Page C_History x) _ _
    refine gs_asg (d := .int r.par) (ex_ixT (ds := r.l) (ex_var rfl) ex_int (atI_nat (j := 0) rfl)) ?_
    walk_at "nf"
    refine gs_asg (d := rp.d) (EvX.strong hnl (ex_methD (hself _ rfl) rfl (ea_cons (ex_var rfl) ea_nil) (R_Page__row_i hgp))) ?_
    walk_at "nf"
    refine gs_drop (w := true) (d := .none) (DL.ex_callXS (ea_cons (ex_var rfl) (ea_cons (ex_lenTK (ex_ixT (ds := rp.l) (ex_var rfl) ex_int (atI_nat (j := 6) rfl))) ea_nil)) ?x1) ?_
    case x1 =>
      have := R_check_index_i (C := C_BadPlace) (v := (i : Int)) (hi := ((rp.kids.map PyData.int).length : Int)) (by omega) (by omega)
      rw [if_pos (by rw [List.length_map]; omega)] at this
      exact this
    refine gs_drop (w := true) (d := .none) (DL.ex_callXS (ea_cons (ex_i2 (ex_methD (hself _ rfl) rfl (ea_cons (ex_var rfl) ea_nil) (R_Page_depth_i hok hpar)) ex_int) ea_nil) ?x2) ?_
    case x2 =>
      have := R__check_depth_i (C := C_TooDeep) (v := ((depth x.t r.par : Nat) : Int) + 1) (by omega) (by omega)
      rw [if_pos (by omega)] at this
      exact this
    refine gs_asg (d := .int (((sub x.t 1).length : Int) + 1)) (ex_i2 (EvX.is (ex_lenK (EvF.it (ef_methDW (hself _ rfl) rfl ea_nil (R_Page_nodes_i hok) (noLists_int _)))) (by simp)) ex_int) ?_
    walk_at "nf"
    refine gs_if (b := false) (EvT.is (et_test (ex_b2 (ex_var rfl) ex_int)) (decide_eq_false (by omega))) (fun z => nomatch z) fun _ => g_nextU ?_
    refine gs_fldAug (k := 0) (C := C_Page) (i := x.last) (j := 1) (er_var rfl (by simp [shapeP])) rfl kC_Page n_Page__last_id rfl ex_int (Nat.le_of_ble_eq_true rfl) ?_
    refine gs_is (os' := shapeP C_Page C_History { x with last := x.last + 1 }) rfl rfl ?_
    refine gs_asg (d := .int (x.last + 1)) (ex_fldO (k := 0) (er_var rfl (by simp [shapeP])) rfl kC_Page n_Page__last_id rfl) ?_
    walk_at "nf"
    refine gs_doN (en_meth (k := 0) (ds := [.z (insC x i r), .i (.int (x.last + 1))]) (x := { x with last := x.last + 1 }) (segAt_self (shapeP_ok C_Page C_History)) (er_var rfl (by simp [shapeP])) rfl rfl (by decide) (by intro s hs; simp at hs; rcases hs with rfl | rfl <;> exact True.intro) (eas_cons (show EvZ _ _ _ _ _ from ez_F ?z1) (eas_cons (show EvX false _ _ _ _ _ from ex_var rfl) eas_nil)) ⟨_, _, insC x i r, x.last + 1, rfl, hwr.x, by rw [wroteX_eq hwr.nn]; exact hfo, rfl, rfl⟩) ?_
    case z1 =>
      rw [insC_eq hpar]
      refine ef_disp (kvs := [((.inl r.par : Key), ({ rp with kids := insL rp.kids i (x.last + 1) } : Rw).d), (.inl (x.last + 1), r.d)]) (ep_cons (kk := .inl r.par) (ex_var rfl) (ex_call (ea_cons (ex_var rfl) (ea_cons (ex_var rfl) (ea_cons (ex_var rfl) ea_nil))) (R_with_child_i (by omega))) (noList_kids hnl) (ep_cons (kk := .inl (x.last + 1)) (ex_var rfl) (ex_var rfl) hi.nl ep_nil)) ?_ (Nat.le_of_ble_eq_true rfl)
      have := hi.nd
      rwa [insC_eq hpar] at this
    rintro _ _ ⟨_, ⟨c2, _, e1, _, _, rfl, rfl⟩, rfl⟩
    cases e1
    rw [wroteX_eq hwr.nn]
    exact gs_retW (y := insP x i r) (ex_var rfl) hq (fun i o e => e) (shapeP_ok _ _ _) (Nat.le_refl _) ⟨i, r, rfl, ⟨rp, hi⟩, rfl, rfl⟩
  case gB =>
    have hB0 := hB
    obtain ⟨i, r, rfl, rp, k, hi, hi3, her, rfl⟩ := hB
    simp only [envG, List.map, List.length, List.replicate, List.cons_append, List.nil_append, Nat.reduceAdd, Nat.reduceSub, Nat.sub_self]
    have hpar := hi.par
    have hok := hi.ok
    have hgp := (tr_get hok.rows).mp hpar
    have hnl := tr_nl hok.rows hpar
    obtain ⟨dep, W⟩ := hok.wf
    have hd30 := W.dep30 _ _ hpar
    have hdp := depth_eq W hpar
    have hcnt := hok.n300
    have hkl := hi.kl
    have hself : ∀ e : Sy, e[0]? = some (some (.r 0)) → EvX true (cnS K H N ad 5) e (shapeP C_Page C_History x) (tVar 0) (pgD C_Page C_History x) := fun e he => ex_dat (er_var he (by simp [shapeP])) (pg_datS _ _ x)
    show Go (cnS K H N ad 5) _ (shapeP C_Page C_History x) _ _
    refine gs_asg (d := .int r.par) (ex_ixT (ds := r.l) (ex_var rfl) ex_int (atI_nat (j := 0) rfl)) ?_
    walk_at "nf"
    refine gs_asg (d := rp.d) (EvX.strong hnl (ex_methD (hself _ rfl) rfl (ea_cons (ex_var rfl) ea_nil) (R_Page__row_i hgp))) ?_
    walk_at "nf"
    have hci := R_check_index_i (C := C_BadPlace) (v := (i : Int)) (hi := ((rp.kids.map PyData.int).length : Int)) (by omega) (by omega)
    rw [List.length_map] at hci
    unfold insEr at her
    by_cases c1 : rp.kids.length < i
    · rw [if_pos c1] at her
      cases her
      rw [if_neg (by omega)] at hci
      refine DL.xsw_drop (DL.xew_of (DL.xr_call (ea_cons (ex_var rfl) (ea_cons (EvX.is (ex_lenTK (ex_ixT (ds := rp.l) (ex_var rfl) ex_int (atI_nat (j := 6) rfl))) (by rw [List.length_map])) ea_nil)) hci)) hq (fun i o e => e) (shapeP_ok _ _ _) hB0
    rw [if_neg c1] at her
    rw [if_pos (by omega)] at hci
    refine gs_drop (w := true) (d := .none) (DL.ex_callXS (ea_cons (ex_var rfl) (ea_cons (EvX.is (ex_lenTK (ex_ixT (ds := rp.l) (ex_var rfl) ex_int (atI_nat (j := 6) rfl))) (by rw [List.length_map])) ea_nil)) hci) ?_
    have hcd := R__check_depth_i (C := C_TooDeep) (v := ((depth x.t r.par : Nat) : Int) + 1) (by omega) (by omega)
    by_cases c2 : 30 < depth x.t r.par + 1
    · rw [if_pos c2] at her
      cases her
      rw [if_neg (by omega)] at hcd
      exact DL.xsw_drop (DL.xew_of (DL.xr_call (ea_cons (ex_i2 (ex_methD (hself _ rfl) rfl (ea_cons (ex_var rfl) ea_nil) (R_Page_depth_i hok hpar)) ex_int) ea_nil) hcd)) hq (fun i o e => e) (shapeP_ok _ _ _) hB0
    rw [if_neg c2] at her
    rw [if_pos (by omega)] at hcd
    refine gs_drop (w := true) (d := .none) (DL.ex_callXS (ea_cons (ex_i2 (ex_methD (hself _ rfl) rfl (ea_cons (ex_var rfl) ea_nil) (R_Page_depth_i hok hpar)) ex_int) ea_nil) hcd) ?_
    by_cases c3 : ¬ 300 < (sub x.t 1).length + 1
    · rw [if_neg c3] at her; cases her
    have c3 := Decidable.not_not.mp c3
    rw [if_pos c3] at her
    cases her
    refine gs_asg (d := .int (((sub x.t 1).length : Int) + 1)) (ex_i2 (EvX.is (ex_lenK (EvF.it (ef_methDW (hself _ rfl) rfl ea_nil (R_Page_nodes_i hok) (noLists_int _)))) (by simp)) ex_int) ?_
    walk_at "nf"
    refine gs_if (b := true) (EvT.is (et_test (ex_b2 (ex_var rfl) ex_int)) (decide_eq_true (by omega))) (fun _ => ?_) (fun z => nomatch z)
    exact DL.gs_raiseW e_TooMany (DL.evD_I (by omega) (by omega)) (ea_cons (ex_var rfl) ea_nil) hq (fun i o e => e) (shapeP_ok _ _ _) hB0
-- END Page__insert
theorem sc_Page_insert_box : FnScope ["self", "parent", "index", "name", "marks"] ["self", "parent", "index", "name", "marks"] (defScope s_Page_insert_box) := ⟨rfl, rfl, rfl, by decide +kernel, rfl, by decide +kernel, by decide +kernel⟩
theorem sortT_nil : sortT [] = [] := List.mergeSort_nil
def R_Page_insert_box : Pg → List SV → Pg → SV → Prop := fun p ds p' s => ∃ (n : Int) (i : Nat) (l : List Nat), ds = [.r 0, .i (.int n), .i (.int (i : Int)), .i (dT l), .i (.tuple [])] ∧ (∃ rp, InsOk p i (bxR n l (.tuple [])) rp) ∧ Q.isW l ∧ p' = insP p i (bxR n l (.tuple [])) ∧ s = .i (.int (p.last + 1))
def B_Page_insert_box (C_BadPlace C_TooDeep C_TooMany : Addr) : Pg → List SV → Addr → PyData → Prop := fun p ds C e => ∃ (n : Int) (i : Nat) (l : List Nat), ds = [.r 0, .i (.int n), .i (.int (i : Int)), .i (dT l), .i (.tuple [])] ∧ Q.isW l ∧ ∃ rp k, InsPre p (bxR n l (.tuple [])) rp ∧ i ≤ 1000 ∧ insEr p i (bxR n l (.tuple [])) rp = some (k, e) ∧ C = k.ad C_BadPlace C_TooDeep C_TooMany
theorem R_Page_insert_box_len : ∀ x ds y s, R_Page_insert_box x ds y s → ds.length = 5 := by
  intro x ds y s hh
  unfold R_Page_insert_box at hh
  repeat (obtain ⟨_, hh⟩ := hh)
  subst_eqs
  rfl
theorem B_Page_insert_box_len : ∀ (C_BadPlace C_TooDeep C_TooMany : Addr) x ds C e, B_Page_insert_box C_BadPlace C_TooDeep C_TooMany x ds C e → ds.length = 5 := by
  intro C_BadPlace C_TooDeep C_TooMany x ds C e hh
  unfold B_Page_insert_box at hh
  repeat (obtain ⟨_, hh⟩ := hh)
  subst_eqs
  rfl
theorem ok_Page_insert_box {P : Program} {w : World} {K : PySem.W.Frag} {mg : Str → Option Value} {base : Heap} {f : Addr} {fd : FuncData} (F : DL.FnM K "insert_box" "Page.insert_box" s_Page_insert_box [("marks", .ref (DL.kwAt ("Page", some "insert_box") "marks" K))] f fd) {C_History : Addr} (kC_History : Cls K C_History) (n_History_cells : NoAttr K C_History "cells") (n_History__done : NoAttr K C_History "_done") (n_History__undone : NoAttr K C_History "_undone") {C_Page : Addr} (kC_Page : Cls K C_Page) (n_Page_width : NoAttr K C_Page "width") (n_Page_height : NoAttr K C_Page "height") (n_Page__last_id : NoAttr K C_Page "_last_id") (n_Page__moment : NoAttr K C_Page "_moment") (n_Page__marked : NoAttr K C_Page "_marked") (n_Page__history : NoAttr K C_Page "_history") {f_I : Addr} {C_BadPlace : Addr} (g_BadPlace : mg "BadPlace" = some (.ref C_BadPlace)) (e_BadPlace : DL.ErC K C_BadPlace f_I) {C_TooDeep : Addr} (g_TooDeep : mg "TooDeep" = some (.ref C_TooDeep)) (e_TooDeep : DL.ErC K C_TooDeep f_I) {C_TooMany : Addr} (g_TooMany : mg "TooMany" = some (.ref C_TooMany)) (e_TooMany : DL.ErC K C_TooMany f_I) (h_Page__box : DL.MetP P w K mg base 3 C_Page "_box" ["self", "node"] (spD K  (R_Page__box C_Page C_History))) (h_check_word : Cal P w K mg base 2 "check_word" ["word"] (spD K  R_check_word)) (h_Page__insert : DL.MetX P w K mg base 4 C_Page "_insert" ["self", "index", "row"] (DL.spWX K (shapeP C_Page C_History) (shapeP C_Page C_History) R_Page__insert (B_Page__insert C_BadPlace C_TooDeep C_TooMany))) (h_new_row : Cal P w K mg base 1 "new_row" ["parent", "kind", "content", "marks"] (spD K  R_new_row)) (h_read_marks : Cal P w K mg base 3 "read_marks" ["marks"] (spD K  R_read_marks)) (me : Meth K C_Page "insert_box" f) : DL.MetXQ P w K mg base 5 C_Page "insert_box" ["self", "parent", "index", "name", "marks"] (DL.spWX K (shapeP C_Page C_History) (shapeP C_Page C_History) R_Page_insert_box (B_Page_insert_box C_BadPlace C_TooDeep C_TooMany)) [(4, [], [("marks", .ref (DL.kwAt ("Page", some "insert_box") "marks" K))])] := by
  refine DL.metXQ_mk F sc_Page_insert_box kC_Page me (DL.spWX_len R_Page_insert_box_len (B_Page_insert_box_len C_BadPlace C_TooDeep C_TooMany)) (fun Fz hF => (List.mem_cons.mp hF).elim (fun e => e ▸ (form_mk F 4 [] [("marks", .ref (DL.kwAt ("Page", some "insert_box") "marks" K))] (by simp) (by simp) (fun D doc pm an cdv ct us mv ws h1 h2 h3 => match us, mv, ws, h1, h2, h3 with | [_, _, _, _], [_], [], _, _, _ => ⟨_, _, _, _, _, _, rfl, rfl, rfl⟩))) (fun hF => (fun _ hF => absurd hF (List.not_mem_nil)) Fz hF)) (fun cdv A outer s H vs Q E hr h => ⟨_,
    (pss_cons (ps_expr (DL.pe_metP h_Page__box hr (by decide) pass0 (pv 0) (pa_cons (pv 1) pa_nil)))
     (pss_cons (ps_expr (DL.pe_cal h_check_word hr (by decide) (by rfl) pass0 (pa_cons (pv 3) pa_nil)))
     (pss_cons (ps_ret (DL.pe_metX h_Page__insert hr (by decide) (takes_of rfl rfl rfl rfl) (pv 0) (pa_cons (pv 2) (pa_cons (DL.pe_cal h_new_row hr (by decide) (by rfl) pass0 (pa_cons (pv 1) (pa_cons pe_str (pa_cons (pv 3) (pa_cons (DL.pe_cal h_read_marks hr (by decide) (by rfl) pass0 (pa_cons (pv 4) pa_nil)) pa_nil))))) pa_nil))))
     pss_nil))), ?_⟩)
  refine DL.run_spWX h (Nat.le_trans (Nat.le_of_eq ((DL.spWX_len R_Page_insert_box_len (B_Page_insert_box_len C_BadPlace C_TooDeep C_TooMany)) _ _ _ _ h)) (by decide)) (fun N ad x ds hsh hR hq => ?gA) (fun N ad x ds CE ev hsh hB hq => ?gB)
  case gA =>
    obtain ⟨x', s0, n, i, l, rfl, ⟨rp, hi⟩, hl, rfl, rfl⟩ := hR
    simp only [envG, List.map, List.length, List.replicate, List.cons_append, List.nil_append, Nat.reduceAdd, Nat.reduceSub, Nat.sub_self]
    have hgp : getA x.hs.cells (.inl n) = some rp.d := (tr_get hi.ok.rows).mp hi.par
    have hself : ∀ e : Sy, e[0]? = some (some (.r 0)) → EvX true (cnS K H N ad 5) e (shapeP C_Page C_History x) (tVar 0) (pgD C_Page C_History x) := fun e he => ex_dat (er_var he (by simp [shapeP])) (pg_datS _ _ x)
    show Go (cnS K H N ad 5) _ (shapeP C_Page C_History x) _ _
    refine gs_drop (w := true) (d := rp.d) (ex_methD (hself _ rfl) rfl (ea_cons (ex_var rfl) ea_nil) (R_Page__box_i hgp hi.box)) ?_
    refine gs_drop (w := true) (d := .none) (ex_call (ea_cons (ex_var rfl) ea_nil) (R_check_word_i hl)) ?_
    refine gs_retWN (DL.ew_methWX (k := 0) (f := fun i => i) (ds := [.i (.int (i : Int)), .i (bxR n l (.tuple [])).d]) (x := x) (segW_self (sh0 := shapeP C_Page C_History) (sh1 := shapeP C_Page C_History) x (shapeP_ok C_Page C_History x)) (er_var rfl (by simp [shapeP])) rfl rfl (by show 0 < 5; decide) (by intro s hs; simp at hs; rcases hs with rfl | rfl <;> exact True.intro) (eas_cons (show EvX false _ _ _ _ _ from ex_var rfl) (eas_cons (show EvX false _ _ _ _ _ from ex_call (ea_cons (ex_var rfl) (ea_cons ex_str (ea_cons (ex_var rfl) (ea_cons (EvX.is (d := .tuple ((sortT []).map dT)) (ex_call (ea_cons (ex_var rfl) ea_nil) (R_read_marks_i (ms := []) (fun m hm => absurd hm List.not_mem_nil) (Nat.zero_le _) (by rw [sortT_nil]; exact Nat.zero_le _))) (show PyData.tuple ((sortT []).map dT) = .tuple [] by rw [sortT_nil]; rfl)) ea_nil)))) R_new_row_i) eas_nil)) ⟨_, _, i, bxR n l (.tuple []), rfl, ⟨rp, hi⟩, rfl, rfl⟩) hq ?_
    rintro _ _ ⟨_, _, ⟨i2, r2, e1, _, rfl, rfl⟩, _, rfl, rfl⟩
    injection e1 with _ e1
    injection e1 with e2 e1
    injection e1 with e3 _
    injection e3 with e3
    have e3 := Rw.d_inj e3
    injection e2 with e2
    injection e2 with e2
    have e2 := Int.ofNat.inj e2
    subst e2 e3
    exact ⟨insP x i (bxR n l (.tuple [])), fun i o e => e, shapeP_ok _ _ _, Nat.le_refl _, True.intro, n, i, l, rfl, ⟨rp, hi⟩, hl, rfl, rfl⟩
  case gB =>
    have hB0 := hB
    obtain ⟨n, i, l, rfl, hl, rp, k, hi, hi3, her, rfl⟩ := hB
    simp only [envG, List.map, List.length, List.replicate, List.cons_append, List.nil_append, Nat.reduceAdd, Nat.reduceSub, Nat.sub_self]
    have hgp : getA x.hs.cells (.inl n) = some rp.d := (tr_get hi.ok.rows).mp hi.par
    have hself : ∀ e : Sy, e[0]? = some (some (.r 0)) → EvX true (cnS K H N ad 5) e (shapeP C_Page C_History x) (tVar 0) (pgD C_Page C_History x) := fun e he => ex_dat (er_var he (by simp [shapeP])) (pg_datS _ _ x)
    show Go (cnS K H N ad 5) _ (shapeP C_Page C_History x) _ _
    refine gs_drop (w := true) (d := rp.d) (ex_methD (hself _ rfl) rfl (ea_cons (ex_var rfl) ea_nil) (R_Page__box_i hgp hi.box)) ?_
    refine gs_drop (w := true) (d := .none) (ex_call (ea_cons (ex_var rfl) ea_nil) (R_check_word_i hl)) ?_
    exact DL.xsw_ret (DL.xew_methWX (k := 0) (f := fun i => i) (ds := [.i (.int (i : Int)), .i (bxR n l (.tuple [])).d]) (x := x) (segW_self (sh0 := shapeP C_Page C_History) (sh1 := shapeP C_Page C_History) x (shapeP_ok C_Page C_History x)) rfl (er_var rfl (by simp [shapeP])) rfl rfl (by show 0 < 5; decide) (by intro s hs; simp at hs; rcases hs with rfl | rfl <;> exact True.intro) (eas_cons (show EvX false _ _ _ _ _ from ex_var rfl) (eas_cons (show EvX false _ _ _ _ _ from ex_call (ea_cons (ex_var rfl) (ea_cons ex_str (ea_cons (ex_var rfl) (ea_cons (EvX.is (d := .tuple ((sortT []).map dT)) (ex_call (ea_cons (ex_var rfl) ea_nil) (R_read_marks_i (ms := []) (fun m hm => absurd hm List.not_mem_nil) (Nat.zero_le _) (by rw [sortT_nil]; exact Nat.zero_le _))) (show PyData.tuple ((sortT []).map dT) = .tuple [] by rw [sortT_nil]; rfl)) ea_nil)))) R_new_row_i) eas_nil)) ⟨i, bxR n l (.tuple []), rfl, rp, k, hi, hi3, her, rfl⟩ (insEr_ev hi hi3 her)) hq (fun i o e => e) (shapeP_ok _ _ _) hB0
-- END Page_insert_box
theorem sc_Page_insert_text : FnScope ["self", "parent", "index", "string"] ["self", "parent", "index", "string"] (defScope s_Page_insert_text) := ⟨rfl, rfl, rfl, by decide +kernel, rfl, by decide +kernel, by decide +kernel⟩
def R_Page_insert_text : Pg → List SV → Pg → SV → Prop := fun p ds p' s => ∃ (n : Int) (i : Nat) (l : List Nat), ds = [.r 0, .i (.int n), .i (.int (i : Int)), .i (dT l)] ∧ (∃ rp, InsOk p i (txR n l) rp) ∧ okT l ∧ l.length ≤ 500 ∧ p' = insP p i (txR n l) ∧ s = .i (.int (p.last + 1))
def B_Page_insert_text (C_BadPlace C_TooDeep C_TooMany : Addr) : Pg → List SV → Addr → PyData → Prop := fun p ds C e => ∃ (n : Int) (i : Nat) (l : List Nat), ds = [.r 0, .i (.int n), .i (.int (i : Int)), .i (dT l)] ∧ okT l ∧ l.length ≤ 500 ∧ ∃ rp k, InsPre p (txR n l) rp ∧ i ≤ 1000 ∧ insEr p i (txR n l) rp = some (k, e) ∧ C = k.ad C_BadPlace C_TooDeep C_TooMany
theorem R_Page_insert_text_len : ∀ x ds y s, R_Page_insert_text x ds y s → ds.length = 4 := by
  intro x ds y s hh
  unfold R_Page_insert_text at hh
  repeat (obtain ⟨_, hh⟩ := hh)
  subst_eqs
  rfl
theorem B_Page_insert_text_len : ∀ (C_BadPlace C_TooDeep C_TooMany : Addr) x ds C e, B_Page_insert_text C_BadPlace C_TooDeep C_TooMany x ds C e → ds.length = 4 := by
  intro C_BadPlace C_TooDeep C_TooMany x ds C e hh
  unfold B_Page_insert_text at hh
  repeat (obtain ⟨_, hh⟩ := hh)
  subst_eqs
  rfl
theorem ok_Page_insert_text {P : Program} {w : World} {K : PySem.W.Frag} {mg : Str → Option Value} {base : Heap} {f : Addr} {fd : FuncData} (F : DL.FnM K "insert_text" "Page.insert_text" s_Page_insert_text [] f fd) {C_History : Addr} (kC_History : Cls K C_History) (n_History_cells : NoAttr K C_History "cells") (n_History__done : NoAttr K C_History "_done") (n_History__undone : NoAttr K C_History "_undone") {C_Page : Addr} (kC_Page : Cls K C_Page) (n_Page_width : NoAttr K C_Page "width") (n_Page_height : NoAttr K C_Page "height") (n_Page__last_id : NoAttr K C_Page "_last_id") (n_Page__moment : NoAttr K C_Page "_moment") (n_Page__marked : NoAttr K C_Page "_marked") (n_Page__history : NoAttr K C_Page "_history") {f_I : Addr} {C_BadPlace : Addr} (g_BadPlace : mg "BadPlace" = some (.ref C_BadPlace)) (e_BadPlace : DL.ErC K C_BadPlace f_I) {C_TooDeep : Addr} (g_TooDeep : mg "TooDeep" = some (.ref C_TooDeep)) (e_TooDeep : DL.ErC K C_TooDeep f_I) {C_TooMany : Addr} (g_TooMany : mg "TooMany" = some (.ref C_TooMany)) (e_TooMany : DL.ErC K C_TooMany f_I) (h_Page__box : DL.MetP P w K mg base 3 C_Page "_box" ["self", "node"] (spD K  (R_Page__box C_Page C_History))) (h_check_string : Cal P w K mg base 3 "check_string" ["string"] (spD K  R_check_string)) (h_Page__insert : DL.MetX P w K mg base 4 C_Page "_insert" ["self", "index", "row"] (DL.spWX K (shapeP C_Page C_History) (shapeP C_Page C_History) R_Page__insert (B_Page__insert C_BadPlace C_TooDeep C_TooMany))) (h_new_row : Cal P w K mg base 1 "new_row" ["parent", "kind", "content", "marks"] (spD K  R_new_row)) (me : Meth K C_Page "insert_text" f) : DL.MetX P w K mg base 5 C_Page "insert_text" ["self", "parent", "index", "string"] (DL.spWX K (shapeP C_Page C_History) (shapeP C_Page C_History) R_Page_insert_text (B_Page_insert_text C_BadPlace C_TooDeep C_TooMany)) := by
  refine DL.metX_mk F sc_Page_insert_text kC_Page me (DL.spWX_len R_Page_insert_text_len (B_Page_insert_text_len C_BadPlace C_TooDeep C_TooMany)) (fun _ _ _ _ _ _ us hl => match us, hl with | [_, _, _, _], _ => rfl) (fun cdv A outer s H vs Q E hr h => ⟨_,
    (pss_cons (ps_expr (DL.pe_metP h_Page__box hr (by decide) pass0 (pv 0) (pa_cons (pv 1) pa_nil)))
     (pss_cons (ps_expr (DL.pe_cal h_check_string hr (by decide) (by rfl) pass0 (pa_cons (pv 3) pa_nil)))
     (pss_cons (ps_ret (DL.pe_metX h_Page__insert hr (by decide) (takes_of rfl rfl rfl rfl) (pv 0) (pa_cons (pv 2) (pa_cons (DL.pe_cal h_new_row hr (by decide) (by rfl) pass0 (pa_cons (pv 1) (pa_cons pe_str (pa_cons (pv 3) (pa_cons (pe_tup pa_nil) pa_nil))))) pa_nil))))
     pss_nil))), ?_⟩)
  refine DL.run_spWX h (Nat.le_trans (Nat.le_of_eq ((DL.spWX_len R_Page_insert_text_len (B_Page_insert_text_len C_BadPlace C_TooDeep C_TooMany)) _ _ _ _ h)) (by decide)) (fun N ad x ds hsh hR hq => ?gA) (fun N ad x ds CE ev hsh hB hq => ?gB)
  case gA =>
    obtain ⟨x', s0, n, i, l, rfl, ⟨rp, hi⟩, hl, hl5, rfl, rfl⟩ := hR
    simp only [envG, List.map, List.length, List.replicate, List.cons_append, List.nil_append, Nat.reduceAdd, Nat.reduceSub, Nat.sub_self]
    have hgp : getA x.hs.cells (.inl n) = some rp.d := (tr_get hi.ok.rows).mp hi.par
    have hself : ∀ e : Sy, e[0]? = some (some (.r 0)) → EvX true (cnS K H N ad 5) e (shapeP C_Page C_History x) (tVar 0) (pgD C_Page C_History x) := fun e he => ex_dat (er_var he (by simp [shapeP])) (pg_datS _ _ x)
    show Go (cnS K H N ad 5) _ (shapeP C_Page C_History x) _ _
    refine gs_drop (w := true) (d := rp.d) (ex_methD (hself _ rfl) rfl (ea_cons (ex_var rfl) ea_nil) (R_Page__box_i hgp hi.box)) ?_
    refine gs_drop (w := true) (d := .none) (ex_call (ea_cons (ex_var rfl) ea_nil) (R_check_string_i hl hl5)) ?_
    refine gs_retWN (DL.ew_methWX (k := 0) (f := fun i => i) (ds := [.i (.int (i : Int)), .i (txR n l).d]) (x := x) (segW_self (sh0 := shapeP C_Page C_History) (sh1 := shapeP C_Page C_History) x (shapeP_ok C_Page C_History x)) (er_var rfl (by simp [shapeP])) rfl rfl (by show 0 < 5; decide) (by intro s hs; simp at hs; rcases hs with rfl | rfl <;> exact True.intro) (eas_cons (show EvX false _ _ _ _ _ from ex_var rfl) (eas_cons (show EvX false _ _ _ _ _ from ex_call (ea_cons (ex_var rfl) (ea_cons ex_str (ea_cons (ex_var rfl) (ea_cons (ex_tup ea_nil (Nat.zero_le _)) ea_nil)))) R_new_row_i) eas_nil)) ⟨_, _, i, txR n l, rfl, ⟨rp, hi⟩, rfl, rfl⟩) hq ?_
    rintro _ _ ⟨_, _, ⟨i2, r2, e1, _, rfl, rfl⟩, _, rfl, rfl⟩
    injection e1 with _ e1
    injection e1 with e2 e1
    injection e1 with e3 _
    injection e3 with e3
    have e3 := Rw.d_inj e3
    injection e2 with e2
    injection e2 with e2
    have e2 := Int.ofNat.inj e2
    subst e2 e3
    exact ⟨insP x i (txR n l), fun i o e => e, shapeP_ok _ _ _, Nat.le_refl _, True.intro, n, i, l, rfl, ⟨rp, hi⟩, hl, hl5, rfl, rfl⟩
  case gB =>
    have hB0 := hB
    obtain ⟨n, i, l, rfl, hl, hl5, rp, k, hi, hi3, her, rfl⟩ := hB
    simp only [envG, List.map, List.length, List.replicate, List.cons_append, List.nil_append, Nat.reduceAdd, Nat.reduceSub, Nat.sub_self]
    have hgp : getA x.hs.cells (.inl n) = some rp.d := (tr_get hi.ok.rows).mp hi.par
    have hself : ∀ e : Sy, e[0]? = some (some (.r 0)) → EvX true (cnS K H N ad 5) e (shapeP C_Page C_History x) (tVar 0) (pgD C_Page C_History x) := fun e he => ex_dat (er_var he (by simp [shapeP])) (pg_datS _ _ x)
    show Go (cnS K H N ad 5) _ (shapeP C_Page C_History x) _ _
    refine gs_drop (w := true) (d := rp.d) (ex_methD (hself _ rfl) rfl (ea_cons (ex_var rfl) ea_nil) (R_Page__box_i hgp hi.box)) ?_
    refine gs_drop (w := true) (d := .none) (ex_call (ea_cons (ex_var rfl) ea_nil) (R_check_string_i hl hl5)) ?_
    exact DL.xsw_ret (DL.xew_methWX (k := 0) (f := fun i => i) (ds := [.i (.int (i : Int)), .i (txR n l).d]) (x := x) (segW_self (sh0 := shapeP C_Page C_History) (sh1 := shapeP C_Page C_History) x (shapeP_ok C_Page C_History x)) rfl (er_var rfl (by simp [shapeP])) rfl rfl (by show 0 < 5; decide) (by intro s hs; simp at hs; rcases hs with rfl | rfl <;> exact True.intro) (eas_cons (show EvX false _ _ _ _ _ from ex_var rfl) (eas_cons (show EvX false _ _ _ _ _ from ex_call (ea_cons (ex_var rfl) (ea_cons ex_str (ea_cons (ex_var rfl) (ea_cons (ex_tup ea_nil (Nat.zero_le _)) ea_nil)))) R_new_row_i) eas_nil)) ⟨i, txR n l, rfl, rp, k, hi, hi3, her, rfl⟩ (insEr_ev hi hi3 her)) hq (fun i o e => e) (shapeP_ok _ _ _) hB0
-- END Page_insert_text
theorem sc__refuse_root : FnScope ["node"] ["node"] (defScope s__refuse_root) := ⟨rfl, rfl, rfl, by decide +kernel, rfl, by decide +kernel, by decide +kernel⟩
def R__refuse_root : List PyData → PyData → Prop := fun ds d => ∃ v : Int, v ≠ 1 ∧ ds = [.int v] ∧ d = .none
theorem R__refuse_root_i {v : Int} (h1 : v ≠ 1) : R__refuse_root [.int v] .none := ⟨v, h1, rfl, rfl⟩
local macro_rules | `(tactic| walk_at "r2") => `(tactic| exact R__refuse_root_i (by assumption))
theorem R__refuse_root_len : ∀ ds d, R__refuse_root ds d → ds.length = 1 := by
  intro ds d hh
  unfold R__refuse_root at hh
  repeat (obtain ⟨_, hh⟩ := hh)
  subst_eqs
  rfl
theorem ok__refuse_root {P : Program} {w : World} {K : PySem.W.Frag} {mg : Str → Option Value} {base : Heap} {f : Addr} {fd : FuncData} (F : FnP K "_refuse_root" s__refuse_root f fd) (g0 : mg "_refuse_root" = some (.ref f)) (c_ROOT : ∃ t, mg "ROOT" = some (.int 1 t)) : Cal P w K mg base 1 "_refuse_root" ["node"] (spD K  R__refuse_root) := by
  refine cal_mk F sc__refuse_root g0 (spD_len R__refuse_root_len) (fun _ _ _ _ _ _ us hl => match us, hl with | [_], _ => rfl) (fun cdv A outer s H vs Q E hr h => ⟨_,
    (pss_cons (ps_if (pt_cmpR op_eq (pv 0) (C8.pe_gc (v := .int 1) (by rfl) (DL.gci c_ROOT)) (nomark _))
     (pss_cons DL.ps_never
     pss_nil)
     pss_nil)
     pss_nil), ?_⟩)
  refine run_spD h fun N ds d hR hq => ?_
  obtain ⟨v, h1, rfl, rfl⟩ := hR
  walk_at "env"
  refine gs_if (b := false) (EvT.is (et_test (ex_eqI (ex_var rfl) ex_int)) (decide_eq_false h1)) (fun z => nomatch z) fun _ => g_nextU (g_endR hq)
-- END _refuse_root
theorem sc_Page_remove : FnScope ["self", "node", "row", "cells", "changes", "gone"] ["self", "node"] (defScope s_Page_remove) := ⟨rfl, rfl, rfl, by decide +kernel, rfl, by decide +kernel, by decide +kernel⟩
def R_Page_remove : Pg → List SV → Pg → PyData → Prop := fun p ds p' d => ∃ (n : Int) (r ro : Rw), ds = [.r 0, .i (.int n)] ∧ RmOk p n r ro ∧ p' = rmP p n r ro ∧ d = .none
theorem R_Page_remove_len : ∀ x ds x' d, R_Page_remove x ds x' d → ds.length = 2 := by
  intro x ds x' d hh
  unfold R_Page_remove at hh
  repeat (obtain ⟨_, hh⟩ := hh)
  subst_eqs
  rfl
theorem ok_Page_remove {P : Program} {w : World} {K : PySem.W.Frag} {mg : Str → Option Value} {base : Heap} {f : Addr} {fd : FuncData} (F : DL.FnM K "remove" "Page.remove" s_Page_remove [] f fd) {C_History : Addr} (kC_History : Cls K C_History) (n_History_cells : NoAttr K C_History "cells") (n_History__done : NoAttr K C_History "_done") (n_History__undone : NoAttr K C_History "_undone") {C_Page : Addr} (kC_Page : Cls K C_Page) (n_Page_width : NoAttr K C_Page "width") (n_Page_height : NoAttr K C_Page "height") (n_Page__last_id : NoAttr K C_Page "_last_id") (n_Page__moment : NoAttr K C_Page "_moment") (n_Page__marked : NoAttr K C_Page "_marked") (n_Page__history : NoAttr K C_Page "_history") (h_Page__row : DL.MetP P w K mg base 2 C_Page "_row" ["self", "node"] (spD K  (R_Page__row C_Page C_History))) (h__refuse_root : Cal P w K mg base 1 "_refuse_root" ["node"] (spD K  R__refuse_root)) (h_branch : Cal P w K mg base 1 "branch" ["rows", "node"] (spF K  R_branch)) (h_without_child : Cal P w K mg base 2 "without_child" ["row", "child"] (spD K  R_without_child)) (h_Page__write : DL.MetP P w K mg base 3 C_Page "_write" ["self", "changes", "marked"] (DL.spS K 5 (shapeP C_Page C_History) R_Page__write)) (c_PARENT : ∃ t, mg "PARENT" = some (.int 0 t)) (me : Meth K C_Page "remove" f) : DL.MetP P w K mg base 4 C_Page "remove" ["self", "node"] (DL.spS K 5 (shapeP C_Page C_History) R_Page_remove) := by
  refine DL.met_mk F sc_Page_remove kC_Page me (DL.spS_len R_Page_remove_len) (fun _ _ _ _ _ _ us hl => match us, hl with | [_, _], _ => rfl) (fun cdv A outer s H vs Q E hr h => ⟨_,
    (pss_cons (ps_set (i := 2) sc_Page_remove.nd rfl (by first | exact Or.inl rfl | exact Or.inr rfl) (DL.pe_metP h_Page__row hr (by decide) pass0 (pv 0) (pa_cons (pv 1) pa_nil)))
     (pss_cons (ps_expr (DL.pe_cal h__refuse_root hr (by decide) (by rfl) pass0 (pa_cons (pv 1) pa_nil)))
     (pss_cons (ps_set (i := 3) sc_Page_remove.nd rfl (by first | exact Or.inl rfl | exact Or.inr rfl) (DL.kFld (K := K) (DL.kFld (K := K) (pv 0))))
     (pss_cons (ps_setDc (i := 4) (own := [("gone", 5)]) (by rfl) sc_Page_remove.nd rfl rfl (sw_trueD rfl rfl rfl (by decide +kernel)) (DL.kPiL (K := K) (DL.pe_cal h_branch hr (by decide) (by rfl) pass0 (pa_cons (pv 3) (pa_cons (pv 1) pa_nil)))) (blkOk_by (own := [("gone", 5)]) (N := ["self", "node", "row", "cells", "changes", "gone"]) (sc := defScope s_Page_remove) (by decide +kernel)) (fun _ _ _ _ _ => (pg_name (i := 5) sc_Page_remove.nd rfl (by first | exact Or.inl rfl | exact Or.inr rfl))) (fun _ _ _ _ _ => pts_nil) (fun _ _ _ _ _ => (pv 5)) (fun _ _ _ _ _ => pe_non))
     (pss_cons (ps_dput (DL.u1 hr.units) (pv 4) (pe_ix (DL.kIxT (K := K)) (pv 2) (C8.pe_gc (v := .int 0) (by rfl) (DL.gci c_PARENT)) (fun _ _ => rfl)) (DL.pe_cal h_without_child hr (by decide) (by rfl) pass0 (pa_cons (pe_dget (DL.u1 hr.units) (pv 3) (pe_ix (DL.kIxT (K := K)) (pv 2) (C8.pe_gc (v := .int 0) (by rfl) (DL.gci c_PARENT)) (fun _ _ => rfl)) (fun _ _ => rfl)) (pa_cons (pv 1) pa_nil))) rfl)
     (pss_cons (ps_expr (DL.pe_metP h_Page__write hr (by decide) pass0 (pv 0) (pa_cons (DL.pe_frz (pv 4)) (pa_cons (pv 1) pa_nil))))
     pss_nil)))))), ?_⟩)
  refine DL.run_spS h (Nat.le_trans (Nat.le_of_eq (DL.spS_len R_Page_remove_len _ _ _ _ h)) (by decide)) fun N ad x ds hsh hR hq => ?_
  obtain ⟨x', d, n, r, ro, rfl, M, rfl, rfl⟩ := hR
  simp only [envG, List.map, List.length, List.replicate, List.cons_append, List.nil_append, Nat.reduceAdd, Nat.reduceSub, Nat.sub_self]
  have ok := M.ok
  obtain ⟨dep, W⟩ := ok.wf
  have hgn := (tr_get ok.rows).mp M.row
  have hgo := (tr_get ok.rows).mp M.orow
  have hln := tr_nl ok.rows M.row
  have hlo : noList (wo ro n).d = true := noList_kids (tr_nl ok.rows M.orow)
  have ho3 := kids_le ok M.orow
  have hsl := M.len
  have hnd := sub_nd W M.row
  obtain ⟨hdep, hin, hout, hbox⟩ := rm_par W M.row M.n1 M.orow
  have hself : ∀ e : Sy, e[0]? = some (some (.r 0)) → EvX true (cnS K H N ad 5) e (shapeP C_Page C_History x) (tVar 0) (pgD C_Page C_History x) := fun e he => ex_dat (er_var he (by simp [shapeP])) (pg_datS _ _ x)
  refine gs_asg (d := r.d) (EvX.strong hln (ex_methD (hself _ rfl) rfl (ea_cons (ex_var rfl) ea_nil) (R_Page__row_i hgn))) ?_
  walk_at "nf"
  refine gs_drop (w := true) (d := .none) (ex_call (ea_cons (ex_var rfl) ea_nil) (R__refuse_root_i M.n1)) ?_
  refine gs_asgR (k := 2) (by walk_at "o") ?_
  walk_at "nf"
  have hdat : ∀ {c : Cn} {e : Sy} (os : List SO), c.K = K → e[3]? = some (some (.r 2)) → EvX true c e (shapeP C_Page C_History x ++ os) (tVar 3) (dK0 x.hs.cells) := fun os hK he => ex_dat (er_var he (by simp [shapeP])) (DatO.dK (kvs := x.hs.cells.map fun p => (p.1, SV.i p.2)) rfl (DatK.i _))
  refine gs_asgF (o := dkO ((sub x.t n).map fun k => ((.inl k : Key), PyData.none))) (EvF.is (ef_dc (ek := fun k : Key => k) (ev := fun d : PyData => d) (fun _ _ e => e) (xs := sub x.t n) (e := fun k : Int => .i (.int k)) (fun k : Int => (.inl k : Key)) (fun _ => PyData.none) (ew_list (ds := (sub x.t n).map PyData.int) (EvF.ev (ef_callW (ea_cons (hdat [] rfl rfl) (ea_cons (ex_var rfl) ea_nil)) (R_branch_i ok.rows W ok.n300 M.row) (noLists_int _)))) (by simp) (fun i k hk => itD_map i k hk) (fun _ => True.intro) (by omega) (fun fr lo up acc k hk => ⟨_, _, ?a1, tg_name, et_yes, ex_var rfl, ex_non⟩)) ?a2) ?_
  case a1 => intro j hj; simpa using hj
  case a2 => rw [DL.dcM_nd (fun a b e => by injection e) _ _ rfl hnd]
  walk_at "nf"
  refine gs_dput (k := 5) (kk := .inl r.par) (s := .i (wo ro n).d) (show EvX false _ _ _ _ _ from EvX.strong hlo (ex_call (ea_cons (ex_dgetD (ek := fun k : Key => k) (ev := fun d : PyData => d) (a := .inl r.par) (b := ro.d) (fun _ _ e => e) (hdat _ rfl rfl) (ex_ixT (ds := r.l) (ex_var rfl) ex_int (atI_nat (j := 0) rfl)) hgo) (ea_cons (ex_var rfl) ea_nil)) (R_without_child_i (by omega)))) (er_var rfl (by simp [shapeP])) rfl (ex_ixT (ds := r.l) (ex_var rfl) ex_int (atI_nat (j := 0) rfl)) (by simp; omega) ?_
  refine gs_is (os' := shapeP C_Page C_History x ++ [dkO (rmC x.t n r ro)]) rfl ?g1 ?_
  case g1 =>
    have : getA ((sub x.t n).map fun k => ((.inl k : Key), PyData.none)) (.inl r.par) = none := getA_none.mpr fun q hq e => by
      obtain ⟨y, hy, rfl⟩ := List.mem_map.mp hq
      have e : (Sum.inl y : Key) = .inl r.par := e
      injection e with e
      exact hout (e ▸ hy)
    unfold rmC
    rw [← DL.setA_new (v := (wo ro n).d) this, setA_dkO]
    rfl
  refine gs_doN (en_methN (k := 0) (ds := [.z (rmC x.t n r ro), .i (.int n)]) (x := x) (segAt_post [.x] (shapeP_ok C_Page C_History)) (er_var rfl (by simp [shapeP])) rfl rfl (by decide) (by intro s hs; simp at hs; rcases hs with rfl | rfl <;> exact True.intro) (easn_frz (k := 5) rfl rfl (eas_cons (show EvX false _ _ _ _ _ from ex_var rfl) eas_nil)) ⟨_, _, rmC x.t n r ro, n, rfl, M.wr, M.fol, rfl, rfl⟩) ?_
  rintro _ _ ⟨_, ⟨c2, _, e1, _, _, rfl, rfl⟩, rfl⟩
  cases e1
  exact g_endS (x' := rmP x n r ro) hq (fun j o e => (List.getElem?_append_left (List.getElem?_eq_some_iff.mp e).1).trans e) (shapeP_ok _ _ _) ⟨n, r, ro, rfl, M, rfl, rfl⟩
-- END Page_remove
theorem sc_Page_move : FnScope ["self", "node", "parent", "index", "row", "cells", "changes", "target"] ["self", "node", "parent", "index"] (defScope s_Page_move) := ⟨rfl, rfl, rfl, by decide +kernel, rfl, by decide +kernel, by decide +kernel⟩
def R_Page_move : Pg → List SV → Pg → SV → Prop := fun p ds p' s => ∃ (n q : Int) (i : Nat) (r ro rq : Rw), ds = [.r 0, .i (.int n), .i (.int q), .i (.int (i : Int))] ∧ PgOk p ∧ p.hs.done.length < 4000 ∧ MvOk p.t n q r ro rq i ∧ 0 ≤ hgT p.t n ∧ p' = chP p (mvC n r q ro rq i) n ∧ s = .i .none
def B_Page_move (C_BadPlace C_TooDeep C_TooMany : Addr) : Pg → List SV → Addr → PyData → Prop := fun p ds C e => ∃ (n q : Int) (i : Nat) (r ro rq : Rw), ds = [.r 0, .i (.int n), .i (.int q), .i (.int (i : Int))] ∧ ∃ k, MvPre p n q r ro rq ∧ i ≤ 1000 ∧ mvEr p.t n q r ro rq i = some (k, e) ∧ C = k.ad C_BadPlace C_TooDeep C_TooMany
theorem R_Page_move_len : ∀ x ds y s, R_Page_move x ds y s → ds.length = 4 := by
  intro x ds y s hh
  unfold R_Page_move at hh
  repeat (obtain ⟨_, hh⟩ := hh)
  subst_eqs
  rfl
theorem B_Page_move_len : ∀ (C_BadPlace C_TooDeep C_TooMany : Addr) x ds C e, B_Page_move C_BadPlace C_TooDeep C_TooMany x ds C e → ds.length = 4 := by
  intro C_BadPlace C_TooDeep C_TooMany x ds C e hh
  unfold B_Page_move at hh
  repeat (obtain ⟨_, hh⟩ := hh)
  subst_eqs
  rfl
theorem ok_Page_move {P : Program} {w : World} {K : PySem.W.Frag} {mg : Str → Option Value} {base : Heap} {f : Addr} {fd : FuncData} (F : DL.FnM K "move" "Page.move" s_Page_move [] f fd) {C_History : Addr} (kC_History : Cls K C_History) (n_History_cells : NoAttr K C_History "cells") (n_History__done : NoAttr K C_History "_done") (n_History__undone : NoAttr K C_History "_undone") {C_Page : Addr} (kC_Page : Cls K C_Page) (n_Page_width : NoAttr K C_Page "width") (n_Page_height : NoAttr K C_Page "height") (n_Page__last_id : NoAttr K C_Page "_last_id") (n_Page__moment : NoAttr K C_Page "_moment") (n_Page__marked : NoAttr K C_Page "_marked") (n_Page__history : NoAttr K C_Page "_history") {f_I : Addr} {C_BadPlace : Addr} (g_BadPlace : mg "BadPlace" = some (.ref C_BadPlace)) (e_BadPlace : DL.ErC K C_BadPlace f_I) {C_TooDeep : Addr} (g_TooDeep : mg "TooDeep" = some (.ref C_TooDeep)) (e_TooDeep : DL.ErC K C_TooDeep f_I) {C_TooMany : Addr} (g_TooMany : mg "TooMany" = some (.ref C_TooMany)) (e_TooMany : DL.ErC K C_TooMany f_I) {fd_I : FuncData} (h_init : FnOk P w K mg base CX0 1 f_I fd_I ["self", "value"] (DL.spE0 K)) (b_init : Binds K fd_I ["self", "value"] []) (h_Page__row : DL.MetP P w K mg base 2 C_Page "_row" ["self", "node"] (spD K  (R_Page__row C_Page C_History))) (h__refuse_root : Cal P w K mg base 1 "_refuse_root" ["node"] (spD K  R__refuse_root)) (h_Page__box : DL.MetP P w K mg base 3 C_Page "_box" ["self", "node"] (spD K  (R_Page__box C_Page C_History))) (h_branch : Cal P w K mg base 1 "branch" ["rows", "node"] (spF K  R_branch)) (h_without_child : Cal P w K mg base 2 "without_child" ["row", "child"] (spD K  R_without_child)) (h_check_index : DL.CalX P w K mg base 3 "check_index" ["index", "high"] (DL.spX K (R_check_index C_BadPlace))) (h__check_depth : DL.CalX P w K mg base 3 "_check_depth" ["depth"] (DL.spX K (R__check_depth C_TooDeep))) (h_depth_of : Cal P w K mg base 1 "depth_of" ["rows", "node"] (spD K  R_depth_of)) (h_height_of : Cal P w K mg base (0 + 1 * 31 + 1) "height_of" ["rows", "node"] (DL.spD K  (R_height_of 31))) (h_with_child : Cal P w K mg base 2 "with_child" ["row", "index", "child"] (spD K  R_with_child)) (h_replaced : Cal P w K mg base 1 "replaced" ["row", "at", "value"] (spD K  R_replaced)) (h_Page__write : DL.MetP P w K mg base 3 C_Page "_write" ["self", "changes", "marked"] (DL.spS K 5 (shapeP C_Page C_History) R_Page__write)) (z_len : mg "len" = none) (c_PARENT : ∃ t, mg "PARENT" = some (.int 0 t)) (c_CHILDREN : ∃ t, mg "CHILDREN" = some (.int 6 t)) (me : Meth K C_Page "move" f) : DL.MetX P w K mg base 33 C_Page "move" ["self", "node", "parent", "index"] (DL.spWX K (shapeP C_Page C_History) (shapeP C_Page C_History) R_Page_move (B_Page_move C_BadPlace C_TooDeep C_TooMany)) := by
  refine DL.metX_mk F sc_Page_move kC_Page me (DL.spWX_len R_Page_move_len (B_Page_move_len C_BadPlace C_TooDeep C_TooMany)) (fun _ _ _ _ _ _ us hl => match us, hl with | [_, _, _, _], _ => rfl) (fun cdv A outer s H vs Q E hr h => ⟨_,
    (pss_cons (ps_set (i := 4) sc_Page_move.nd rfl (by first | exact Or.inl rfl | exact Or.inr rfl) (DL.pe_metP h_Page__row hr (by decide) pass0 (pv 0) (pa_cons (pv 1) pa_nil)))
     (pss_cons (ps_expr (DL.pe_metP h_Page__row hr (by decide) pass0 (pv 0) (pa_cons (pv 2) pa_nil)))
     (pss_cons (ps_expr (DL.pe_cal h__refuse_root hr (by decide) (by rfl) pass0 (pa_cons (pv 1) pa_nil)))
     (pss_cons (ps_expr (DL.pe_metP h_Page__box hr (by decide) pass0 (pv 0) (pa_cons (pv 2) pa_nil)))
     (pss_cons (ps_set (i := 5) sc_Page_move.nd rfl (by first | exact Or.inl rfl | exact Or.inr rfl) (DL.kFld (K := K) (DL.kFld (K := K) (pv 0))))
     (pss_cons (ps_if (pt_cmpR (DL.kInSeq (K := K)) (pv 2) (DL.pe_cal h_branch hr (by decide) (by rfl) pass0 (pa_cons (pv 5) (pa_cons (pv 1) pa_nil))) (by rfl))
     (pss_cons (ps_raise rfl (takes_of rfl rfl rfl rfl) (pmk_oex e_BadPlace.o e_BadPlace.i e_BadPlace.t h_init (hr.mono (by decide)) b_init .nil pass0 (by rfl) g_BadPlace (pa_cons (pv 2) pa_nil)))
     pss_nil)
     pss_nil)
     (pss_cons (ps_set (i := 6) sc_Page_move.nd rfl (by first | exact Or.inl rfl | exact Or.inr rfl) (pe_disp (pps_cons (pe_ix (DL.kIxT (K := K)) (pv 4) (C8.pe_gc (v := .int 0) (by rfl) (DL.gci c_PARENT)) (fun _ _ => rfl)) (DL.pe_cal h_without_child hr (by decide) (by rfl) pass0 (pa_cons (pe_dget (DL.u1 hr.units) (pv 5) (pe_ix (DL.kIxT (K := K)) (pv 4) (C8.pe_gc (v := .int 0) (by rfl) (DL.gci c_PARENT)) (fun _ _ => rfl)) (fun _ _ => rfl)) (pa_cons (pv 1) pa_nil))) pps_nil) (by rfl) (by rfl) (by simp) (by decide)))
     (pss_cons (ps_set (i := 7) sc_Page_move.nd rfl (by first | exact Or.inl rfl | exact Or.inr rfl) (pe_dget2 (DL.u1 hr.units) (pv 6) (pv 2) (pe_dget (DL.u1 hr.units) (pv 5) (pv 2) (fun _ _ => rfl)) ⟨rfl, rfl, rfl, rfl⟩))
     (pss_cons (ps_expr (DL.pe_calX h_check_index hr (by decide) (by rfl) (takes_of rfl rfl rfl rfl) (pa_cons (pv 3) (pa_cons (pe_callB (DL.kLen (K := K)) (by rfl) z_len (by decide +kernel) (pa_cons (pe_ix (DL.kIxT (K := K)) (pv 7) (C8.pe_gc (v := .int 6) (by rfl) (DL.gci c_CHILDREN)) (fun _ _ => rfl)) pa_nil)) pa_nil))))
     (pss_cons (ps_expr (DL.pe_calX h__check_depth hr (by decide) (by rfl) (takes_of rfl rfl rfl rfl) (pa_cons (pe_op op_add (DL.pe_cal h_depth_of hr (by decide) (by rfl) pass0 (pa_cons (pv 5) (pa_cons (pv 2) pa_nil))) (DL.pe_cal h_height_of hr (by decide) (by rfl) pass0 (pa_cons (pv 5) (pa_cons (pv 1) pa_nil)))) pa_nil)))
     (pss_cons (ps_dput (DL.u1 hr.units) (pv 6) (pv 2) (DL.pe_cal h_with_child hr (by decide) (by rfl) pass0 (pa_cons (pv 7) (pa_cons (pv 3) (pa_cons (pv 1) pa_nil)))) rfl)
     (pss_cons (ps_dput (DL.u1 hr.units) (pv 6) (pv 1) (DL.pe_cal h_replaced hr (by decide) (by rfl) pass0 (pa_cons (pv 4) (pa_cons (C8.pe_gc (v := .int 0) (by rfl) (DL.gci c_PARENT)) (pa_cons (pv 2) pa_nil)))) rfl)
     (pss_cons (ps_expr (DL.pe_metP h_Page__write hr (by decide) pass0 (pv 0) (pa_cons (DL.pe_frz (pv 6)) (pa_cons (pv 1) pa_nil))))
     pss_nil))))))))))))), ?_⟩)
  refine DL.run_spWX h (Nat.le_trans (Nat.le_of_eq ((DL.spWX_len R_Page_move_len (B_Page_move_len C_BadPlace C_TooDeep C_TooMany)) _ _ _ _ h)) (by decide)) (fun N ad x ds hsh hR hq => ?gA) (fun N ad x ds CE ev hsh hB hq => ?gB)
  case gA =>
    obtain ⟨x', s0, n, q, i, r, ro, rq, rfl, ok, hdn, M, hg0, rfl, rfl⟩ := hR
    simp only [envG, List.map, List.length, List.replicate, List.cons_append, List.nil_append, Nat.reduceAdd, Nat.reduceSub, Nat.sub_self]
    obtain ⟨hch, htr⟩ := mv_ok ok hdn M n
    obtain ⟨dep, W⟩ := ok.wf
    have hgn := (tr_get ok.rows).mp M.row
    have hgo := (tr_get ok.rows).mp M.orow
    have hgq := (tr_get ok.rows).mp M.qrow
    have hln := tr_nl ok.rows M.row
    have hlo : noList (wo ro n).d = true := noList_kids (tr_nl ok.rows M.orow)
    have hkl : ∀ y ry, x.t y = some ry → ry.kids.length ≤ 300 := fun y ry hy => by
      have h1 := sub_le W hy
      have h2 : ry.kids.length ≤ (sub x.t y).length := List.Nodup.length_le_of_subset (W.nd _ _ hy) fun c hc => (mem_sub W hy).mpr (Or.inr ⟨c, hc, by obtain ⟨rc, e, _⟩ := W.kid _ _ c hy hc; exact sub_self W e⟩)
      have h3 := ok.n300
      omega
    have hks : ∀ y ry, tr x.hs.cells y = some ry → ry.kids.length ≤ 5000 := fun y ry hy => Nat.le_trans (hkl y ry hy) (by decide)
    have ho3 := hkl _ _ M.orow
    have hw3 : (wo ro n).kids.length ≤ 300 := Nat.le_trans (List.length_filter_le ..) ho3
    have ht3 : (tgR r.par q ro rq n).kids.length ≤ 300 := by
      unfold tgR
      split
      · exact hw3
      · exact hkl _ _ M.qrow
    have hself : ∀ e : Sy, e[0]? = some (some (.r 0)) → EvX true (cnS K H N ad 5) e (shapeP C_Page C_History x) (tVar 0) (pgD C_Page C_History x) := fun e he => ex_dat (er_var he (by simp [shapeP])) (pg_datS _ _ x)
    show Go (cnS K H N ad 5) _ (shapeP C_Page C_History x) _ _
    refine gs_asg (d := r.d) (EvX.strong hln (ex_methD (hself _ rfl) rfl (ea_cons (ex_var rfl) ea_nil) (R_Page__row_i hgn))) ?_
    walk_at "nf"
    refine gs_drop (w := true) (d := rq.d) (ex_methD (hself _ rfl) rfl (ea_cons (ex_var rfl) ea_nil) (R_Page__row_i hgq)) ?_
    refine gs_drop (w := true) (d := .none) (ex_call (ea_cons (ex_var rfl) ea_nil) (R__refuse_root_i M.n1)) ?_
    refine gs_drop (w := true) (d := rq.d) (ex_methD (hself _ rfl) rfl (ea_cons (ex_var rfl) ea_nil) (R_Page__box_i hgq M.qbox)) ?_
    refine gs_asgR (k := 2) (by walk_at "o") ?_
    walk_at "nf"
    have hdat : ∀ {c : Cn} {e : Sy} (os : List SO), c.K = K → e[5]? = some (some (.r 2)) → EvX true c e (shapeP C_Page C_History x ++ os) (tVar 5) (dK0 x.hs.cells) := fun os hK he => ex_dat (er_var he (by simp [shapeP])) (DatO.dK (kvs := x.hs.cells.map fun p => (p.1, SV.i p.2)) rfl (DatK.i _))
    refine gs_if (b := false) (EvT.is (et_test (ex_inI (ns := sub x.t n) (ex_var rfl) (EvF.it (ef_callW (ea_cons (hdat [] rfl rfl) (ea_cons (ex_var rfl) ea_nil)) (R_branch_i ok.rows W ok.n300 M.row) (noLists_int _))))) (decide_eq_false M.out)) (fun z => nomatch z) fun _ => g_nextU ?_
    refine gs_asgF (o := dkO [((.inl r.par : Key), (wo ro n).d)]) (ef_disp (kvs := [((.inl r.par : Key), (wo ro n).d)]) (ep_cons (kk := .inl r.par) (ex_ixT (ds := r.l) (ex_var rfl) ex_int (atI_nat (j := 0) rfl)) (ex_call (ea_cons (ex_dgetD (ek := fun k : Key => k) (ev := fun d : PyData => d) (a := .inl r.par) (b := ro.d) (fun _ _ e => e) (hdat [] rfl rfl) (ex_ixT (ds := r.l) (ex_var rfl) ex_int (atI_nat (j := 0) rfl)) hgo) (ea_cons (ex_var rfl) ea_nil)) (R_without_child_i (by omega))) hlo ep_nil) (by simp) (Nat.le_of_ble_eq_true rfl)) ?_
    walk_at "nf"
    have hcd : ∀ {c : Cn} {e : Sy} (os : List SO), c.K = K → e[5]? = some (some (.r 2)) → e[2]? = some (some (.i (.int q))) → EvX true c e (shapeP C_Page C_History x ++ os) (tDGet (tVar 5) (tVar 2)) rq.d := fun {c e} os hK h5 h2 => ex_dgetD (ek := fun k : Key => k) (ev := fun d : PyData => d) (a := .inl q) (b := rq.d) (fun _ _ e => e) (hdat os hK h5) (ex_var h2) hgq
    refine gs_asg (d := (tgR r.par q ro rq n).d) (ex_dget2 (k := 5) (kk := .inl q) (er_var rfl (by simp [shapeP])) rfl (ex_var rfl) (EvX.strong (tr_nl ok.rows M.qrow) (hcd _ rfl rfl rfl)) ?g1) ?_
    case g1 =>
      rw [getA_dkO, getA_cons]
      unfold tgR
      by_cases e : q = r.par
      · rw [if_pos e, if_pos (by rw [e])]; rfl
      · rw [if_neg e, if_neg (fun z => e (by injection z with z; exact z.symm))]; rfl
    walk_at "nf"
    have hix := M.ix
    have hci := R_check_index_i (C := C_BadPlace) (v := (i : Int)) (hi := ((tgR r.par q ro rq n).kids.length : Int)) (by omega) (by omega)
    rw [if_pos (by omega)] at hci
    refine gs_drop (w := true) (d := .none) (DL.ex_callXS (ea_cons (ex_var rfl) (ea_cons (EvX.is (ex_lenTK (ex_ixT (ds := (tgR r.par q ro rq n).l) (ex_var rfl) ex_int (atI_nat (j := 6) rfl))) (by rw [List.length_map])) ea_nil)) hci) ?_
    have hdeep := M.deep
    have hcd := R__check_depth_i (C := C_TooDeep) (v := (depth x.t q : Int) + hgT x.t n) (by omega) (by omega)
    rw [if_pos (by omega)] at hcd
    refine gs_drop (w := true) (d := .none) (DL.ex_callXS (ea_cons (ex_i2 (ex_call (ea_cons (hdat _ rfl rfl) (ea_cons (ex_var rfl) ea_nil)) (R_depth_of_i ok.rows W M.qrow)) (ex_call (ea_cons (hdat _ rfl rfl) (ea_cons (ex_var rfl) ea_nil)) ⟨x.hs.cells, x.last, dep, n, r, ok.rows, W, M.row, by have := W.dep30 n r M.row; omega, hks, rfl, rfl⟩)) ea_nil) hcd) ?_
    refine gs_dput (k := 5) (kk := .inl q) (s := .i (inR (tgR r.par q ro rq n) i n).d) (show EvX false _ _ _ _ _ from ex_call (ea_cons (ex_var rfl) (ea_cons (ex_var rfl) (ea_cons (ex_var rfl) ea_nil))) (R_with_child_i (by omega))) (er_var rfl (by simp [shapeP])) rfl (ex_var rfl) (by simp) ?_
    refine gs_is (os' := shapeP C_Page C_History x ++ [dkO (setA [((.inl r.par : Key), (wo ro n).d)] (.inl q) (inR (tgR r.par q ro rq n) i n).d)]) rfl (by rw [setA_dkO]; rfl) ?_
    refine gs_dput (k := 5) (kk := .inl n) (s := .i ({ r with par := q } : Rw).d) (show EvX false _ _ _ _ _ from EvX.is (ex_call (ea_cons (ex_var rfl) (ea_cons ex_int (ea_cons (ex_var rfl) ea_nil))) (R_replaced_i (r := r.l) (i := 0) (v := .int q) (Nat.le_of_ble_eq_true rfl))) rfl) (er_var rfl (by simp [shapeP])) rfl (ex_var rfl) ?g2 ?_
    case g2 =>
      have h2 := DL.setA_len [((.inl r.par : Key), (wo ro n).d)] (.inl q) (inR (tgR r.par q ro rq n) i n).d
      rw [List.length_map]
      have h3 : [((.inl r.par : Key), (wo ro n).d)].length = 1 := rfl
      omega
    refine gs_is (os' := shapeP C_Page C_History x ++ [dkO (mvC n r q ro rq i)]) rfl (by unfold mvC; rw [setA_dkO]; rfl) ?_
    refine gs_doN (en_methN (k := 0) (ds := [.z (mvC n r q ro rq i), .i (.int n)]) (x := x) (segAt_post [.x] (shapeP_ok C_Page C_History)) (er_var rfl (by simp [shapeP])) rfl rfl (by decide) (by intro s hs; simp at hs; rcases hs with rfl | rfl <;> exact True.intro) (easn_frz (k := 5) rfl rfl (eas_cons (show EvX false _ _ _ _ _ from ex_var rfl) eas_nil)) ⟨_, _, mvC n r q ro rq i, n, rfl, hch.wr.x, by rw [wroteX_eq hch.nn]; exact hch.fol, rfl, rfl⟩) ?_
    rintro _ _ ⟨_, ⟨c2, _, e1, _, _, rfl, rfl⟩, rfl⟩
    cases e1
    rw [wroteX_eq hch.nn]
    exact g_endW (y := chP x (mvC n r q ro rq i) n) hq (fun j o e => (List.getElem?_append_left (List.getElem?_eq_some_iff.mp e).1).trans e) (shapeP_ok _ _ _) (Nat.le_refl _) ⟨n, q, i, r, ro, rq, rfl, ok, hdn, M, hg0, rfl, rfl⟩
  case gB =>
    have hB0 := hB
    obtain ⟨n, q, i, r, ro, rq, rfl, k, M, hi3, her, rfl⟩ := hB
    have ok := M.ok
    simp only [envG, List.map, List.length, List.replicate, List.cons_append, List.nil_append, Nat.reduceAdd, Nat.reduceSub, Nat.sub_self]
    obtain ⟨dep, W⟩ := ok.wf
    have hgn := (tr_get ok.rows).mp M.row
    have hgo := (tr_get ok.rows).mp M.orow
    have hgq := (tr_get ok.rows).mp M.qrow
    have hln := tr_nl ok.rows M.row
    have hlo : noList (wo ro n).d = true := noList_kids (tr_nl ok.rows M.orow)
    have hkl : ∀ y ry, x.t y = some ry → ry.kids.length ≤ 300 := fun y ry hy => by
      have h1 := sub_le W hy
      have h2 : ry.kids.length ≤ (sub x.t y).length := List.Nodup.length_le_of_subset (W.nd _ _ hy) fun c hc => (mem_sub W hy).mpr (Or.inr ⟨c, hc, by obtain ⟨rc, e, _⟩ := W.kid _ _ c hy hc; exact sub_self W e⟩)
      have h3 := ok.n300
      omega
    have hks : ∀ y ry, tr x.hs.cells y = some ry → ry.kids.length ≤ 5000 := fun y ry hy => Nat.le_trans (hkl y ry hy) (by decide)
    have ho3 := hkl _ _ M.orow
    have hw3 : (wo ro n).kids.length ≤ 300 := Nat.le_trans (List.length_filter_le ..) ho3
    have ht3 : (tgR r.par q ro rq n).kids.length ≤ 300 := by
      unfold tgR
      split
      · exact hw3
      · exact hkl _ _ M.qrow
    have hself : ∀ e : Sy, e[0]? = some (some (.r 0)) → EvX true (cnS K H N ad 5) e (shapeP C_Page C_History x) (tVar 0) (pgD C_Page C_History x) := fun e he => ex_dat (er_var he (by simp [shapeP])) (pg_datS _ _ x)
    show Go (cnS K H N ad 5) _ (shapeP C_Page C_History x) _ _
    refine gs_asg (d := r.d) (EvX.strong hln (ex_methD (hself _ rfl) rfl (ea_cons (ex_var rfl) ea_nil) (R_Page__row_i hgn))) ?_
    walk_at "nf"
    refine gs_drop (w := true) (d := rq.d) (ex_methD (hself _ rfl) rfl (ea_cons (ex_var rfl) ea_nil) (R_Page__row_i hgq)) ?_
    refine gs_drop (w := true) (d := .none) (ex_call (ea_cons (ex_var rfl) ea_nil) (R__refuse_root_i M.n1)) ?_
    refine gs_drop (w := true) (d := rq.d) (ex_methD (hself _ rfl) rfl (ea_cons (ex_var rfl) ea_nil) (R_Page__box_i hgq M.qbox)) ?_
    refine gs_asgR (k := 2) (by walk_at "o") ?_
    walk_at "nf"
    have hdat : ∀ {c : Cn} {e : Sy} (os : List SO), c.K = K → e[5]? = some (some (.r 2)) → EvX true c e (shapeP C_Page C_History x ++ os) (tVar 5) (dK0 x.hs.cells) := fun os hK he => ex_dat (er_var he (by simp [shapeP])) (DatO.dK (kvs := x.hs.cells.map fun p => (p.1, SV.i p.2)) rfl (DatK.i _))
    refine gs_if (b := false) (EvT.is (et_test (ex_inI (ns := sub x.t n) (ex_var rfl) (EvF.it (ef_callW (ea_cons (hdat [] rfl rfl) (ea_cons (ex_var rfl) ea_nil)) (R_branch_i ok.rows W ok.n300 M.row) (noLists_int _))))) (decide_eq_false M.out)) (fun z => nomatch z) fun _ => g_nextU ?_
    refine gs_asgF (o := dkO [((.inl r.par : Key), (wo ro n).d)]) (ef_disp (kvs := [((.inl r.par : Key), (wo ro n).d)]) (ep_cons (kk := .inl r.par) (ex_ixT (ds := r.l) (ex_var rfl) ex_int (atI_nat (j := 0) rfl)) (ex_call (ea_cons (ex_dgetD (ek := fun k : Key => k) (ev := fun d : PyData => d) (a := .inl r.par) (b := ro.d) (fun _ _ e => e) (hdat [] rfl rfl) (ex_ixT (ds := r.l) (ex_var rfl) ex_int (atI_nat (j := 0) rfl)) hgo) (ea_cons (ex_var rfl) ea_nil)) (R_without_child_i (by omega))) hlo ep_nil) (by simp) (Nat.le_of_ble_eq_true rfl)) ?_
    walk_at "nf"
    have hcd : ∀ {c : Cn} {e : Sy} (os : List SO), c.K = K → e[5]? = some (some (.r 2)) → e[2]? = some (some (.i (.int q))) → EvX true c e (shapeP C_Page C_History x ++ os) (tDGet (tVar 5) (tVar 2)) rq.d := fun {c e} os hK h5 h2 => ex_dgetD (ek := fun k : Key => k) (ev := fun d : PyData => d) (a := .inl q) (b := rq.d) (fun _ _ e => e) (hdat os hK h5) (ex_var h2) hgq
    refine gs_asg (d := (tgR r.par q ro rq n).d) (ex_dget2 (k := 5) (kk := .inl q) (er_var rfl (by simp [shapeP])) rfl (ex_var rfl) (EvX.strong (tr_nl ok.rows M.qrow) (hcd _ rfl rfl rfl)) ?g1) ?_
    case g1 =>
      rw [getA_dkO, getA_cons]
      unfold tgR
      by_cases e : q = r.par
      · rw [if_pos e, if_pos (by rw [e])]; rfl
      · rw [if_neg e, if_neg (fun z => e (by injection z with z; exact z.symm))]; rfl
    walk_at "nf"
    have hci := R_check_index_i (C := C_BadPlace) (v := (i : Int)) (hi := ((tgR r.par q ro rq n).kids.length : Int)) (by omega) (by omega)
    have hg1 := M.hg
    have hd30 := W.dep30 _ _ M.qrow
    have hdp := depth_eq W M.qrow
    have hap : ∀ (os : List SO) (j : Nat) (o : SO), (shapeP C_Page C_History x)[j]? = some o → (shapeP C_Page C_History x ++ os)[j]? = some o := fun os j o e => (List.getElem?_append_left (List.getElem?_eq_some_iff.mp e).1).trans e
    unfold mvEr at her
    by_cases c1 : (tgR r.par q ro rq n).kids.length < i
    · rw [if_pos c1] at her
      cases her
      rw [if_neg (by omega)] at hci
      exact DL.xsw_drop (DL.xew_of (DL.xr_call (ea_cons (ex_var rfl) (ea_cons (EvX.is (ex_lenTK (ex_ixT (ds := (tgR r.par q ro rq n).l) (ex_var rfl) ex_int (atI_nat (j := 6) rfl))) (by rw [List.length_map])) ea_nil)) hci)) hq (hap _) (shapeP_ok _ _ _) hB0
    rw [if_neg c1] at her
    rw [if_pos (by omega)] at hci
    refine gs_drop (w := true) (d := .none) (DL.ex_callXS (ea_cons (ex_var rfl) (ea_cons (EvX.is (ex_lenTK (ex_ixT (ds := (tgR r.par q ro rq n).l) (ex_var rfl) ex_int (atI_nat (j := 6) rfl))) (by rw [List.length_map])) ea_nil)) hci) ?_
    have hcd := R__check_depth_i (C := C_TooDeep) (v := (depth x.t q : Int) + hgT x.t n) (by omega) (by omega)
    by_cases c2 : ¬ 30 < (depth x.t q : Int) + hgT x.t n
    · rw [if_neg c2] at her; cases her
    have c2 := Decidable.not_not.mp c2
    rw [if_pos c2] at her
    cases her
    rw [if_neg (by omega)] at hcd
    exact DL.xsw_drop (DL.xew_of (DL.xr_call (ea_cons (ex_i2 (ex_call (ea_cons (hdat _ rfl rfl) (ea_cons (ex_var rfl) ea_nil)) (R_depth_of_i ok.rows W M.qrow)) (ex_call (ea_cons (hdat _ rfl rfl) (ea_cons (ex_var rfl) ea_nil)) ⟨x.hs.cells, x.last, dep, n, r, ok.rows, W, M.row, by have := W.dep30 n r M.row; omega, hks, rfl, rfl⟩)) ea_nil) hcd)) hq (hap _) (shapeP_ok _ _ _) hB0
-- END Page_move
theorem sc_Page_snapshot : FnScope ["self", "cells", "rows", "node"] ["self"] (defScope s_Page_snapshot) := ⟨rfl, rfl, rfl, by decide +kernel, rfl, by decide +kernel, by decide +kernel⟩
def rowF (n : Int) (r : Rw) : PyData := .tuple [.int n, .int r.par, .str (kdS r.box), r.con, r.marks, r.own, r.scr]
def snF (t : Tree) (n : Int) : PyData := match t n with
  | some r => rowF n r
  | none => .none
theorem dn_row {K : PySem.W.Frag} {N : Addr → Prop} {H : Hp} {v : V} {n : Int} {r : Rw} (h : RwS r) (d : Dn K N H v (rowF n r)) : Dn K N H v (rowS n r) := by
  obtain ⟨ds, e, _⟩ := h.own
  unfold rowF at d
  obtain ⟨a, xs, rfl, hs, ha⟩ := dn_tup_ref d
  refine .tup hs ?_
  rw [e] at ha ⊢
  cases ha with
  | cons a1 ha =>
  cases ha with
  | cons a2 ha =>
  cases ha with
  | cons a3 ha =>
  cases ha with
  | cons a4 ha =>
  cases ha with
  | cons a5 ha =>
  cases ha with
  | cons a6 ha => exact .cons a1 (.cons a2 (.cons a3 (.cons a4 (.cons a5 (.cons (DL.fT_tup a6) ha)))))
theorem dn_snap {K : PySem.W.Frag} {N : Addr → Prop} {H : Hp} {v : V} {p : Pg} (h : PgS p) (d : Dn K N H v (.tuple [.int p.w, .int p.h, .tuple [], .tuple ((sub p.t 1).map (snF p.t))])) : Dn K N H v (snapD p) := by
  obtain ⟨a, xs, rfl, hs, ha⟩ := dn_tup_ref d
  refine .tup hs ?_
  cases ha with
  | cons a1 ha =>
  cases ha with
  | cons a2 ha =>
  cases ha with
  | cons a3 ha =>
  cases ha with
  | cons a4 ha =>
    refine .cons a1 (.cons a2 (.cons a3 (.cons ?_ ha)))
    obtain ⟨b, ys, rfl, hs2, hb⟩ := dn_tup_ref a4
    refine .tup hs2 (DL.dnAll_to (fun x _ v hv => ?_) hb)
    unfold snF at hv
    unfold snR
    cases q : p.t x with
    | none => rw [q] at hv; exact hv
    | some r => rw [q] at hv; exact dn_row (h.rw_ x r q) hv
def R_Page_snapshot : Addr → Addr → List PyData → PyData → Prop := fun CP CH ds d => ∃ (p : Pg), PgS p ∧ ds = [pgD CP CH p] ∧ d = snapD p
theorem R_Page_snapshot_i {CP CH : Addr} {p : Pg} (h : PgS p) : R_Page_snapshot CP CH [pgD CP CH p] (snapD p) := ⟨p, h, rfl, rfl⟩
local macro_rules | `(tactic| walk_at "r2") => `(tactic| exact R_Page_snapshot_i (by assumption))
theorem R_Page_snapshot_len : ∀ (C_Page C_History : Addr) ds d, R_Page_snapshot C_Page C_History ds d → ds.length = 1 := by
  intro C_Page C_History ds d hh
  unfold R_Page_snapshot at hh
  repeat (obtain ⟨_, hh⟩ := hh)
  subst_eqs
  rfl
theorem ok_Page_snapshot {P : Program} {w : World} {K : PySem.W.Frag} {mg : Str → Option Value} {base : Heap} {f : Addr} {fd : FuncData} (F : DL.FnM K "snapshot" "Page.snapshot" s_Page_snapshot [] f fd) {C_History : Addr} (kC_History : Cls K C_History) (n_History_cells : NoAttr K C_History "cells") (n_History__done : NoAttr K C_History "_done") (n_History__undone : NoAttr K C_History "_undone") {C_Page : Addr} (kC_Page : Cls K C_Page) (n_Page_width : NoAttr K C_Page "width") (n_Page_height : NoAttr K C_Page "height") (n_Page__last_id : NoAttr K C_Page "_last_id") (n_Page__moment : NoAttr K C_Page "_moment") (n_Page__marked : NoAttr K C_Page "_marked") (n_Page__history : NoAttr K C_Page "_history") (h_Page_nodes : DL.MetP P w K mg base 2 C_Page "nodes" ["self"] (spF K  (R_Page_nodes C_Page C_History))) (z_tuple : mg "tuple" = none) (c_CHILDREN : ∃ t, mg "CHILDREN" = some (.int 6 t)) (c_RULES : ∃ t, mg "RULES" = some (.str "rules" t)) (me : Meth K C_Page "snapshot" f) : DL.MetP P w K mg base 3 C_Page "snapshot" ["self"] (spD K  (R_Page_snapshot C_Page C_History)) := by
  refine DL.met_mk F sc_Page_snapshot kC_Page me (spD_len (R_Page_snapshot_len C_Page C_History)) (fun _ _ _ _ _ _ us hl => match us, hl with | [_], _ => rfl) (fun cdv A outer s H vs Q E hr h => ⟨_,
    (pss_cons (ps_set (i := 1) sc_Page_snapshot.nd rfl (by first | exact Or.inl rfl | exact Or.inr rfl) (DL.kFld (K := K) (DL.kFld (K := K) (pv 0))))
     (pss_cons (ps_setLc (i := 2) (own := [("node", 3)]) (by rfl) sc_Page_snapshot.nd rfl rfl (sw_true rfl rfl rfl (by decide +kernel)) (DL.kPiL (K := K) (DL.pe_metP0 h_Page_nodes hr (by decide) pass0 (pv 0))) (blkOk_by (own := [("node", 3)]) (N := ["self", "cells", "rows", "node"]) (sc := defScope s_Page_snapshot) (by decide +kernel)) (fun _ _ _ _ _ => (pg_name (i := 3) sc_Page_snapshot.nd rfl (by first | exact Or.inl rfl | exact Or.inr rfl))) (fun _ _ _ _ _ => pts_nil) (fun _ _ _ _ _ => (pe_op (DL.kCatA (K := K)) (pe_tup (pa_cons (pv 3) pa_nil)) (pe_slice (DL.kSlA (K := K)) (pe_dget (DL.u1 hr.units) (pv 1) (pv 3) (fun _ _ => rfl)) po_none (po_some (C8.pe_gc (v := .int 6) (by rfl) (DL.gci c_CHILDREN)))))))
     (pss_cons (ps_ret (pe_tup (pa_cons (DL.kFld (K := K) (pv 0)) (pa_cons (DL.kFld (K := K) (pv 0)) (pa_cons (pe_dget (DL.u1 hr.units) (pv 1) (C8.pe_gc (v := .str "rules") (by rfl) (DL.gcs c_RULES)) (fun _ _ => rfl)) (pa_cons (pe_callTy (DL.kTupleOf (K := K)) (by rfl) z_tuple (by decide +kernel) (pa_cons (pv 2) pa_nil)) pa_nil))))))
     pss_nil))), ?_⟩)
  refine run_spD h fun N ds d hR hq => ?_
  obtain ⟨p, hS, rfl, rfl⟩ := hR
  have hok := hS.ok
  have hru := hS.ru
  obtain ⟨dep, W⟩ := hok.wf
  obtain ⟨r1, g1, _⟩ := W.root
  have h300 := hok.n300
  walk_at "env"
  refine gs_asg (d := dK0 p.hs.cells) (by walk_at "v") ?_
  walk_at "nf"
  refine gs_asgF (o := .lst (((sub p.t 1).map (snF p.t)).map SV.i)) (EvF.is (ef_lc (xs := sub p.t 1) (e := fun k => .i (.int k)) (fun _ => true) (snF p.t) (ew_list (ds := (sub p.t 1).map PyData.int) (EvF.ev (ef_methDW (ex_var rfl) rfl ea_nil (R_Page_nodes_i hok) (noLists_int _)))) (by simp) (fun i k hk => itD_map i k hk) (fun _ => True.intro) (by omega) (fun fr lo up acc x hx => ⟨_, _, ?a1, tg_name, et_yes, fun _ => ?a2⟩)) ?a3) ?_
  case a1 => intro j hj; simpa using hj
  case a2 =>
    obtain ⟨r, hr, _⟩ := sub_some W g1 hx
    have hg := (tr_get hok.rows).mp hr
    have hnl := tr_nl hok.rows hr
    have e : snF p.t x = rowF x r := by unfold snF; rw [hr]
    rw [e]
    have hnl2 : noList (PyData.tuple ([.int x] ++ [.int r.par, .str (kdS r.box), r.con, r.marks, r.own, r.scr])) = true := by
      simp only [Rw.d, Rw.l, noList, noLists, Bool.and_eq_true, Bool.and_true, Bool.true_and] at hnl
      simp only [List.cons_append, List.nil_append, noList, noLists, Bool.and_true, Bool.true_and, Bool.and_eq_true]
      exact ⟨hnl.1, hnl.2.1, hnl.2.2.1, hnl.2.2.2.1⟩
    refine EvX.strong hnl2 (ex_catA (ds := [.int x]) (es := [.int r.par, .str (kdS r.box), r.con, r.marks, r.own, r.scr]) (ex_tup (ea_cons (ex_var rfl) ea_nil) (Nat.le_of_ble_eq_true rfl)) (EvX.is (ex_slA (ds := r.l) (lo := none) (hi := some 6) (ex_dgetD (ek := fun k : Key => k) (ev := fun d : PyData => d) (a := .inl x) (b := r.d) (fun _ _ e => e) (ex_var rfl) (ex_var rfl) hg) eo_none (eo_some ex_int)) ?b1) (Nat.le_of_ble_eq_true rfl))
    case b1 => rw [show (6 : Int) = ((6 : Nat) : Int) from rfl, cutG_to]; rfl
  case a3 => rw [List.filter_eq_self.mpr (fun _ _ => rfl), List.map_map]
  walk_at "nf"
  refine gs_ret (EvX.to (ex_tup (ds := [.int p.w, .int p.h, .tuple [], .tuple ((sub p.t 1).map (snF p.t))]) (ea_cons (by walk_at "v") (ea_cons (by walk_at "v") (ea_cons (ex_dgetD (ek := fun k : Key => k) (ev := fun d : PyData => d) (a := .inr "rules") (b := .tuple []) (fun _ _ e => e) (ex_var rfl) ex_str hru) (ea_cons (ex_tupleOf (ds := (sub p.t 1).map (snF p.t)) rfl (EvR.it (er_var rfl (by simp)) rfl)) ea_nil)))) (Nat.le_of_ble_eq_true rfl)) fun N H v h => dn_snap hS h) hq
-- END Page_snapshot
theorem sc__law_next : FnScope ["state", "many", "cell", "drawn"] ["state", "many"] (defScope s__law_next) := ⟨rfl, rfl, rfl, by decide +kernel, rfl, by decide +kernel, by decide +kernel⟩
def R__law_next : List PyData → PyData → Prop := fun ds d => ∃ many n : Int, 0 < many ∧ many < 1073741824 ∧ 0 ≤ n ∧ n < many ∧ ds = [.int many] ∧ d = .int n
theorem R__law_next_i {many : Int} (h1 : 0 < many) (h2 : many < 1073741824) : ∃ d, R__law_next [.int many] d := ⟨.int 0, many, 0, h1, h2, Int.le_refl _, h1, rfl, rfl⟩
local macro_rules | `(tactic| walk_at "r2") => `(tactic| exact R__law_next_i (by omega) (by omega))
theorem R__law_next_len : ∀ ds d, R__law_next ds d → ds.length = 1 := by
  intro ds d hh
  unfold R__law_next at hh
  repeat (obtain ⟨_, hh⟩ := hh)
  subst_eqs
  rfl
theorem ok__law_next {P : Program} {w : World} {K : PySem.W.Frag} {mg : Str → Option Value} {base : Heap} {f : Addr} {fd : FuncData} (F : FnP K "_law_next" s__law_next f fd) (g0 : mg "_law_next" = some (.ref f)) (z_len : mg "len" = none) (z_int : mg "int" = none) : Cal P w K mg base 1 "_law_next" ["state", "many"] (DL.spM K  R__law_next) := by
  refine cal_mk F sc__law_next g0 (DL.spM_len R__law_next_len) (fun _ _ _ _ _ _ us hl => match us, hl with | [_, _], _ => rfl) (fun cdv A outer s H vs Q E hr h => ⟨_,
    (pss_cons (ps_if (pt_cmpR op_lt (pe_ix (DL.kIxL (K := K)) (pv 0) pe_int (fun _ _ => rfl)) (pv 1) (nomark _))
     (pss_cons (ps_if (pt_cmpR op_gt (pe_callB (DL.kLen (K := K)) (by rfl) z_len (by decide +kernel) (pa_cons (pe_ix (DL.kIxL (K := K)) (pv 0) pe_int (fun _ _ => rfl)) pa_nil)) pe_int (nomark _))
     (pss_cons (ps_set (i := 2) sc__law_next.nd rfl (by first | exact Or.inl rfl | exact Or.inr rfl) (DL.kBm (K := K) (pe_bm PySem.F.plainAttrs_list PySem.F.slot_list_pop PySem.F.type_list_pop mt_popAt (pe_ix (DL.kIxL (K := K)) (pv 0) pe_int (fun _ _ => rfl)) (pa_cons pe_int pa_nil))))
     (pss_cons (ps_asg (pe_ifExp (pt_cmpR op_ge (pv 2) pe_int (nomark _)) (pe_op op_mul pe_int (pv 2)) (pe_op op_sub (pe_op op_mul (pe_un un_neg pe_int) (pv 2)) pe_int)) (pg_sub (pv 0) pe_int set_list))
     (pss_cons (ps_asg (pe_op op_mod (pe_callTy call_int1 (by rfl) z_int (by decide +kernel) (pa_cons (pe_op op_add (pe_op op_mul (pe_ix (DL.kIxL (K := K)) (pv 0) pe_int (fun _ _ => rfl)) pe_int) (pe_ix (DL.kIxL (K := K)) (pv 0) pe_int (fun _ _ => rfl))) pa_nil)) pe_int) (pg_sub (pv 0) pe_int set_list))
     pss_nil)))
     (pss_cons (ps_asg (pe_op op_mod (pe_callTy call_int1 (by rfl) z_int (by decide +kernel) (pa_cons (pe_op op_add (pe_op op_mul (pe_ix (DL.kIxL (K := K)) (pv 0) pe_int (fun _ _ => rfl)) pe_int) pe_int) pa_nil)) pe_int) (pg_sub (pv 0) pe_int set_list))
     (pss_cons (ps_asg (pe_op op_mod (pe_callTy call_int1 (by rfl) z_int (by decide +kernel) (pa_cons (pe_op op_mul (pe_ix (DL.kIxL (K := K)) (pv 0) pe_int (fun _ _ => rfl)) (pe_ix (DL.kIxL (K := K)) (pv 0) pe_int (fun _ _ => rfl))) pa_nil)) pe_int) (pg_sub (pv 0) pe_int set_list))
     pss_nil)))
     pss_nil)
     pss_nil)
     (pss_cons (ps_set (i := 3) sc__law_next.nd rfl (by first | exact Or.inl rfl | exact Or.inr rfl) (pe_op op_mod (pe_callTy call_int1 (by rfl) z_int (by decide +kernel) (pa_cons (pe_ix (DL.kIxL (K := K)) (pv 0) pe_int (fun _ _ => rfl)) pa_nil)) (pv 1)))
     (pss_cons (ps_asg (pe_op op_fdiv (pe_ix (DL.kIxL (K := K)) (pv 0) pe_int (fun _ _ => rfl)) (pv 1)) (pg_sub (pv 0) pe_int set_list))
     (pss_cons (ps_ret (pv 3))
     pss_nil)))), ?_⟩)
  refine DL.run_spM h (List.cons_ne_nil _ _) fun N s b ds hR hq => ?_
  obtain ⟨d0, many, n0, h1, h2, h3, h4, rfl, rfl⟩ := hR
  simp only [DL.env1]
  walk_at "env"
  refine gs_open01 fun ns a m => ?_
  have tail := fun (u : TS) (hu : Go ⟨K, H, N, fun x => x = s ∨ x = b, [(.ref s, .r 1), (.ref b, .r 0)], 2⟩ [some (.r 1), some (.i (.int many)), none, none] [.nums, .stt 0] u (De Q)) => hu
  refine gs_ifJ [some (.r 1), some (.i (.int many)), none, none] [.nums, .stt 0] (b := decide (a < many)) (et_test (ex_b2 (ex_ixL (EvR.it (er_var rfl (Nat.lt_succ_self 1)) rfl) ex_int rfl) (ex_var rfl))) ?k1 (fun _ hk => ?k2) (fun _ hk => g_nextU (gs_close01 hk))
  case k1 =>
    refine gs_open01 fun ns a m => ?_
    refine gs_asg (d := .int (a % many)) (ex_i2c (ex_int1 rfl (ex_ixL (EvR.it (er_var rfl (Nat.lt_succ_self 1)) rfl) ex_int rfl)) (ex_var rfl) h1) ?_
    walk_at "nf"
    refine gs_setI (s := .i (.int (a / many))) (i := 1) (j := 1) (show EvX false _ _ _ _ _ from ex_i2c (ex_ixL (EvR.it (er_var rfl (Nat.lt_succ_self 1)) rfl) ex_int rfl) (ex_var rfl) ⟨h1, h2⟩) (er_var rfl (Nat.lt_succ_self 1)) rfl ex_int rfl ?_
    walk_at "nf"
    refine gs_close01 ?_
    exact gs_retM (em_x (P := fun d => d = .int (a % many)) (ex_var rfl) rfl) hq rfl rfl (fun d e => ⟨many, a % many, h1, h2, Int.emod_nonneg _ (by omega), Int.emod_lt_of_pos _ h1, rfl, e⟩)
  case k2 =>
    refine gs_if (b := decide (0 < ns.length)) (EvT.is (et_test (ex_b2 (ex_lenK (EvR.it (er_ixO (j := 0) (er_var rfl (Nat.lt_succ_self 1)) rfl ex_int rfl (Nat.succ_pos 1)) rfl)) ex_int)) (by simp)) (fun hb => ?_) (fun _ => ?_)
    · have hb : 0 < ns.length := of_decide_eq_true hb
      cases ns with
      | nil => cases hb
      | cons x ns =>
        refine gs_asgPop0 (d := .int x) (ss := (ns.map PyData.int).map SV.i) (er_ixO (j := 0) (er_var rfl (Nat.lt_succ_self 1)) rfl ex_int rfl (Nat.succ_pos 1)) rfl ex_int ?_
        walk_at "nf"
        refine gs_setI (s := .i (.int (if 0 ≤ x then 2 * x else -2 * x - 1))) (i := 1) (j := 1) (show EvX false _ _ _ _ _ from ex_if (b := decide (x ≥ 0)) (et_test (ex_b2 (ex_var rfl) ex_int)) (fun hx => EvX.is (ex_i2c ex_int (ex_var rfl) (Or.inl ⟨by decide, by decide⟩)) ?e1) (fun hx => EvX.is (ex_i2 (ex_i2c (ex_u ex_int) (ex_var rfl) (Or.inl ⟨by decide, by decide⟩)) ex_int) ?e2)) (er_var rfl (Nat.lt_succ_self 1)) rfl ex_int rfl ?_
        case e1 => rw [if_pos (by simpa using hx)]
        case e2 => rw [if_neg (by simpa using hx)]
        walk_at "nf"
        refine gs_setI (s := .i (.int ((m * 69621 + (if 0 ≤ x then 2 * x else -2 * x - 1)) % 2147483647))) (i := 2) (j := 2) (show EvX false _ _ _ _ _ from ex_i2c (ex_int1 rfl (ex_i2 (ex_i2c (ex_ixL (EvR.it (er_var rfl (Nat.lt_succ_self 1)) rfl) ex_int rfl) ex_int (Or.inr ⟨by decide, by decide⟩)) (ex_ixL (EvR.it (er_var rfl (Nat.lt_succ_self 1)) rfl) ex_int rfl))) ex_int (show (0 : Int) < 2147483647 by decide)) (er_var rfl (Nat.lt_succ_self 1)) rfl ex_int rfl ?_
        walk_at "nf"
        refine g_nextU (g_nextU (gs_weak (env' := [some (.r 1), some (.i (.int many)), none, none]) (os' := [.lst ((ns.map PyData.int).map SV.i), .lst [.r 0, .i (.int (if 0 ≤ x then 2 * x else -2 * x - 1)), .i (.int ((m * 69621 + (if 0 ≤ x then 2 * x else -2 * x - 1)) % 2147483647))]]) (by simp [WkE]) (WkO.refl _) (by simp [EnLt, SvLt]) (by simp [OsLt, SoLt, SvLt]) (Nat.le_refl 2) (gs_close01 hk)))
    · have b1 := Int.emod_nonneg (m * 48271 + 11) (show (2147483647 : Int) ≠ 0 by decide)
      have b2 := Int.emod_lt_of_pos (m * 48271 + 11) (show (0 : Int) < 2147483647 by decide)
      refine gs_setI (s := .i (.int ((m * 48271 + 11) % 2147483647))) (i := 2) (j := 2) (show EvX false _ _ _ _ _ from ex_i2c (ex_int1 rfl (ex_i2 (ex_i2c (ex_ixL (EvR.it (er_var rfl (Nat.lt_succ_self 1)) rfl) ex_int rfl) ex_int (Or.inr ⟨by decide, by decide⟩)) ex_int)) ex_int (show (0 : Int) < 2147483647 by decide)) (er_var rfl (Nat.lt_succ_self 1)) rfl ex_int rfl ?_
      walk_at "nf"
      generalize (m * 48271 + 11) % 2147483647 = z at *
      refine gs_setI (s := .i (.int (z * z % 1000003))) (i := 1) (j := 1) (show EvX false _ _ _ _ _ from ex_i2c (ex_int1 rfl (ex_i2c (ex_ixL (EvR.it (er_var rfl (Nat.lt_succ_self 1)) rfl) ex_int rfl) (ex_ixL (EvR.it (er_var rfl (Nat.lt_succ_self 1)) rfl) ex_int rfl) (Or.inl ⟨by omega, by omega⟩))) ex_int (show (0 : Int) < 1000003 by decide)) (er_var rfl (Nat.lt_succ_self 1)) rfl ex_int rfl ?_
      walk_at "nf"
      exact g_nextU (g_nextU (gs_close01 hk))
-- END _law_next
theorem sc__law_chain : FnScope ["page", "length", "last", "k"] ["page", "length"] (defScope s__law_chain) := ⟨rfl, rfl, rfl, by decide +kernel, rfl, by decide +kernel, by decide +kernel⟩
theorem aW : isW aL := ⟨by decide, by decide, by decide⟩
theorem bW2 : isW bL2 := ⟨by decide, by decide, by decide⟩
theorem cW : isW cL := ⟨by decide, by decide, by decide⟩
theorem zW : isW zL := ⟨by decide, by decide, by decide⟩
theorem box_inj {n n2 : Int} {i i2 : Nat} {l l2 : List Nat} {a a2 : SV} (h : ([.r 0, .i (.int n), .i (.int (i : Int)), .i (dT l), a] : List SV) = [.r 0, .i (.int n2), .i (.int (i2 : Int)), .i (dT l2), a2]) : n2 = n ∧ i2 = i ∧ l2 = l := by
  injection h with _ h
  injection h with h1 h
  injection h with h2 h
  injection h with h3 _
  injection h1 with h1
  injection h1 with h1
  injection h2 with h2
  injection h2 with h2
  injection h3 with h3
  injection h3 with h3
  exact ⟨h1.symm, (Int.ofNat.inj h2).symm, (sT_inj h3).symm⟩
theorem txt_inj {n n2 : Int} {i i2 : Nat} {l l2 : List Nat} (h : ([.r 0, .i (.int n), .i (.int (i : Int)), .i (dT l)] : List SV) = [.r 0, .i (.int n2), .i (.int (i2 : Int)), .i (dT l2)]) : n2 = n ∧ i2 = i ∧ l2 = l := by
  injection h with _ h
  injection h with h1 h
  injection h with h2 h
  injection h with h3 _
  injection h1 with h1
  injection h1 with h1
  injection h2 with h2
  injection h2 with h2
  injection h3 with h3
  injection h3 with h3
  exact ⟨h1.symm, (Int.ofNat.inj h2).symm, (sT_inj h3).symm⟩
def R__law_chain : Pg → List SV → Pg → SV → Prop := fun x ds y s => ∃ m : Nat, m ≤ 29 ∧ x = pgN 1 1 ∧ ds = [.r 0, .i (.int (m : Int))] ∧ y = chPg m ∧ s = .i (.int ((m : Int) + 1))
theorem R__law_chain_len : ∀ x ds x' d, R__law_chain x ds x' d → ds.length = 2 := by
  intro x ds x' d hh
  unfold R__law_chain at hh
  repeat (obtain ⟨_, hh⟩ := hh)
  subst_eqs
  rfl
theorem ok__law_chain {P : Program} {w : World} {K : PySem.W.Frag} {mg : Str → Option Value} {base : Heap} {f : Addr} {fd : FuncData} (F : FnP K "_law_chain" s__law_chain f fd) (g0 : mg "_law_chain" = some (.ref f)) {C_History : Addr} (kC_History : Cls K C_History) (n_History_cells : NoAttr K C_History "cells") (n_History__done : NoAttr K C_History "_done") (n_History__undone : NoAttr K C_History "_undone") {C_Page : Addr} (kC_Page : Cls K C_Page) (n_Page_width : NoAttr K C_Page "width") (n_Page_height : NoAttr K C_Page "height") (n_Page__last_id : NoAttr K C_Page "_last_id") (n_Page__moment : NoAttr K C_Page "_moment") (n_Page__marked : NoAttr K C_Page "_marked") (n_Page__history : NoAttr K C_Page "_history") {f_I : Addr} {C_BadPlace : Addr} (g_BadPlace : mg "BadPlace" = some (.ref C_BadPlace)) (e_BadPlace : DL.ErC K C_BadPlace f_I) {C_TooDeep : Addr} (g_TooDeep : mg "TooDeep" = some (.ref C_TooDeep)) (e_TooDeep : DL.ErC K C_TooDeep f_I) {C_TooMany : Addr} (g_TooMany : mg "TooMany" = some (.ref C_TooMany)) (e_TooMany : DL.ErC K C_TooMany f_I) (ke_Page_insert_box_marks : ∀ N H, Dn K N H (.ref (DL.kwAt ("Page", some "insert_box") "marks" K)) (.tuple [])) (h_Page_insert_box : DL.MetXQ P w K mg base 5 C_Page "insert_box" ["self", "parent", "index", "name", "marks"] (DL.spWX K (shapeP C_Page C_History) (shapeP C_Page C_History) R_Page_insert_box (B_Page_insert_box C_BadPlace C_TooDeep C_TooMany)) [(4, [], [("marks", .ref (DL.kwAt ("Page", some "insert_box") "marks" K))])]) (z_range : mg "range" = none) : Cal P w K mg base 6 "_law_chain" ["page", "length"] (DL.spW K (shapeP C_Page C_History) (shapeP C_Page C_History) R__law_chain) := by
  refine cal_mk F sc__law_chain g0 (DL.spW_len R__law_chain_len) (fun _ _ _ _ _ _ us hl => match us, hl with | [_, _], _ => rfl) (fun cdv A outer s H vs Q E hr h => ⟨_,
    (pss_cons (ps_set (i := 2) sc__law_chain.nd rfl (by first | exact Or.inl rfl | exact Or.inr rfl) pe_int)
     (pss_cons (ps_for PassesOwn.never rfl (pi_range1 (by rfl) z_range (pa_cons (pv 1) pa_nil)) (pg_name (i := 3) sc__law_chain.nd rfl (by first | exact Or.inl rfl | exact Or.inr rfl))
     (pss_cons (ps_set (i := 2) sc__law_chain.nd rfl (by first | exact Or.inl rfl | exact Or.inr rfl) (DL.pe_metXQ0 h_Page_insert_box (List.mem_of_getElem? (i := 0) (a := ((4, [], [("marks", .ref (DL.kwAt ("Page", some "insert_box") "marks" K))]) : DL.CForm)) rfl) hr (by decide) (pv 0) (pa_cons (pv 2) (pa_cons pe_int (pa_cons pe_str pa_nil))) pk_nil))
     pss_nil))
     (pss_cons (ps_ret (pv 2))
     pss_nil))), ?_⟩)
  refine DL.run_spW h (Nat.le_trans (Nat.le_of_eq (DL.spW_len R__law_chain_len _ _ _ _ h)) (by decide)) fun N ad x ds hsh hR hq => ?_
  obtain ⟨y0, s0, m, hm, rfl, rfl, rfl, rfl⟩ := hR
  simp only [envG, List.map, List.length, List.replicate, List.cons_append, List.nil_append, Nat.reduceAdd, Nat.reduceSub, Nat.sub_self]
  show Go (cnS K H N ad 5) _ (shapeP C_Page C_History (pgN 1 1)) _ _
  refine gs_asg (d := .int 1) ex_int ?_
  walk_at "nf"
  refine gs_for (n := m) (fun k => [some (.r 0), some (.i (.int (m : Int))), some (.i (.int (curL 1 1 k))), none]) (fun k => shapeP C_Page C_History (chPg k)) (EvW.is (ew_range1 (n := (m : Int)) (ea_cons (ex_var rfl) ea_nil) ⟨by omega, by omega⟩) (by omega)) (fun c' _ ad σ H ok => ok) (fun _ _ => True.intro) (fun fr up k hk => ⟨_, _, tg_name, ?b1⟩) ?d1
  case b1 =>
    walk_at "nf"
    obtain ⟨rp, I⟩ := (chI (k + 1) (by omega)).2.resolve_left (by omega)
    have I : InsOk (chPg k) 0 (bxR (curL 1 1 k) aL (.tuple [])) rp := I
    refine gs_asgW (DL.ew_methWXQ0 (k := 0) (f := fun i => i) (ds := [.i (.int (curL 1 1 k)), .i (.int ((0 : Nat) : Int)), .i (dT aL)]) (es := []) (dd := [.tuple []]) (x := chPg k) (segW_self (sh0 := shapeP C_Page C_History) (sh1 := shapeP C_Page C_History) (chPg k) (shapeP_ok C_Page C_History (chPg k))) (er_var rfl (by simp [shapeP])) rfl rfl (by show 0 < 5; decide) (by intro s hs; simp at hs; rcases hs with rfl | rfl | rfl <;> exact True.intro) (eas_cons (show EvX false _ _ _ _ _ from ex_var rfl) (eas_cons (show EvX false _ _ _ _ _ from ex_int) (eas_cons (show EvX false _ _ _ _ _ from ex_txt (l := aL) (by decide +kernel)) eas_nil))) eas_nil (fun N H => .cons (ke_Page_insert_box_marks N H) .nil) rfl rfl ⟨_, _, curL 1 1 k, 0, aL, rfl, ⟨rp, I⟩, aW, rfl, rfl⟩) ?_
    rintro _ _ ⟨_, _, ⟨n2, i2, l2, e1, _, _, rfl, rfl⟩, _, rfl, rfl⟩
    obtain ⟨rfl, rfl, rfl⟩ := box_inj e1
    walk_at "nf"
    have hl := ch_last k (by omega)
    have e : (chPg k).last + 1 = curL 1 1 (k + 1) := by unfold curL; rw [if_neg (by omega), hl]; omega
    refine g_next fun ad σ H ok => ⟨ad, ?_⟩
    have ok := ok
    rw [e] at ok
    exact ok.weak (by simp [WkE, reV]) (WkO.refl _) (by simp [EnLt, SvLt]; show 0 < 5; decide) (shapeP_ok C_Page C_History (chPg (k + 1))).lt (by show 5 ≤ 5; decide)
  case d1 =>
    exact gs_retW (y := chPg m) (EvX.is (ex_var rfl) (by unfold curL; split <;> congr 1 <;> omega)) hq (fun i o e => e) (shapeP_ok _ _ _) (Nat.le_refl _) ⟨m, hm, rfl, rfl, rfl, rfl⟩
-- END _law_chain
theorem sc__law_insert : FnScope ["page", "parent", "index", "boxed", "e"] ["page", "parent", "index", "boxed"] (defScope s__law_insert) := ⟨rfl, rfl, rfl, by decide +kernel, rfl, by decide +kernel, by decide +kernel⟩
def nwR (b : Bool) (n : Int) : Rw := if b = true then bxR n zL (.tuple []) else txR n []
def insY (x : Pg) (i : Nat) (b : Bool) (n : Int) (rp : Rw) : Pg := match insEr x i (nwR b n) rp with
  | none => insP x i (nwR b n)
  | some _ => x
def erO : Option (Er × PyData) → PyData
  | none => .tuple [.str "none", .int 0]
  | some (k, e) => .tuple [.str k.nm, e]
theorem insEr_nl {p : Pg} {i : Nat} {r rp : Rw} {k : Er} {e : PyData} (he : insEr p i r rp = some (k, e)) : noList e = true := by
  unfold insEr at he
  split at he
  · cases he; rfl
  · split at he
    · cases he; rfl
    · split at he
      · cases he; rfl
      · cases he
def R__law_insert : Pg → List SV → Pg → SV → Prop := fun x ds y s => ∃ (n : Int) (i : Nat) (b : Bool) (rp : Rw), ds = [.r 0, .i (.int n), .i (.int (i : Int)), .i (.bool b)] ∧ InsPre x (nwR b n) rp ∧ i ≤ 1000 ∧ y = insY x i b n rp ∧ s = .i (erO (insEr x i (nwR b n) rp))
theorem R__law_insert_len : ∀ x ds x' d, R__law_insert x ds x' d → ds.length = 4 := by
  intro x ds x' d hh
  unfold R__law_insert at hh
  repeat (obtain ⟨_, hh⟩ := hh)
  subst_eqs
  rfl
theorem ok__law_insert {P : Program} {w : World} {K : PySem.W.Frag} {mg : Str → Option Value} {base : Heap} {f : Addr} {fd : FuncData} (F : FnP K "_law_insert" s__law_insert f fd) (g0 : mg "_law_insert" = some (.ref f)) {C_History : Addr} (kC_History : Cls K C_History) (n_History_cells : NoAttr K C_History "cells") (n_History__done : NoAttr K C_History "_done") (n_History__undone : NoAttr K C_History "_undone") {C_Page : Addr} (kC_Page : Cls K C_Page) (n_Page_width : NoAttr K C_Page "width") (n_Page_height : NoAttr K C_Page "height") (n_Page__last_id : NoAttr K C_Page "_last_id") (n_Page__moment : NoAttr K C_Page "_moment") (n_Page__marked : NoAttr K C_Page "_marked") (n_Page__history : NoAttr K C_Page "_history") {f_I : Addr} {C_BadPlace : Addr} (g_BadPlace : mg "BadPlace" = some (.ref C_BadPlace)) (e_BadPlace : DL.ErC K C_BadPlace f_I) {C_TooDeep : Addr} (g_TooDeep : mg "TooDeep" = some (.ref C_TooDeep)) (e_TooDeep : DL.ErC K C_TooDeep f_I) {C_TooMany : Addr} (g_TooMany : mg "TooMany" = some (.ref C_TooMany)) (e_TooMany : DL.ErC K C_TooMany f_I) (m_BadPlace_BadPlace : PySem.W.exmOne K (.ref C_BadPlace) (.ref C_BadPlace) = some true) (m_BadPlace_TooDeep : PySem.W.exmOne K (.ref C_BadPlace) (.ref C_TooDeep) = some false) (m_BadPlace_TooMany : PySem.W.exmOne K (.ref C_BadPlace) (.ref C_TooMany) = some false) (m_TooDeep_BadPlace : PySem.W.exmOne K (.ref C_TooDeep) (.ref C_BadPlace) = some false) (m_TooDeep_TooDeep : PySem.W.exmOne K (.ref C_TooDeep) (.ref C_TooDeep) = some true) (m_TooDeep_TooMany : PySem.W.exmOne K (.ref C_TooDeep) (.ref C_TooMany) = some false) (m_TooMany_BadPlace : PySem.W.exmOne K (.ref C_TooMany) (.ref C_BadPlace) = some false) (m_TooMany_TooDeep : PySem.W.exmOne K (.ref C_TooMany) (.ref C_TooDeep) = some false) (m_TooMany_TooMany : PySem.W.exmOne K (.ref C_TooMany) (.ref C_TooMany) = some true) (ke_Page_insert_box_marks : ∀ N H, Dn K N H (.ref (DL.kwAt ("Page", some "insert_box") "marks" K)) (.tuple [])) (h_Page_insert_box : DL.MetXQ P w K mg base 5 C_Page "insert_box" ["self", "parent", "index", "name", "marks"] (DL.spWX K (shapeP C_Page C_History) (shapeP C_Page C_History) R_Page_insert_box (B_Page_insert_box C_BadPlace C_TooDeep C_TooMany)) [(4, [], [("marks", .ref (DL.kwAt ("Page", some "insert_box") "marks" K))])]) (h_Page_insert_text : DL.MetX P w K mg base 5 C_Page "insert_text" ["self", "parent", "index", "string"] (DL.spWX K (shapeP C_Page C_History) (shapeP C_Page C_History) R_Page_insert_text (B_Page_insert_text C_BadPlace C_TooDeep C_TooMany))) : Cal P w K mg base 6 "_law_insert" ["page", "parent", "index", "boxed"] (DL.spW K (shapeP C_Page C_History) (shapeP C_Page C_History) R__law_insert) := by
  refine cal_mk F sc__law_insert g0 (DL.spW_len R__law_insert_len) (fun _ _ _ _ _ _ us hl => match us, hl with | [_, _, _, _], _ => rfl) (fun cdv A outer s H vs Q E hr h => ⟨_,
    (pss_cons (DL.ps_tryCl rfl rfl takes0 (DL.ClOk.as (i := 4) sc__law_insert.nd rfl rfl ⟨by rfl, by decide, Or.inl g_BadPlace⟩ (fun a oe cls dx pn hz hf =>
     (pss_cons (ps_ret (pe_tup (pa_cons pe_str (pa_cons (DL.pe_val hz hf (pv 4)) pa_nil))))
     pss_nil)) (DL.ClOk.as (i := 4) sc__law_insert.nd rfl rfl ⟨by rfl, by decide, Or.inl g_TooDeep⟩ (fun a oe cls dx pn hz hf =>
     (pss_cons (ps_ret (pe_tup (pa_cons pe_str (pa_cons (DL.pe_val hz hf (pv 4)) pa_nil))))
     pss_nil)) (DL.ClOk.as (i := 4) sc__law_insert.nd rfl rfl ⟨by rfl, by decide, Or.inl g_TooMany⟩ (fun a oe cls dx pn hz hf =>
     (pss_cons (ps_ret (pe_tup (pa_cons pe_str (pa_cons (DL.pe_val hz hf (pv 4)) pa_nil))))
     pss_nil)) DL.ClOk.nil))) (fun W pn xe tk _ => (pss_cons (ps_if (pt_val (pv 3))
     (pss_cons (ps_expr (DL.pe_metXQ h_Page_insert_box (List.mem_of_getElem? (i := 0) (a := ((4, [], [("marks", .ref (DL.kwAt ("Page", some "insert_box") "marks" K))]) : DL.CForm)) rfl) hr (by decide) tk (pv 0) (pa_cons (pv 1) (pa_cons (pv 2) (pa_cons pe_str pa_nil))) pk_nil))
     pss_nil)
     (pss_cons (ps_expr (DL.pe_metX h_Page_insert_text hr (by decide) tk (pv 0) (pa_cons (pv 1) (pa_cons (pv 2) (pa_cons pe_str pa_nil)))))
     pss_nil))
     pss_nil)))
     (pss_cons (ps_ret (pe_tup (pa_cons pe_str (pa_cons pe_int pa_nil))))
     pss_nil)), ?_⟩)
  refine DL.run_spW h (Nat.le_trans (Nat.le_of_eq (DL.spW_len R__law_insert_len _ _ _ _ h)) (by decide)) fun N ad x ds hsh hR hq => ?_
  obtain ⟨y0, s0, n, i, b, rp, rfl, hp, hi, rfl, rfl⟩ := hR
  simp only [envG, List.map, List.length, List.replicate, List.cons_append, List.nil_append, Nat.reduceAdd, Nat.reduceSub, Nat.sub_self]
  show Go (cnS K H N ad 5) _ (shapeP C_Page C_History x) _ _
  have hzl : okT [] ∧ ([] : List Nat).length ≤ 500 := ⟨fun x hx => absurd hx List.not_mem_nil, Nat.zero_le _⟩
  refine DL.gs_tryIf (b := b) (et_test (ex_var rfl)) (fun hb => ?h1) (fun hb => ?h2)
  case h1 =>
    subst hb
    have hn : nwR true n = bxR n zL (.tuple []) := rfl
    cases her : insEr x i (nwR true n) rp with
    | none =>
      have I := hp.ok_ her
      rw [hn] at I
      refine DL.gs_tryVD (fun D' => DL.ew_methWXQ (k := 0) (f := fun i => i) (ds := [.i (.int n), .i (.int (i : Int)), .i (dT zL)]) (es := []) (dd := [.tuple []]) (x := x) (segW_self (sh0 := shapeP C_Page C_History) (sh1 := shapeP C_Page C_History) x (shapeP_ok C_Page C_History x)) (er_var rfl (by simp [shapeP])) rfl rfl (by show 0 < 5; decide) (by intro s hs; simp at hs; rcases hs with rfl | rfl | rfl <;> exact True.intro) (eas_cons (show EvX false _ _ _ _ _ from ex_var rfl) (eas_cons (show EvX false _ _ _ _ _ from ex_var rfl) (eas_cons (show EvX false _ _ _ _ _ from ex_txt (l := zL) (by decide +kernel)) eas_nil))) eas_nil (fun N H => .cons (ke_Page_insert_box_marks N H) .nil) rfl rfl ⟨_, _, n, i, zL, rfl, ⟨rp, I⟩, zW, rfl, rfl⟩) ?_
      rintro _ _ ⟨_, _, ⟨n2, i2, l2, e1, _, _, rfl, rfl⟩, _, rfl, rfl⟩
      obtain ⟨rfl, rfl, rfl⟩ := box_inj e1
      have hy : insY x i2 true n2 rp = insP x i2 (bxR n2 zL (.tuple [])) := by unfold insY; rw [her]; rfl
      exact gs_retW (y := insY x i2 true n2 rp) (ex_tup (ea_cons ex_str (ea_cons ex_int ea_nil)) (Nat.le_of_ble_eq_true rfl)) hq (fun i o e => by rw [hy] at e; exact e) (shapeP_ok _ _ _) (Nat.le_refl _) ⟨n2, i2, true, rp, rfl, hp, hi, rfl, by rw [her]; rfl⟩
    | some q =>
      obtain ⟨k, e⟩ := q
      have hev := insEr_ev hp hi her
      have hnl : noList (.tuple [.str k.nm, e]) = true := by simp only [noList, noLists, insEr_nl her, Bool.and_true]
      have hB : B_Page_insert_box C_BadPlace C_TooDeep C_TooMany x [.r 0, .i (.int n), .i (.int (i : Int)), .i (dT zL), .i (.tuple [])] (k.ad C_BadPlace C_TooDeep C_TooMany) e := ⟨n, i, zL, rfl, zW, rp, k, hp, hi, her, rfl⟩
      have hy : insY x i true n rp = x := by unfold insY; rw [her]
      have hR0 : R__law_insert x [.r 0, .i (.int n), .i (.int (i : Int)), .i (.bool true)] x (.i (.tuple [.str k.nm, e])) := ⟨n, i, true, rp, rfl, hp, hi, hy.symm, by rw [her]; rfl⟩
      cases k with
      | place =>
        refine DL.gs_tryED (CE := C_BadPlace) (e := e) (pre := []) (fun D' => DL.xew_methWXQ (k := 0) (f := fun i => i) (ds := [.i (.int n), .i (.int (i : Int)), .i (dT zL)]) (es := []) (dd := [.tuple []]) (x := x) (segW_self (sh0 := shapeP C_Page C_History) (sh1 := shapeP C_Page C_History) x (shapeP_ok C_Page C_History x)) rfl (er_var rfl (by simp [shapeP])) rfl rfl (by show 0 < 5; decide) (by intro s hs; simp at hs; rcases hs with rfl | rfl | rfl <;> exact True.intro) (eas_cons (show EvX false _ _ _ _ _ from ex_var rfl) (eas_cons (show EvX false _ _ _ _ _ from ex_var rfl) (eas_cons (show EvX false _ _ _ _ _ from ex_txt (l := zL) (by decide +kernel)) eas_nil))) eas_nil (fun N H => .cons (ke_Page_insert_box_marks N H) .nil) rfl rfl hB hev) (fun q hq => absurd hq List.not_mem_nil) m_BadPlace_BadPlace (by simp) fun a dx xv hxv => ?_
        exact DL.gp_retW (y := x) (DL.ep_tup (DL.ep_of ex_str) (DL.ep_val e_BadPlace hxv)) hnl hq (fun i o e => e) (shapeP_ok _ _ _) (Nat.le_refl _) hR0
      | deep =>
        refine DL.gs_tryED (CE := C_TooDeep) (e := e) (pre := [_]) (fun D' => DL.xew_methWXQ (k := 0) (f := fun i => i) (ds := [.i (.int n), .i (.int (i : Int)), .i (dT zL)]) (es := []) (dd := [.tuple []]) (x := x) (segW_self (sh0 := shapeP C_Page C_History) (sh1 := shapeP C_Page C_History) x (shapeP_ok C_Page C_History x)) rfl (er_var rfl (by simp [shapeP])) rfl rfl (by show 0 < 5; decide) (by intro s hs; simp at hs; rcases hs with rfl | rfl | rfl <;> exact True.intro) (eas_cons (show EvX false _ _ _ _ _ from ex_var rfl) (eas_cons (show EvX false _ _ _ _ _ from ex_var rfl) (eas_cons (show EvX false _ _ _ _ _ from ex_txt (l := zL) (by decide +kernel)) eas_nil))) eas_nil (fun N H => .cons (ke_Page_insert_box_marks N H) .nil) rfl rfl hB hev) (fun q hq => by rw [List.mem_singleton.mp hq]; exact m_TooDeep_BadPlace) m_TooDeep_TooDeep (by simp) fun a dx xv hxv => ?_
        exact DL.gp_retW (y := x) (DL.ep_tup (DL.ep_of ex_str) (DL.ep_val e_TooDeep hxv)) hnl hq (fun i o e => e) (shapeP_ok _ _ _) (Nat.le_refl _) hR0
      | many =>
        refine DL.gs_tryED (CE := C_TooMany) (e := e) (pre := [_, _]) (fun D' => DL.xew_methWXQ (k := 0) (f := fun i => i) (ds := [.i (.int n), .i (.int (i : Int)), .i (dT zL)]) (es := []) (dd := [.tuple []]) (x := x) (segW_self (sh0 := shapeP C_Page C_History) (sh1 := shapeP C_Page C_History) x (shapeP_ok C_Page C_History x)) rfl (er_var rfl (by simp [shapeP])) rfl rfl (by show 0 < 5; decide) (by intro s hs; simp at hs; rcases hs with rfl | rfl | rfl <;> exact True.intro) (eas_cons (show EvX false _ _ _ _ _ from ex_var rfl) (eas_cons (show EvX false _ _ _ _ _ from ex_var rfl) (eas_cons (show EvX false _ _ _ _ _ from ex_txt (l := zL) (by decide +kernel)) eas_nil))) eas_nil (fun N H => .cons (ke_Page_insert_box_marks N H) .nil) rfl rfl hB hev) (fun q hq => (List.mem_cons.mp hq).elim (fun z => by rw [z]; exact m_TooMany_BadPlace) (fun z => by rw [List.mem_singleton.mp z]; exact m_TooMany_TooDeep)) m_TooMany_TooMany (by simp) fun a dx xv hxv => ?_
        exact DL.gp_retW (y := x) (DL.ep_tup (DL.ep_of ex_str) (DL.ep_val e_TooMany hxv)) hnl hq (fun i o e => e) (shapeP_ok _ _ _) (Nat.le_refl _) hR0
  case h2 =>
    subst hb
    have hn : nwR false n = txR n [] := rfl
    cases her : insEr x i (nwR false n) rp with
    | none =>
      have I := hp.ok_ her
      rw [hn] at I
      refine DL.gs_tryVD (fun D' => DL.ew_methWX (k := 0) (f := fun i => i) (ds := [.i (.int n), .i (.int (i : Int)), .i (dT [])]) (x := x) (segW_self (sh0 := shapeP C_Page C_History) (sh1 := shapeP C_Page C_History) x (shapeP_ok C_Page C_History x)) (er_var rfl (by simp [shapeP])) rfl rfl (by show 0 < 5; decide) (by intro s hs; simp at hs; rcases hs with rfl | rfl | rfl <;> exact True.intro) (eas_cons (show EvX false _ _ _ _ _ from ex_var rfl) (eas_cons (show EvX false _ _ _ _ _ from ex_var rfl) (eas_cons (show EvX false _ _ _ _ _ from ex_txt (l := []) (by decide +kernel)) eas_nil))) ⟨_, _, n, i, [], rfl, ⟨rp, I⟩, hzl.1, hzl.2, rfl, rfl⟩) ?_
      rintro _ _ ⟨_, _, ⟨n2, i2, l2, e1, _, _, _, rfl, rfl⟩, _, rfl, rfl⟩
      obtain ⟨rfl, rfl, rfl⟩ := txt_inj e1
      have hy : insY x i2 false n2 rp = insP x i2 (txR n2 []) := by unfold insY; rw [her]; rfl
      exact gs_retW (y := insY x i2 false n2 rp) (ex_tup (ea_cons ex_str (ea_cons ex_int ea_nil)) (Nat.le_of_ble_eq_true rfl)) hq (fun i o e => by rw [hy] at e; exact e) (shapeP_ok _ _ _) (Nat.le_refl _) ⟨n2, i2, false, rp, rfl, hp, hi, rfl, by rw [her]; rfl⟩
    | some q =>
      obtain ⟨k, e⟩ := q
      have hev := insEr_ev hp hi her
      have hnl : noList (.tuple [.str k.nm, e]) = true := by simp only [noList, noLists, insEr_nl her, Bool.and_true]
      have hB : B_Page_insert_text C_BadPlace C_TooDeep C_TooMany x [.r 0, .i (.int n), .i (.int (i : Int)), .i (dT [])] (k.ad C_BadPlace C_TooDeep C_TooMany) e := ⟨n, i, [], rfl, hzl.1, hzl.2, rp, k, hp, hi, her, rfl⟩
      have hy : insY x i false n rp = x := by unfold insY; rw [her]
      have hR0 : R__law_insert x [.r 0, .i (.int n), .i (.int (i : Int)), .i (.bool false)] x (.i (.tuple [.str k.nm, e])) := ⟨n, i, false, rp, rfl, hp, hi, hy.symm, by rw [her]; rfl⟩
      cases k with
      | place =>
        refine DL.gs_tryED (CE := C_BadPlace) (e := e) (pre := []) (fun D' => DL.xew_methWX (k := 0) (f := fun i => i) (ds := [.i (.int n), .i (.int (i : Int)), .i (dT [])]) (x := x) (segW_self (sh0 := shapeP C_Page C_History) (sh1 := shapeP C_Page C_History) x (shapeP_ok C_Page C_History x)) rfl (er_var rfl (by simp [shapeP])) rfl rfl (by show 0 < 5; decide) (by intro s hs; simp at hs; rcases hs with rfl | rfl | rfl <;> exact True.intro) (eas_cons (show EvX false _ _ _ _ _ from ex_var rfl) (eas_cons (show EvX false _ _ _ _ _ from ex_var rfl) (eas_cons (show EvX false _ _ _ _ _ from ex_txt (l := []) (by decide +kernel)) eas_nil))) hB hev) (fun q hq => absurd hq List.not_mem_nil) m_BadPlace_BadPlace (by simp) fun a dx xv hxv => ?_
        exact DL.gp_retW (y := x) (DL.ep_tup (DL.ep_of ex_str) (DL.ep_val e_BadPlace hxv)) hnl hq (fun i o e => e) (shapeP_ok _ _ _) (Nat.le_refl _) hR0
      | deep =>
        refine DL.gs_tryED (CE := C_TooDeep) (e := e) (pre := [_]) (fun D' => DL.xew_methWX (k := 0) (f := fun i => i) (ds := [.i (.int n), .i (.int (i : Int)), .i (dT [])]) (x := x) (segW_self (sh0 := shapeP C_Page C_History) (sh1 := shapeP C_Page C_History) x (shapeP_ok C_Page C_History x)) rfl (er_var rfl (by simp [shapeP])) rfl rfl (by show 0 < 5; decide) (by intro s hs; simp at hs; rcases hs with rfl | rfl | rfl <;> exact True.intro) (eas_cons (show EvX false _ _ _ _ _ from ex_var rfl) (eas_cons (show EvX false _ _ _ _ _ from ex_var rfl) (eas_cons (show EvX false _ _ _ _ _ from ex_txt (l := []) (by decide +kernel)) eas_nil))) hB hev) (fun q hq => by rw [List.mem_singleton.mp hq]; exact m_TooDeep_BadPlace) m_TooDeep_TooDeep (by simp) fun a dx xv hxv => ?_
        exact DL.gp_retW (y := x) (DL.ep_tup (DL.ep_of ex_str) (DL.ep_val e_TooDeep hxv)) hnl hq (fun i o e => e) (shapeP_ok _ _ _) (Nat.le_refl _) hR0
      | many =>
        refine DL.gs_tryED (CE := C_TooMany) (e := e) (pre := [_, _]) (fun D' => DL.xew_methWX (k := 0) (f := fun i => i) (ds := [.i (.int n), .i (.int (i : Int)), .i (dT [])]) (x := x) (segW_self (sh0 := shapeP C_Page C_History) (sh1 := shapeP C_Page C_History) x (shapeP_ok C_Page C_History x)) rfl (er_var rfl (by simp [shapeP])) rfl rfl (by show 0 < 5; decide) (by intro s hs; simp at hs; rcases hs with rfl | rfl | rfl <;> exact True.intro) (eas_cons (show EvX false _ _ _ _ _ from ex_var rfl) (eas_cons (show EvX false _ _ _ _ _ from ex_var rfl) (eas_cons (show EvX false _ _ _ _ _ from ex_txt (l := []) (by decide +kernel)) eas_nil))) hB hev) (fun q hq => (List.mem_cons.mp hq).elim (fun z => by rw [z]; exact m_TooMany_BadPlace) (fun z => by rw [List.mem_singleton.mp z]; exact m_TooMany_TooDeep)) m_TooMany_TooMany (by simp) fun a dx xv hxv => ?_
        exact DL.gp_retW (y := x) (DL.ep_tup (DL.ep_of ex_str) (DL.ep_val e_TooMany hxv)) hnl hq (fun i o e => e) (shapeP_ok _ _ _) (Nat.le_refl _) hR0
-- END _law_insert
theorem sc__law_move : FnScope ["page", "node", "parent", "index", "e"] ["page", "node", "parent", "index"] (defScope s__law_move) := ⟨rfl, rfl, rfl, by decide +kernel, rfl, by decide +kernel, by decide +kernel⟩
def mvY (x : Pg) (n q : Int) (r ro rq : Rw) (i : Nat) : Pg := match mvEr x.t n q r ro rq i with
  | none => chP x (mvC n r q ro rq i) n
  | some _ => x
theorem mvEr_nl {t : Tree} {n q : Int} {r ro rq : Rw} {i : Nat} {k : Er} {e : PyData} (he : mvEr t n q r ro rq i = some (k, e)) : noList e = true := by
  unfold mvEr at he
  split at he
  · cases he; rfl
  · split at he
    · cases he; rfl
    · cases he
theorem mvEr_many {t : Tree} {n q : Int} {r ro rq : Rw} {i : Nat} {e : PyData} (he : mvEr t n q r ro rq i = some (.many, e)) : False := by
  unfold mvEr at he
  split at he
  · cases he
  · split at he
    · cases he
    · cases he
theorem mv3_inj {n n2 q q2 : Int} {i i2 : Nat} (h : ([.r 0, .i (.int n), .i (.int q), .i (.int (i : Int))] : List SV) = [.r 0, .i (.int n2), .i (.int q2), .i (.int (i2 : Int))]) : n2 = n ∧ q2 = q ∧ i2 = i := by
  injection h with _ h
  injection h with a h
  injection h with b h
  injection h with c _
  injection a with a
  injection a with a
  injection b with b
  injection b with b
  injection c with c
  injection c with c
  exact ⟨a.symm, b.symm, (Int.ofNat.inj c).symm⟩
def R__law_move : Pg → List SV → Pg → SV → Prop := fun x ds y s => ∃ (n q : Int) (i : Nat) (r ro rq : Rw), ds = [.r 0, .i (.int n), .i (.int q), .i (.int (i : Int))] ∧ MvPre x n q r ro rq ∧ i ≤ 1000 ∧ y = mvY x n q r ro rq i ∧ s = .i (erO (mvEr x.t n q r ro rq i))
theorem R__law_move_len : ∀ x ds x' d, R__law_move x ds x' d → ds.length = 4 := by
  intro x ds x' d hh
  unfold R__law_move at hh
  repeat (obtain ⟨_, hh⟩ := hh)
  subst_eqs
  rfl
theorem ok__law_move {P : Program} {w : World} {K : PySem.W.Frag} {mg : Str → Option Value} {base : Heap} {f : Addr} {fd : FuncData} (F : FnP K "_law_move" s__law_move f fd) (g0 : mg "_law_move" = some (.ref f)) {C_History : Addr} (kC_History : Cls K C_History) (n_History_cells : NoAttr K C_History "cells") (n_History__done : NoAttr K C_History "_done") (n_History__undone : NoAttr K C_History "_undone") {C_Page : Addr} (kC_Page : Cls K C_Page) (n_Page_width : NoAttr K C_Page "width") (n_Page_height : NoAttr K C_Page "height") (n_Page__last_id : NoAttr K C_Page "_last_id") (n_Page__moment : NoAttr K C_Page "_moment") (n_Page__marked : NoAttr K C_Page "_marked") (n_Page__history : NoAttr K C_Page "_history") {f_I : Addr} {C_BadPlace : Addr} (g_BadPlace : mg "BadPlace" = some (.ref C_BadPlace)) (e_BadPlace : DL.ErC K C_BadPlace f_I) {C_TooDeep : Addr} (g_TooDeep : mg "TooDeep" = some (.ref C_TooDeep)) (e_TooDeep : DL.ErC K C_TooDeep f_I) {C_TooMany : Addr} (g_TooMany : mg "TooMany" = some (.ref C_TooMany)) (e_TooMany : DL.ErC K C_TooMany f_I) (m_BadPlace_BadPlace : PySem.W.exmOne K (.ref C_BadPlace) (.ref C_BadPlace) = some true) (m_BadPlace_TooDeep : PySem.W.exmOne K (.ref C_BadPlace) (.ref C_TooDeep) = some false) (m_TooDeep_BadPlace : PySem.W.exmOne K (.ref C_TooDeep) (.ref C_BadPlace) = some false) (m_TooDeep_TooDeep : PySem.W.exmOne K (.ref C_TooDeep) (.ref C_TooDeep) = some true) (h_Page_move : DL.MetX P w K mg base 33 C_Page "move" ["self", "node", "parent", "index"] (DL.spWX K (shapeP C_Page C_History) (shapeP C_Page C_History) R_Page_move (B_Page_move C_BadPlace C_TooDeep C_TooMany))) : Cal P w K mg base 34 "_law_move" ["page", "node", "parent", "index"] (DL.spW K (shapeP C_Page C_History) (shapeP C_Page C_History) R__law_move) := by
  refine cal_mk F sc__law_move g0 (DL.spW_len R__law_move_len) (fun _ _ _ _ _ _ us hl => match us, hl with | [_, _, _, _], _ => rfl) (fun cdv A outer s H vs Q E hr h => ⟨_,
    (pss_cons (DL.ps_tryCl rfl rfl takes0 (DL.ClOk.as (i := 4) sc__law_move.nd rfl rfl ⟨by rfl, by decide, Or.inl g_BadPlace⟩ (fun a oe cls dx pn hz hf =>
     (pss_cons (ps_ret (pe_tup (pa_cons pe_str (pa_cons (DL.pe_val hz hf (pv 4)) pa_nil))))
     pss_nil)) (DL.ClOk.as (i := 4) sc__law_move.nd rfl rfl ⟨by rfl, by decide, Or.inl g_TooDeep⟩ (fun a oe cls dx pn hz hf =>
     (pss_cons (ps_ret (pe_tup (pa_cons pe_str (pa_cons (DL.pe_val hz hf (pv 4)) pa_nil))))
     pss_nil)) DL.ClOk.nil)) (fun W pn xe tk _ => (pss_cons (ps_expr (DL.pe_metX h_Page_move hr (by decide) tk (pv 0) (pa_cons (pv 1) (pa_cons (pv 2) (pa_cons (pv 3) pa_nil)))))
     pss_nil)))
     (pss_cons (ps_ret (pe_tup (pa_cons pe_str (pa_cons pe_int pa_nil))))
     pss_nil)), ?_⟩)
  refine DL.run_spW h (Nat.le_trans (Nat.le_of_eq (DL.spW_len R__law_move_len _ _ _ _ h)) (by decide)) fun N ad x ds hsh hR hq => ?_
  obtain ⟨y0, s0, n, q, i, r, ro, rq, rfl, hp, hi, rfl, rfl⟩ := hR
  simp only [envG, List.map, List.length, List.replicate, List.cons_append, List.nil_append, Nat.reduceAdd, Nat.reduceSub, Nat.sub_self]
  show Go (cnS K H N ad 5) _ (shapeP C_Page C_History x) _ _
  cases her : mvEr x.t n q r ro rq i with
  | none =>
    have M := hp.ok_ her
    refine DL.gs_tryVD (fun D' => DL.ew_methWX (k := 0) (f := fun i => i) (ds := [.i (.int n), .i (.int q), .i (.int (i : Int))]) (x := x) (segW_self (sh0 := shapeP C_Page C_History) (sh1 := shapeP C_Page C_History) x (shapeP_ok C_Page C_History x)) (er_var rfl (by simp [shapeP])) rfl rfl (by show 0 < 5; decide) (by intro s hs; simp at hs; rcases hs with rfl | rfl | rfl <;> exact True.intro) (eas_cons (show EvX false _ _ _ _ _ from ex_var rfl) (eas_cons (show EvX false _ _ _ _ _ from ex_var rfl) (eas_cons (show EvX false _ _ _ _ _ from ex_var rfl) eas_nil))) ⟨_, _, n, q, i, r, ro, rq, rfl, hp.ok, hp.dn, M, hp.hg.1, rfl, rfl⟩) ?_
    rintro _ _ ⟨_, _, ⟨n2, q2, i2, r2, ro2, rq2, e1, _, _, M2, _, rfl, rfl⟩, _, rfl, rfl⟩
    obtain ⟨rfl, rfl, rfl⟩ := mv3_inj e1
    have a1 := M2.row
    rw [M.row] at a1
    cases a1
    have a2 := M2.orow
    rw [M.orow] at a2
    cases a2
    have a3 := M2.qrow
    rw [M.qrow] at a3
    cases a3
    have hy : mvY x n2 q2 r ro rq i2 = chP x (mvC n2 r q2 ro rq i2) n2 := by unfold mvY; rw [her]
    exact gs_retW (y := mvY x n2 q2 r ro rq i2) (ex_tup (ea_cons ex_str (ea_cons ex_int ea_nil)) (Nat.le_of_ble_eq_true rfl)) hq (fun i o e => by rw [hy] at e; exact e) (shapeP_ok _ _ _) (Nat.le_refl _) ⟨n2, q2, i2, r, ro, rq, rfl, hp, hi, rfl, by rw [her]; rfl⟩
  | some z =>
    obtain ⟨k, e⟩ := z
    have hev := mvEr_ev hp hi her
    have hnl : noList (.tuple [.str k.nm, e]) = true := by simp only [noList, noLists, mvEr_nl her, Bool.and_true]
    have hB : B_Page_move C_BadPlace C_TooDeep C_TooMany x [.r 0, .i (.int n), .i (.int q), .i (.int (i : Int))] (k.ad C_BadPlace C_TooDeep C_TooMany) e := ⟨n, q, i, r, ro, rq, rfl, k, hp, hi, her, rfl⟩
    have hy : mvY x n q r ro rq i = x := by unfold mvY; rw [her]
    have hR0 : R__law_move x [.r 0, .i (.int n), .i (.int q), .i (.int (i : Int))] x (.i (.tuple [.str k.nm, e])) := ⟨n, q, i, r, ro, rq, rfl, hp, hi, hy.symm, by rw [her]; rfl⟩
    cases k with
    | many => exact (mvEr_many her).elim
    | place =>
      refine DL.gs_tryED (CE := C_BadPlace) (e := e) (pre := []) (fun D' => DL.xew_methWX (k := 0) (f := fun i => i) (ds := [.i (.int n), .i (.int q), .i (.int (i : Int))]) (x := x) (segW_self (sh0 := shapeP C_Page C_History) (sh1 := shapeP C_Page C_History) x (shapeP_ok C_Page C_History x)) rfl (er_var rfl (by simp [shapeP])) rfl rfl (by show 0 < 5; decide) (by intro s hs; simp at hs; rcases hs with rfl | rfl | rfl <;> exact True.intro) (eas_cons (show EvX false _ _ _ _ _ from ex_var rfl) (eas_cons (show EvX false _ _ _ _ _ from ex_var rfl) (eas_cons (show EvX false _ _ _ _ _ from ex_var rfl) eas_nil))) hB hev) (fun q hq => absurd hq List.not_mem_nil) m_BadPlace_BadPlace (by simp) fun a dx xv hxv => ?_
      exact DL.gp_retW (y := x) (DL.ep_tup (DL.ep_of ex_str) (DL.ep_val e_BadPlace hxv)) hnl hq (fun i o e => e) (shapeP_ok _ _ _) (Nat.le_refl _) hR0
    | deep =>
      refine DL.gs_tryED (CE := C_TooDeep) (e := e) (pre := [_]) (fun D' => DL.xew_methWX (k := 0) (f := fun i => i) (ds := [.i (.int n), .i (.int q), .i (.int (i : Int))]) (x := x) (segW_self (sh0 := shapeP C_Page C_History) (sh1 := shapeP C_Page C_History) x (shapeP_ok C_Page C_History x)) rfl (er_var rfl (by simp [shapeP])) rfl rfl (by show 0 < 5; decide) (by intro s hs; simp at hs; rcases hs with rfl | rfl | rfl <;> exact True.intro) (eas_cons (show EvX false _ _ _ _ _ from ex_var rfl) (eas_cons (show EvX false _ _ _ _ _ from ex_var rfl) (eas_cons (show EvX false _ _ _ _ _ from ex_var rfl) eas_nil))) hB hev) (fun q hq => by rw [List.mem_singleton.mp hq]; exact m_TooDeep_BadPlace) m_TooDeep_TooDeep (by simp) fun a dx xv hxv => ?_
      exact DL.gp_retW (y := x) (DL.ep_tup (DL.ep_of ex_str) (DL.ep_val e_TooDeep hxv)) hnl hq (fun i o e => e) (shapeP_ok _ _ _) (Nat.le_refl _) hR0
-- END _law_move
theorem sc__law_deep : FnScope ["state", "page", "length", "last", "before", "due", "boxed"] ["state"] (defScope s__law_deep) := ⟨rfl, rfl, rfl, by decide +kernel, rfl, by decide +kernel, by decide +kernel⟩
theorem segPgF (CP CH : Addr) : SegAtK (fun i => 2 + i) 1 5 (fun _ : Unit => [SO.ob CP []]) (shapeP CP CH) () ([SO.nums, .stt 0] ++ [.ob CP []]) (fun y => [SO.nums, .stt 0] ++ (shapeP CP CH y).map (reS fun i => 2 + i)) := by
  have hg : gAt (fun i => 2 + i) 1 ([SO.nums, .stt 0] ++ [SO.ob CP []]).length = fun i => 2 + i := by
    funext i
    unfold gAt
    split
    · rfl
    · show 3 + (i - 1) = 2 + i
      omega
  refine ⟨by decide, fun i j _ _ e => by have e : 2 + i = 2 + j := e; omega, preP_ok CP (), fun i o e => ?_, fun y => rfl, fun y i o e => ?_, fun y j hj hn => ?_⟩
  · match i, e with
    | 0, e => cases e; rfl
  · rw [hg]
    show ([SO.nums, .stt 0] ++ (shapeP CP CH y).map (reS fun i => 2 + i))[2 + i]? = _
    rw [List.getElem?_append_right (by show 2 ≤ 2 + i; omega)]
    show ((shapeP CP CH y).map (reS fun i => 2 + i))[2 + i - 2]? = _
    rw [Nat.add_sub_cancel_left, List.getElem?_map, e]
    rfl
  · match j, hj, hn with
    | 0, _, _ => rfl
    | 1, _, _ => rfl
    | 2, _, hn => exact absurd rfl (hn 0 (by decide))
def shL (CP CH : Addr) (p : Pg) : List SO := [SO.nums, .stt 0] ++ (shapeP CP CH p).map (reS fun i => 2 + i)
theorem shL_len (CP CH : Addr) (p : Pg) : (shL CP CH p).length = 7 := rfl
theorem shL_pg (CP CH : Addr) (p : Pg) : DatO (shL CP CH p) (.r 2) (pgD CP CH p) := pg_dat (m := 3) (k := 5) (cl := 4) (dn := 6) rfl (congrArg some (reS_dk _ _)) (congrArg some (reS_dk _ _)) rfl (congrArg some (reS_ls _ _))
theorem shL_lt (CP CH : Addr) (p : Pg) : OsLt 7 (shL CP CH p) := by
  unfold shL shapeP
  simp only [List.map_cons, List.map_nil, List.cons_append, List.nil_append, reS_dk, reS_ls]
  exact ⟨True.intro, by show 0 < 7; decide, by simp [reS, reV, SoLt, SvLt], dkO_lt _ _, dkO_lt _ _, by simp [reS, reV, SoLt, SvLt], soLt_data, True.intro⟩
theorem drawL {c : Cn} {env : Sy} {os : List SO} {tr : TA} {E : XK} {ks ki i : Nat} {many : Int} (hi : env[i]? = some (some (.r ks))) (hs : os[ks]? = some (.stt ki)) (hb : os[ki]? = some .nums) (h : EvA false c env os tr [.int many]) (h1 : 0 < many) (h2 : many < 1073741824) : EvM c env os (tCall (spM c.K R__law_next) [] E (tCons (tVar i) tr)) (fun d => ∃ j : Nat, d = .int (j : Int) ∧ (j : Int) < many) :=
  (em_call hi hs hb h (R__law_next_i h1 h2)).imp fun d ⟨m, n, a, b, c0, c1, e1, e2⟩ => by
    cases e1
    exact ⟨n.toNat, by rw [Int.toNat_of_nonneg c0]; exact e2, by rw [Int.toNat_of_nonneg c0]; exact c1⟩
theorem noLists_map {α : Type} {f : α → PyData} : ∀ {l : List α}, (∀ x ∈ l, noList (f x) = true) → noLists (l.map f) = true
  | [], _ => rfl
  | x :: l, h => by
    show (noList (f x) && noLists (l.map f)) = true
    rw [h x (List.mem_cons_self ..), noLists_map fun y hy => h y (List.mem_cons_of_mem _ hy)]
    rfl
theorem snap_nl {p : Pg} (h : PgS p) : noList (snapD p) = true := by
  have e : noLists ((sub p.t 1).map (snR p.t)) = true := noLists_map fun x _ => by
    unfold snR
    cases q : p.t x with
    | none => rfl
    | some r =>
      have hn := tr_nl h.ok.rows q
      obtain ⟨ds, ho, _⟩ := (h.rw_ x r q).own
      simp only [Rw.d, Rw.l, noList, noLists, Bool.and_eq_true, Bool.and_true, Bool.true_and, ho, fT, noListP] at hn
      simp only [rowS, noList, noLists, Bool.and_true, Bool.true_and, Bool.and_eq_true, ho, fT, unO]
      exact ⟨hn.1, hn.2.1, hn.2.2.1.2, hn.2.2.2.1⟩
  simp only [snapD, noList, noLists, e, Bool.and_true]
theorem call_injI {n n2 : Int} {i i2 : Nat} {b b2 : Bool} (h : ([.r 0, .i (.int n), .i (.int (i : Int)), .i (.bool b)] : List SV) = [.r 0, .i (.int n2), .i (.int (i2 : Int)), .i (.bool b2)]) : n2 = n ∧ i2 = i ∧ b2 = b := by
  injection h with _ h
  injection h with h1 h
  injection h with h2 h
  injection h with h3 _
  injection h1 with h1
  injection h1 with h1
  injection h2 with h2
  injection h2 with h2
  injection h3 with h3
  injection h3 with h3
  exact ⟨h1.symm, (Int.ofNat.inj h2).symm, h3.symm⟩
/-- _law_insert(page, n, i, b) -/
theorem ew_ins {CP CH : Addr} {c : Cn} {env : Sy} {t1 t2 t3 : TE} {E : XK} {z : Pg} {n : Int} {i : Nat} {b : Bool} {rp : Rw} (he : env[1]? = some (some (.r 2))) (h1 : EvX false c env (shL CP CH z) t1 (.int n)) (h2 : EvX false c env (shL CP CH z) t2 (.int (i : Int))) (h3 : EvX false c env (shL CP CH z) t3 (.bool b)) (hp : InsPre z (nwR b n) rp) (hi : i ≤ 1000) :
    EvWN c env (shL CP CH z) (tCall (spW c.K (shapeP CP CH) (shapeP CP CH) R__law_insert) [] E (tCons (tVar 1) (tCons t1 (tCons t2 (tCons t3 tNil))))) (fun os' s => os' = shL CP CH (insY z i b n rp) ∧ s = .i (erO (insEr z i (nwR b n) rp))) := by
  refine (ew_callW (f := fun i => 2 + i) (x := z) (ds := [.r 0, .i (.int n), .i (.int (i : Int)), .i (.bool b)]) (segW_pre (sh0 := shapeP CP CH) (sh1 := shapeP CP CH) [SO.nums, .stt 0] z (shapeP_ok CP CH z)) ?_ (EvAS.asG (eas_cons (show EvR _ _ _ _ _ from er_var he (by show 2 < 7; decide)) (eas_cons (show EvX false _ _ _ _ _ from h1) (eas_cons (show EvX false _ _ _ _ _ from h2) (eas_cons (show EvX false _ _ _ _ _ from h3) eas_nil))))) ⟨_, _, n, i, b, rp, rfl, hp, hi, rfl, rfl⟩).imp ?_
  · intro s hs
    simp at hs
    rcases hs with rfl | rfl | rfl | rfl
    · show 0 < 5; decide
    · exact True.intro
    · exact True.intro
    · exact True.intro
  · rintro _ _ ⟨_, _, ⟨n2, i2, b2, rp2, e1, hp2, _, rfl, rfl⟩, _, rfl, rfl⟩
    obtain ⟨rfl, rfl, rfl⟩ := call_injI e1
    have := hp2.par
    rw [hp.par] at this
    cases this
    exact ⟨rfl, rfl⟩
theorem nw_par (b : Bool) (n : Int) : (nwR b n).par = n := by cases b <;> rfl
theorem nw_kids (b : Bool) (n : Int) : (nwR b n).kids = [] := by cases b <;> rfl
theorem nw_nl (b : Bool) (n : Int) : noList (nwR b n).d = true := by cases b <;> rfl
theorem nw_S (b : Bool) (n : Int) : RwS (nwR b n) := by
  cases b
  · exact tx_S ⟨by decide +kernel, Nat.zero_le _⟩
  · exact bx_S ⟨by decide +kernel, Nat.zero_le _⟩
theorem nw_pre {p : Pg} {b : Bool} {n : Int} {rp : Rw} (S : PgS p) (h : p.t n = some rp) (hb : rp.box = true) (dn : p.hs.done.length < 4000) : InsPre p (nwR b n) rp := ⟨S.ok, by rw [nw_par]; exact h, hb, dn, nw_kids b n, nw_nl b n⟩
def dueO (b : Bool) (d : Int) : PyData := if b = true then .tuple [.str "TooDeep", .int d] else .tuple [.str "none", .int 0]
theorem dueO_sh (b : Bool) (d : Int) : SeqAt.shaped (dueO b d) = true := by
  cases b
  · show SeqAt.shaped (.tuple [.str "none", .int 0]) = true
    decide +kernel
  · show (PyData.canLay0 (.tuple [.str "TooDeep", .int d]) && decide ((PyData.tuple [.str "TooDeep", .int d]).depth ≤ 64)) = true
    have : PyData.canLay0 (.str "TooDeep") = true := by decide +kernel
    simp only [PyData.canLay0, PyData.canLayAll0] at this ⊢
    rw [this]
    rfl
theorem dueO_nl (b : Bool) (d : Int) : noList (dueO b d) = true := by cases b <;> rfl
def R__law_deep : List PyData → PyData → Prop := fun ds d => ds = [] ∧ d = .bool true
theorem R__law_deep_i : ∃ d, R__law_deep [] d := ⟨_, rfl, rfl⟩
local macro_rules | `(tactic| walk_at "r2") => `(tactic| exact R__law_deep_i)
theorem R__law_deep_len : ∀ ds d, R__law_deep ds d → ds.length = 0 := by
  intro ds d hh
  unfold R__law_deep at hh
  repeat (obtain ⟨_, hh⟩ := hh)
  subst_eqs
  rfl
theorem ok__law_deep {P : Program} {w : World} {K : PySem.W.Frag} {mg : Str → Option Value} {base : Heap} {f : Addr} {fd : FuncData} (F : FnP K "_law_deep" s__law_deep f fd) (g0 : mg "_law_deep" = some (.ref f)) {C_History : Addr} (kC_History : Cls K C_History) (n_History_cells : NoAttr K C_History "cells") (n_History__done : NoAttr K C_History "_done") (n_History__undone : NoAttr K C_History "_undone") {C_Page : Addr} (kC_Page : Cls K C_Page) (n_Page_width : NoAttr K C_Page "width") (n_Page_height : NoAttr K C_Page "height") (n_Page__last_id : NoAttr K C_Page "_last_id") (n_Page__moment : NoAttr K C_Page "_moment") (n_Page__marked : NoAttr K C_Page "_marked") (n_Page__history : NoAttr K C_Page "_history") (h_Page___init__ : DL.MakN P w K mg base 4 "Page" C_Page ["self", "width", "height"] (DL.spK K 1 5 (fun _ : Unit => [SO.ob C_Page []]) (shapeP C_Page C_History) R_Page___init__)) (h__law_next : Cal P w K mg base 1 "_law_next" ["state", "many"] (DL.spM K  R__law_next)) (h__law_chain : Cal P w K mg base 6 "_law_chain" ["page", "length"] (DL.spW K (shapeP C_Page C_History) (shapeP C_Page C_History) R__law_chain)) (h_Page_snapshot : DL.MetP P w K mg base 3 C_Page "snapshot" ["self"] (spD K  (R_Page_snapshot C_Page C_History))) (h__law_insert : Cal P w K mg base 6 "_law_insert" ["page", "parent", "index", "boxed"] (DL.spW K (shapeP C_Page C_History) (shapeP C_Page C_History) R__law_insert)) : Cal P w K mg base 7 "_law_deep" ["state"] (DL.spM K  R__law_deep) := by
  refine cal_mk F sc__law_deep g0 (DL.spM_len R__law_deep_len) (fun _ _ _ _ _ _ us hl => match us, hl with | [_], _ => rfl) (fun cdv A outer s H vs Q E hr h => ⟨_,
    (pss_cons (ps_set (i := 1) sc__law_deep.nd rfl (by first | exact Or.inl rfl | exact Or.inr rfl) (DL.pe_makN h_Page___init__ hr (by decide) (by rfl) pass0 (pa_cons pe_int (pa_cons pe_int pa_nil))))
     (pss_cons (ps_set (i := 2) sc__law_deep.nd rfl (by first | exact Or.inl rfl | exact Or.inr rfl) (DL.pe_cal h__law_next hr (by decide) (by rfl) pass0 (pa_cons (pv 0) (pa_cons pe_int pa_nil))))
     (pss_cons (ps_set (i := 3) sc__law_deep.nd rfl (by first | exact Or.inl rfl | exact Or.inr rfl) (DL.pe_cal h__law_chain hr (by decide) (by rfl) pass0 (pa_cons (pv 1) (pa_cons (pv 2) pa_nil))))
     (pss_cons (ps_set (i := 4) sc__law_deep.nd rfl (by first | exact Or.inl rfl | exact Or.inr rfl) (DL.pe_metP0 h_Page_snapshot hr (by decide) pass0 (pv 1)))
     (pss_cons (ps_set (i := 5) sc__law_deep.nd rfl (by first | exact Or.inl rfl | exact Or.inr rfl) (pe_ifExp (pt_cmpR op_eq (pv 2) pe_int (nomark _)) (pe_tup (pa_cons pe_str (pa_cons pe_int pa_nil))) (pe_tup (pa_cons pe_str (pa_cons pe_int pa_nil)))))
     (pss_cons (ps_set (i := 6) sc__law_deep.nd rfl (by first | exact Or.inl rfl | exact Or.inr rfl) (pe_cmpR op_eq (DL.pe_cal h__law_next hr (by decide) (by rfl) pass0 (pa_cons (pv 0) (pa_cons pe_int pa_nil))) pe_int (nomark _)))
     (pss_cons (ps_if (PW.pt (pw_or (pt_cmpR (DL.kNeD (K := K) hr.units) (DL.pe_cal h__law_insert hr (by decide) (by rfl) pass0 (pa_cons (pv 1) (pa_cons (pv 3) (pa_cons pe_int (pa_cons (pv 6) pa_nil))))) (pe_tup (pa_cons pe_str (pa_cons pe_int pa_nil))) (nomark _)) (pw_or1 (pt_cmpR (DL.kNeD (K := K) hr.units) (DL.pe_metP0 h_Page_snapshot hr (by decide) pass0 (pv 1)) (pv 4) (nomark _)))))
     (pss_cons (ps_ret pe_bl)
     pss_nil)
     pss_nil)
     (pss_cons (ps_if (pt_cmpR (DL.kNeD (K := K) hr.units) (DL.pe_cal h__law_insert hr (by decide) (by rfl) pass0 (pa_cons (pv 1) (pa_cons (pv 3) (pa_cons pe_int (pa_cons (pv 6) pa_nil))))) (pv 5) (nomark _))
     (pss_cons (ps_ret pe_bl)
     pss_nil)
     pss_nil)
     (pss_cons (ps_ret (pe_or (pe_cmpR op_eq (pe_ix (DL.kIxT (K := K)) (pv 5) pe_int (fun _ _ => rfl)) pe_str (nomark _)) (pe_one (pe_cmpR (DL.kEqD (K := K) hr.units) (DL.pe_metP0 h_Page_snapshot hr (by decide) pass0 (pv 1)) (pv 4) (nomark _)))))
     pss_nil))))))))), ?_⟩)
  refine DL.run_spM h (List.cons_ne_nil _ _) fun N s b ds hR hq => ?_
  obtain ⟨d0, rfl, rfl⟩ := hR
  simp only [DL.env1]
  walk_at "env"
  refine gs_asgGN (egn_makeN (f := fun i => 2 + i) (x := ()) (ds := [.i (.int 1), .i (.int 1)]) (os2 := [SO.nums, .stt 0]) (G := fun y => [SO.nums, .stt 0] ++ (shapeP C_Page C_History y).map (reS fun i => 2 + i)) (EvAS.asG (eas_cons (show EvX false _ _ _ _ _ from ex_int) (eas_cons (show EvX false _ _ _ _ _ from ex_int) eas_nil))) rfl (by decide) (by intro s hs; simp at hs; rw [hs]; exact True.intro) (segPgF C_Page C_History) ⟨_, 1, 1, by decide, by decide, by decide, by decide, rfl, rfl⟩) ?_
  rintro k os' ⟨rfl, y, ⟨w, h, _, _, _, _, e1, rfl⟩, rfl⟩
  cases e1
  walk_at "nf"
  refine gs_is (env' := [some (.r 1), some (.r 2), none, none, none, none, none]) (os' := shL C_Page C_History (pgN 1 1)) rfl rfl ?_
  refine gs_asgM (drawL (ks := 1) (ki := 0) rfl rfl rfl (ea_cons ex_int ea_nil) (by decide) (by decide)) fun d hd => ?_
  obtain ⟨m, rfl, hm⟩ := hd
  have hm : m ≤ 29 := by omega
  walk_at "nf"
  refine gs_asgW (ew_callW (f := fun i => 2 + i) (x := pgN 1 1) (ds := [.r 0, .i (.int (m : Int))]) (segW_pre (sh0 := shapeP C_Page C_History) (sh1 := shapeP C_Page C_History) [SO.nums, .stt 0] (pgN 1 1) (shapeP_ok C_Page C_History _)) ?a1 (EvAS.asG (eas_cons (show EvR _ _ _ _ _ from er_var rfl (by show 2 < 7; decide)) (eas_cons (show EvX false _ _ _ _ _ from ex_var rfl) eas_nil))) ⟨_, _, m, hm, rfl, rfl, rfl, rfl⟩) ?_
  case a1 =>
    intro s hs
    simp at hs
    rcases hs with rfl | rfl
    · show 0 < 5; decide
    · exact True.intro
  rintro _ _ ⟨_, _, ⟨m2, _, _, e1, rfl, rfl⟩, _, rfl, rfl⟩
  have e1 : m2 = m := by
    injection e1 with _ e1
    injection e1 with e1 _
    injection e1 with e1
    injection e1 with e1
    exact (Int.ofNat.inj e1).symm
  subst e1
  walk_at "nf"
  have hS := (chI m2 hm).1.s
  have hS : PgS (chPg m2) := hS
  obtain ⟨re, r1, r2, r3, r4⟩ := ch_end m2 hm
  have hcnt := ch_count m2 hm
  have hdn := ch_done m2 hm
  have hpg : ∀ {w : Bool} {c : Cn} {e : Sy} (z : Pg), e[1]? = some (some (.r 2)) → EvX true c e (shL C_Page C_History z) (tVar 1) (pgD C_Page C_History z) := fun z he => ex_dat (er_var he (by rw [shL_len]; decide)) (shL_pg _ _ z)
  refine gs_is (env' := [some (.r 1), some (.r 2), some (.i (.int (m2 : Int))), some (.i (.int ((m2 : Int) + 1))), none, none, none]) (os' := shL C_Page C_History (chPg m2)) rfl rfl ?_
  refine gs_asg (d := snapD (chPg m2)) (EvX.strong (snap_nl hS) (ex_methD (hpg (w := true) _ rfl) rfl ea_nil (R_Page_snapshot_i hS))) ?_
  walk_at "nf"
  refine gs_asg (d := dueO (decide (m2 = 29)) 31) (EvX.strong (dueO_nl _ _) (ex_if (b := decide (m2 = 29)) (EvT.is (et_test (ex_eqI (ex_var rfl) ex_int)) (decide_eq_decide.mpr (by omega))) (fun hb => EvX.is (ex_tup (ea_cons ex_str (ea_cons ex_int ea_nil)) (Nat.le_of_ble_eq_true rfl)) (by rw [hb]; rfl)) (fun hb => EvX.is (ex_tup (ea_cons ex_str (ea_cons ex_int ea_nil)) (Nat.le_of_ble_eq_true rfl)) (by rw [hb]; rfl)))) ?_
  walk_at "nf"
  refine gs_asgM (P := fun d => ∃ b, d = .bool b) (em_op (drawL (ks := 1) (ki := 0) rfl rfl rfl (ea_cons ex_int ea_nil) (by decide) (by decide)) fun v d hd => ?b1) fun d hd => ?_
  case b1 =>
    obtain ⟨j, rfl, hj⟩ := hd
    exact em_x (ex_eqI (ex_pin (List.mem_cons_self ..)) ex_int) ⟨_, rfl⟩
  obtain ⟨bx, rfl⟩ := hd
  walk_at "nf"
  have hp : InsPre (chPg m2) (nwR bx ((m2 : Int) + 1)) re := nw_pre hS r1 r2 (by omega)
  have he1 : insEr (chPg m2) 1 (nwR bx ((m2 : Int) + 1)) re = some (.place, .int 1) := by unfold insEr; rw [r3, if_pos (by decide)]; rfl
  have he0 : erO (insEr (chPg m2) 0 (nwR bx ((m2 : Int) + 1)) re) = dueO (decide (m2 = 29)) 31 := by
    unfold insEr
    rw [r3, if_neg (by decide), nw_par, r4, hcnt]
    by_cases z : m2 = 29
    · subst z
      rw [if_pos (by decide)]
      rfl
    · rw [if_neg (by omega), if_neg (by omega), decide_eq_false z]
      rfl
  have hy1 : insY (chPg m2) 1 bx ((m2 : Int) + 1) re = chPg m2 := by unfold insY; rw [he1]
  have hsame : ∀ {c : Cn} {e : Sy} (z : Pg), z = chPg m2 → e[1]? = some (some (.r 2)) → e[4]? = some (some (.i (snapD (chPg m2)))) → EvT c e (shL C_Page C_History z) (tTest (tOp (rNeD c.K) (tMeth C_Page "snapshot" (spD c.K (R_Page_snapshot C_Page C_History)) [] E0 (tVar 1) tNil) (tVar 4))) false := fun {c e} z hz he h4 => by
    subst hz
    exact EvT.is (et_test (ex_neD (ex_methD (hpg (w := true) _ he) rfl ea_nil (R_Page_snapshot_i hS)) (ex_var h4) (shaped_snap hS) (shaped_snap hS))) (by rw [snap_self hS]; rfl)
  refine gs_ifW (P := fun os' b => os' = shL C_Page C_History (chPg m2) ∧ b = false) (etw_or (P1 := fun os' b => os' = shL C_Page C_History (chPg m2) ∧ b = false) (DL.etw_op (ew_ins rfl (ex_var rfl) ex_int (ex_var rfl) hp (by decide)) ?c1) (fun os' h => absurd h.2 (by decide)) (fun os' h => ?c2)) ?c3
  case c1 =>
    rintro v _ _ ⟨rfl, rfl⟩
    rw [hy1, he1]
    exact ⟨_, false, rfl, ⟨rfl, rfl⟩, EvT.is (et_test (ex_neD (ex_pin (List.mem_cons_self ..)) (ex_tup (ea_cons ex_str (ea_cons ex_int ea_nil)) (Nat.le_of_ble_eq_true rfl)) (by decide +kernel) (by decide +kernel))) (by decide +kernel)⟩
  case c2 =>
    obtain ⟨rfl, _⟩ := h
    exact etw_T (hsame _ rfl rfl rfl) ⟨rfl, rfl⟩
  case c3 =>
  rintro _ _ ⟨rfl, rfl⟩
  rw [if_neg (by decide)]
  refine g_nextU ?_
  refine gs_ifW (P := fun os' b => os' = shL C_Page C_History (insY (chPg m2) 0 bx ((m2 : Int) + 1) re) ∧ b = false) (DL.etw_op (ew_ins (i := 0) rfl (ex_var rfl) ex_int (ex_var rfl) hp (by decide)) ?d1) ?d2
  case d1 =>
    rintro v _ _ ⟨rfl, rfl⟩
    rw [he0]
    exact ⟨_, false, rfl, ⟨rfl, rfl⟩, EvT.is (et_test (ex_neD (ex_pin (List.mem_cons_self ..)) (ex_var rfl) (dueO_sh _ _) (dueO_sh _ _))) (by rw [eqv_self (dueO_sh _ _)]; rfl)⟩
  case d2 =>
  rintro _ _ ⟨rfl, rfl⟩
  rw [if_neg (by decide)]
  refine g_nextU ?_
  by_cases z : m2 = 29
  · have hd : dueO (decide (m2 = 29)) 31 = .tuple [.str "TooDeep", .int 31] := by rw [decide_eq_true z]; rfl
    have hy0 : insY (chPg m2) 0 bx ((m2 : Int) + 1) re = chPg m2 := by
      unfold insY insEr
      rw [r3, if_neg (by decide), nw_par, r4, if_pos (by omega)]
    rw [hd, hy0]
    exact gs_retM (em_x (P := fun d => d = .bool true) (EvX.is (ex_or (a := false) (b := true) (EvX.is (ex_eqS (ex_ixT (ds := [.str "TooDeep", .int 31]) (ex_var rfl) ex_int (atI_nat (j := 0) rfl)) ex_str) rfl) (fun _ => EvX.is (ex_eqD (ex_methD (hpg (w := true) _ rfl) rfl ea_nil (R_Page_snapshot_i hS)) (ex_var rfl) (shaped_snap hS) (shaped_snap hS)) (by rw [snap_self hS]))) rfl) rfl) hq rfl rfl (fun d e => ⟨rfl, e⟩)
  · have hd : dueO (decide (m2 = 29)) 31 = .tuple [.str "none", .int 0] := by rw [decide_eq_false z]; rfl
    rw [hd]
    exact gs_retM (em_x (P := fun d => d = .bool true) (EvX.is (ex_or (a := true) (b := false) (EvX.is (ex_eqS (ex_ixT (ds := [.str "none", .int 0]) (ex_var rfl) ex_int (atI_nat (j := 0) rfl)) ex_str) (congrArg PyData.bool (show (Str.ofString "none" == Str.ofString "none") = true by decide +kernel))) (fun h => nomatch h)) rfl) rfl) hq rfl rfl (fun d e => ⟨rfl, e⟩)
-- END _law_deep
theorem sc__law_moved : FnScope ["state", "page", "length", "last", "other", "first", "below", "k", "before", "depth", "due"] ["state"] (defScope s__law_moved) := ⟨rfl, rfl, rfl, by decide +kernel, rfl, by decide +kernel, by decide +kernel⟩
/-! Two chains, one is moved below the other. -/
theorem ch_root (m : Nat) (hm : m ≤ 29) : ∃ r1, (chPg m).t 1 = some r1 ∧ r1.box = true ∧ r1.par = 0 ∧ depth (chPg m).t 1 = 1 ∧ r1.kids = if m = 0 then [] else [2] := by
  have I := (chI m hm).1
  have hd := I.dep 1 rootR (by rw [pgN_t]; rfl)
  refine ⟨_, I.at0, ?_, ?_, hd.trans (pgN_depth 1 1), ?_⟩
  · split <;> rfl
  · split <;> rfl
  · split <;> rfl
def bR2 : Rw := bxR 1 bL2 (.tuple [])
def p2 (m : Nat) : Pg := insP (chPg m) 0 bR2
def p3 (m k : Nat) : Pg := lnP cL (p2 m) ((m : Int) + 2) k
theorem bR2_S : RwS bR2 := bx_S ⟨by decide +kernel, Nat.zero_le _⟩
theorem p2_ins (m : Nat) (hm : m ≤ 29) : ∃ r1, (chPg m).t 1 = some r1 ∧ InsOk (chPg m) 0 bR2 r1 := by
  obtain ⟨r1, h1, h2, h3, h4, _⟩ := ch_root m hm
  exact ⟨r1, h1, (chI m hm).1.s.ok, h1, h2, Nat.zero_le _, by show depth _ 1 + 1 ≤ 30; rw [h4]; decide, by rw [ch_count m hm]; omega, by rw [ch_done m hm]; omega, rfl, rfl⟩
theorem p2_last (m : Nat) (hm : m ≤ 29) : (p2 m).last = (m : Int) + 2 := by
  show (chPg m).last + 1 = _
  rw [ch_last m hm]; omega
theorem p3_I (m k : Nat) (hm : m ≤ 29) (hk : k ≤ 19) : LnI cL (p2 m) ((m : Int) + 2) bR2 2 k ∧ (k = 0 ∨ ∃ rp, InsOk (p3 m (k - 1)) 0 (bxR (curL (p2 m).last ((m : Int) + 2) (k - 1)) cL (.tuple [])) rp) := by
  obtain ⟨r1, h1, J⟩ := p2_ins m hm
  have hl := ch_last m hm
  have e : (m : Int) + 2 = (chPg m).last + 1 := by omega
  have hn := ins_new J
  have hd := (ins_depth J).2
  rw [← e] at hn hd
  refine lnI cL (p2 m) ((m : Int) + 2) bR2 2 ⟨by decide +kernel, Nat.zero_le _⟩ ((chI m hm).1.s.ins J bR2_S) hn rfl ?_ k (by omega) ?_ ?_
  · show depth (insP _ _ _).t _ = 2
    rw [hd]
    obtain ⟨r1, _, _, _, h4, _⟩ := ch_root m hm
    show depth (chPg m).t 1 + 1 = 2
    rw [h4]
  · show (sub (insP _ _ _).t 1).length + k ≤ 300
    rw [ins_count J, ch_count m hm]; omega
  · show (insP _ _ _).hs.done.length + k ≤ 4000
    rw [ins_done, ch_done m hm]; omega
/-- all that the move asks -/
structure P3 (m k : Nat) (r ro rq : Rw) : Prop where
  pre : MvPre (p3 m k) ((m : Int) + 2) ((m : Int) + 1) r ro rq
  s : PgS (p3 m k)
  tg : (tgR r.par ((m : Int) + 1) ro rq ((m : Int) + 2)).kids = []
  dq : depth (p3 m k).t ((m : Int) + 1) = m + 1
  dn : depth (p3 m k).t ((m : Int) + 2) = 2
  hg : hgT (p3 m k).t ((m : Int) + 2) = (k : Int) + 1
  bel : curL (p2 m).last ((m : Int) + 2) k ∈ sub (p3 m k).t ((m : Int) + 2)
  dbel : ∃ rb, (p3 m k).t (curL (p2 m).last ((m : Int) + 2) k) = some rb ∧ depth (p3 m k).t (curL (p2 m).last ((m : Int) + 2) k) = 2 + k
theorem p3_ok (m k : Nat) (hm : m ≤ 29) (hk : k ≤ 19) : ∃ r ro rq, P3 m k r ro rq := by
  have I := (p3_I m k hm hk).1
  obtain ⟨r1, h1, J⟩ := p2_ins m hm
  obtain ⟨rr, z1, z2, z3, z4, z5⟩ := ch_root m hm
  rw [h1] at z1
  cases z1
  obtain ⟨re, y1, y2, y3, y4⟩ := ch_end m hm
  have hl2 := p2_last m hm
  have hl := ch_last m hm
  obtain ⟨dep, W⟩ := I.s.ok.wf
  have eqP : lnP cL (p2 m) ((m : Int) + 2) k = p3 m k := rfl
  have hp1 : (p2 m).t 1 = some { r1 with kids := insL r1.kids 0 ((chPg m).last + 1) } := ins_par J
  -- rows
  have hro : (p3 m k).t 1 = some { r1 with kids := insL r1.kids 0 ((chPg m).last + 1) } := (I.old 1 (by omega) (by omega)).trans hp1
  have hr : (p3 m k).t ((m : Int) + 2) = some (if k = 0 then bR2 else { bR2 with kids := insL bR2.kids 0 ((p2 m).last + 1) }) := I.at0
  generalize hrr : (if k = 0 then bR2 else { bR2 with kids := insL bR2.kids 0 ((p2 m).last + 1) }) = r at hr
  have hrp : r.par = 1 := by rw [← hrr]; split <;> rfl
  have hrk : r.kids = if k = 0 then [] else [(m : Int) + 3] := by
    rw [← hrr]
    split
    · rfl
    · show [(p2 m).last + 1] = _
      rw [hl2]; congr 1
  have hq : ∃ rq, (p3 m k).t ((m : Int) + 1) = some rq ∧ rq.box = true ∧ (m ≠ 0 → rq.kids = []) ∧ (m = 0 → rq = { r1 with kids := insL r1.kids 0 ((chPg m).last + 1) }) := by
    by_cases zm : m = 0
    · subst zm
      exact ⟨_, hro, z2, fun q => absurd rfl q, fun _ => rfl⟩
    · refine ⟨re, ?_, y2, fun _ => y3, fun q => absurd q zm⟩
      refine (I.old ((m : Int) + 1) (by omega) (by omega)).trans ?_
      show (insP _ _ _).t _ = _
      rw [ins_old J (by show (m : Int) + 1 ≠ 1; omega) (by omega)]
      exact y1
  obtain ⟨rq, q1, q2, q3, q4⟩ := hq
  have chn : Chn (p3 m k).t ((m : Int) + 2) (k + 1) := fun j hj => by
    cases j with
    | zero =>
      refine ⟨r, by rw [show (m : Int) + 2 + ((0 : Nat) : Int) = (m : Int) + 2 by omega]; exact hr, ?_⟩
      rw [hrk]
      by_cases zk : k = 0
      · rw [if_pos zk, if_neg (by omega)]
      · rw [if_neg zk, if_pos (by omega)]; congr 1
    | succ j =>
      obtain ⟨ra, e1, e2⟩ := I.ch j (by omega)
      have e : (p2 m).last + 1 + (j : Int) = (m : Int) + 2 + ((j + 1 : Nat) : Int) := by omega
      rw [e] at e1 e2
      refine ⟨ra, e1, ?_⟩
      rw [e2]
      by_cases zk : j + 1 < k
      · rw [if_pos zk, if_pos (by omega)]
      · rw [if_neg zk, if_neg (by omega)]
  obtain ⟨s1, s2, s3⟩ := chn_sub W chn (k + 1) 0 (by omega) (by omega)
  have sg := chn_hg W chn (k + 1) 0 (by omega) (by omega)
  have e0 : (m : Int) + 2 + ((0 : Nat) : Int) = (m : Int) + 2 := by omega
  rw [e0] at s1 s2 s3 sg
  rw [eqP] at s1 s2 s3 sg
  have hcur : curL (p2 m).last ((m : Int) + 2) k = (m : Int) + 2 + ((k + 1 : Nat) : Int) - 1 := by
    unfold curL
    split
    · omega
    · omega
  have D := ins_depth J
  refine ⟨r, _, rq, ⟨I.s.ok, ?_, hr, by omega, by rw [hrp]; exact hro, q1, q2, fun z => ?_, ?_⟩, I.s, ?_, ?_, ?_, ?_, ?_, ?_⟩
  · show (lnP _ _ _ _).hs.done.length < 4000
    rw [I.done]
    show (insP _ _ _).hs.done.length + k < 4000
    rw [ins_done, ch_done m hm]; omega
  · have := s2 _ z; omega
  · rw [sg]; omega
  · unfold tgR
    rw [hrp]
    by_cases zm : m = 0
    · subst zm
      rw [if_pos (by decide)]
      unfold wo
      dsimp only
      rw [z5, if_pos rfl, hl]
      simp [insL]
    · rw [if_neg (by omega)]
      exact q3 zm
  · have hx : ∃ rx, (p2 m).t ((m : Int) + 1) = some rx := by
      by_cases zm : m = 0
      · subst zm; exact ⟨_, hp1⟩
      · refine ⟨re, ?_⟩
        show (insP _ _ _).t _ = _
        rw [ins_old J (by show (m : Int) + 1 ≠ 1; omega) (by omega)]
        exact y1
    obtain ⟨rx, hx⟩ := hx
    rw [← eqP, I.dep _ rx hx]
    show depth (insP _ _ _).t _ = _
    rw [D.1 _ _ y1]
    exact y4
  · have e : (m : Int) + 2 = (chPg m).last + 1 := by omega
    rw [← eqP, I.dep ((m : Int) + 2) bR2 (by rw [e]; exact ins_new J)]
    show depth (insP _ _ _).t _ = _
    rw [e, D.2]
    show depth (chPg m).t 1 + 1 = 2
    rw [z4]
  · rw [sg]; omega
  · rw [hcur]; exact s3
  · have : ∃ rb, (p3 m k).t (curL (p2 m).last ((m : Int) + 2) k) = some rb := by
      rw [hcur]
      obtain ⟨rb, e, _⟩ := sub_some W hr s3
      exact ⟨rb, e⟩
    obtain ⟨rb, e⟩ := this
    exact ⟨rb, e, I.cdep⟩
/-- what the law reads behind the move -/
theorem p3_moved {m k : Nat} {r ro rq : Rw} (hm : m ≤ 29) (hk : k ≤ 19) (P : P3 m k r ro rq) (M : MvOk (p3 m k).t ((m : Int) + 2) ((m : Int) + 1) r ro rq 0) (mk : Int) :
    PgOk (chP (p3 m k) (mvC ((m : Int) + 2) r ((m : Int) + 1) ro rq 0) mk) ∧ (chP (p3 m k) (mvC ((m : Int) + 2) r ((m : Int) + 1) ro rq 0) mk).t ((m : Int) + 2) = some { r with par := (m : Int) + 1 } ∧
    ∃ rb, (chP (p3 m k) (mvC ((m : Int) + 2) r ((m : Int) + 1) ro rq 0) mk).t (curL (p2 m).last ((m : Int) + 2) k) = some rb ∧ depth (chP (p3 m k) (mvC ((m : Int) + 2) r ((m : Int) + 1) ro rq 0) mk).t (curL (p2 m).last ((m : Int) + 2) k) = m + k + 2 := by
  obtain ⟨C, tree⟩ := mv_ok P.pre.ok P.pre.dn M mk
  obtain ⟨dep, W⟩ := P.pre.ok.wf
  have ht : (chP (p3 m k) (mvC ((m : Int) + 2) r ((m : Int) + 1) ro rq 0) mk).t = mvT (p3 m k).t ((m : Int) + 2) r ((m : Int) + 1) ro rq 0 := tree
  refine ⟨C.pg, ?_, ?_⟩
  · rw [ht]; unfold mvT setT; rw [if_pos rfl]
  · obtain ⟨rb, e1, e2⟩ := P.dbel
    obtain ⟨ry, e3, _⟩ := mv_to W M e1
    refine ⟨ry, by rw [ht]; exact e3, ?_⟩
    rw [ht, depth_eq (wf_mv W M) e3, if_pos P.bel]
    have d1 := P.dq
    have d2 := P.dn
    rw [depth_eq W M.qrow] at d1
    rw [depth_eq W M.row] at d2
    rw [depth_eq W e1] at e2
    omega
theorem call_injM {n n2 q q2 : Int} {i i2 : Nat} (h : ([.r 0, .i (.int n), .i (.int q), .i (.int (i : Int))] : List SV) = [.r 0, .i (.int n2), .i (.int q2), .i (.int (i2 : Int))]) : n2 = n ∧ q2 = q ∧ i2 = i := mv3_inj h
theorem ew_mov {CP CH : Addr} {c : Cn} {env : Sy} {t1 t2 t3 : TE} {E : XK} {z : Pg} {n q : Int} {i : Nat} {r ro rq : Rw} (he : env[1]? = some (some (.r 2))) (h1 : EvX false c env (shL CP CH z) t1 (.int n)) (h2 : EvX false c env (shL CP CH z) t2 (.int q)) (h3 : EvX false c env (shL CP CH z) t3 (.int (i : Int))) (hp : MvPre z n q r ro rq) (hi : i ≤ 1000) :
    EvWN c env (shL CP CH z) (tCall (spW c.K (shapeP CP CH) (shapeP CP CH) R__law_move) [] E (tCons (tVar 1) (tCons t1 (tCons t2 (tCons t3 tNil))))) (fun os' s => os' = shL CP CH (mvY z n q r ro rq i) ∧ s = .i (erO (mvEr z.t n q r ro rq i))) := by
  refine (ew_callW (f := fun i => 2 + i) (x := z) (ds := [.r 0, .i (.int n), .i (.int q), .i (.int (i : Int))]) (segW_pre (sh0 := shapeP CP CH) (sh1 := shapeP CP CH) [SO.nums, .stt 0] z (shapeP_ok CP CH z)) ?_ (EvAS.asG (eas_cons (show EvR _ _ _ _ _ from er_var he (by show 2 < 7; decide)) (eas_cons (show EvX false _ _ _ _ _ from h1) (eas_cons (show EvX false _ _ _ _ _ from h2) (eas_cons (show EvX false _ _ _ _ _ from h3) eas_nil))))) ⟨_, _, n, q, i, r, ro, rq, rfl, hp, hi, rfl, rfl⟩).imp ?_
  · intro s hs
    simp at hs
    rcases hs with rfl | rfl | rfl | rfl
    · show 0 < 5; decide
    · exact True.intro
    · exact True.intro
    · exact True.intro
  · rintro _ _ ⟨_, _, ⟨n2, q2, i2, r2, ro2, rq2, e1, hp2, _, rfl, rfl⟩, _, rfl, rfl⟩
    obtain ⟨rfl, rfl, rfl⟩ := call_injM e1
    have a1 := hp2.row
    rw [hp.row] at a1
    cases a1
    have a2 := hp2.orow
    rw [hp.orow] at a2
    cases a2
    have a3 := hp2.qrow
    rw [hp.qrow] at a3
    cases a3
    exact ⟨rfl, rfl⟩
def R__law_moved : List PyData → PyData → Prop := fun ds d => ds = [] ∧ d = .bool true
theorem R__law_moved_i : ∃ d, R__law_moved [] d := ⟨_, rfl, rfl⟩
local macro_rules | `(tactic| walk_at "r2") => `(tactic| exact R__law_moved_i)
theorem R__law_moved_len : ∀ ds d, R__law_moved ds d → ds.length = 0 := by
  intro ds d hh
  unfold R__law_moved at hh
  repeat (obtain ⟨_, hh⟩ := hh)
  subst_eqs
  rfl
theorem ok__law_moved {P : Program} {w : World} {K : PySem.W.Frag} {mg : Str → Option Value} {base : Heap} {f : Addr} {fd : FuncData} (F : FnP K "_law_moved" s__law_moved f fd) (g0 : mg "_law_moved" = some (.ref f)) {C_History : Addr} (kC_History : Cls K C_History) (n_History_cells : NoAttr K C_History "cells") (n_History__done : NoAttr K C_History "_done") (n_History__undone : NoAttr K C_History "_undone") {C_Page : Addr} (kC_Page : Cls K C_Page) (n_Page_width : NoAttr K C_Page "width") (n_Page_height : NoAttr K C_Page "height") (n_Page__last_id : NoAttr K C_Page "_last_id") (n_Page__moment : NoAttr K C_Page "_moment") (n_Page__marked : NoAttr K C_Page "_marked") (n_Page__history : NoAttr K C_Page "_history") {f_I : Addr} {C_BadPlace : Addr} (g_BadPlace : mg "BadPlace" = some (.ref C_BadPlace)) (e_BadPlace : DL.ErC K C_BadPlace f_I) {C_TooDeep : Addr} (g_TooDeep : mg "TooDeep" = some (.ref C_TooDeep)) (e_TooDeep : DL.ErC K C_TooDeep f_I) {C_TooMany : Addr} (g_TooMany : mg "TooMany" = some (.ref C_TooMany)) (e_TooMany : DL.ErC K C_TooMany f_I) (h_Page___init__ : DL.MakN P w K mg base 4 "Page" C_Page ["self", "width", "height"] (DL.spK K 1 5 (fun _ : Unit => [SO.ob C_Page []]) (shapeP C_Page C_History) R_Page___init__)) (h__law_next : Cal P w K mg base 1 "_law_next" ["state", "many"] (DL.spM K  R__law_next)) (h__law_chain : Cal P w K mg base 6 "_law_chain" ["page", "length"] (DL.spW K (shapeP C_Page C_History) (shapeP C_Page C_History) R__law_chain)) (ke_Page_insert_box_marks : ∀ N H, Dn K N H (.ref (DL.kwAt ("Page", some "insert_box") "marks" K)) (.tuple [])) (h_Page_insert_box : DL.MetXQ P w K mg base 5 C_Page "insert_box" ["self", "parent", "index", "name", "marks"] (DL.spWX K (shapeP C_Page C_History) (shapeP C_Page C_History) R_Page_insert_box (B_Page_insert_box C_BadPlace C_TooDeep C_TooMany)) [(4, [], [("marks", .ref (DL.kwAt ("Page", some "insert_box") "marks" K))])]) (h_Page_snapshot : DL.MetP P w K mg base 3 C_Page "snapshot" ["self"] (spD K  (R_Page_snapshot C_Page C_History))) (h__law_move : Cal P w K mg base 34 "_law_move" ["page", "node", "parent", "index"] (DL.spW K (shapeP C_Page C_History) (shapeP C_Page C_History) R__law_move)) (h_Page_parent : DL.MetP P w K mg base 3 C_Page "parent" ["self", "node"] (spD K  (R_Page_parent C_Page C_History))) (h_Page_depth : DL.MetP P w K mg base 3 C_Page "depth" ["self", "node"] (spD K  (R_Page_depth C_Page C_History))) (z_range : mg "range" = none) : Cal P w K mg base 35 "_law_moved" ["state"] (DL.spM K  R__law_moved) := by
  refine cal_mk F sc__law_moved g0 (DL.spM_len R__law_moved_len) (fun _ _ _ _ _ _ us hl => match us, hl with | [_], _ => rfl) (fun cdv A outer s H vs Q E hr h => ⟨_,
    (pss_cons (ps_set (i := 1) sc__law_moved.nd rfl (by first | exact Or.inl rfl | exact Or.inr rfl) (DL.pe_makN h_Page___init__ hr (by decide) (by rfl) pass0 (pa_cons pe_int (pa_cons pe_int pa_nil))))
     (pss_cons (ps_set (i := 2) sc__law_moved.nd rfl (by first | exact Or.inl rfl | exact Or.inr rfl) (DL.pe_cal h__law_next hr (by decide) (by rfl) pass0 (pa_cons (pv 0) (pa_cons pe_int pa_nil))))
     (pss_cons (ps_set (i := 3) sc__law_moved.nd rfl (by first | exact Or.inl rfl | exact Or.inr rfl) (DL.pe_cal h__law_chain hr (by decide) (by rfl) pass0 (pa_cons (pv 1) (pa_cons (pv 2) pa_nil))))
     (pss_cons (ps_set (i := 4) sc__law_moved.nd rfl (by first | exact Or.inl rfl | exact Or.inr rfl) (pe_op op_add pe_int (DL.pe_cal h__law_next hr (by decide) (by rfl) pass0 (pa_cons (pv 0) (pa_cons pe_int pa_nil)))))
     (pss_cons (ps_set (i := 5) sc__law_moved.nd rfl (by first | exact Or.inl rfl | exact Or.inr rfl) (DL.pe_metXQ0 h_Page_insert_box (List.mem_of_getElem? (i := 0) (a := ((4, [], [("marks", .ref (DL.kwAt ("Page", some "insert_box") "marks" K))]) : DL.CForm)) rfl) hr (by decide) (pv 1) (pa_cons pe_int (pa_cons pe_int (pa_cons pe_str pa_nil))) pk_nil))
     (pss_cons (ps_set (i := 6) sc__law_moved.nd rfl (by first | exact Or.inl rfl | exact Or.inr rfl) (pv 5))
     (pss_cons (ps_for PassesOwn.never rfl (pi_range1 (by rfl) z_range (pa_cons (pe_op op_sub (pv 4) pe_int) pa_nil)) (pg_name (i := 7) sc__law_moved.nd rfl (by first | exact Or.inl rfl | exact Or.inr rfl))
     (pss_cons (ps_set (i := 6) sc__law_moved.nd rfl (by first | exact Or.inl rfl | exact Or.inr rfl) (DL.pe_metXQ0 h_Page_insert_box (List.mem_of_getElem? (i := 0) (a := ((4, [], [("marks", .ref (DL.kwAt ("Page", some "insert_box") "marks" K))]) : DL.CForm)) rfl) hr (by decide) (pv 1) (pa_cons (pv 6) (pa_cons pe_int (pa_cons pe_str pa_nil))) pk_nil))
     pss_nil))
     (pss_cons (ps_set (i := 8) sc__law_moved.nd rfl (by first | exact Or.inl rfl | exact Or.inr rfl) (DL.pe_metP0 h_Page_snapshot hr (by decide) pass0 (pv 1)))
     (pss_cons (ps_set (i := 9) sc__law_moved.nd rfl (by first | exact Or.inl rfl | exact Or.inr rfl) (pe_op op_add (pe_op op_add pe_int (pv 2)) (pv 4)))
     (pss_cons (ps_set (i := 10) sc__law_moved.nd rfl (by first | exact Or.inl rfl | exact Or.inr rfl) (pe_ifExp (pt_cmpR op_gt (pv 9) pe_int (nomark _)) (pe_tup (pa_cons pe_str (pa_cons (pv 9) pa_nil))) (pe_tup (pa_cons pe_str (pa_cons pe_int pa_nil)))))
     (pss_cons (ps_if (PW.pt (pw_or (pt_cmpR (DL.kNeD (K := K) hr.units) (DL.pe_cal h__law_move hr (by decide) (by rfl) pass0 (pa_cons (pv 1) (pa_cons (pv 5) (pa_cons (pv 3) (pa_cons pe_int pa_nil))))) (pe_tup (pa_cons pe_str (pa_cons pe_int pa_nil))) (nomark _)) (pw_or1 (pt_cmpR (DL.kNeD (K := K) hr.units) (DL.pe_metP0 h_Page_snapshot hr (by decide) pass0 (pv 1)) (pv 8) (nomark _)))))
     (pss_cons (ps_ret pe_bl)
     pss_nil)
     pss_nil)
     (pss_cons (ps_if (pt_cmpR (DL.kNeD (K := K) hr.units) (DL.pe_cal h__law_move hr (by decide) (by rfl) pass0 (pa_cons (pv 1) (pa_cons (pv 5) (pa_cons (pv 3) (pa_cons pe_int pa_nil))))) (pv 10) (nomark _))
     (pss_cons (ps_ret pe_bl)
     pss_nil)
     pss_nil)
     (pss_cons (ps_if (pt_cmpR op_ne (pe_ix (DL.kIxT (K := K)) (pv 10) pe_int (fun _ _ => rfl)) pe_str (nomark _))
     (pss_cons (ps_ret (pe_cmpR (DL.kEqD (K := K) hr.units) (DL.pe_metP0 h_Page_snapshot hr (by decide) pass0 (pv 1)) (pv 8) (nomark _)))
     pss_nil)
     pss_nil)
     (pss_cons (ps_ret (pe_and (pe_cmpR op_eq (DL.pe_metP h_Page_parent hr (by decide) pass0 (pv 1) (pa_cons (pv 5) pa_nil)) (pv 3) (nomark _)) (pe_one (pe_cmpR op_eq (DL.pe_metP h_Page_depth hr (by decide) pass0 (pv 1) (pa_cons (pv 6) pa_nil)) (pv 9) (nomark _)))))
     pss_nil)))))))))))))), ?_⟩)
  refine DL.run_spM h (List.cons_ne_nil _ _) fun N s b ds hR hq => ?_
  obtain ⟨d0, rfl, rfl⟩ := hR
  simp only [DL.env1]
  walk_at "env"
  refine gs_asgGN (egn_makeN (f := fun i => 2 + i) (x := ()) (ds := [.i (.int 1), .i (.int 1)]) (os2 := [SO.nums, .stt 0]) (G := fun y => [SO.nums, .stt 0] ++ (shapeP C_Page C_History y).map (reS fun i => 2 + i)) (EvAS.asG (eas_cons (show EvX false _ _ _ _ _ from ex_int) (eas_cons (show EvX false _ _ _ _ _ from ex_int) eas_nil))) rfl (by decide) (by intro s hs; simp at hs; rw [hs]; exact True.intro) (segPgF C_Page C_History) ⟨_, 1, 1, by decide, by decide, by decide, by decide, rfl, rfl⟩) ?_
  rintro k os' ⟨rfl, y, ⟨w, h, _, _, _, _, e1, rfl⟩, rfl⟩
  cases e1
  walk_at "nf"
  refine gs_is (env' := [some (.r 1), some (.r 2), none, none, none, none, none, none, none, none, none]) (os' := shL C_Page C_History (pgN 1 1)) rfl rfl ?_
  refine gs_asgM (drawL (ks := 1) (ki := 0) rfl rfl rfl (ea_cons ex_int ea_nil) (by decide) (by decide)) fun d hd => ?_
  obtain ⟨m, rfl, hm⟩ := hd
  have hm : m ≤ 29 := by omega
  walk_at "nf"
  refine gs_asgW (ew_callW (f := fun i => 2 + i) (x := pgN 1 1) (ds := [.r 0, .i (.int (m : Int))]) (segW_pre (sh0 := shapeP C_Page C_History) (sh1 := shapeP C_Page C_History) [SO.nums, .stt 0] (pgN 1 1) (shapeP_ok C_Page C_History _)) ?a1 (EvAS.asG (eas_cons (show EvR _ _ _ _ _ from er_var rfl (by show 2 < 7; decide)) (eas_cons (show EvX false _ _ _ _ _ from ex_var rfl) eas_nil))) ⟨_, _, m, hm, rfl, rfl, rfl, rfl⟩) ?_
  case a1 =>
    intro s hs
    simp at hs
    rcases hs with rfl | rfl
    · show 0 < 5; decide
    · exact True.intro
  rintro _ _ ⟨_, _, ⟨m2, _, _, e1, rfl, rfl⟩, _, rfl, rfl⟩
  have e1 : m2 = m := by
    injection e1 with _ e1
    injection e1 with e1 _
    injection e1 with e1
    injection e1 with e1
    exact (Int.ofNat.inj e1).symm
  subst e1
  walk_at "nf"
  have hpg : ∀ {w : Bool} {c : Cn} {e : Sy} (z : Pg), e[1]? = some (some (.r 2)) → EvX true c e (shL C_Page C_History z) (tVar 1) (pgD C_Page C_History z) := fun z he => ex_dat (er_var he (by rw [shL_len]; decide)) (shL_pg _ _ z)
  refine gs_is (env' := [some (.r 1), some (.r 2), some (.i (.int (m2 : Int))), some (.i (.int ((m2 : Int) + 1))), none, none, none, none, none, none, none]) (os' := shL C_Page C_History (chPg m2)) rfl rfl ?_
  refine gs_asgM (P := fun d => ∃ j : Nat, d = .int ((j : Int) + 1) ∧ j ≤ 19) (em_op2 (drawL (ks := 1) (ki := 0) rfl rfl rfl (ea_cons ex_int ea_nil) (by decide) (by decide)) fun v d hd => ?b1) fun d hd => ?_
  case b1 =>
    obtain ⟨j, rfl, hj⟩ := hd
    exact em_x (ex_i2 ex_int (ex_pin (List.mem_cons_self ..))) ⟨j, congrArg PyData.int (Int.add_comm ..), by omega⟩
  obtain ⟨kk, rfl, hkk⟩ := hd
  walk_at "nf"
  obtain ⟨r1, h1, J⟩ := p2_ins m2 hm
  have hl := ch_last m2 hm
  have hl2 := p2_last m2 hm
  -- a method that inserts a box
  have hins : ∀ {c : Cn} {e : Sy} {t1 t2 t3 : TE} {z : Pg} {n : Int} {l : List Nat} {rp : Rw}, c.K = K → e[1]? = some (some (.r 2)) → EvX false c e (shL C_Page C_History z) t1 (.int n) → EvX false c e (shL C_Page C_History z) t2 (.int ((0 : Nat) : Int)) → EvX false c e (shL C_Page C_History z) t3 (dT l) → InsOk z 0 (bxR n l (.tuple [])) rp → isW l →
      EvWN c e (shL C_Page C_History z) (tMethN C_Page "insert_box" 3 0 (DL.spWX K (shapeP C_Page C_History) (shapeP C_Page C_History) R_Page_insert_box (B_Page_insert_box C_BadPlace C_TooDeep C_TooMany)) (fun vs zs => vs ++ (zs ++ [(("marks" : Str), (V.ref (DL.kwAt ("Page", some "insert_box") "marks" K)))].map (·.2))) E0 (tVar 1) (tCons t1 (tCons t2 (tCons t3 tNil))) tNil) (fun os' s => os' = shL C_Page C_History (insP z 0 (bxR n l (.tuple []))) ∧ s = .i (.int (z.last + 1))) := fun {c e t1 t2 t3 z n l rp} hK he h1 h2 h3 I hw => by
    subst hK
    refine (DL.ew_methWXQ0 (k := 0) (f := fun i => 2 + i) (ds := [.i (.int n), .i (.int ((0 : Nat) : Int)), .i (dT l)]) (es := []) (dd := [.tuple []]) (x := z) (segW_pre (sh0 := shapeP C_Page C_History) (sh1 := shapeP C_Page C_History) [SO.nums, .stt 0] z (shapeP_ok C_Page C_History z)) (er_var he (by show 2 < 7; decide)) rfl rfl (by show 0 < 5; decide) (by intro s hs; simp at hs; rcases hs with rfl | rfl | rfl <;> exact True.intro) (eas_cons (show EvX false _ _ _ _ _ from h1) (eas_cons (show EvX false _ _ _ _ _ from h2) (eas_cons (show EvX false _ _ _ _ _ from h3) eas_nil))) eas_nil (fun N H => .cons (ke_Page_insert_box_marks N H) .nil) rfl rfl ⟨_, _, n, 0, l, rfl, ⟨rp, I⟩, hw, rfl, rfl⟩).imp ?_
    rintro _ _ ⟨_, _, ⟨n2, i2, l2, e1, _, _, rfl, rfl⟩, _, rfl, rfl⟩
    obtain ⟨rfl, rfl, rfl⟩ := box_inj e1
    exact ⟨rfl, rfl⟩
  refine gs_asgW (hins (n := 1) (l := bL2) rfl rfl ex_int ex_int (ex_txt (l := bL2) (by decide +kernel)) J bW2) ?_
  rintro _ _ ⟨rfl, rfl⟩
  walk_at "nf"
  rw [show (chPg m2).last + 1 = (m2 : Int) + 2 by omega]
  refine gs_asg (d := .int ((m2 : Int) + 2)) (ex_var rfl) ?_
  walk_at "nf"
  refine gs_is (env' := [some (.r 1), some (.r 2), some (.i (.int (m2 : Int))), some (.i (.int ((m2 : Int) + 1))), some (.i (.int ((kk : Int) + 1))), some (.i (.int ((m2 : Int) + 2))), some (.i (.int (curL (p2 m2).last ((m2 : Int) + 2) 0))), none, none, none, none]) (os' := shL C_Page C_History (p3 m2 0)) rfl rfl ?_
  refine gs_for (n := kk) (fun k => [some (.r 1), some (.r 2), some (.i (.int (m2 : Int))), some (.i (.int ((m2 : Int) + 1))), some (.i (.int ((kk : Int) + 1))), some (.i (.int ((m2 : Int) + 2))), some (.i (.int (curL (p2 m2).last ((m2 : Int) + 2) k))), none, none, none, none]) (fun k => shL C_Page C_History (p3 m2 k)) (EvW.is (ew_range1 (n := (kk : Int) + 1 - 1) (ea_cons (ex_i2 (ex_var rfl) ex_int) ea_nil) ⟨by omega, by omega⟩) (by omega)) (fun c' _ ad σ H ok => ok) (fun _ _ => True.intro) (fun fr up k hk => ⟨_, _, tg_name, ?c1⟩) ?d1
  case c1 =>
    walk_at "nf"
    obtain ⟨rp, I⟩ := (p3_I m2 (k + 1) hm (by omega)).2.resolve_left (by omega)
    have I : InsOk (p3 m2 k) 0 (bxR (curL (p2 m2).last ((m2 : Int) + 2) k) cL (.tuple [])) rp := I
    have hl3 : (p3 m2 k).last = (p2 m2).last + k := (p3_I m2 k hm (by omega)).1.last
    refine gs_asgW (hins (n := curL (p2 m2).last ((m2 : Int) + 2) k) (l := cL) rfl rfl (ex_var rfl) ex_int (ex_txt (l := cL) (by decide +kernel)) I cW) ?_
    rintro _ _ ⟨rfl, rfl⟩
    walk_at "nf"
    have e : (p3 m2 k).last + 1 = curL (p2 m2).last ((m2 : Int) + 2) (k + 1) := by unfold curL; rw [if_neg (by omega)]; omega
    refine g_next fun ad σ H ok => ⟨ad, ?_⟩
    have ok := ok
    rw [e] at ok
    exact ok.weak (by simp [WkE]) (WkO.refl _) (by simp [EnLt, SvLt, shL_len]) (shL_lt C_Page C_History (p3 m2 (k + 1))) (by show 7 ≤ 7; decide)
  case d1 =>
  obtain ⟨r, ro, rq, P⟩ := p3_ok m2 kk hm hkk
  have hS := P.s
  have hdl : depth (p3 m2 kk).t ((m2 : Int) + 1) = m2 + 1 := P.dq
  have hhg := P.hg
  refine gs_asg (d := snapD (p3 m2 kk)) (EvX.strong (snap_nl hS) (ex_methD (hpg (w := true) _ rfl) rfl ea_nil (R_Page_snapshot_i hS))) ?_
  walk_at "nf"
  refine gs_asg (d := .int (1 + (m2 : Int) + ((kk : Int) + 1))) (ex_i2 (ex_i2 ex_int (ex_var rfl)) (ex_var rfl)) ?_
  walk_at "nf"
  refine gs_asg (d := dueO (decide ((m2 : Int) + kk + 2 > 30)) (1 + (m2 : Int) + ((kk : Int) + 1))) (EvX.strong (dueO_nl _ _) (ex_if (b := decide ((m2 : Int) + kk + 2 > 30)) (EvT.is (et_test (ex_b2 (ex_var rfl) ex_int)) (decide_eq_decide.mpr (by omega))) (fun hb => EvX.is (ex_tup (ea_cons ex_str (ea_cons (ex_var rfl) ea_nil)) (Nat.le_of_ble_eq_true rfl)) (by rw [hb]; rfl)) (fun hb => EvX.is (ex_tup (ea_cons ex_str (ea_cons ex_int ea_nil)) (Nat.le_of_ble_eq_true rfl)) (by rw [hb]; rfl)))) ?_
  walk_at "nf"
  have he1 : mvEr (p3 m2 kk).t ((m2 : Int) + 2) ((m2 : Int) + 1) r ro rq 1 = some (.place, .int 1) := by unfold mvEr; rw [P.tg, if_pos (by decide)]; rfl
  have he0 : erO (mvEr (p3 m2 kk).t ((m2 : Int) + 2) ((m2 : Int) + 1) r ro rq 0) = dueO (decide ((m2 : Int) + kk + 2 > 30)) (1 + (m2 : Int) + ((kk : Int) + 1)) := by
    unfold mvEr
    rw [P.tg, if_neg (by decide), hdl, hhg]
    by_cases z : (m2 : Int) + kk + 2 > 30
    · rw [if_pos (by omega), decide_eq_true z]
      show PyData.tuple [_, .int _] = PyData.tuple [_, .int _]
      rw [show (((m2 + 1 : Nat) : Int) + ((kk : Int) + 1)) = 1 + (m2 : Int) + ((kk : Int) + 1) by omega]
      rfl
    · rw [if_neg (by omega), decide_eq_false z]
      rfl
  have hy1 : mvY (p3 m2 kk) ((m2 : Int) + 2) ((m2 : Int) + 1) r ro rq 1 = p3 m2 kk := by unfold mvY; rw [he1]
  refine gs_ifW (P := fun os' b => os' = shL C_Page C_History (p3 m2 kk) ∧ b = false) (etw_or (P1 := fun os' b => os' = shL C_Page C_History (p3 m2 kk) ∧ b = false) (DL.etw_op (ew_mov (i := 1) rfl (ex_var rfl) (ex_var rfl) ex_int P.pre (by decide)) ?e1) (fun os' h => absurd h.2 (by decide)) (fun os' h => ?e2)) ?e3
  case e1 =>
    rintro v _ _ ⟨rfl, rfl⟩
    rw [hy1, he1]
    exact ⟨_, false, rfl, ⟨rfl, rfl⟩, EvT.is (et_test (ex_neD (ex_pin (List.mem_cons_self ..)) (ex_tup (ea_cons ex_str (ea_cons ex_int ea_nil)) (Nat.le_of_ble_eq_true rfl)) (by decide +kernel) (by decide +kernel))) (by decide +kernel)⟩
  case e2 =>
    obtain ⟨rfl, _⟩ := h
    exact etw_T (EvT.is (et_test (ex_neD (ex_methD (hpg (w := true) _ rfl) rfl ea_nil (R_Page_snapshot_i hS)) (ex_var rfl) (shaped_snap hS) (shaped_snap hS))) (by rw [snap_self hS]; rfl)) ⟨rfl, rfl⟩
  case e3 =>
  rintro _ _ ⟨rfl, rfl⟩
  rw [if_neg (by decide)]
  refine g_nextU ?_
  refine gs_ifW (P := fun os' b => os' = shL C_Page C_History (mvY (p3 m2 kk) ((m2 : Int) + 2) ((m2 : Int) + 1) r ro rq 0) ∧ b = false) (DL.etw_op (ew_mov (i := 0) rfl (ex_var rfl) (ex_var rfl) ex_int P.pre (by decide)) ?f1) ?f2
  case f1 =>
    rintro v _ _ ⟨rfl, rfl⟩
    rw [he0]
    exact ⟨_, false, rfl, ⟨rfl, rfl⟩, EvT.is (et_test (ex_neD (ex_pin (List.mem_cons_self ..)) (ex_var rfl) (dueO_sh _ _) (dueO_sh _ _))) (by rw [eqv_self (dueO_sh _ _)]; rfl)⟩
  case f2 =>
  rintro _ _ ⟨rfl, rfl⟩
  rw [if_neg (by decide)]
  refine g_nextU ?_
  by_cases z : (m2 : Int) + kk + 2 > 30
  · have hd : dueO (decide ((m2 : Int) + kk + 2 > 30)) (1 + (m2 : Int) + ((kk : Int) + 1)) = .tuple [.str "TooDeep", .int (1 + (m2 : Int) + ((kk : Int) + 1))] := by rw [decide_eq_true z]; rfl
    have hy0 : mvY (p3 m2 kk) ((m2 : Int) + 2) ((m2 : Int) + 1) r ro rq 0 = p3 m2 kk := by
      unfold mvY mvEr
      rw [P.tg, if_neg (by decide), hdl, hhg, if_pos (by omega)]
    rw [hd, hy0]
    refine gs_if (b := true) (EvT.is (et_test (ex_neS (ex_ixT (ds := [.str "TooDeep", .int (1 + (m2 : Int) + ((kk : Int) + 1))]) (ex_var rfl) ex_int (atI_nat (j := 0) rfl)) ex_str)) (by decide +kernel)) (fun _ => ?g1) (fun h => nomatch h)
    exact gs_retM (em_x (P := fun d => d = .bool true) (EvX.is (ex_eqD (ex_methD (hpg (w := true) _ rfl) rfl ea_nil (R_Page_snapshot_i hS)) (ex_var rfl) (shaped_snap hS) (shaped_snap hS)) (by rw [snap_self hS])) rfl) hq rfl rfl (fun d e => ⟨rfl, e⟩)
  · have hd : dueO (decide ((m2 : Int) + kk + 2 > 30)) (1 + (m2 : Int) + ((kk : Int) + 1)) = .tuple [.str "none", .int 0] := by rw [decide_eq_false z]; rfl
    have hno : mvEr (p3 m2 kk).t ((m2 : Int) + 2) ((m2 : Int) + 1) r ro rq 0 = none := by
      unfold mvEr
      rw [P.tg, if_neg (by decide), hdl, hhg, if_neg (by omega)]
    have hy0 : mvY (p3 m2 kk) ((m2 : Int) + 2) ((m2 : Int) + 1) r ro rq 0 = chP (p3 m2 kk) (mvC ((m2 : Int) + 2) r ((m2 : Int) + 1) ro rq 0) ((m2 : Int) + 2) := by unfold mvY; rw [hno]
    obtain ⟨okM, rowM, rb, belM, depM⟩ := p3_moved hm hkk P (P.pre.ok_ hno) ((m2 : Int) + 2)
    rw [hd, hy0]
    refine gs_if (b := false) (EvT.is (et_test (ex_neS (ex_ixT (ds := [.str "none", .int 0]) (ex_var rfl) ex_int (atI_nat (j := 0) rfl)) ex_str)) (by decide +kernel)) (fun h => nomatch h) (fun _ => g_nextU ?g2)
    case g2 =>
      exact gs_retM (em_x (P := fun d => d = .bool true) (EvX.is (ex_and (a := true) (b := true) (EvX.is (ex_eqI (ex_methD (hpg (w := true) _ rfl) rfl (ea_cons (ex_var rfl) ea_nil) (R_Page_parent_i ((tr_get okM.rows).mp rowM))) (ex_var rfl)) (congrArg PyData.bool (decide_eq_true rfl))) (fun _ => EvX.is (ex_eqI (ex_methD (hpg (w := true) _ rfl) rfl (ea_cons (ex_var rfl) ea_nil) (R_Page_depth_i okM belM)) (ex_var rfl)) (congrArg PyData.bool (decide_eq_true (by rw [depM]; omega))))) rfl) rfl) hq rfl rfl (fun d e => ⟨rfl, e⟩)
-- END _law_moved
theorem sc__law_many : FnScope ["state", "page", "last", "count", "k", "boxed", "before", "due"] ["state"] (defScope s__law_many) := ⟨rfl, rfl, rfl, by decide +kernel, rfl, by decide +kernel, by decide +kernel⟩
/-! Many nodes. -/
structure RtS (p : Pg) (c : Nat) (l : Int) (d : Nat) : Prop where
  s : PgS p
  cnt : (sub p.t 1).length = c
  last : p.last = l
  dn : p.hs.done.length = d
  root : ∃ r1, p.t 1 = some r1 ∧ r1.box = true
section
variable {p : Pg} {c d : Nat} {l : Int}
theorem RtS.dep1 (h : RtS p c l d) : depth p.t 1 = 1 := by
  obtain ⟨dep, W⟩ := h.s.ok.wf
  obtain ⟨r1, e, _⟩ := h.root
  rw [depth_eq W e, W.d1]
theorem RtS.ins (h : RtS p c l d) (hc : c < 300) (hd : d < 4000) {r : Rw} (hr : RwS r) (hp : r.par = 1) (hk : r.kids = []) (hn : noList r.d = true) : ∃ r1, InsOk p 0 r r1 ∧ RtS (insP p 0 r) (c + 1) (l + 1) (d + 1) := by
  obtain ⟨r1, e, hb⟩ := h.root
  have I : InsOk p 0 r r1 := ⟨h.s.ok, by rw [hp]; exact e, hb, Nat.zero_le _, by rw [hp, h.dep1]; decide, by rw [h.cnt]; omega, by rw [h.dn]; exact hd, hk, hn⟩
  refine ⟨r1, I, h.s.ins I hr, by rw [ins_count I, h.cnt], by show p.last + 1 = _; rw [h.last], by rw [ins_done, h.dn], ?_⟩
  have := ins_par I
  rw [hp] at this
  exact ⟨_, this, hb⟩
theorem RtS.rm (h : RtS p c l d) {n : Int} {r ro : Rw} (M : RmOk p n r ro) {k : Nat} (hk : (sub p.t n).length = k) : RtS (rmP p n r ro) (c - k) l (d + 1) := by
  have h1 := M.count
  obtain ⟨dep, W⟩ := (h.s.rm M).ok.wf
  obtain ⟨r1, g1, _, g3⟩ := W.root
  refine ⟨h.s.rm M, by rw [h.cnt, hk] at h1; omega, h.last, by rw [RmOk.dlen, h.dn], r1, g1, g3⟩
end
/-- the chain of 29 stands in p -/
def C29 (p : Pg) : Prop := ∀ x : Int, 2 ≤ x → x ≤ 30 → p.t x = (chPg 29).t x
def mnPg : Nat → Pg
  | 0 => chPg 29
  | k + 1 => insP (mnPg k) 0 (txR 1 [])
theorem tx1_S : RwS (txR 1 []) := tx_S ⟨by decide +kernel, Nat.zero_le _⟩
theorem mn_ok : ∀ k : Nat, k ≤ 270 → RtS (mnPg k) (30 + k) (30 + (k : Int)) (29 + k) ∧ C29 (mnPg k) ∧ depth (mnPg k).t 30 = 30 ∧ (k = 0 ∨ ((mnPg k).t (30 + (k : Int)) = some (txR 1 []) ∧ ∃ r1, InsOk (mnPg (k - 1)) 0 (txR 1 []) r1))
  | 0, _ => by
    obtain ⟨r1, h1, h2, _, h4, _⟩ := ch_root 29 (by omega)
    obtain ⟨re, e1, e2, e3, e4⟩ := ch_end 29 (by omega)
    refine ⟨⟨(chI 29 (by omega)).1.s, ch_count 29 (by omega), ch_last 29 (by omega), ch_done 29 (by omega), r1, h1, h2⟩, fun _ _ _ => rfl, e4, Or.inl rfl⟩
  | k + 1, hk => by
    obtain ⟨h, hc, hd, _⟩ := mn_ok k (by omega)
    obtain ⟨r1, I, h2⟩ := h.ins (by omega) (by omega) tx1_S rfl rfl rfl
    have hl := h.last
    obtain ⟨D1, _⟩ := ins_depth I
    obtain ⟨re, e1, _⟩ := ch_end 29 (by omega)
    have e30 : (mnPg k).t 30 = some re := (hc 30 (by omega) (by omega)).trans e1
    refine ⟨⟨h2.s, by have := h2.cnt; show (sub (insP _ _ _).t 1).length = _; omega, by have := h2.last; show (insP _ _ _).last = _; rw [this]; omega, by have := h2.dn; show (insP _ _ _).hs.done.length = _; omega, h2.root⟩, fun x a b => ?_, ?_, Or.inr ⟨?_, r1, I⟩⟩
    · show (insP _ _ _).t x = _
      rw [ins_old I (by show x ≠ 1; omega) (by omega)]
      exact hc x a b
    · show depth (insP _ _ _).t 30 = 30
      rw [D1 30 re e30]; exact hd
    · have := ins_new I
      rw [hl] at this
      rw [show 30 + ((k + 1 : Nat) : Int) = 30 + (k : Int) + 1 by omega]
      exact this
theorem c29_row (x : Nat) (h1 : 2 ≤ x) (h2 : x ≤ 30) : ∃ r, (chPg 29).t (x : Int) = some r ∧ r.kids = if x < 30 then [(x : Int) + 1] else [] := by
  obtain ⟨r, e, hk⟩ := (chI 29 (by omega)).1.ch (x - 2) (by omega)
  have q : (pgN 1 1).last + 1 + ((x - 2 : Nat) : Int) = (x : Int) := by show (1 : Int) + 1 + _ = _; omega
  rw [q] at e hk
  refine ⟨r, e, ?_⟩
  rw [hk]
  by_cases z : x < 30
  · rw [if_pos z, if_pos (by omega)]
  · rw [if_neg z, if_neg (by omega)]
/-- 20 and what is below it -/
theorem c29_rm {p : Pg} {c d : Nat} {l : Int} (h : RtS p c l d) (hd : d < 4000) (hc : C29 p) : ∃ r ro, RmOk p 20 r ro ∧ (sub p.t 20).length = 11 := by
  obtain ⟨dep, W⟩ := h.s.ok.wf
  have chn : Chn p.t 20 11 := fun j hj => by
    obtain ⟨r, e, hk⟩ := c29_row (20 + j) (by omega) (by omega)
    refine ⟨r, by rw [show (20 : Int) + (j : Int) = ((20 + j : Nat) : Int) by omega, hc _ (by omega) (by omega)]; exact e, ?_⟩
    rw [hk]
    by_cases z : j + 1 < 11
    · rw [if_pos z, if_pos (by omega)]; congr 1
    · rw [if_neg z, if_neg (by omega)]
  have hs := (chn_sub W chn 11 0 (by omega) (by omega)).1
  rw [show (20 : Int) + ((0 : Nat) : Int) = 20 by omega] at hs
  obtain ⟨r, e, _⟩ := c29_row 20 (by omega) (by omega)
  have e : p.t 20 = some r := (hc 20 (by omega) (by omega)).trans e
  obtain ⟨rp, e1, _, _⟩ := W.par 20 r e (by omega)
  exact ⟨r, rp, ⟨h.s.ok, by rw [h.dn]; exact hd, e, by omega, e1⟩, hs⟩
/-- a text below the root goes -/
theorem tx_rm {p : Pg} {c d : Nat} {l n : Int} {r : Rw} (h : RtS p c l d) (hd : d < 4000) (hn : p.t n = some r) (hp : r.par = 1) (hk : r.kids = []) (h1 : n ≠ 1) : ∃ ro, RmOk p n r ro ∧ (sub p.t n).length = 1 := by
  obtain ⟨dep, W⟩ := h.s.ok.wf
  obtain ⟨r1, e, _⟩ := h.root
  refine ⟨r1, ⟨h.s.ok, by rw [h.dn]; exact hd, hn, h1, by rw [hp]; exact e⟩, ?_⟩
  rw [sub_eq W hn, hk]
  rfl
theorem C29.rm {p : Pg} {n : Int} {r ro : Rw} (h : C29 p) (M : RmOk p n r ro) (h1 : sub p.t n = [n]) (h2 : 30 < n) (h3 : r.par = 1) : C29 (rmP p n r ro) := fun x a b => by
  rw [M.t]
  unfold rmT
  rw [h1, if_neg (by rw [List.mem_singleton]; omega), if_neg (by omega)]
  exact h x a b
theorem C29.ins {p : Pg} {i : Nat} {r rp : Rw} (h : C29 p) (I : InsOk p i r rp) (h1 : r.par = 1) (h2 : 30 ≤ p.last) : C29 (insP p i r) := fun x a b => by
  rw [ins_old I (by omega) (by omega)]
  exact h x a b
/-- the last loop's pages -/
def lpPg (p : Pg) (b : Bool) : Nat → Pg
  | 0 => p
  | k + 1 => insP (lpPg p b k) 0 (if b = true then bxR 1 zL (.tuple []) else txR 1 [])
theorem lp_ok {p : Pg} {c d : Nat} {l : Int} {b : Bool} (h : RtS p c l d) : ∀ k : Nat, c + k ≤ 300 → d + k ≤ 4000 → RtS (lpPg p b k) (c + k) (l + k) (d + k)
  | 0, _, _ => by
    have e : l + ((0 : Nat) : Int) = l := by omega
    rw [e]; exact h
  | k + 1, h1, h2 => by
    have I := lp_ok (b := b) h k (by omega) (by omega)
    have e : l + ((k + 1 : Nat) : Int) = l + k + 1 := by omega
    rw [e]
    cases b with
    | true =>
      obtain ⟨r1, _, h3⟩ := I.ins (r := bxR 1 zL (.tuple [])) (by omega) (by omega) (bx_S ⟨by decide +kernel, Nat.zero_le _⟩) rfl rfl rfl
      exact h3
    | false =>
      obtain ⟨r1, _, h3⟩ := I.ins (r := txR 1 []) (by omega) (by omega) tx1_S rfl rfl rfl
      exact h3
theorem segL (CP CH : Addr) : SegAt (fun i => 2 + i) 5 (shapeP CP CH) (shL CP CH) := by
  have h := segAt_mid [SO.nums, .stt 0] [] (shapeP_ok CP CH)
  have e : (fun p => [SO.nums, .stt 0] ++ ((shapeP CP CH p).map (reS fun i => [SO.nums, .stt 0].length + i) ++ [])) = shL CP CH := by
    funext p
    rw [List.append_nil]
    rfl
  exact e ▸ h
def dueM (b : Bool) : PyData := if b = true then .tuple [.str "TooMany", .int 301] else .tuple [.str "none", .int 0]
theorem dueM_sh (b : Bool) : SeqAt.shaped (dueM b) = true := by cases b <;> decide +kernel
theorem dueM_nl (b : Bool) : noList (dueM b) = true := by cases b <;> rfl
def c5 (j : Nat) : Nat := if j = 10 then 300 else 291 + j
def d5 (j : Nat) : Nat := if j = 10 then 299 else 290 + j
theorem many5 (j : Nat) (hj : j ≤ 10) (bx : Bool) : ∃ r1, InsPre (mnPg (260 + j)) (nwR bx 1) r1 ∧ erO (insEr (mnPg (260 + j)) 0 (nwR bx 1) r1) = dueM (decide (j = 10)) ∧ RtS (insY (mnPg (260 + j)) 0 bx 1 r1) (c5 j) (c5 j) (d5 j) ∧ C29 (insY (mnPg (260 + j)) 0 bx 1 r1) ∧ (insY (mnPg (260 + j)) 0 bx 1 r1).t (290 + (j : Int)) = some (txR 1 []) := by
  obtain ⟨h, hc, hd, hx⟩ := mn_ok (260 + j) (by omega)
  obtain ⟨hT, _⟩ := hx.resolve_left (by omega)
  rw [show 30 + ((260 + j : Nat) : Int) = 290 + (j : Int) by omega] at hT
  obtain ⟨r1, e, hb⟩ := h.root
  have hdn := h.dn
  have hlast := h.last
  have hp : InsPre (mnPg (260 + j)) (nwR bx 1) r1 := nw_pre h.s e hb (by omega)
  refine ⟨r1, hp, ?_⟩
  have hI : insEr (mnPg (260 + j)) 0 (nwR bx 1) r1 = if j = 10 then some (.many, .int 301) else none := by
    unfold insEr
    rw [if_neg (by omega), nw_par, h.dep1, h.cnt, if_neg (by decide)]
    by_cases z : j = 10
    · subst z; rfl
    · rw [if_neg (by omega), if_neg z]
  unfold insY
  rw [hI]
  by_cases z : j = 10
  · subst z
    refine ⟨rfl, ?_, hc, hT⟩
    exact h
  · have hno : (if j = 10 then some (Er.many, PyData.int 301) else none) = none := if_neg z
    rw [hno, decide_eq_false z]
    have I : InsOk (mnPg (260 + j)) 0 (nwR bx 1) r1 := hp.ok_ (hI.trans hno)
    obtain ⟨r2, I2, R2⟩ := h.ins (by omega) (by omega) (nw_S bx 1) (nw_par bx 1) (nw_kids bx 1) (nw_nl bx 1)
    refine ⟨rfl, ?_, hc.ins I (nw_par bx 1) (by omega), ?_⟩
    · have e1 : 30 + (260 + j) + 1 = c5 j := by unfold c5; rw [if_neg z]; omega
      have e2 : 30 + ((260 + j : Nat) : Int) + 1 = ((c5 j : Nat) : Int) := by unfold c5; rw [if_neg z]; omega
      have e3 : 29 + (260 + j) + 1 = d5 j := by unfold d5; rw [if_neg z]; omega
      rw [e1, e2, e3] at R2
      exact R2
    · show (insP _ _ _).t _ = _
      rw [ins_old I (by rw [nw_par]; omega) (by omega)]
      exact hT
theorem lp_nw (p : Pg) (b : Bool) (k : Nat) : insP (lpPg p b k) 0 (nwR b 1) = lpPg p b (k + 1) := rfl
/-- the last loop: its slots and its store -/
inductive LpI (CP CH : Addr) (env : Int → Option SV → Sy) (p : Pg) (b : Bool) (n0 : Nat) (i : Nat) : Sy → List SO → Prop
  | mk (s : Option SV) (h : i ≤ n0) : LpI CP CH env p b n0 i (env 0 s) (shL CP CH (lpPg p b i))
def R__law_many : List PyData → PyData → Prop := fun ds d => ds = [] ∧ d = .bool true
theorem R__law_many_i : ∃ d, R__law_many [] d := ⟨_, rfl, rfl⟩
local macro_rules | `(tactic| walk_at "r2") => `(tactic| exact R__law_many_i)
theorem R__law_many_len : ∀ ds d, R__law_many ds d → ds.length = 0 := by
  intro ds d hh
  unfold R__law_many at hh
  repeat (obtain ⟨_, hh⟩ := hh)
  subst_eqs
  rfl
theorem ok__law_many {P : Program} {w : World} {K : PySem.W.Frag} {mg : Str → Option Value} {base : Heap} {f : Addr} {fd : FuncData} (F : FnP K "_law_many" s__law_many f fd) (g0 : mg "_law_many" = some (.ref f)) {C_History : Addr} (kC_History : Cls K C_History) (n_History_cells : NoAttr K C_History "cells") (n_History__done : NoAttr K C_History "_done") (n_History__undone : NoAttr K C_History "_undone") {C_Page : Addr} (kC_Page : Cls K C_Page) (n_Page_width : NoAttr K C_Page "width") (n_Page_height : NoAttr K C_Page "height") (n_Page__last_id : NoAttr K C_Page "_last_id") (n_Page__moment : NoAttr K C_Page "_moment") (n_Page__marked : NoAttr K C_Page "_marked") (n_Page__history : NoAttr K C_Page "_history") {f_I : Addr} {C_BadPlace : Addr} (g_BadPlace : mg "BadPlace" = some (.ref C_BadPlace)) (e_BadPlace : DL.ErC K C_BadPlace f_I) {C_TooDeep : Addr} (g_TooDeep : mg "TooDeep" = some (.ref C_TooDeep)) (e_TooDeep : DL.ErC K C_TooDeep f_I) {C_TooMany : Addr} (g_TooMany : mg "TooMany" = some (.ref C_TooMany)) (e_TooMany : DL.ErC K C_TooMany f_I) (h_Page___init__ : DL.MakN P w K mg base 4 "Page" C_Page ["self", "width", "height"] (DL.spK K 1 5 (fun _ : Unit => [SO.ob C_Page []]) (shapeP C_Page C_History) R_Page___init__)) (h__law_chain : Cal P w K mg base 6 "_law_chain" ["page", "length"] (DL.spW K (shapeP C_Page C_History) (shapeP C_Page C_History) R__law_chain)) (h__law_next : Cal P w K mg base 1 "_law_next" ["state", "many"] (DL.spM K  R__law_next)) (h_Page_insert_text : DL.MetX P w K mg base 5 C_Page "insert_text" ["self", "parent", "index", "string"] (DL.spWX K (shapeP C_Page C_History) (shapeP C_Page C_History) R_Page_insert_text (B_Page_insert_text C_BadPlace C_TooDeep C_TooMany))) (h_Page_snapshot : DL.MetP P w K mg base 3 C_Page "snapshot" ["self"] (spD K  (R_Page_snapshot C_Page C_History))) (h__law_insert : Cal P w K mg base 6 "_law_insert" ["page", "parent", "index", "boxed"] (DL.spW K (shapeP C_Page C_History) (shapeP C_Page C_History) R__law_insert)) (h_Page_nodes : DL.MetP P w K mg base 2 C_Page "nodes" ["self"] (spF K  (R_Page_nodes C_Page C_History))) (h_Page_remove : DL.MetP P w K mg base 4 C_Page "remove" ["self", "node"] (DL.spS K 5 (shapeP C_Page C_History) R_Page_remove)) (z_range : mg "range" = none) (z_len : mg "len" = none) (z_min : mg "min" = none) : Cal P w K mg base 7 "_law_many" ["state"] (DL.spM K  R__law_many) := by
  refine cal_mk F sc__law_many g0 (DL.spM_len R__law_many_len) (fun _ _ _ _ _ _ us hl => match us, hl with | [_], _ => rfl) (fun cdv A outer s H vs Q E hr h => ⟨_,
    (pss_cons (ps_set (i := 1) sc__law_many.nd rfl (by first | exact Or.inl rfl | exact Or.inr rfl) (DL.pe_makN h_Page___init__ hr (by decide) (by rfl) pass0 (pa_cons pe_int (pa_cons pe_int pa_nil))))
     (pss_cons (ps_set (i := 2) sc__law_many.nd rfl (by first | exact Or.inl rfl | exact Or.inr rfl) (DL.pe_cal h__law_chain hr (by decide) (by rfl) pass0 (pa_cons (pv 1) (pa_cons pe_int pa_nil))))
     (pss_cons (ps_set (i := 3) sc__law_many.nd rfl (by first | exact Or.inl rfl | exact Or.inr rfl) (pe_op op_add pe_int (DL.pe_cal h__law_next hr (by decide) (by rfl) pass0 (pa_cons (pv 0) (pa_cons pe_int pa_nil)))))
     (pss_cons (ps_for PassesOwn.never rfl (pi_range1 (by rfl) z_range (pa_cons (pe_op op_sub (pv 3) pe_int) pa_nil)) (pg_name (i := 4) sc__law_many.nd rfl (by first | exact Or.inl rfl | exact Or.inr rfl))
     (pss_cons (ps_expr (DL.pe_metX0 h_Page_insert_text hr (by decide) (pv 1) (pa_cons pe_int (pa_cons pe_int (pa_cons pe_str pa_nil)))))
     pss_nil))
     (pss_cons (ps_set (i := 5) sc__law_many.nd rfl (by first | exact Or.inl rfl | exact Or.inr rfl) (pe_cmpR op_eq (DL.pe_cal h__law_next hr (by decide) (by rfl) pass0 (pa_cons (pv 0) (pa_cons pe_int pa_nil))) pe_int (nomark _)))
     (pss_cons (ps_set (i := 6) sc__law_many.nd rfl (by first | exact Or.inl rfl | exact Or.inr rfl) (DL.pe_metP0 h_Page_snapshot hr (by decide) pass0 (pv 1)))
     (pss_cons (ps_if (PW.pt (pw_or (pt_cmpR (DL.kNeD (K := K) hr.units) (DL.pe_cal h__law_insert hr (by decide) (by rfl) pass0 (pa_cons (pv 1) (pa_cons (pv 2) (pa_cons pe_int (pa_cons (pv 5) pa_nil))))) (pe_tup (pa_cons pe_str (pa_cons pe_int pa_nil))) (nomark _)) (pw_or1 (pt_cmpR (DL.kNeD (K := K) hr.units) (DL.pe_metP0 h_Page_snapshot hr (by decide) pass0 (pv 1)) (pv 6) (nomark _)))))
     (pss_cons (ps_ret pe_bl)
     pss_nil)
     pss_nil)
     (pss_cons (ps_set (i := 7) sc__law_many.nd rfl (by first | exact Or.inl rfl | exact Or.inr rfl) (pe_ifExp (pt_cmpR op_eq (pv 3) pe_int (nomark _)) (pe_tup (pa_cons pe_str (pa_cons pe_int pa_nil))) (pe_tup (pa_cons pe_str (pa_cons pe_int pa_nil)))))
     (pss_cons (ps_if (PW.pt (pw_or (pt_cmpR (DL.kNeD (K := K) hr.units) (DL.pe_cal h__law_insert hr (by decide) (by rfl) pass0 (pa_cons (pv 1) (pa_cons pe_int (pa_cons pe_int (pa_cons (pv 5) pa_nil))))) (pv 7) (nomark _)) (pw_or1 (pt_cmpR op_ne (pe_callB (DL.kLen (K := K)) (by rfl) z_len (by decide +kernel) (pa_cons (DL.pe_metP0 h_Page_nodes hr (by decide) pass0 (pv 1)) pa_nil)) (pe_callB (call_min2 rfl) (by rfl) z_min (by decide +kernel) (pa_cons pe_int (pa_cons (pe_op op_add (pv 3) pe_int) pa_nil))) (nomark _)))))
     (pss_cons (ps_ret pe_bl)
     pss_nil)
     pss_nil)
     (pss_cons (ps_expr (DL.pe_metP h_Page_remove hr (by decide) pass0 (pv 1) (pa_cons (pv 3) pa_nil)))
     (pss_cons (ps_if (pt_cmpR op_ne (DL.pe_metX0 h_Page_insert_text hr (by decide) (pv 1) (pa_cons pe_int (pa_cons pe_int (pa_cons pe_str pa_nil)))) (pe_callB (call_min2 rfl) (by rfl) z_min (by decide +kernel) (pa_cons pe_int (pa_cons (pe_op op_add (pv 3) pe_int) pa_nil))) (nomark _))
     (pss_cons (ps_ret pe_bl)
     pss_nil)
     pss_nil)
     (pss_cons (ps_expr (DL.pe_metP h_Page_remove hr (by decide) pass0 (pv 1) (pa_cons pe_int pa_nil)))
     (pss_cons (ps_for PassesOwn.never rfl (pi_range1 (by rfl) z_range (pa_cons pe_int pa_nil)) (pg_name (i := 4) sc__law_many.nd rfl (by first | exact Or.inl rfl | exact Or.inr rfl))
     (pss_cons (ps_if (pt_cmpR op_eq (pe_callB (DL.kLen (K := K)) (by rfl) z_len (by decide +kernel) (pa_cons (DL.pe_metP0 h_Page_nodes hr (by decide) pass0 (pv 1)) pa_nil)) pe_int (nomark _))
     (pss_cons ps_break
     pss_nil)
     pss_nil)
     (pss_cons (ps_if (pt_cmpR (DL.kNeD (K := K) hr.units) (DL.pe_cal h__law_insert hr (by decide) (by rfl) pass0 (pa_cons (pv 1) (pa_cons pe_int (pa_cons pe_int (pa_cons (pv 5) pa_nil))))) (pe_tup (pa_cons pe_str (pa_cons pe_int pa_nil))) (nomark _))
     (pss_cons (ps_ret pe_bl)
     pss_nil)
     pss_nil)
     pss_nil)))
     (pss_cons (ps_ret (pe_and (pe_cmpR op_lt (pv 4) pe_int (nomark _)) (pe_one (pe_cmpR (DL.kEqD (K := K) hr.units) (DL.pe_cal h__law_insert hr (by decide) (by rfl) pass0 (pa_cons (pv 1) (pa_cons pe_int (pa_cons pe_int (pa_cons (pv 5) pa_nil))))) (pe_tup (pa_cons pe_str (pa_cons pe_int pa_nil))) (nomark _)))))
     pss_nil)))))))))))))), ?_⟩)
  refine DL.run_spM h (List.cons_ne_nil _ _) fun N s b ds hR hq => ?_
  obtain ⟨d0, rfl, rfl⟩ := hR
  simp only [DL.env1]
  walk_at "env"
  refine gs_asgGN (egn_makeN (f := fun i => 2 + i) (x := ()) (ds := [.i (.int 1), .i (.int 1)]) (os2 := [SO.nums, .stt 0]) (G := fun y => [SO.nums, .stt 0] ++ (shapeP C_Page C_History y).map (reS fun i => 2 + i)) (EvAS.asG (eas_cons (show EvX false _ _ _ _ _ from ex_int) (eas_cons (show EvX false _ _ _ _ _ from ex_int) eas_nil))) rfl (by decide) (by intro s hs; simp at hs; rw [hs]; exact True.intro) (segPgF C_Page C_History) ⟨_, 1, 1, by decide, by decide, by decide, by decide, rfl, rfl⟩) ?_
  rintro k os' ⟨rfl, y, ⟨w, h, _, _, _, _, e1, rfl⟩, rfl⟩
  cases e1
  walk_at "nf"
  refine gs_is (env' := [some (.r 1), some (.r 2), none, none, none, none, none, none]) (os' := shL C_Page C_History (pgN 1 1)) rfl rfl ?_
  refine gs_asgW (ew_callW (f := fun i => 2 + i) (x := pgN 1 1) (ds := [.r 0, .i (.int ((29 : Nat) : Int))]) (segW_pre (sh0 := shapeP C_Page C_History) (sh1 := shapeP C_Page C_History) [SO.nums, .stt 0] (pgN 1 1) (shapeP_ok C_Page C_History _)) ?a1 (EvAS.asG (eas_cons (show EvR _ _ _ _ _ from er_var rfl (by show 2 < 7; decide)) (eas_cons (show EvX false _ _ _ _ _ from ex_int) eas_nil))) ⟨_, _, 29, by decide, rfl, rfl, rfl, rfl⟩) ?_
  case a1 =>
    intro s hs
    simp at hs
    rcases hs with rfl | rfl
    · show 0 < 5; decide
    · exact True.intro
  rintro _ _ ⟨_, _, ⟨m2, _, _, e1, rfl, rfl⟩, _, rfl, rfl⟩
  have e1 : m2 = 29 := by
    injection e1 with _ e1
    injection e1 with e1 _
    injection e1 with e1
    injection e1 with e1
    exact (Int.ofNat.inj e1).symm
  subst e1
  walk_at "nf"
  have hpg : ∀ {w : Bool} {c : Cn} {e : Sy} (z : Pg), e[1]? = some (some (.r 2)) → EvX true c e (shL C_Page C_History z) (tVar 1) (pgD C_Page C_History z) := fun z he => ex_dat (er_var he (by rw [shL_len]; decide)) (shL_pg _ _ z)
  refine gs_is (env' := [some (.r 1), some (.r 2), some (.i (.int 30)), none, none, none, none, none]) (os' := shL C_Page C_History (mnPg 0)) rfl rfl ?_
  refine gs_asgM (P := fun d => ∃ j : Nat, d = .int (290 + (j : Int)) ∧ j ≤ 10) (em_op2 (drawL (ks := 1) (ki := 0) rfl rfl rfl (ea_cons ex_int ea_nil) (by decide) (by decide)) fun v d hd => ?b1) fun d hd => ?_
  case b1 =>
    obtain ⟨j, rfl, hj⟩ := hd
    exact em_x (ex_i2 ex_int (ex_pin (List.mem_cons_self ..))) ⟨j, rfl, by omega⟩
  obtain ⟨j, rfl, hj⟩ := hd
  walk_at "nf"
  -- a method that inserts a text below the root
  have hins : ∀ {c : Cn} {e : Sy} {z : Pg} {rp : Rw}, c.K = K → e[1]? = some (some (.r 2)) → InsOk z 0 (txR 1 []) rp →
      EvWN c e (shL C_Page C_History z) (tMeth C_Page "insert_text" (DL.spWX K (shapeP C_Page C_History) (shapeP C_Page C_History) R_Page_insert_text (B_Page_insert_text C_BadPlace C_TooDeep C_TooMany)) [] E0 (tVar 1) (tCons (tC (.int 1)) (tCons (tC (.int 0)) (tCons (tC (.str "")) tNil)))) (fun os' s => os' = shL C_Page C_History (insP z 0 (txR 1 [])) ∧ s = .i (.int (z.last + 1))) := fun {c e z rp} hK he I => by
    subst hK
    refine (DL.ew_methWX0 (k := 0) (f := fun i => 2 + i) (ds := [.i (.int 1), .i (.int ((0 : Nat) : Int)), .i (dT [])]) (x := z) (segW_pre (sh0 := shapeP C_Page C_History) (sh1 := shapeP C_Page C_History) [SO.nums, .stt 0] z (shapeP_ok C_Page C_History z)) (er_var he (by show 2 < 7; decide)) rfl rfl (by show 0 < 5; decide) (by intro s hs; simp at hs; rcases hs with rfl | rfl | rfl <;> exact True.intro) (eas_cons (show EvX false _ _ _ _ _ from ex_int) (eas_cons (show EvX false _ _ _ _ _ from ex_int) (eas_cons (show EvX false _ _ _ _ _ from ex_txt (l := []) (by decide +kernel)) eas_nil))) ⟨_, _, 1, 0, [], rfl, ⟨rp, I⟩, fun x hx => absurd hx List.not_mem_nil, Nat.zero_le _, rfl, rfl⟩).imp ?_
    rintro _ _ ⟨_, _, ⟨n2, i2, l2, e1, _, _, _, rfl, rfl⟩, _, rfl, rfl⟩
    obtain ⟨rfl, rfl, rfl⟩ := txt_inj e1
    exact ⟨rfl, rfl⟩
  refine gs_for (n := 260 + j) (fun k => [some (.r 1), some (.r 2), some (.i (.int 30)), some (.i (.int (290 + (j : Int)))), none, none, none, none]) (fun k => shL C_Page C_History (mnPg k)) (EvW.is (ew_range1 (n := 290 + (j : Int) - 30) (ea_cons (ex_i2 (ex_var rfl) ex_int) ea_nil) ⟨by omega, by omega⟩) (by omega)) (fun c' _ ad σ H ok => ok) (fun _ _ => True.intro) (fun fr up k hk => ⟨_, _, tg_name, ?c1⟩) ?d1
  case c1 =>
    walk_at "nf"
    obtain ⟨_, _, _, hx⟩ := mn_ok (k + 1) (by omega)
    obtain ⟨_, r1, I⟩ := hx.resolve_left (by omega)
    refine gs_doW (hins (z := mnPg k) rfl rfl I) ?_
    rintro _ _ ⟨rfl, _⟩
    refine g_next fun ad σ H ok => ⟨ad, ?_⟩
    exact ok.weak (by simp [WkE]) (WkO.refl _) (by simp [EnLt, SvLt, shL_len]) (shL_lt C_Page C_History (mnPg (k + 1))) (by show 7 ≤ 7; decide)
  case d1 =>
  obtain ⟨hM, hC, hD, _⟩ := mn_ok (260 + j) (by omega)
  have hS := hM.s
  have hMdn := hM.dn
  refine gs_asgM (P := fun d => ∃ b, d = .bool b) (em_op (drawL (ks := 1) (ki := 0) rfl rfl rfl (ea_cons ex_int ea_nil) (by decide) (by decide)) fun v d hd => ?b2) fun d hd => ?_
  case b2 =>
    obtain ⟨j, rfl, hj⟩ := hd
    exact em_x (ex_eqI (ex_pin (List.mem_cons_self ..)) ex_int) ⟨_, rfl⟩
  obtain ⟨bx, rfl⟩ := hd
  walk_at "nf"
  refine gs_asg (d := snapD (mnPg (260 + j))) (EvX.strong (snap_nl hS) (ex_methD (hpg (w := true) _ rfl) rfl ea_nil (R_Page_snapshot_i hS))) ?_
  walk_at "nf"
  obtain ⟨re, r1, r2, r3, r4⟩ := ch_end 29 (by omega)
  have r1 : (mnPg (260 + j)).t 30 = some re := (hC 30 (by omega) (by omega)).trans r1
  have hpD : InsPre (mnPg (260 + j)) (nwR bx 30) re := nw_pre hS r1 r2 (by omega)
  have heD : insEr (mnPg (260 + j)) 0 (nwR bx 30) re = some (.deep, .int 31) := by
    unfold insEr
    rw [r3, if_neg (by decide), nw_par, hD, if_pos (by decide)]
    rfl
  have hyD : insY (mnPg (260 + j)) 0 bx 30 re = mnPg (260 + j) := by unfold insY; rw [heD]
  refine gs_ifW (P := fun os' b => os' = shL C_Page C_History (mnPg (260 + j)) ∧ b = false) (etw_or (P1 := fun os' b => os' = shL C_Page C_History (mnPg (260 + j)) ∧ b = false) (DL.etw_op (ew_ins (i := 0) rfl (ex_var rfl) ex_int (ex_var rfl) hpD (by decide)) ?e1) (fun os' h => absurd h.2 (by decide)) (fun os' h => ?e2)) ?e3
  case e1 =>
    rintro v _ _ ⟨rfl, rfl⟩
    rw [hyD, heD]
    exact ⟨_, false, rfl, ⟨rfl, rfl⟩, EvT.is (et_test (ex_neD (ex_pin (List.mem_cons_self ..)) (ex_tup (ea_cons ex_str (ea_cons ex_int ea_nil)) (Nat.le_of_ble_eq_true rfl)) (by decide +kernel) (by decide +kernel))) (by decide +kernel)⟩
  case e2 =>
    obtain ⟨rfl, _⟩ := h
    exact etw_T (EvT.is (et_test (ex_neD (ex_methD (hpg (w := true) _ rfl) rfl ea_nil (R_Page_snapshot_i hS)) (ex_var rfl) (shaped_snap hS) (shaped_snap hS))) (by rw [snap_self hS]; rfl)) ⟨rfl, rfl⟩
  case e3 =>
  rintro _ _ ⟨rfl, rfl⟩
  rw [if_neg (by decide)]
  refine g_nextU ?_
  refine gs_asg (d := dueM (decide (j = 10))) (EvX.strong (dueM_nl _) (ex_if (b := decide (j = 10)) (EvT.is (et_test (ex_eqI (ex_var rfl) ex_int)) (decide_eq_decide.mpr (by omega))) (fun hb => EvX.is (ex_tup (ea_cons ex_str (ea_cons ex_int ea_nil)) (Nat.le_of_ble_eq_true rfl)) (by rw [hb]; rfl)) (fun hb => EvX.is (ex_tup (ea_cons ex_str (ea_cons ex_int ea_nil)) (Nat.le_of_ble_eq_true rfl)) (by rw [hb]; rfl)))) ?_
  walk_at "nf"
  obtain ⟨rt, hp5, he5, h5, hC5, hT5⟩ := many5 j hj bx
  generalize hP5 : insY (mnPg (260 + j)) 0 bx 1 rt = P5 at h5 hC5 hT5
  have hnodes : ∀ {w : Bool} {c : Cn} {e : Sy} {z : Pg} {cc dd : Nat} {ll : Int}, c.K = K → e[1]? = some (some (.r 2)) → RtS z cc ll dd → EvX w c e (shL C_Page C_History z) (tCB (rLenK c.K) (tCons (tMeth C_Page "nodes" (spF K (R_Page_nodes C_Page C_History)) [] E0 (tVar 1) tNil) tNil)) (.int (cc : Int)) := fun {w c e z cc dd ll} hK he hz => by
    have hok := hz.s.ok
    have hcn := hz.cnt
    subst hK
    exact EvX.is (ex_lenK (EvF.it (ef_methDW (hpg (w := true) _ he) rfl ea_nil (R_Page_nodes_i hok) (noLists_int _)))) (by simp [hcn])
  have hmin : ∀ a b : Int, (if b < a then b else a) = min a b := fun a b => by
    by_cases z : b < a
    · rw [if_pos z]; omega
    · rw [if_neg z]; omega
  have hc5 : ((c5 j : Nat) : Int) = min 300 (290 + (j : Int) + 1) := by unfold c5; split <;> omega
  refine gs_ifW (P := fun os' b => os' = shL C_Page C_History P5 ∧ b = false) (etw_or (P1 := fun os' b => os' = shL C_Page C_History P5 ∧ b = false) (DL.etw_op (ew_ins (i := 0) rfl ex_int ex_int (ex_var rfl) hp5 (by decide)) ?f1) (fun os' h => absurd h.2 (by decide)) (fun os' h => ?f2)) ?f3
  case f1 =>
    rintro v _ _ ⟨rfl, rfl⟩
    rw [hP5, he5]
    exact ⟨_, false, rfl, ⟨rfl, rfl⟩, EvT.is (et_test (ex_neD (ex_pin (List.mem_cons_self ..)) (ex_var rfl) (dueM_sh _) (dueM_sh _))) (by rw [eqv_self (dueM_sh _)]; rfl)⟩
  case f2 =>
    obtain ⟨rfl, _⟩ := h
    exact etw_T (EvT.is (et_test (ex_neI (hnodes (w := true) rfl rfl h5) (ex_min2 rfl ex_int (ex_i2 (ex_var rfl) ex_int)))) (by rw [hc5]; simp)) ⟨rfl, rfl⟩
  case f3 =>
  rintro _ _ ⟨rfl, rfl⟩
  rw [if_neg (by decide)]
  refine g_nextU ?_
  -- a removal
  have hrem : ∀ {c : Cn} {e : Sy} {tr : TE} {z : Pg} {n : Int} {r ro : Rw}, c.K = K → e[1]? = some (some (.r 2)) → EvX false c e (shL C_Page C_History z) tr (.int n) → RmOk z n r ro → EvN c e (shL C_Page C_History z) (tMeth C_Page "remove" (DL.spS K 5 (shapeP C_Page C_History) R_Page_remove) [] E0 (tVar 1) (tCons tr tNil)) (fun os' d => os' = shL C_Page C_History (rmP z n r ro)) := fun {c e tr z n r ro} hK he h1 M => by
    subst hK
    refine (en_meth (k := 0) (ds := [.i (.int n)]) (x := z) (segL C_Page C_History) (er_var he (by show 2 < 7; decide)) rfl rfl (by decide) (by intro s hs; simp at hs; rw [hs]; exact True.intro) (eas_cons (show EvX false _ _ _ _ _ from h1) eas_nil) ⟨_, _, n, r, ro, rfl, M, rfl, rfl⟩).imp ?_
    rintro _ _ ⟨_, ⟨n2, r2, ro2, e1, M2, rfl, rfl⟩, rfl⟩
    have e2 : n2 = n := by
      injection e1 with _ e1
      injection e1 with e1 _
      injection e1 with e1
      injection e1 with e1
      exact e1.symm
    subst e2
    have a1 := M2.row
    rw [M.row] at a1
    cases a1
    have a2 := M2.orow
    rw [M.orow] at a2
    cases a2
    rfl
  have hd5 : d5 j ≤ 300 := by unfold d5; split <;> omega
  have hc5b : c5 j ≤ 300 ∧ 291 ≤ c5 j := by unfold c5; split <;> omega
  obtain ⟨ro6, M6, s6⟩ := tx_rm h5 (by omega) hT5 rfl rfl (by omega)
  have hsub6 : sub P5.t (290 + (j : Int)) = [290 + (j : Int)] := by
    obtain ⟨dep, W⟩ := h5.s.ok.wf
    rw [sub_eq W hT5]
    rfl
  refine gs_doN (hrem rfl rfl (ex_var rfl) M6) ?_
  rintro _ _ rfl
  have h6 := h5.rm M6 s6
  have hC6 := hC5.rm M6 hsub6 (by omega) rfl
  obtain ⟨r7, I7, h7⟩ := h6.ins (r := txR 1 []) (by omega) (by omega) tx1_S rfl rfl rfl
  have hl6 := h6.last
  have hC7 := hC6.ins I7 rfl (by omega)
  generalize hP7 : insP (rmP P5 (290 + (j : Int)) (txR 1 []) ro6) 0 (txR 1 []) = P7 at h7 hC7
  refine gs_ifW (P := fun os' b => os' = shL C_Page C_History P7 ∧ b = false) (DL.etw_op (hins rfl rfl I7) ?g1) ?g2
  case g1 =>
    rintro v _ _ ⟨rfl, rfl⟩
    rw [hP7, hl6]
    have e9 : ((c5 j : Nat) : Int) + 1 = min 301 (290 + (j : Int) + 2) := by unfold c5; split <;> omega
    exact ⟨_, false, rfl, ⟨rfl, rfl⟩, EvT.is (et_test (ex_neI (ex_pin (List.mem_cons_self ..)) (ex_min2 rfl ex_int (ex_i2 (ex_var rfl) ex_int)))) (by rw [e9]; simp)⟩
  case g2 =>
  rintro _ _ ⟨rfl, rfl⟩
  rw [if_neg (by decide)]
  refine g_nextU ?_
  obtain ⟨r8, ro8, M8, s8⟩ := c29_rm h7 (by omega) hC7
  refine gs_doN (hrem rfl rfl ex_int M8) ?_
  rintro _ _ rfl
  have h8 := h7.rm M8 s8
  generalize rmP P7 20 r8 ro8 = P8 at h8
  have hc8 : c5 j - 1 + 1 - 11 + (311 - c5 j) = 300 := by omega
  generalize hc : c5 j - 1 + 1 - 11 = cc at h8 hc8
  generalize hdd : d5 j + 1 + 1 + 1 = dd at h8
  have hdd2 : dd ≤ 303 := by omega
  generalize hn0 : 311 - c5 j = n0 at hc8
  have hn1 : 11 ≤ n0 ∧ n0 ≤ 20 := by omega
  have hroot : ∀ i, i ≤ n0 → RtS (lpPg P8 bx i) (cc + i) (((c5 j : Nat) : Int) + 1 + i) (dd + i) := fun i hi => lp_ok h8 i (by omega) (by omega)
  refine gs_forN (fun n => n = 40) (LpI C_Page C_History (fun _ s => [some (.r 1), some (.r 2), some (.i (.int 30)), some (.i (.int (290 + (j : Int)))), s, some (.i (.bool bx)), some (.i (snapD (mnPg (260 + j)))), some (.i (dueM (decide (j = 10))))]) P8 bx n0) (ewm (ew_range1 (n := 40) (ea_cons ex_int ea_nil) (by decide)) rfl) (LpI.mk none (Nat.zero_le _)) (fun _ _ _ _ => True.intro) (fun fr up n i e o hn hi hI => ?h1) (fun n e o hn hI => ?h2)
  case h2 =>
    subst hn
    cases hI with
    | mk s h => omega
  case h1 =>
  cases hI with
  | mk s h =>
    refine ⟨_, _, tg_name, ?_⟩
    walk_at "nf"
    have hI := hroot i h
    by_cases z : i = n0
    · subst z
      refine gs_if (b := true) (EvT.is (et_test (ex_eqI (hnodes (w := true) rfl rfl hI) ex_int)) (decide_eq_true (by omega))) (fun _ => ?k1) (fun h => nomatch h)
      refine gs_break up ?_ rfl
      -- behind the loop
      obtain ⟨rt9, e9, hb9⟩ := hI.root
      have hdn9 := hI.dn
      have hp9 : InsPre (lpPg P8 bx i) (nwR bx 1) rt9 := nw_pre hI.s e9 hb9 (by omega)
      have he9 : insEr (lpPg P8 bx i) 0 (nwR bx 1) rt9 = some (.many, .int 301) := by
        unfold insEr
        rw [if_neg (by omega), nw_par, hI.dep1, if_neg (by decide), hI.cnt, if_pos (by omega), hc8]
        rfl
      have hy9 : insY (lpPg P8 bx i) 0 bx 1 rt9 = lpPg P8 bx i := by unfold insY; rw [he9]
      refine gs_retMW (DL.ew_and (b := true) (P := fun os' s => os' = shL C_Page C_History (lpPg P8 bx i) ∧ s = .i (.bool true)) (EvX.is (ex_b2 (ex_var rfl) ex_int) (congrArg PyData.bool (decide_eq_true (by omega)))) (fun _ => DL.ew_op (ew_ins (i := 0) rfl ex_int ex_int (ex_var rfl) hp9 (by decide)) ?m1) (fun h => nomatch h)) hq ?m2
      case m1 =>
        rintro v _ _ ⟨rfl, rfl⟩
        rw [hy9, he9]
        exact ⟨_, _, rfl, ⟨rfl, rfl⟩, EvX.is (ex_eqD (ex_pin (List.mem_cons_self ..)) (ex_tup (ea_cons ex_str (ea_cons ex_int ea_nil)) (Nat.le_of_ble_eq_true rfl)) (by decide +kernel) (by decide +kernel)) (congrArg PyData.bool (by decide +kernel))⟩
      case m2 =>
        rintro _ _ ⟨rfl, rfl⟩
        exact ⟨_, rfl, rfl, rfl, rfl, rfl⟩
    · refine gs_if (b := false) (EvT.is (et_test (ex_eqI (hnodes (w := true) rfl rfl hI) ex_int)) (decide_eq_false (by omega))) (fun h => nomatch h) (fun _ => g_nextU ?k2)
      case k2 =>
      obtain ⟨rt9, e9, hb9⟩ := hI.root
      have hdn9 := hI.dn
      have hp9 : InsPre (lpPg P8 bx i) (nwR bx 1) rt9 := nw_pre hI.s e9 hb9 (by omega)
      have he9 : insEr (lpPg P8 bx i) 0 (nwR bx 1) rt9 = none := by
        unfold insEr
        rw [if_neg (by omega), nw_par, hI.dep1, if_neg (by decide), hI.cnt, if_neg (by omega)]
      have hy9 : insY (lpPg P8 bx i) 0 bx 1 rt9 = lpPg P8 bx (i + 1) := by unfold insY; rw [he9]; exact lp_nw P8 bx i
      refine gs_ifW (P := fun os' b => os' = shL C_Page C_History (lpPg P8 bx (i + 1)) ∧ b = false) (DL.etw_op (ew_ins (i := 0) rfl ex_int ex_int (ex_var rfl) hp9 (by decide)) ?n1) ?n2
      case n1 =>
        rintro v _ _ ⟨rfl, rfl⟩
        rw [hy9, he9]
        exact ⟨_, false, rfl, ⟨rfl, rfl⟩, EvT.is (et_test (ex_neD (ex_pin (List.mem_cons_self ..)) (ex_tup (ea_cons ex_str (ea_cons ex_int ea_nil)) (Nat.le_of_ble_eq_true rfl)) (by decide +kernel) (by decide +kernel))) (by decide +kernel)⟩
      case n2 =>
      rintro _ _ ⟨rfl, rfl⟩
      rw [if_neg (by decide)]
      refine g_nextU ?_
      refine gs_nxI (show LpI C_Page C_History _ P8 bx n0 (i + 1) _ _ from LpI.mk (some (.i (.int (i : Int)))) (by omega)) fun ad σ H ok => ⟨ad, ok⟩
-- END _law_many
theorem sc_law : FnScope ["script", "state"] ["script"] (defScope s_law) := ⟨rfl, rfl, rfl, by decide +kernel, rfl, by decide +kernel, by decide +kernel⟩
theorem ok_law {P : Program} {w : World} {K : PySem.W.Frag} {mg : Str → Option Value} {base : Heap} {f : Addr} {fd : FuncData} (F : FnP K "law" s_law f fd) {C_History : Addr} (kC_History : Cls K C_History) (n_History_cells : NoAttr K C_History "cells") (n_History__done : NoAttr K C_History "_done") (n_History__undone : NoAttr K C_History "_undone") {C_Page : Addr} (kC_Page : Cls K C_Page) (n_Page_width : NoAttr K C_Page "width") (n_Page_height : NoAttr K C_Page "height") (n_Page__last_id : NoAttr K C_Page "_last_id") (n_Page__moment : NoAttr K C_Page "_moment") (n_Page__marked : NoAttr K C_Page "_marked") (n_Page__history : NoAttr K C_Page "_history") (h__law_deep : Cal P w K mg base 7 "_law_deep" ["state"] (DL.spM K  R__law_deep)) (h__law_moved : Cal P w K mg base 35 "_law_moved" ["state"] (DL.spM K  R__law_moved)) (h__law_next : Cal P w K mg base 1 "_law_next" ["state", "many"] (DL.spM K  R__law_next)) (h__law_many : Cal P w K mg base 7 "_law_many" ["state"] (DL.spM K  R__law_many)) (z_list : mg "list" = none) : FnOk P w K mg base CX0 36 f fd ["script"] (spD K RLaw) := by
  refine fnok_mk F sc_law (spD_len RLaw_len) (fun cdv A outer s H vs Q E hr h => ⟨_,
    (pss_cons (ps_set (i := 1) sc_law.nd rfl (by first | exact Or.inl rfl | exact Or.inr rfl) (pe_lst (pa_cons (pe_callTy (DL.kList (K := K)) (by rfl) z_list (by decide +kernel) (pa_cons (pv 0) pa_nil)) (pa_cons pe_int (pa_cons pe_int pa_nil)))))
     (pss_cons (ps_if (PW.pt (pw_or (pt_not (pt_val (DL.pe_cal h__law_deep hr (by decide) (by rfl) pass0 (pa_cons (pv 1) pa_nil)))) (pw_or1 (pt_not (pt_val (DL.pe_cal h__law_moved hr (by decide) (by rfl) pass0 (pa_cons (pv 1) pa_nil)))))))
     (pss_cons (ps_ret pe_bl)
     pss_nil)
     pss_nil)
     (pss_cons (ps_if (pt_cmpR op_eq (DL.pe_cal h__law_next hr (by decide) (by rfl) pass0 (pa_cons (pv 1) (pa_cons pe_int pa_nil))) pe_int (nomark _))
     (pss_cons (ps_ret (DL.pe_cal h__law_many hr (by decide) (by rfl) pass0 (pa_cons (pv 1) pa_nil)))
     pss_nil)
     pss_nil)
     (pss_cons (ps_ret pe_bl)
     pss_nil)))), ?_⟩)
  refine run_spD h fun N ds d hR hq => ?_
  obtain ⟨ns, hl, rfl, rfl⟩ := hR
  walk_at "env"
  refine gs_asgSt (ns := ns) (ef_listK (EvX.it (ex_var rfl))) ex_int ex_int ?_
  walk_at "nf"
  refine gs_is (env' := [some (.i (.list (ns.map PyData.int))), some (.r 1)]) (os' := [SO.nums, .stt 0]) rfl rfl ?_
  have hb : ∀ {os' : List SO} {s : SV}, (∃ d, s = .i d ∧ os' = [SO.nums, .stt 0] ∧ ([] : List PyData) = [] ∧ d = .bool true) → ∃ b, s = .i (.bool b) ∧ (os' = [SO.nums, .stt 0] ∧ (!b) = false) := fun {os' s} h => by
    obtain ⟨d, rfl, rfl, _, rfl⟩ := h
    exact ⟨true, rfl, rfl, rfl⟩
  refine gs_ifW (P := fun os' b => os' = [SO.nums, .stt 0] ∧ b = false) (etw_or (P1 := fun os' b => os' = [SO.nums, .stt 0] ∧ b = false) (etw_not (etw_B (EvM.asN (em_call (R := R__law_deep) (ks := 1) (ki := 0) rfl rfl rfl ea_nil R__law_deep_i)).asW fun os' s h => hb h)) (fun os' h => absurd h.2 (by decide)) (fun os' h => ?a1)) ?a2
  case a1 =>
    obtain ⟨rfl, _⟩ := h
    exact etw_not (etw_B (EvM.asN (em_call (R := R__law_moved) (ks := 1) (ki := 0) rfl rfl rfl ea_nil R__law_moved_i)).asW fun os' s h => hb h)
  case a2 =>
  rintro _ _ ⟨rfl, rfl⟩
  rw [if_neg (by decide)]
  refine g_nextU ?_
  refine gs_ifM (PB := fun _ => True) (etm_test (em_op (drawL (ks := 1) (ki := 0) rfl rfl rfl (ea_cons ex_int ea_nil) (by decide) (by decide)) fun v d hd => ?b1)) (fun _ => ?b2) (fun _ => g_nextU (gs_ret ex_bl hq))
  case b1 =>
    obtain ⟨j, rfl, hj⟩ := hd
    exact em_x (ex_eqI (ex_pin (List.mem_cons_self ..)) ex_int) ⟨_, rfl, True.intro⟩
  case b2 =>
    refine gs_retWD (EvM.asN (em_call (R := R__law_many) (ks := 1) (ki := 0) rfl rfl rfl ea_nil R__law_many_i)).asW hq ?_
    rintro _ _ ⟨d, rfl, rfl, _, rfl⟩
    rfl
-- END law
theorem facts {P : Program} (w : World) (mg : Str → Option Value) (K : PySem.W.Frag) (h : Heap) (KX : K.In h) (G : h.Ns mainGlobals mg) (c : He.SaysX fa fn ts [] ex w h K) : mg "law" = some (.ref (He.ga K "law")) ∧ ∃ fd, FnP K "law" s_law (He.ga K "law") fd ∧
    ∀ base : Heap, K.In base → base.Ns mainGlobals mg → FnOk P w K mg base CX0 36 (He.ga K "law") fd ["script"] (spD K RLaw) := by
  have cd := c.t.d
  have q_History : mg "History" = some (.ref (He.ga K "History")) := He.glo_ok KX G (cd.fact 74 (f := .glo "History") rfl)
  have kC_History : Cls K (He.ga K "History") := He.cls_ok (cd.fact 75 (f := .cls "History") rfl)
  have n_History_cells : NoAttr K (He.ga K "History") "cells" := He.noat_ok (cd.fact 76 (f := .noat "History" "cells") rfl)
  have n_History__done : NoAttr K (He.ga K "History") "_done" := He.noat_ok (cd.fact 77 (f := .noat "History" "_done") rfl)
  have n_History__undone : NoAttr K (He.ga K "History") "_undone" := He.noat_ok (cd.fact 78 (f := .noat "History" "_undone") rfl)
  have q_Page : mg "Page" = some (.ref (He.ga K "Page")) := He.glo_ok KX G (cd.fact 79 (f := .glo "Page") rfl)
  have kC_Page : Cls K (He.ga K "Page") := He.cls_ok (cd.fact 80 (f := .cls "Page") rfl)
  have n_Page_width : NoAttr K (He.ga K "Page") "width" := He.noat_ok (cd.fact 81 (f := .noat "Page" "width") rfl)
  have n_Page_height : NoAttr K (He.ga K "Page") "height" := He.noat_ok (cd.fact 82 (f := .noat "Page" "height") rfl)
  have n_Page__last_id : NoAttr K (He.ga K "Page") "_last_id" := He.noat_ok (cd.fact 83 (f := .noat "Page" "_last_id") rfl)
  have n_Page__moment : NoAttr K (He.ga K "Page") "_moment" := He.noat_ok (cd.fact 84 (f := .noat "Page" "_moment") rfl)
  have n_Page__marked : NoAttr K (He.ga K "Page") "_marked" := He.noat_ok (cd.fact 85 (f := .noat "Page" "_marked") rfl)
  have n_Page__history : NoAttr K (He.ga K "Page") "_history" := He.noat_ok (cd.fact 86 (f := .noat "Page" "_history") rfl)
  have g_BadPlace : mg "BadPlace" = some (.ref (He.ga K "BadPlace")) := He.glo_ok KX G (cd.fact 87 (f := .glo "BadPlace") rfl)
  have g_TooDeep : mg "TooDeep" = some (.ref (He.ga K "TooDeep")) := He.glo_ok KX G (cd.fact 88 (f := .glo "TooDeep") rfl)
  have g_TooMany : mg "TooMany" = some (.ref (He.ga K "TooMany")) := He.glo_ok KX G (cd.fact 89 (f := .glo "TooMany") rfl)
  have hexE := c.more
  unfold ex at hexE
  replace hexE := (Bool.and_eq_true_iff.mp hexE).1
  have e_BadPlace := DL.erB_ok (DL.all_id hexE (i := 0) rfl)
  have e_TooDeep := DL.erB_ok (DL.all_id hexE (i := 1) rfl)
  have e_TooMany := DL.erB_ok (DL.all_id hexE (i := 2) rfl)
  have m_BadPlace_BadPlace := of_decide_eq_true (DL.all_id hexE (i := 3) rfl)
  have m_BadPlace_TooDeep := of_decide_eq_true (DL.all_id hexE (i := 4) rfl)
  have m_BadPlace_TooMany := of_decide_eq_true (DL.all_id hexE (i := 5) rfl)
  have m_TooDeep_BadPlace := of_decide_eq_true (DL.all_id hexE (i := 6) rfl)
  have m_TooDeep_TooDeep := of_decide_eq_true (DL.all_id hexE (i := 7) rfl)
  have m_TooDeep_TooMany := of_decide_eq_true (DL.all_id hexE (i := 8) rfl)
  have m_TooMany_BadPlace := of_decide_eq_true (DL.all_id hexE (i := 9) rfl)
  have m_TooMany_TooDeep := of_decide_eq_true (DL.all_id hexE (i := 10) rfl)
  have m_TooMany_TooMany := of_decide_eq_true (DL.all_id hexE (i := 11) rfl)
  have q_is_number : mg "is_number" = some (.ref (He.ga K "is_number")) := He.glo_ok KX G (cd.fact 0 (f := .glo "is_number") rfl)
  obtain ⟨d_is_number, e_is_number⟩ := cd.def_ 0 (d := dD "is_number" s_is_number) rfl
  have F_is_number : FnP K "is_number" s_is_number (He.ga K "is_number") d_is_number := e_is_number
  have q_is_within : mg "is_within" = some (.ref (He.ga K "is_within")) := He.glo_ok KX G (cd.fact 1 (f := .glo "is_within") rfl)
  obtain ⟨d_is_within, e_is_within⟩ := cd.def_ 1 (d := dD "is_within" s_is_within) rfl
  have F_is_within : FnP K "is_within" s_is_within (He.ga K "is_within") d_is_within := e_is_within
  have q_is_word : mg "is_word" = some (.ref (He.ga K "is_word")) := He.glo_ok KX G (cd.fact 2 (f := .glo "is_word") rfl)
  obtain ⟨d_is_word, e_is_word⟩ := cd.def_ 2 (d := dD "is_word" s_is_word) rfl
  have F_is_word : FnP K "is_word" s_is_word (He.ga K "is_word") d_is_word := e_is_word
  have q_is_string : mg "is_string" = some (.ref (He.ga K "is_string")) := He.glo_ok KX G (cd.fact 3 (f := .glo "is_string") rfl)
  obtain ⟨d_is_string, e_is_string⟩ := cd.def_ 3 (d := dD "is_string" s_is_string) rfl
  have F_is_string : FnP K "is_string" s_is_string (He.ga K "is_string") d_is_string := e_is_string
  have q__is_allowed : mg "_is_allowed" = some (.ref (He.ga K "_is_allowed")) := He.glo_ok KX G (cd.fact 4 (f := .glo "_is_allowed") rfl)
  obtain ⟨d__is_allowed, e__is_allowed⟩ := cd.def_ 4 (d := dD "_is_allowed" s__is_allowed) rfl
  have F__is_allowed : FnP K "_is_allowed" s__is_allowed (He.ga K "_is_allowed") d__is_allowed := e__is_allowed
  have q_check_number : mg "check_number" = some (.ref (He.ga K "check_number")) := He.glo_ok KX G (cd.fact 5 (f := .glo "check_number") rfl)
  obtain ⟨d_check_number, e_check_number⟩ := cd.def_ 5 (d := dD "check_number" s_check_number) rfl
  have F_check_number : FnP K "check_number" s_check_number (He.ga K "check_number") d_check_number := e_check_number
  have q_check_index : mg "check_index" = some (.ref (He.ga K "check_index")) := He.glo_ok KX G (cd.fact 6 (f := .glo "check_index") rfl)
  obtain ⟨d_check_index, e_check_index⟩ := cd.def_ 6 (d := dD "check_index" s_check_index) rfl
  have F_check_index : FnP K "check_index" s_check_index (He.ga K "check_index") d_check_index := e_check_index
  have q_check_word : mg "check_word" = some (.ref (He.ga K "check_word")) := He.glo_ok KX G (cd.fact 7 (f := .glo "check_word") rfl)
  obtain ⟨d_check_word, e_check_word⟩ := cd.def_ 7 (d := dD "check_word" s_check_word) rfl
  have F_check_word : FnP K "check_word" s_check_word (He.ga K "check_word") d_check_word := e_check_word
  have q_check_string : mg "check_string" = some (.ref (He.ga K "check_string")) := He.glo_ok KX G (cd.fact 8 (f := .glo "check_string") rfl)
  obtain ⟨d_check_string, e_check_string⟩ := cd.def_ 8 (d := dD "check_string" s_check_string) rfl
  have F_check_string : FnP K "check_string" s_check_string (He.ga K "check_string") d_check_string := e_check_string
  have q_read_marks : mg "read_marks" = some (.ref (He.ga K "read_marks")) := He.glo_ok KX G (cd.fact 9 (f := .glo "read_marks") rfl)
  obtain ⟨d_read_marks, e_read_marks⟩ := cd.def_ 9 (d := dD "read_marks" s_read_marks) rfl
  have F_read_marks : FnP K "read_marks" s_read_marks (He.ga K "read_marks") d_read_marks := e_read_marks
  have q_History___init__ : Mk K (He.ga K "History") (He.ma K (He.ga K "History") "__init__") := He.mkr_ok (cd.fact 10 (f := .mkr "History") rfl)
  obtain ⟨d_History___init__, e_History___init__⟩ := cd.def_ 10 rfl
  have F_History___init__ : DL.FnM K "__init__" "History.__init__" s_History___init__ [] (He.ma K (He.ga K "History") "__init__") d_History___init__ := e_History___init__
  have q_History_write : Meth K (He.ga K "History") "write" (He.ma K (He.ga K "History") "write") := He.meth_ok (cd.fact 11 (f := .meth "History" "write") rfl)
  obtain ⟨d_History_write, e_History_write⟩ := cd.def_ 11 rfl
  have F_History_write : DL.FnM K "write" "History.write" s_History_write [] (He.ma K (He.ga K "History") "write") d_History_write := e_History_write
  have q_History__put : Meth K (He.ga K "History") "_put" (He.ma K (He.ga K "History") "_put") := He.meth_ok (cd.fact 12 (f := .meth "History" "_put") rfl)
  obtain ⟨d_History__put, e_History__put⟩ := cd.def_ 12 rfl
  have F_History__put : DL.FnM K "_put" "History._put" s_History__put [] (He.ma K (He.ga K "History") "_put") d_History__put := e_History__put
  have q_new_row : mg "new_row" = some (.ref (He.ga K "new_row")) := He.glo_ok KX G (cd.fact 13 (f := .glo "new_row") rfl)
  obtain ⟨d_new_row, e_new_row⟩ := cd.def_ 13 (d := dD "new_row" s_new_row) rfl
  have F_new_row : FnP K "new_row" s_new_row (He.ga K "new_row") d_new_row := e_new_row
  have q_replaced : mg "replaced" = some (.ref (He.ga K "replaced")) := He.glo_ok KX G (cd.fact 14 (f := .glo "replaced") rfl)
  obtain ⟨d_replaced, e_replaced⟩ := cd.def_ 14 (d := dD "replaced" s_replaced) rfl
  have F_replaced : FnP K "replaced" s_replaced (He.ga K "replaced") d_replaced := e_replaced
  have q_with_child : mg "with_child" = some (.ref (He.ga K "with_child")) := He.glo_ok KX G (cd.fact 15 (f := .glo "with_child") rfl)
  obtain ⟨d_with_child, e_with_child⟩ := cd.def_ 15 (d := dD "with_child" s_with_child) rfl
  have F_with_child : FnP K "with_child" s_with_child (He.ga K "with_child") d_with_child := e_with_child
  have q_without_child : mg "without_child" = some (.ref (He.ga K "without_child")) := He.glo_ok KX G (cd.fact 16 (f := .glo "without_child") rfl)
  obtain ⟨d_without_child, e_without_child⟩ := cd.def_ 16 (d := dD "without_child" s_without_child) rfl
  have F_without_child : FnP K "without_child" s_without_child (He.ga K "without_child") d_without_child := e_without_child
  have q_branch : mg "branch" = some (.ref (He.ga K "branch")) := He.glo_ok KX G (cd.fact 17 (f := .glo "branch") rfl)
  obtain ⟨d_branch, e_branch⟩ := cd.def_ 17 (d := dD "branch" s_branch) rfl
  have F_branch : FnP K "branch" s_branch (He.ga K "branch") d_branch := e_branch
  have q_depth_of : mg "depth_of" = some (.ref (He.ga K "depth_of")) := He.glo_ok KX G (cd.fact 18 (f := .glo "depth_of") rfl)
  obtain ⟨d_depth_of, e_depth_of⟩ := cd.def_ 18 (d := dD "depth_of" s_depth_of) rfl
  have F_depth_of : FnP K "depth_of" s_depth_of (He.ga K "depth_of") d_depth_of := e_depth_of
  have q_height_of : mg "height_of" = some (.ref (He.ga K "height_of")) := He.glo_ok KX G (cd.fact 19 (f := .glo "height_of") rfl)
  obtain ⟨d_height_of, e_height_of⟩ := cd.def_ 19 (d := dD "height_of" s_height_of) rfl
  have F_height_of : FnP K "height_of" s_height_of (He.ga K "height_of") d_height_of := e_height_of
  have q_Page___init__ : Mk K (He.ga K "Page") (He.ma K (He.ga K "Page") "__init__") := He.mkr_ok (cd.fact 20 (f := .mkr "Page") rfl)
  obtain ⟨d_Page___init__, e_Page___init__⟩ := cd.def_ 20 rfl
  have F_Page___init__ : DL.FnM K "__init__" "Page.__init__" s_Page___init__ [] (He.ma K (He.ga K "Page") "__init__") d_Page___init__ := e_Page___init__
  have q_Page_parent : Meth K (He.ga K "Page") "parent" (He.ma K (He.ga K "Page") "parent") := He.meth_ok (cd.fact 21 (f := .meth "Page" "parent") rfl)
  obtain ⟨d_Page_parent, e_Page_parent⟩ := cd.def_ 21 rfl
  have F_Page_parent : DL.FnM K "parent" "Page.parent" s_Page_parent [] (He.ma K (He.ga K "Page") "parent") d_Page_parent := e_Page_parent
  have q_Page_depth : Meth K (He.ga K "Page") "depth" (He.ma K (He.ga K "Page") "depth") := He.meth_ok (cd.fact 22 (f := .meth "Page" "depth") rfl)
  obtain ⟨d_Page_depth, e_Page_depth⟩ := cd.def_ 22 rfl
  have F_Page_depth : DL.FnM K "depth" "Page.depth" s_Page_depth [] (He.ma K (He.ga K "Page") "depth") d_Page_depth := e_Page_depth
  have q_Page_nodes : Meth K (He.ga K "Page") "nodes" (He.ma K (He.ga K "Page") "nodes") := He.meth_ok (cd.fact 23 (f := .meth "Page" "nodes") rfl)
  obtain ⟨d_Page_nodes, e_Page_nodes⟩ := cd.def_ 23 rfl
  have F_Page_nodes : DL.FnM K "nodes" "Page.nodes" s_Page_nodes [] (He.ma K (He.ga K "Page") "nodes") d_Page_nodes := e_Page_nodes
  have q_Page_insert_box : Meth K (He.ga K "Page") "insert_box" (He.ma K (He.ga K "Page") "insert_box") := He.meth_ok (cd.fact 24 (f := .meth "Page" "insert_box") rfl)
  obtain ⟨d_Page_insert_box, e_Page_insert_box⟩ := cd.def_ 24 rfl
  have F_Page_insert_box : DL.FnM K "insert_box" "Page.insert_box" s_Page_insert_box [("marks", .ref (DL.kwAt ("Page", some "insert_box") "marks" K))] (He.ma K (He.ga K "Page") "insert_box") d_Page_insert_box := e_Page_insert_box
  have q_Page_insert_text : Meth K (He.ga K "Page") "insert_text" (He.ma K (He.ga K "Page") "insert_text") := He.meth_ok (cd.fact 25 (f := .meth "Page" "insert_text") rfl)
  obtain ⟨d_Page_insert_text, e_Page_insert_text⟩ := cd.def_ 25 rfl
  have F_Page_insert_text : DL.FnM K "insert_text" "Page.insert_text" s_Page_insert_text [] (He.ma K (He.ga K "Page") "insert_text") d_Page_insert_text := e_Page_insert_text
  have q_Page_remove : Meth K (He.ga K "Page") "remove" (He.ma K (He.ga K "Page") "remove") := He.meth_ok (cd.fact 26 (f := .meth "Page" "remove") rfl)
  obtain ⟨d_Page_remove, e_Page_remove⟩ := cd.def_ 26 rfl
  have F_Page_remove : DL.FnM K "remove" "Page.remove" s_Page_remove [] (He.ma K (He.ga K "Page") "remove") d_Page_remove := e_Page_remove
  have q_Page_move : Meth K (He.ga K "Page") "move" (He.ma K (He.ga K "Page") "move") := He.meth_ok (cd.fact 27 (f := .meth "Page" "move") rfl)
  obtain ⟨d_Page_move, e_Page_move⟩ := cd.def_ 27 rfl
  have F_Page_move : DL.FnM K "move" "Page.move" s_Page_move [] (He.ma K (He.ga K "Page") "move") d_Page_move := e_Page_move
  have q_Page_snapshot : Meth K (He.ga K "Page") "snapshot" (He.ma K (He.ga K "Page") "snapshot") := He.meth_ok (cd.fact 28 (f := .meth "Page" "snapshot") rfl)
  obtain ⟨d_Page_snapshot, e_Page_snapshot⟩ := cd.def_ 28 rfl
  have F_Page_snapshot : DL.FnM K "snapshot" "Page.snapshot" s_Page_snapshot [] (He.ma K (He.ga K "Page") "snapshot") d_Page_snapshot := e_Page_snapshot
  have q_Page__row : Meth K (He.ga K "Page") "_row" (He.ma K (He.ga K "Page") "_row") := He.meth_ok (cd.fact 29 (f := .meth "Page" "_row") rfl)
  obtain ⟨d_Page__row, e_Page__row⟩ := cd.def_ 29 rfl
  have F_Page__row : DL.FnM K "_row" "Page._row" s_Page__row [] (He.ma K (He.ga K "Page") "_row") d_Page__row := e_Page__row
  have q_Page__box : Meth K (He.ga K "Page") "_box" (He.ma K (He.ga K "Page") "_box") := He.meth_ok (cd.fact 30 (f := .meth "Page" "_box") rfl)
  obtain ⟨d_Page__box, e_Page__box⟩ := cd.def_ 30 rfl
  have F_Page__box : DL.FnM K "_box" "Page._box" s_Page__box [] (He.ma K (He.ga K "Page") "_box") d_Page__box := e_Page__box
  have q_Page__insert : Meth K (He.ga K "Page") "_insert" (He.ma K (He.ga K "Page") "_insert") := He.meth_ok (cd.fact 31 (f := .meth "Page" "_insert") rfl)
  obtain ⟨d_Page__insert, e_Page__insert⟩ := cd.def_ 31 rfl
  have F_Page__insert : DL.FnM K "_insert" "Page._insert" s_Page__insert [] (He.ma K (He.ga K "Page") "_insert") d_Page__insert := e_Page__insert
  have q_Page__write : Meth K (He.ga K "Page") "_write" (He.ma K (He.ga K "Page") "_write") := He.meth_ok (cd.fact 32 (f := .meth "Page" "_write") rfl)
  obtain ⟨d_Page__write, e_Page__write⟩ := cd.def_ 32 rfl
  have F_Page__write : DL.FnM K "_write" "Page._write" s_Page__write [] (He.ma K (He.ga K "Page") "_write") d_Page__write := e_Page__write
  have q_Page__follow : Meth K (He.ga K "Page") "_follow" (He.ma K (He.ga K "Page") "_follow") := He.meth_ok (cd.fact 33 (f := .meth "Page" "_follow") rfl)
  obtain ⟨d_Page__follow, e_Page__follow⟩ := cd.def_ 33 rfl
  have F_Page__follow : DL.FnM K "_follow" "Page._follow" s_Page__follow [] (He.ma K (He.ga K "Page") "_follow") d_Page__follow := e_Page__follow
  have q__refuse_root : mg "_refuse_root" = some (.ref (He.ga K "_refuse_root")) := He.glo_ok KX G (cd.fact 34 (f := .glo "_refuse_root") rfl)
  obtain ⟨d__refuse_root, e__refuse_root⟩ := cd.def_ 34 (d := dD "_refuse_root" s__refuse_root) rfl
  have F__refuse_root : FnP K "_refuse_root" s__refuse_root (He.ga K "_refuse_root") d__refuse_root := e__refuse_root
  have q__check_depth : mg "_check_depth" = some (.ref (He.ga K "_check_depth")) := He.glo_ok KX G (cd.fact 35 (f := .glo "_check_depth") rfl)
  obtain ⟨d__check_depth, e__check_depth⟩ := cd.def_ 35 (d := dD "_check_depth" s__check_depth) rfl
  have F__check_depth : FnP K "_check_depth" s__check_depth (He.ga K "_check_depth") d__check_depth := e__check_depth
  have q__law_next : mg "_law_next" = some (.ref (He.ga K "_law_next")) := He.glo_ok KX G (cd.fact 36 (f := .glo "_law_next") rfl)
  obtain ⟨d__law_next, e__law_next⟩ := cd.def_ 36 (d := dD "_law_next" s__law_next) rfl
  have F__law_next : FnP K "_law_next" s__law_next (He.ga K "_law_next") d__law_next := e__law_next
  have q__law_chain : mg "_law_chain" = some (.ref (He.ga K "_law_chain")) := He.glo_ok KX G (cd.fact 37 (f := .glo "_law_chain") rfl)
  obtain ⟨d__law_chain, e__law_chain⟩ := cd.def_ 37 (d := dD "_law_chain" s__law_chain) rfl
  have F__law_chain : FnP K "_law_chain" s__law_chain (He.ga K "_law_chain") d__law_chain := e__law_chain
  have q__law_insert : mg "_law_insert" = some (.ref (He.ga K "_law_insert")) := He.glo_ok KX G (cd.fact 38 (f := .glo "_law_insert") rfl)
  obtain ⟨d__law_insert, e__law_insert⟩ := cd.def_ 38 (d := dD "_law_insert" s__law_insert) rfl
  have F__law_insert : FnP K "_law_insert" s__law_insert (He.ga K "_law_insert") d__law_insert := e__law_insert
  have q__law_move : mg "_law_move" = some (.ref (He.ga K "_law_move")) := He.glo_ok KX G (cd.fact 39 (f := .glo "_law_move") rfl)
  obtain ⟨d__law_move, e__law_move⟩ := cd.def_ 39 (d := dD "_law_move" s__law_move) rfl
  have F__law_move : FnP K "_law_move" s__law_move (He.ga K "_law_move") d__law_move := e__law_move
  have q__law_deep : mg "_law_deep" = some (.ref (He.ga K "_law_deep")) := He.glo_ok KX G (cd.fact 40 (f := .glo "_law_deep") rfl)
  obtain ⟨d__law_deep, e__law_deep⟩ := cd.def_ 40 (d := dD "_law_deep" s__law_deep) rfl
  have F__law_deep : FnP K "_law_deep" s__law_deep (He.ga K "_law_deep") d__law_deep := e__law_deep
  have q__law_moved : mg "_law_moved" = some (.ref (He.ga K "_law_moved")) := He.glo_ok KX G (cd.fact 41 (f := .glo "_law_moved") rfl)
  obtain ⟨d__law_moved, e__law_moved⟩ := cd.def_ 41 (d := dD "_law_moved" s__law_moved) rfl
  have F__law_moved : FnP K "_law_moved" s__law_moved (He.ga K "_law_moved") d__law_moved := e__law_moved
  have q__law_many : mg "_law_many" = some (.ref (He.ga K "_law_many")) := He.glo_ok KX G (cd.fact 42 (f := .glo "_law_many") rfl)
  obtain ⟨d__law_many, e__law_many⟩ := cd.def_ 42 (d := dD "_law_many" s__law_many) rfl
  have F__law_many : FnP K "_law_many" s__law_many (He.ga K "_law_many") d__law_many := e__law_many
  have q_law : mg "law" = some (.ref (He.ga K "law")) := He.glo_ok KX G (cd.fact 43 (f := .glo "law") rfl)
  obtain ⟨d_law, e_law⟩ := cd.def_ 43 (d := dD "law" s_law) rfl
  have F_law : FnP K "law" s_law (He.ga K "law") d_law := e_law
  obtain ⟨d_PageError___init__, e_PageError___init__⟩ := cd.def_ 44 rfl
  have F_PageError___init__ : DL.FnM K "__init__" "PageError.__init__" s_PageError___init__ [] (He.ma K (He.ga K "PageError") "__init__") d_PageError___init__ := e_PageError___init__
  have z_ValueError : mg "ValueError" = none := He.free_ok KX G (cd.fact 45 (f := .free "ValueError") rfl)
  have z_all : mg "all" = none := He.free_ok KX G (cd.fact 46 (f := .free "all") rfl)
  have z_bool : mg "bool" = none := He.free_ok KX G (cd.fact 47 (f := .free "bool") rfl)
  have z_int : mg "int" = none := He.free_ok KX G (cd.fact 48 (f := .free "int") rfl)
  have z_isinstance : mg "isinstance" = none := He.free_ok KX G (cd.fact 49 (f := .free "isinstance") rfl)
  have z_len : mg "len" = none := He.free_ok KX G (cd.fact 50 (f := .free "len") rfl)
  have z_list : mg "list" = none := He.free_ok KX G (cd.fact 51 (f := .free "list") rfl)
  have z_max : mg "max" = none := He.free_ok KX G (cd.fact 52 (f := .free "max") rfl)
  have z_min : mg "min" = none := He.free_ok KX G (cd.fact 53 (f := .free "min") rfl)
  have z_ord : mg "ord" = none := He.free_ok KX G (cd.fact 54 (f := .free "ord") rfl)
  have z_range : mg "range" = none := He.free_ok KX G (cd.fact 55 (f := .free "range") rfl)
  have z_set : mg "set" = none := He.free_ok KX G (cd.fact 56 (f := .free "set") rfl)
  have z_sorted : mg "sorted" = none := He.free_ok KX G (cd.fact 57 (f := .free "sorted") rfl)
  have z_str : mg "str" = none := He.free_ok KX G (cd.fact 58 (f := .free "str") rfl)
  have z_tuple : mg "tuple" = none := He.free_ok KX G (cd.fact 59 (f := .free "tuple") rfl)
  have hex : ex K = true := c.more
  unfold ex at hex
  replace hex := (Bool.and_eq_true_iff.mp hex).2
  try simp only [Bool.and_eq_true] at hex
  have hem0 := hex
  have ke_Page_insert_box_marks : ∀ N H, Dn K N H (.ref (DL.kwAt ("Page", some "insert_box") "marks" K)) (.tuple []) := fun N H => DL.emB_ok hem0 N H
  have c_LONGEST_WORD : ∃ t, mg "LONGEST_WORD" = some (.int 12 t) := He.int_ok KX G (cd.fact 60 (f := .int "LONGEST_WORD" 12) rfl)
  have c_PERCENT : ∃ t, mg "PERCENT" = some (.int 37 t) := He.int_ok KX G (cd.fact 61 (f := .int "PERCENT" 37) rfl)
  have c_MOST_CHARACTERS : ∃ t, mg "MOST_CHARACTERS" = some (.int 500 t) := He.int_ok KX G (cd.fact 62 (f := .int "MOST_CHARACTERS" 500) rfl)
  have c_MOST_MARKS : ∃ t, mg "MOST_MARKS" = some (.int 8 t) := He.int_ok KX G (cd.fact 63 (f := .int "MOST_MARKS" 8) rfl)
  have c_ROOT : ∃ t, mg "ROOT" = some (.int 1 t) := He.int_ok KX G (cd.fact 64 (f := .int "ROOT" 1) rfl)
  have c_NOBODY : ∃ t, mg "NOBODY" = some (.int 0 t) := He.int_ok KX G (cd.fact 65 (f := .int "NOBODY" 0) rfl)
  have c_PARENT : ∃ t, mg "PARENT" = some (.int 0 t) := He.int_ok KX G (cd.fact 66 (f := .int "PARENT" 0) rfl)
  have c_KIND : ∃ t, mg "KIND" = some (.int 1 t) := He.int_ok KX G (cd.fact 67 (f := .int "KIND" 1) rfl)
  have c_CHILDREN : ∃ t, mg "CHILDREN" = some (.int 6 t) := He.int_ok KX G (cd.fact 68 (f := .int "CHILDREN" 6) rfl)
  have c_MOST_WINDOW : ∃ t, mg "MOST_WINDOW" = some (.int 1000 t) := He.int_ok KX G (cd.fact 69 (f := .int "MOST_WINDOW" 1000) rfl)
  have c_MOST_DEPTH : ∃ t, mg "MOST_DEPTH" = some (.int 30 t) := He.int_ok KX G (cd.fact 70 (f := .int "MOST_DEPTH" 30) rfl)
  have c_MOST_NODES : ∃ t, mg "MOST_NODES" = some (.int 300 t) := He.int_ok KX G (cd.fact 71 (f := .int "MOST_NODES" 300) rfl)
  have c_WINDOW : ∃ t, mg "WINDOW" = some (.str "window" t) := He.str_ok KX G (cd.fact 72 (f := .str "WINDOW" "window") rfl)
  have c_RULES : ∃ t, mg "RULES" = some (.str "rules" t) := He.str_ok KX G (cd.fact 73 (f := .str "RULES" "rules") rfl)
  refine ⟨q_law, d_law, F_law, fun base hb hg => ?_⟩
  have h_init := ok_PageError___init__ (P := P) (w := w) (mg := mg) (base := base) F_PageError___init__ z_ValueError z_str (DL.all_id hexE (i := 12) rfl)
  have b_init : Binds K d_PageError___init__ ["self", "value"] [] := F_PageError___init__.bindsN (fun _ _ _ _ _ _ us hl => match us, hl with | [_, _], _ => rfl)
  have h_is_number := ok_is_number (P := P) (w := w) (mg := mg) (base := base) F_is_number q_is_number z_isinstance z_int z_bool
  have h_is_within := ok_is_within (P := P) (w := w) (mg := mg) (base := base) F_is_within q_is_within h_is_number
  have h_is_word := ok_is_word (P := P) (w := w) (mg := mg) (base := base) F_is_word q_is_word z_isinstance z_str z_len z_all c_LONGEST_WORD
  have h__is_allowed := ok__is_allowed (P := P) (w := w) (mg := mg) (base := base) F__is_allowed q__is_allowed z_ord c_PERCENT
  have h_is_string := ok_is_string (P := P) (w := w) (mg := mg) (base := base) F_is_string q_is_string h__is_allowed z_isinstance z_str z_all
  have h_check_number := ok_check_number (P := P) (w := w) (mg := mg) (base := base) F_check_number q_check_number h_is_within
  have h_check_index := ok_check_index (P := P) (w := w) (mg := mg) (base := base) F_check_index q_check_index g_BadPlace e_BadPlace h_init b_init h_is_within
  have h_check_word := ok_check_word (P := P) (w := w) (mg := mg) (base := base) F_check_word q_check_word h_is_word
  have h_check_string := ok_check_string (P := P) (w := w) (mg := mg) (base := base) F_check_string q_check_string h_is_string z_len c_MOST_CHARACTERS
  have h_read_marks := ok_read_marks (P := P) (w := w) (mg := mg) (base := base) F_read_marks q_read_marks h_check_word z_isinstance z_list z_tuple z_sorted z_set z_len c_MOST_MARKS
  have h_History___init__ := ok_History___init__ (P := P) (w := w) (mg := mg) (base := base) F_History___init__ kC_History n_History_cells n_History__done n_History__undone q_History___init__ q_History
  have h_History__put := ok_History__put (P := P) (w := w) (mg := mg) (base := base) F_History__put kC_History n_History_cells n_History__done n_History__undone q_History__put
  have h_History_write := ok_History_write (P := P) (w := w) (mg := mg) (base := base) F_History_write kC_History n_History_cells n_History__done n_History__undone h_History__put q_History_write
  have h_new_row := ok_new_row (P := P) (w := w) (mg := mg) (base := base) F_new_row q_new_row
  have h_replaced := ok_replaced (P := P) (w := w) (mg := mg) (base := base) F_replaced q_replaced
  have h_with_child := ok_with_child (P := P) (w := w) (mg := mg) (base := base) F_with_child q_with_child h_replaced c_CHILDREN
  have h_without_child := ok_without_child (P := P) (w := w) (mg := mg) (base := base) F_without_child q_without_child h_replaced z_tuple c_CHILDREN
  have h_branch := ok_branch (P := P) (w := w) (mg := mg) (base := base) F_branch q_branch c_CHILDREN
  have h_depth_of := ok_depth_of (P := P) (w := w) (mg := mg) (base := base) F_depth_of q_depth_of c_NOBODY c_PARENT
  have rec_height_of : ∀ hgt : Nat, Cal P w K mg base (0 + 1 * hgt + 1) "height_of" ["rows", "node"] (DL.spD K  (R_height_of hgt)) := by
    intro hgt
    induction hgt with
    | zero => exact DL.cal_voidD F_height_of sc_height_of q_height_of (spD_len (R_height_of_len 0)) (fun _ _ _ _ _ _ us hl => match us, hl with | [_, _], _ => rfl) R_height_of_0
    | succ hgt h_height_of =>
      have h_height_of' := ok_height_of (P := P) (w := w) (mg := mg) (base := base) F_height_of q_height_of hgt h_height_of z_max c_CHILDREN
      exact h_height_of'
  have h_height_of := rec_height_of 30
  have h_height_of := ok_height_of (P := P) (w := w) (mg := mg) (base := base) F_height_of q_height_of 30 h_height_of z_max c_CHILDREN
  have h_Page___init__ := ok_Page___init__ (P := P) (w := w) (mg := mg) (base := base) F_Page___init__ kC_History n_History_cells n_History__done n_History__undone kC_Page n_Page_width n_Page_height n_Page__last_id n_Page__moment n_Page__marked n_Page__history h_check_number h_new_row h_History___init__ c_MOST_WINDOW c_NOBODY c_ROOT c_WINDOW c_RULES q_Page___init__ q_Page
  have h_Page__row := ok_Page__row (P := P) (w := w) (mg := mg) (base := base) F_Page__row kC_History n_History_cells n_History__done n_History__undone kC_Page n_Page_width n_Page_height n_Page__last_id n_Page__moment n_Page__marked n_Page__history h_is_number q_Page__row
  have h_Page_parent := ok_Page_parent (P := P) (w := w) (mg := mg) (base := base) F_Page_parent kC_History n_History_cells n_History__done n_History__undone kC_Page n_Page_width n_Page_height n_Page__last_id n_Page__moment n_Page__marked n_Page__history h_Page__row c_PARENT q_Page_parent
  have h_Page_depth := ok_Page_depth (P := P) (w := w) (mg := mg) (base := base) F_Page_depth kC_History n_History_cells n_History__done n_History__undone kC_Page n_Page_width n_Page_height n_Page__last_id n_Page__moment n_Page__marked n_Page__history h_Page__row h_depth_of q_Page_depth
  have h_Page_nodes := ok_Page_nodes (P := P) (w := w) (mg := mg) (base := base) F_Page_nodes kC_History n_History_cells n_History__done n_History__undone kC_Page n_Page_width n_Page_height n_Page__last_id n_Page__moment n_Page__marked n_Page__history h_branch c_ROOT q_Page_nodes
  have h_Page__box := ok_Page__box (P := P) (w := w) (mg := mg) (base := base) F_Page__box kC_History n_History_cells n_History__done n_History__undone kC_Page n_Page_width n_Page_height n_Page__last_id n_Page__moment n_Page__marked n_Page__history h_Page__row c_KIND q_Page__box
  have h__check_depth := ok__check_depth (P := P) (w := w) (mg := mg) (base := base) F__check_depth q__check_depth g_TooDeep e_TooDeep h_init b_init c_MOST_DEPTH
  have h_Page__follow := ok_Page__follow (P := P) (w := w) (mg := mg) (base := base) F_Page__follow kC_History n_History_cells n_History__done n_History__undone kC_Page n_Page_width n_Page_height n_Page__last_id n_Page__moment n_Page__marked n_Page__history h_branch c_WINDOW q_Page__follow
  have h_Page__write := ok_Page__write (P := P) (w := w) (mg := mg) (base := base) F_Page__write kC_History n_History_cells n_History__done n_History__undone kC_Page n_Page_width n_Page_height n_Page__last_id n_Page__moment n_Page__marked n_Page__history h_History_write h_Page__follow q_Page__write
  have h_Page__insert := ok_Page__insert (P := P) (w := w) (mg := mg) (base := base) F_Page__insert kC_History n_History_cells n_History__done n_History__undone kC_Page n_Page_width n_Page_height n_Page__last_id n_Page__moment n_Page__marked n_Page__history g_BadPlace e_BadPlace g_TooDeep e_TooDeep g_TooMany e_TooMany h_init b_init h_Page__row h_check_index h__check_depth h_Page_depth h_Page_nodes h_Page__write h_with_child z_len c_PARENT c_CHILDREN c_MOST_NODES q_Page__insert
  have h_Page_insert_box := ok_Page_insert_box (P := P) (w := w) (mg := mg) (base := base) F_Page_insert_box kC_History n_History_cells n_History__done n_History__undone kC_Page n_Page_width n_Page_height n_Page__last_id n_Page__moment n_Page__marked n_Page__history g_BadPlace e_BadPlace g_TooDeep e_TooDeep g_TooMany e_TooMany h_Page__box h_check_word h_Page__insert h_new_row h_read_marks q_Page_insert_box
  have h_Page_insert_text := ok_Page_insert_text (P := P) (w := w) (mg := mg) (base := base) F_Page_insert_text kC_History n_History_cells n_History__done n_History__undone kC_Page n_Page_width n_Page_height n_Page__last_id n_Page__moment n_Page__marked n_Page__history g_BadPlace e_BadPlace g_TooDeep e_TooDeep g_TooMany e_TooMany h_Page__box h_check_string h_Page__insert h_new_row q_Page_insert_text
  have h__refuse_root := ok__refuse_root (P := P) (w := w) (mg := mg) (base := base) F__refuse_root q__refuse_root c_ROOT
  have h_Page_remove := ok_Page_remove (P := P) (w := w) (mg := mg) (base := base) F_Page_remove kC_History n_History_cells n_History__done n_History__undone kC_Page n_Page_width n_Page_height n_Page__last_id n_Page__moment n_Page__marked n_Page__history h_Page__row h__refuse_root h_branch h_without_child h_Page__write c_PARENT q_Page_remove
  have h_Page_snapshot := ok_Page_snapshot (P := P) (w := w) (mg := mg) (base := base) F_Page_snapshot kC_History n_History_cells n_History__done n_History__undone kC_Page n_Page_width n_Page_height n_Page__last_id n_Page__moment n_Page__marked n_Page__history h_Page_nodes z_tuple c_CHILDREN c_RULES q_Page_snapshot
  have h__law_next := ok__law_next (P := P) (w := w) (mg := mg) (base := base) F__law_next q__law_next z_len z_int
  have h__law_chain := ok__law_chain (P := P) (w := w) (mg := mg) (base := base) F__law_chain q__law_chain kC_History n_History_cells n_History__done n_History__undone kC_Page n_Page_width n_Page_height n_Page__last_id n_Page__moment n_Page__marked n_Page__history g_BadPlace e_BadPlace g_TooDeep e_TooDeep g_TooMany e_TooMany ke_Page_insert_box_marks h_Page_insert_box z_range
  have h__law_insert := ok__law_insert (P := P) (w := w) (mg := mg) (base := base) F__law_insert q__law_insert kC_History n_History_cells n_History__done n_History__undone kC_Page n_Page_width n_Page_height n_Page__last_id n_Page__moment n_Page__marked n_Page__history g_BadPlace e_BadPlace g_TooDeep e_TooDeep g_TooMany e_TooMany m_BadPlace_BadPlace m_BadPlace_TooDeep m_BadPlace_TooMany m_TooDeep_BadPlace m_TooDeep_TooDeep m_TooDeep_TooMany m_TooMany_BadPlace m_TooMany_TooDeep m_TooMany_TooMany ke_Page_insert_box_marks h_Page_insert_box h_Page_insert_text
  have h__law_deep := ok__law_deep (P := P) (w := w) (mg := mg) (base := base) F__law_deep q__law_deep kC_History n_History_cells n_History__done n_History__undone kC_Page n_Page_width n_Page_height n_Page__last_id n_Page__moment n_Page__marked n_Page__history h_Page___init__ h__law_next h__law_chain h_Page_snapshot h__law_insert
  have h__law_many := ok__law_many (P := P) (w := w) (mg := mg) (base := base) F__law_many q__law_many kC_History n_History_cells n_History__done n_History__undone kC_Page n_Page_width n_Page_height n_Page__last_id n_Page__moment n_Page__marked n_Page__history g_BadPlace e_BadPlace g_TooDeep e_TooDeep g_TooMany e_TooMany h_Page___init__ h__law_chain h__law_next h_Page_insert_text h_Page_snapshot h__law_insert h_Page_nodes h_Page_remove z_range z_len z_min
  have h_Page_move := ok_Page_move (P := P) (w := w) (mg := mg) (base := base) F_Page_move kC_History n_History_cells n_History__done n_History__undone kC_Page n_Page_width n_Page_height n_Page__last_id n_Page__moment n_Page__marked n_Page__history g_BadPlace e_BadPlace g_TooDeep e_TooDeep g_TooMany e_TooMany h_init b_init h_Page__row h__refuse_root h_Page__box h_branch h_without_child h_check_index h__check_depth h_depth_of h_height_of h_with_child h_replaced h_Page__write z_len c_PARENT c_CHILDREN q_Page_move
  have h__law_move := ok__law_move (P := P) (w := w) (mg := mg) (base := base) F__law_move q__law_move kC_History n_History_cells n_History__done n_History__undone kC_Page n_Page_width n_Page_height n_Page__last_id n_Page__moment n_Page__marked n_Page__history g_BadPlace e_BadPlace g_TooDeep e_TooDeep g_TooMany e_TooMany m_BadPlace_BadPlace m_BadPlace_TooDeep m_TooDeep_BadPlace m_TooDeep_TooDeep h_Page_move
  have h__law_moved := ok__law_moved (P := P) (w := w) (mg := mg) (base := base) F__law_moved q__law_moved kC_History n_History_cells n_History__done n_History__undone kC_Page n_Page_width n_Page_height n_Page__last_id n_Page__moment n_Page__marked n_Page__history g_BadPlace e_BadPlace g_TooDeep e_TooDeep g_TooMany e_TooMany h_Page___init__ h__law_next h__law_chain ke_Page_insert_box_marks h_Page_insert_box h_Page_snapshot h__law_move h_Page_parent h_Page_depth z_range
  have h_law := ok_law (P := P) (w := w) (mg := mg) (base := base) F_law kC_History n_History_cells n_History__done n_History__undone kC_Page n_Page_width n_Page_height n_Page__last_id n_Page__moment n_Page__marked n_Page__history h__law_deep h__law_moved h__law_next h__law_many z_list
  exact h_law
end Q
open PySem PySem.W PySem.Calls PyProof.Rows
set_option maxHeartbeats 0 in
theorem PySem.Challenge.cw_quirekiln_k29_depth_and_number_of_nodes_holds : PySem.Challenge.rw_quirekiln_k29_depth_and_number_of_nodes.Holds := by
  w_on; o_law
  refine HandSHeadRun.head_any (r := OpenLaw.row PySem.Challenge.rw_quirekiln_k29_depth_and_number_of_nodes) (q := view (OpenLaw.row PySem.Challenge.rw_quirekiln_k29_depth_and_number_of_nodes).prog [60]) (H := QH.hk) (ob := QH.ob) (M := 9720) (loose := ("_wall" :: "PageError" :: "NoNode" :: "WrongKind" :: "BadWord" :: "BadValue" :: "BadPlace" :: "TooDeep" :: "TooMany" :: "LONGEST_WORD" :: "PERCENT" :: "is_number" :: "is_within" :: "is_word" :: "is_string" :: "_is_allowed" :: "MOST_CHARACTERS" :: "MOST_MARKS" :: "check_number" :: "check_index" :: "check_word" :: "check_string" :: "read_marks" :: "History" :: "ROOT" :: "NOBODY" :: "PARENT" :: "KIND" :: "CONTENT" :: "MARKS" :: "CHILDREN" :: "new_row" :: "replaced" :: "with_child" :: "without_child" :: "branch" :: "depth_of" :: "height_of" :: "MOST_WINDOW" :: "MOST_DEPTH" :: "MOST_NODES" :: "WINDOW" :: "RULES" :: "Page" :: "_refuse_root" :: "_check_depth" :: "_law_next" :: "_law_chain" :: "_law_insert" :: "_law_move" :: "_law_deep" :: "_law_moved" :: "_law_many" :: [])) (d := HandSHeadRun.topDef (OpenLaw.row PySem.Challenge.rw_quirekiln_k29_depth_and_number_of_nodes).prog 60) (kwd := []) QH.ob_eq
    (by kernel_rfl) (fun s => by kernel_rfl) QH.run (by kernel_rfl) (by kernel_rfl) (by kernel_rfl) (by rfl) (by first | assumption | decide +kernel) (by decide +kernel) ⟨rfl, rfl, rfl, rfl, rfl, by decide +kernel⟩ ?hw ?hc
  case hw => w_witness2
  case hc =>
    exact DL.walk_end (l := PySem.Challenge.rw_quirekiln_k29_depth_and_number_of_nodes) (k := 36) (st := QH.s_law) rfl (by kernel_rfl) ⟨rfl, by decide, by decide⟩ (by kernel_rfl) (fun _ _ _ _ _ _ us hl => match us, hl with | [_], _ => rfl) (fun w mg K h KX G c => Q.facts w mg K h KX G c)
