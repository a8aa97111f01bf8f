import PyProof.Rows.All
import Wide.All
import OpenK.AllK
import Wide.FinOn
import HandS.ForMost
import HandS.Walk
import HandS.Evl
import HandS.Flow
import HandS.IsInst
import HandS.SortInts
import KE.DataEq
import HandS.ForExc
import HandS.Defaults
import HandS.Head0
import HandS.Head1
import HandS.Head2
import HandS.HeadEnd
import HandS.HeadHook1
import HandS.HeadHook2
import HandS.HeadHook3
import HandS.HeadHook4
import HandS.More
import HandS.Style
import KE.SortData
import HandS.Strs
import HandS.Comp
import HandS.SetBool
import HandS.Dict
import HandS.TupLen
import HandS.WordsDict
import HandS.Iter
import HandS.Star
import HandS.Text
import HandS.Codes
import PyProof.StrOps2
import HandS.StrMore
import PyProof.Rows.StrCountLaw
import PyProof.Rows.StrCut
import PyProof.StrLawsFrom
import PyProof.Draws
import PyProof.EnumMake
import HandS.GenList
import KE.KDictCopyH
import HandS.Wide
import HandS.DictComp
import HandS.Flt
import KE.LtData
import KE.KDictZip
import HandS.MakeKwOnly
import HandS.OwnIter
import HandS.IterNext
import HandS.Property
import HandS.Conv
import PyProof.StrLawsLast
import KE.KUnpack
import PyProof.CollectIter
import HandS.ExcInit
import HandS.ExcIs
import HandS.ExcField
import HandS.TryMany
import HandS.RaiseMore
import HandS.FStr
import PySem.Challenge.RW_quirekiln_k31_selector_round_trip
section
set_option Elab.async false
set_option linter.all false
set_option maxRecDepth 100000
set_option maxHeartbeats 4000000
namespace DL
open PySem PySem.Spec PyProof.Rows L2 He
mutual
def datB (K : PySem.W.Frag) : PyData → Value → Bool
  | .int i, .int j _ => decide (i = j)
  | .bool b, .bool c => b == c
  | .str x, .str y _ => decide (x = y)
  | .tuple ds, .ref a => match K.lookup a with
    | some ⟨.type c, _, .seq its _, _⟩ => decide (c = "tuple") && (decide (its.size ≤ sizeLine) && datsB K ds its.toList)
    | _ => false
  | _, _ => false
def datsB (K : PySem.W.Frag) : List PyData → List Value → Bool
  | [], [] => true
  | d :: ds, v :: vs => datB K d v && datsB K ds vs
  | _, _ => false
end
def kdB (K : PySem.W.Frag) (a : Addr) (m : List (Str × PyData)) : Bool := m.all fun p => match PySem.W.nsIn K a p.1 with
  | some (some u) => datB K p.2 u
  | _ => false
def exoB (K : PySem.W.Frag) (C : Addr) : Bool := match K.lookup C with
  | some ⟨.type "type", _, .cls cd, sl⟩ => (match cd.mro, sl.toList with
    | .ref C' :: bm, [_, _, _, _, some (.builtin n), _] => C' == C && n == "ValueError.__new__" && !cd.hasDel && cd.hasDict && PySem.HandSPX.refsVE bm
    | _, _ => false)
  | _ => false
def erB (K : PySem.W.Frag) (C fI : Addr) : Bool :=
  exoB K C && (decide (PySem.W.findIn K (.ref C) "__setattr__" = some (some (.builtin "object.__setattr__"))) && (decide (PySem.W.subIn K (.ref C) (.type "BaseException") = some true) &&
  (decide (PySem.W.typeIn K (.ref C) = some (.type "type")) && (PySem.W.keepIn K (.ref C) && (decide (PySem.W.findIn K (.ref C) "__init__" = some (some (.ref fI))) && (decide (PySem.W.typeIn K (.ref fI) = some (.type "function")) &&
  (decide (PySem.W.findIn K (.ref C) "value" = some none) && (xfB K C && (decide (PySem.W.findIn K (.ref C) "__class__" = some (some (.builtin "object.__class__"))) &&
  (decide (PySem.W.specialIn K (.builtin "object.__class__") "__get__" = some (some (.builtin "getset_descriptor.__get__"))) && (decide (PySem.W.takesIn K (.builtin "object.__class__") = some true) && decide (PySem.W.mroIn K C (.type "object") = some true))))))))))))
def veB (K : PySem.W.Frag) : Bool := match PySem.W.findCls K (.type "ValueError") (.type "type") "__init__" with
  | some (.val v) => decide (v = .builtin "ValueError.__init__")
  | _ => false
end DL
end
section
set_option Elab.async false
set_option linter.all false
set_option maxRecDepth 100000
set_option maxHeartbeats 4000000
open PySem PySem.Spec PyProof.Rows L2
namespace QH
def kd_BEFORE : List (Str × PyData) := [("", (.str "")), (" ", (.str " ")), (">", (.str " > "))]
def topS (i : Nat) : Stmt := PySem.Challenge.pw_quirekiln_k31_selector_round_trip.main.body.getD i (.Pass ⟨0, 0, 0, 0⟩)
abbrev dD (x : Str) (s : Stmt) : He.DefD := ⟨(x, none), x, x, defArgs s, defBody s, defScope s, [], []⟩
abbrev s_PageError___init__ : Stmt := inClass (topS 1) 0
abbrev s_is_word : Stmt := topS 7
abbrev s__parse_step : Stmt := topS 14
abbrev s_parse_selector : Stmt := topS 12
abbrev s_write_selector : Stmt := topS 13
abbrev s__law_next : Stmt := topS 16
abbrev s__law_word : Stmt := topS 17
abbrev s__law_many_marks : Stmt := topS 18
abbrev s__law_steps : Stmt := topS 19
abbrev s__law_written : Stmt := topS 20
abbrev s__law_spoiled : Stmt := topS 21
abbrev s__law_is_refused : Stmt := topS 22
abbrev s__law_is_kept : Stmt := topS 23
abbrev s_law : Stmt := topS 24
def fn : List He.DefD := [dD "is_word" s_is_word, dD "parse_selector" s_parse_selector, dD "write_selector" s_write_selector, dD "_parse_step" s__parse_step, dD "_law_next" s__law_next, dD "_law_word" s__law_word, dD "_law_many_marks" s__law_many_marks, dD "_law_steps" s__law_steps, dD "_law_written" s__law_written, dD "_law_spoiled" s__law_spoiled, dD "_law_is_refused" s__law_is_refused, dD "_law_is_kept" s__law_is_kept, dD "law" s_law, ⟨("PageError", some "__init__"), "__init__", "PageError.__init__", defArgs s_PageError___init__, defBody s_PageError___init__, defScope s_PageError___init__, [], []⟩]
def ts : List He.Tab := [(fun K => He.ga K "BEFORE", kd_BEFORE.map (·.1))]
def fa : List He.Fa := [.glo "is_word", .glo "parse_selector", .glo "write_selector", .glo "_parse_step", .glo "_law_next", .glo "_law_word", .glo "_law_many_marks", .glo "_law_steps", .glo "_law_written", .glo "_law_spoiled", .glo "_law_is_refused", .glo "_law_is_kept", .glo "law", .glo "PageError", .free "ValueError", .free "all", .free "int", .free "isinstance", .free "len", .free "list", .free "range", .free "set", .free "str", .free "tuple", .int "LONGEST_WORD" 12, .int "MOST_CHARACTERS" 100, .int "MOST_STEPS" 4, .glo "BEFORE", .glo "BadSelector", .glo "BadValue", .glo "BadWord", .glo "PageError"]
def exE (K : PySem.W.Frag) : List Bool := [DL.erB K (He.ga K "BadSelector") (He.ma K (He.ga K "PageError") "__init__"), DL.erB K (He.ga K "BadValue") (He.ma K (He.ga K "PageError") "__init__"), DL.erB K (He.ga K "BadWord") (He.ma K (He.ga K "PageError") "__init__"), DL.erB K (He.ga K "PageError") (He.ma K (He.ga K "PageError") "__init__"), decide (PySem.W.kitOne K (.ref (He.ga K "BadSelector")) (.ref (He.ga K "BadValue")) = some false), decide (PySem.W.kitOne K (.ref (He.ga K "BadSelector")) (.ref (He.ga K "BadWord")) = some false), decide (PySem.W.kitOne K (.ref (He.ga K "BadSelector")) (.ref (He.ga K "PageError")) = some true), decide (PySem.W.kitOne K (.ref (He.ga K "BadSelector")) (.type "ValueError") = some true), decide (PySem.W.exmOne K (.ref (He.ga K "BadSelector")) (.ref (He.ga K "BadSelector")) = some true), decide (PySem.W.exmOne K (.ref (He.ga K "BadSelector")) (.ref (He.ga K "PageError")) = some true), DL.veB K]
def ex (K : PySem.W.Frag) : Bool := (exE K).all id && DL.kdB K (He.ga K "BEFORE") kd_BEFORE
abbrev R : PySem.W.OpenRow := PySem.W.OpenLaw.row PySem.Challenge.rw_quirekiln_k31_selector_round_trip
abbrev hk : PySem.W.Hook := He.hookX 4 fa fn ts [] ex
def ob (s : PySem.W.SharedT) : He.AlX := He.obsX 4 fa fn ts [] ex (HandSHeadRun.getT s)
theorem ob_eq (s : PySem.W.SharedT) : ob s = hk.obs s.abs := He.obsX_eq (HandSHeadRun.getT_eq s)
def wb (b : Bool) (w : World) : World := { w with params := { w.params with followText := fun r => if r = "special-get-raises" then b else w.params.followText r } }
theorem wb_eq (w : World) : wb (w.params.followText "special-get-raises") w = w := by
  unfold wb
  have e : (fun r => if r = "special-get-raises" then w.params.followText "special-get-raises" else w.params.followText r) = w.params.followText := by
    funext r
    split
    · rename_i h
      rw [h]
    · rfl
  rw [e]
set_option maxHeartbeats 0 in
theorem run_true (w : World) : HandSHeadRun.RunEq R (PySem.W.view R.prog [24]) hk ob 3120 ["PageError", "BadWord", "BadValue", "BadSelector", "LONGEST_WORD", "is_word", "MOST_CHARACTERS", "MOST_STEPS", "BEFORE", "parse_selector", "write_selector", "_parse_step", "_law_next", "_law_word", "_law_many_marks", "_law_steps", "_law_written", "_law_spoiled", "_law_is_refused", "_law_is_kept"] (wb true w) := by
  intro os
  kernel_rfl
set_option maxHeartbeats 0 in
theorem run_false (w : World) : HandSHeadRun.RunEq R (PySem.W.view R.prog [24]) hk ob 3120 ["PageError", "BadWord", "BadValue", "BadSelector", "LONGEST_WORD", "is_word", "MOST_CHARACTERS", "MOST_STEPS", "BEFORE", "parse_selector", "write_selector", "_parse_step", "_law_next", "_law_word", "_law_many_marks", "_law_steps", "_law_written", "_law_spoiled", "_law_is_refused", "_law_is_kept"] (wb false w) := by
  intro os
  kernel_rfl
theorem run (w : World) : HandSHeadRun.RunEq R (PySem.W.view R.prog [24]) hk ob 3120 ["PageError", "BadWord", "BadValue", "BadSelector", "LONGEST_WORD", "is_word", "MOST_CHARACTERS", "MOST_STEPS", "BEFORE", "parse_selector", "write_selector", "_parse_step", "_law_next", "_law_word", "_law_many_marks", "_law_steps", "_law_written", "_law_spoiled", "_law_is_refused", "_law_is_kept"] w := by
  have e := wb_eq w
  cases h : w.params.followText "special-get-raises" with
  | true => rw [h] at e; rw [← e]; exact run_true w
  | false => rw [h] at e; rw [← e]; exact run_false w
end QH
end
set_option Elab.async false
set_option linter.all false
set_option maxRecDepth 100000
set_option maxHeartbeats 2000000
/-! The data layer: what a piece of a def does, told by data (PyData) and by a small symbolic store, over the readings of HandS. -/
namespace DL
open PySem L2

/-! ### data at an address -/
def SqK (K : PySem.W.Frag) (a : Addr) (xs : List V) : Prop :=
  ∃ (o : Obj) (its : Array Value) (n : Nat), K.lookup a = some o ∧ o.cls = .type "list" ∧ o.dict = none ∧ o.data = .seq its n ∧ its.size ≤ sizeLine ∧ Vals xs its.toList
/-- a key as data -/
def kdat : Key → PyData
  | .inl i => .int i
  | .inr x => .str x
def tdat (ks : List Key) : PyData := .tuple (ks.map kdat)
mutual
/-- v stands for the data d at the heap H; no list and no dict of it lies at an address of N -/
inductive Dn (K : PySem.W.Frag) (N : Addr → Prop) (H : Hp) : V → PyData → Prop
  | non : Dn K N H .non .none
  | bl (b : Bool) : Dn K N H (.bl b) (.bool b)
  | int (i : Int) : Dn K N H (.int i) (.int i)
  | str (x : Str) : Dn K N H (.str x) (.str x)
  | lst {a : Addr} {xs : List V} {ds : List PyData} : Rd H a (.lst xs) → ¬ N a → DnAll K N H xs ds → Dn K N H (.ref a) (.list ds)
  | lstK {a : Addr} {xs : List V} {ds : List PyData} : SqK K a xs → DnAll K N H xs ds → Dn K N H (.ref a) (.list ds)
  | tup {a : Addr} {xs : List V} {ds : List PyData} : SqT K H a xs → DnAll K N H xs ds → Dn K N H (.ref a) (.tuple ds)
  | dkk {a : Addr} {ws : List (Key × V)} {kvs : List (PyData × PyData)} : Rd H a (.dK ws) → ¬ N a → DnPs K N H (ws.map fun p => (kdat p.1, p.2)) kvs → Dn K N H (.ref a) (.dict kvs)
  | dkt {a : Addr} {ws : List (List Key × V)} {kvs : List (PyData × PyData)} : H a = some (.dT ws) → ¬ N a → DnPs K N H ((.none, .non) :: ws.map fun p => (tdat p.1, p.2)) kvs → Dn K N H (.ref a) (.dict kvs)
  | dkz {a : Addr} {od : Obj} {ws : List (Key × V)} {kvs : List (PyData × PyData)} : H a = some (.frz od (.dK ws)) → ¬ N a → DnPs K N H ((.bool false, .non) :: ws.map fun p => (kdat p.1, p.2)) kvs → Dn K N H (.ref a) (.dict kvs)
  | ins {a C dx : Addr} {fs : List (Str × V)} {kvs : List (PyData × PyData)} : H a = some (.ins C dx fs) → ¬ N a → DnPs K N H ((.bool true, .int (C : Int)) :: fs.map fun p => (.str p.1, p.2)) kvs → Dn K N H (.ref a) (.dict kvs)
  | ft {a : Addr} {o : Obj} {xs : List V} {kvs : List (PyData × PyData)} : H a = some (.frz o (.tup xs)) → o.dict = none → DnPs K N H [(.list [], .ref a)] kvs → Dn K N H (.ref a) (.dict kvs)
inductive DnAll (K : PySem.W.Frag) (N : Addr → Prop) (H : Hp) : List V → List PyData → Prop
  | nil : DnAll K N H [] []
  | cons {v : V} {vs : List V} {d : PyData} {ds : List PyData} : Dn K N H v d → DnAll K N H vs ds → DnAll K N H (v :: vs) (d :: ds)
inductive DnPs (K : PySem.W.Frag) (N : Addr → Prop) (H : Hp) : List (PyData × V) → List (PyData × PyData) → Prop
  | nil : DnPs K N H [] []
  | cons {k : PyData} {v : V} {vs : List (PyData × V)} {d : PyData} {ds : List (PyData × PyData)} : Dn K N H v d → DnPs K N H vs ds → DnPs K N H ((k, v) :: vs) ((k, d) :: ds)
end

/-- tuples, and tuples that are told by their object, stay -/
structure TP (K : PySem.W.Frag) (H H' : Hp) : Prop where
  t : ∀ a xs, SqT K H a xs → SqT K H' a xs
  f : ∀ a o xs, H a = some (.frz o (.tup xs)) → H' a = some (.frz o (.tup xs))
theorem TP.refl {K : PySem.W.Frag} {H : Hp} : TP K H H := ⟨fun _ _ r => r, fun _ _ _ r => r⟩
section
variable {K : PySem.W.Frag} {N N' : Addr → Prop} {H H' : Hp}
mutual
theorem Dn.go (hl : ∀ a u, Rd H a u → ¬ N a → Rd H' a u ∧ ¬ N' a) (hw : ∀ a u, H a = some u → ¬ N a → H' a = some u) (ht : TP K H H') : ∀ (d : PyData) (v : V), Dn K N H v d → Dn K N' H' v d
  | .none, _, h => by cases h; exact .non
  | .bool b, _, h => by cases h; exact .bl b
  | .int i, _, h => by cases h; exact .int i
  | .str x, _, h => by cases h; exact .str x
  | .list ds, _, h => by
    cases h with
    | lst r n a => exact .lst (hl _ _ r n).1 (hl _ _ r n).2 (DnAll.go hl hw ht ds _ a)
    | lstK r a => exact .lstK r (DnAll.go hl hw ht ds _ a)
  | .tuple ds, _, h => by
    cases h with
    | tup r a => exact .tup (ht.t _ _ r) (DnAll.go hl hw ht ds _ a)
  | .dict kvs, _, h => by
    cases h with
    | dkk r n a => exact .dkk (hl _ _ r n).1 (hl _ _ r n).2 (DnPs.go hl hw ht kvs _ a)
    | dkt r n a => exact .dkt (hw _ _ r n) (hl _ _ (Or.inl r) n).2 (DnPs.go hl hw ht kvs _ a)
    | dkz r n a => exact .dkz (hw _ _ r n) (hl _ _ (Or.inr ⟨_, r⟩) n).2 (DnPs.go hl hw ht kvs _ a)
    | ins r n a => exact .ins (hw _ _ r n) (hl _ _ (Or.inl r) n).2 (DnPs.go hl hw ht kvs _ a)
    | ft r n a => exact .ft (ht.f _ _ _ r) n (DnPs.go hl hw ht kvs _ a)
theorem DnAll.go (hl : ∀ a u, Rd H a u → ¬ N a → Rd H' a u ∧ ¬ N' a) (hw : ∀ a u, H a = some u → ¬ N a → H' a = some u) (ht : TP K H H') : ∀ (ds : List PyData) (vs : List V), DnAll K N H vs ds → DnAll K N' H' vs ds
  | [], _, h => by cases h; exact .nil
  | d :: ds, _, h => by
    cases h with
    | cons a b => exact .cons (Dn.go hl hw ht d _ a) (DnAll.go hl hw ht ds _ b)
theorem DnPs.go (hl : ∀ a u, Rd H a u → ¬ N a → Rd H' a u ∧ ¬ N' a) (hw : ∀ a u, H a = some u → ¬ N a → H' a = some u) (ht : TP K H H') : ∀ (ds : List (PyData × PyData)) (vs : List (PyData × V)), DnPs K N H vs ds → DnPs K N' H' vs ds
  | [], _, h => by cases h; exact .nil
  | (k, d) :: ds, _, h => by
    cases h with
    | cons a b => exact .cons (Dn.go hl hw ht d _ a) (DnPs.go hl hw ht ds _ b)
end
end
/-- the mark of a tuple that is told by its object -/
def isFt : PyData → Bool
  | .list [] => true
  | _ => false
mutual
/-- no list in it -/
def noList : PyData → Bool
  | .list _ => false
  | .tuple ds => noLists ds
  | .dict kvs => noListP kvs
  | _ => true
def noLists : List PyData → Bool
  | [] => true
  | d :: ds => noList d && noLists ds
def noListP : List (PyData × PyData) → Bool
  | [] => false
  | (k, d) :: ps => (isFt k && ps.isEmpty) && noList d
end
/-- the data of a tuple that is told by its object -/
def fT (ds : List PyData) : PyData := .dict [(.list [], .tuple ds)]
section
variable {K : PySem.W.Frag} {N N' : Addr → Prop} {H H' : Hp}
mutual
theorem Dn.goF (ht : TP K H H') : ∀ (d : PyData) (v : V), noList d = true → Dn K N H v d → Dn K N' H' v d
  | .none, _, _, h => by cases h; exact .non
  | .bool b, _, _, h => by cases h; exact .bl b
  | .int i, _, _, h => by cases h; exact .int i
  | .str x, _, _, h => by cases h; exact .str x
  | .list ds, _, q, _ => by simp [noList] at q
  | .tuple ds, _, q, h => by
    cases h with
    | tup r a => exact .tup (ht.t _ _ r) (DnAll.goF ht ds _ (by simpa [noList] using q) a)
  | .dict kvs, _, q, h => by
    have q : noListP kvs = true := by simpa [noList] using q
    cases h with
    | ft r n a => exact .ft (ht.f _ _ _ r) n (DnPs.goF ht kvs _ q a)
    | @dkk _ ws _ r n a =>
      cases ws with
      | nil => cases a; cases q
      | cons x ws =>
        rw [List.map_cons] at a
        generalize hk : kdat x.1 = kd at a
        cases a
        obtain ⟨k, y⟩ := x
        cases k <;> cases hk <;> simp [noListP, isFt, kdat] at q
    | dkt r n a => cases a; simp [noListP, isFt] at q
    | dkz r n a => cases a; simp [noListP, isFt] at q
    | ins r n a => cases a; simp [noListP, isFt] at q
theorem DnAll.goF (ht : TP K H H') : ∀ (ds : List PyData) (vs : List V), noLists ds = true → DnAll K N H vs ds → DnAll K N' H' vs ds
  | [], _, _, h => by cases h; exact .nil
  | d :: ds, _, q, h => by
    cases h with
    | cons a b =>
      have q' : noList d = true ∧ noLists ds = true := by simpa [noLists] using q
      exact .cons (Dn.goF ht d _ q'.1 a) (DnAll.goF ht ds _ q'.2 b)
theorem DnPs.goF (ht : TP K H H') : ∀ (ds : List (PyData × PyData)) (vs : List (PyData × V)), noListP ds = true → DnPs K N H vs ds → DnPs K N' H' vs ds
  | [], _, _, h => by cases h; exact .nil
  | (k, d) :: ps, _, q, h => by
    cases h with
    | cons a b =>
      have q' : (isFt k && ps.isEmpty) = true ∧ noList d = true := by simpa [noListP] using q
      have q1 := q'.2
      have q2 : ps = [] := by
        have := q'.1
        simp at this
        exact this.2
      subst q2
      cases b
      exact .cons (Dn.goF ht d _ q1 a) .nil
end
mutual
theorem Dn.dp : ∀ (d : PyData) (v : V), d.plain = true → Dn K N H v d → Dp K H v d
  | .none, _, _, h => by cases h; exact .non
  | .bool b, _, _, h => by cases h; exact .bl b
  | .int i, _, _, h => by cases h; exact .int i
  | .str x, _, _, h => by cases h; exact .str x
  | .list ds, _, q, h => by
    cases h with
    | lst r n a => exact .lst (Or.inl r) (DnAll.dp ds _ (by simpa [PyData.plain] using q) a)
    | lstK r a => exact .lst (Or.inr r) (DnAll.dp ds _ (by simpa [PyData.plain] using q) a)
  | .tuple ds, _, q, h => by
    cases h with
    | tup r a => exact .tup r (DnAll.dp ds _ (by simpa [PyData.plain] using q) a)
  | .dict _, _, q, _ => by simp [PyData.plain] at q
theorem DnAll.dp : ∀ (ds : List PyData) (vs : List V), PyData.plainAll ds = true → DnAll K N H vs ds → DpAll K H vs ds
  | [], _, _, h => by cases h; exact .nil
  | d :: ds, _, q, h => by
    cases h with
    | cons a b =>
      have q' : d.plain = true ∧ PyData.plainAll ds = true := by simpa [PyData.plainAll] using q
      exact .cons (Dn.dp d _ q'.1 a) (DnAll.dp ds _ q'.2 b)
end
theorem DnAll.length : ∀ {vs : List V} {ds : List PyData}, DnAll K N H vs ds → vs.length = ds.length
  | _, _, .nil => rfl
  | _, _, .cons _ t => congrArg (· + 1) (DnAll.length t)
theorem DnAll.get : ∀ {vs : List V} {ds : List PyData} {i : Nat} {d : PyData}, DnAll K N H vs ds → ds[i]? = some d → ∃ v, vs[i]? = some v ∧ Dn K N H v d
  | _, _, _, _, .nil, e => by simp at e
  | _, _, 0, _, .cons r _, e => by simp at e; subst e; exact ⟨_, rfl, r⟩
  | _, _, i + 1, _, .cons _ t, e => by
    obtain ⟨v, h1, h2⟩ := DnAll.get (i := i) t (by simpa using e)
    exact ⟨v, by simpa using h1, h2⟩
theorem DnAll.getV : ∀ {vs : List V} {ds : List PyData} {i : Nat} {v : V}, DnAll K N H vs ds → vs[i]? = some v → ∃ d, ds[i]? = some d ∧ Dn K N H v d
  | _, _, _, _, .nil, e => by simp at e
  | _, _, 0, _, .cons r _, e => by simp at e; subst e; exact ⟨_, rfl, r⟩
  | _, _, i + 1, _, .cons _ t, e => by
    obtain ⟨v, h1, h2⟩ := DnAll.getV (i := i) t (by simpa using e)
    exact ⟨v, by simpa using h1, h2⟩
theorem DnAll.ints : ∀ {vs : List V} {ns : List Int}, DnAll K N H vs (ns.map PyData.int) → vs = ns.map V.int
  | _, [], h => by cases h; rfl
  | _, n :: ns, h => by
    cases h with
    | cons a b => cases a; rw [DnAll.ints b]; rfl
end

/-! ### heaps -/
open Evl (Ex Ex.refl Ex.trans Ex.new)
end DL
theorem Evl.Ex.rd {H H' : L2.Hp} {a : PySem.Addr} {u : L2.HO} (e : Evl.Ex H H') (h : L2.Rd H a u) : L2.Rd H' a u := Evl.ex_rd e h
theorem Evl.Ex.sqt {K : PySem.W.Frag} {H H' : L2.Hp} {a : PySem.Addr} {xs : List L2.V} (e : Evl.Ex H H') (h : L2.SqT K H a xs) : L2.SqT K H' a xs := Evl.ex_t e h
theorem Evl.Ex.sql {K : PySem.W.Frag} {H H' : L2.Hp} {a : PySem.Addr} {xs : List L2.V} (e : Evl.Ex H H') (h : L2.SqL K H a xs) : L2.SqL K H' a xs := Evl.ex_l e h
theorem Evl.Ex.free {H H' : L2.Hp} {p : PySem.Addr} (e : Evl.Ex H H') (h : H' p = none) : H p = none := Evl.fresh_back e h
theorem Evl.Ex.some {H H' : L2.Hp} {p : PySem.Addr} (e : Evl.Ex H H') (h : H p ≠ none) : H' p ≠ none := fun z => h (e.free z)
namespace DL
open PySem L2
open Evl (Ex Ex.refl Ex.trans Ex.new)
theorem Dn.ext {K : PySem.W.Frag} {N : Addr → Prop} {H H' : Hp} {v : V} {d : PyData} (e : Ex H H') (h : Dn K N H v d) : Dn K N H' v d :=
  Dn.go (fun _ _ r n => ⟨e.rd r, n⟩) (fun a u r _ => e a u r) ⟨fun _ _ r => e.sqt r, fun _ _ _ r => e _ _ r⟩ d v h
theorem DnAll.ext {K : PySem.W.Frag} {N : Addr → Prop} {H H' : Hp} {v : List V} {d : List PyData} (e : Ex H H') (h : DnAll K N H v d) : DnAll K N H' v d :=
  DnAll.go (fun _ _ r n => ⟨e.rd r, n⟩) (fun a u r _ => e a u r) ⟨fun _ _ r => e.sqt r, fun _ _ _ r => e _ _ r⟩ d v h
theorem Dn.sub {K : PySem.W.Frag} {N N' : Addr → Prop} {H : Hp} {v : V} {d : PyData} (e : ∀ a, N' a → N a) (h : Dn K N H v d) : Dn K N' H v d :=
  Dn.go (fun _ _ r n => ⟨r, fun z => n (e _ z)⟩) (fun _ _ r _ => r) TP.refl d v h
theorem DnAll.sub {K : PySem.W.Frag} {N N' : Addr → Prop} {H : Hp} {v : List V} {d : List PyData} (e : ∀ a, N' a → N a) (h : DnAll K N H v d) : DnAll K N' H v d :=
  DnAll.go (fun _ _ r n => ⟨r, fun z => n (e _ z)⟩) (fun _ _ r _ => r) TP.refl d v h
theorem Rd.some {H : Hp} {a : Addr} {u : HO} (h : Rd H a u) : H a ≠ none := by
  rcases h with h | ⟨o, h⟩
  · rw [h]; exact fun z => nomatch z
  · rw [h]; exact fun z => nomatch z
/-- an address that is free is not met -/
theorem Dn.add {K : PySem.W.Frag} {N : Addr → Prop} {H : Hp} {v : V} {d : PyData} {p : Addr} (hp : H p = none) (h : Dn K N H v d) : Dn K (fun a => N a ∨ a = p) H v d :=
  Dn.go (fun a _ r n => ⟨r, fun z => z.elim n fun q => by subst q; exact Rd.some r hp⟩) (fun _ _ r _ => r) TP.refl d v h
/-- what is no tuple and is not frozen, or is a locked dict -/
def Wr : HO → Bool
  | .tup _ => false
  | .frz _ (.dK _) => true
  | .frz _ _ => false
  | _ => true
theorem mut_t {K : PySem.W.Frag} {H : Hp} {p : Addr} {o o' : HO} (hp : H p = some o) (hw : Wr o = true) : ∀ a xs, SqT K H a xs → SqT K (upd H p o') a xs := by
  intro a xs h
  rcases h with (h | ⟨u, h⟩) | h
  · refine Or.inl (Or.inl ?_)
    rw [upd_ne]
    · exact h
    · intro z; subst z; rw [hp] at h; cases h; cases hw
  · refine Or.inl (Or.inr ⟨u, ?_⟩)
    rw [upd_ne]
    · exact h
    · intro z; subst z; rw [hp] at h; cases h; cases hw
  · exact Or.inr h
theorem mut_f {H : Hp} {p : Addr} {o o' : HO} (hp : H p = some o) (hw : Wr o = true) : ∀ a u xs, H a = some (.frz u (.tup xs)) → upd H p o' a = some (.frz u (.tup xs)) := by
  intro a u xs h
  rw [upd_ne]
  · exact h
  · intro z; subst z; rw [hp] at h; cases h; cases hw
theorem Dn.mut {K : PySem.W.Frag} {N : Addr → Prop} {H : Hp} {v : V} {d : PyData} {p : Addr} {o o' : HO} (hp : H p = some o) (hw : Wr o = true) (hn : N p) (h : Dn K N H v d) : Dn K N (upd H p o') v d := by
  refine Dn.go (fun a xs r n => ⟨?_, n⟩) (fun a u r n => by rw [upd_ne (show a ≠ p from fun z => n (z ▸ hn))]; exact r) ⟨mut_t hp hw, mut_f hp hw⟩ d v h
  have ne : a ≠ p := fun z => n (z ▸ hn)
  rcases r with r | ⟨u, r⟩
  · exact Or.inl (by rw [upd_ne ne]; exact r)
  · exact Or.inr ⟨u, by rw [upd_ne ne]; exact r⟩
/-! ### the symbolic store -/
/-- an instance that is only read: its fields stand for the data m -/
def ObOk (K : PySem.W.Frag) (N : Addr → Prop) (H : Hp) (v : V) (C : Addr) (m : List (Str × PyData)) : Prop := ∃ (a dx : Addr) (fs : List (Str × V)), v = .ref a ∧ H a = some (.ins C dx fs) ∧ ¬ N a ∧ Paired (fun (p : Str × V) (q : Str × PyData) => p.1 = q.1 ∧ Dn K N H p.2 q.2) fs m
/-- a dict of data that no one writes any more -/
def ZOk (K : PySem.W.Frag) (N : Addr → Prop) (H : Hp) (v : V) (m : List (Key × PyData)) : Prop := ∃ (a : Addr) (dx : Obj) (fs : List (Key × V)), v = .ref a ∧ H a = some (.frz dx (.dK fs)) ∧ ¬ N a ∧ Paired (fun (p : Key × V) (q : Key × PyData) => p.1 = q.1 ∧ Dn K N H p.2 q.2) fs m
/-- an object that stays as it is and is none of the store's -/
def TOk (N : Addr → Prop) (H : Hp) (v : V) (u : HO) : Prop := ∃ b, v = .ref b ∧ H b = some u ∧ (Wr u = false ∨ ¬ N b)
/-- a value: data, or the k-th object of the store -/
inductive SV where
  | i (d : PyData)
  | r (k : Nat)
  | t (u : HO)
  | ob (C : Addr) (m : List (Str × PyData))
  | z (m : List (Key × PyData))
/-- what stands where a dict is locked -/
def LkO : Type := Unit → Obj × List (Key × V)
def LkO.od (l : LkO) : Obj := (l ()).1
def LkO.ws (l : LkO) : List (Key × V) := (l ()).2
def LkO.ho (l : LkO) : HO := .frz l.od (.dK l.ws)
def LkO.mk (od : Obj) (ws : List (Key × V)) : LkO := fun _ => (od, ws)
/-- an object of the store; x: forgotten -/
inductive SO where
  | x
  | lst (xs : List SV)
  | dK (kvs : List (Key × SV))
  | dT (kvs : List (List Key × SV))
  | ho (f : Addr → HO)
  | nums
  | stt (k : Nat)
  | ob (C : Addr) (fs : List (Str × SV))
  | lk (lo : LkO) (kvs : List (Key × SV))
  | tb (P : Addr)
/-- neither locked nor told by its object -/
def SO.noZ : SO → Bool
  | .lk .. => false
  | .ho _ => false
  | _ => true
def SO.live : SO → Bool
  | .x => false
  | _ => true
abbrev Sy := List (Option SV)
def SvOk (K : PySem.W.Frag) (N : Addr → Prop) (ad : Nat → Addr) (n : Nat) (H : Hp) (v : V) : SV → Prop
  | .i d => Dn K N H v d
  | .t u => TOk N H v u
  | .ob C m => ObOk K N H v C m
  | .z m => ZOk K N H v m
  | .r k => v = .ref (ad k) ∧ k < n
def SoOk (K : PySem.W.Frag) (N : Addr → Prop) (ad : Nat → Addr) (n : Nat) (H : Hp) (l : Addr) : SO → Prop
  | .x => True
  | .lst xs => ∃ vs, H l = some (.lst vs) ∧ Paired (SvOk K N ad n H) vs xs
  | .dK kvs => ∃ ws, H l = some (.dK ws) ∧ Paired (fun (p : Key × V) (q : Key × SV) => p.1 = q.1 ∧ SvOk K N ad n H p.2 q.2) ws kvs
  | .dT kvs => ∃ ws, H l = some (.dT ws) ∧ Paired (fun (p : List Key × V) (q : List Key × SV) => p.1 = q.1 ∧ SvOk K N ad n H p.2 q.2) ws kvs
  | .ho f => H l = some (f l) ∧ Wr (f l) = true
  | .tb P => l = P ∧ ∃ ps : Array Value, H l = some (.tbl ps) ∧ PySem.TriplesOk ps.toList ∧ ∀ (pos : Pos) (cv : Value), codeAmong pos ps.toList = some cv → ∃ c, cv = .ref c
  | .nums => ∃ ns : List Int, H l = some (.lst (ns.map V.int))
  | .stt k => ∃ (v : V) (a m : Int), H l = some (.lst [v, .int a, .int m]) ∧ SvOk K N ad n H v (.r k)
  | .lk lo kvs => H l = some lo.ho ∧ Paired (fun (p : Key × V) (q : Key × SV) => p.1 = q.1 ∧ SvOk K N ad n H p.2 q.2) lo.ws kvs
  | .ob C fs => ∃ (dx : Addr) (vs : List (Str × V)), H l = some (.ins C dx vs) ∧ Paired (fun (p : Str × V) (q : Str × SV) => p.1 = q.1 ∧ SvOk K N ad n H p.2 q.2) vs fs

structure Cn where
  K : PySem.W.Frag
  H0 : Hp
  N0 : Addr → Prop
  M : Addr → Prop := fun _ => False
  fr : List (V × SV) := []
  lo : Nat := 0
def Lv (os : List SO) (k : Nat) : Prop := ∃ o, os[k]? = some o ∧ o.live = true
def Nof (c : Cn) (ad : Nat → Addr) (os : List SO) : Addr → Prop := fun a => c.N0 a ∨ ∃ k, Lv os k ∧ a = ad k
structure Ok (c : Cn) (ad : Nat → Addr) (env : Sy) (os : List SO) (σ : St) (H : Hp) : Prop where
  len : σ.length = env.length
  ex : ∀ a o, c.H0 a = some o → ¬ c.M a → H a = some o
  n0 : ∀ a, c.N0 a → H a ≠ none
  val : ∀ (i : Nat) s, env[i]? = some (some s) → ∃ v, σ[i]? = some (some v) ∧ SvOk c.K (Nof c ad os) ad os.length H v s
  obj : ∀ (k : Nat) o, os[k]? = some o → o.live = true → (c.H0 (ad k) = none ∨ c.M (ad k)) ∧ SoOk c.K (Nof c ad os) ad os.length H (ad k) o
  inj : ∀ k j, Lv os k → Lv os j → ad k = ad j → k = j
  nn : ∀ k, Lv os k → ¬ c.N0 (ad k)
  frm : ∀ p ∈ c.fr, SvOk c.K (Nof c ad os) ad c.lo H p.1 p.2
  low : c.lo ≤ os.length

section
variable {c : Cn} {ad : Nat → Addr} {env : Sy} {os : List SO} {σ : St} {H H' : Hp}
theorem Paired.imp {α β : Type} {F G : α → β → Prop} : ∀ {l₁ : List α} {l₂ : List β}, Paired F l₁ l₂ → (∀ a b, F a b → G a b) → Paired G l₁ l₂
  | _, _, .nil, _ => .nil
  | _, _, .cons r t, f => .cons (f _ _ r) (Paired.imp t f)
theorem ObOk.ext {K : PySem.W.Frag} {N : Addr → Prop} {v : V} {C : Addr} {m : List (Str × PyData)} (e : Ex H H') (h : ObOk K N H v C m) : ObOk K N H' v C m := by
  obtain ⟨a, dx, fs, h1, h2, h3, h4⟩ := h
  exact ⟨a, dx, fs, h1, e _ _ h2, h3, Paired.imp h4 fun _ _ z => ⟨z.1, Dn.ext e z.2⟩⟩
theorem ObOk.sub {K : PySem.W.Frag} {N N' : Addr → Prop} {v : V} {C : Addr} {m : List (Str × PyData)} (e : ∀ a, N' a → N a) (h : ObOk K N H v C m) : ObOk K N' H v C m := by
  obtain ⟨a, dx, fs, h1, h2, h3, h4⟩ := h
  exact ⟨a, dx, fs, h1, h2, fun z => h3 (e _ z), Paired.imp h4 fun _ _ z => ⟨z.1, Dn.sub e z.2⟩⟩
theorem ObOk.mut {K : PySem.W.Frag} {N : Addr → Prop} {v : V} {C : Addr} {m : List (Str × PyData)} {p : Addr} {o o' : HO} (hp : H p = some o) (hw : Wr o = true) (hn : N p) (h : ObOk K N H v C m) : ObOk K N (upd H p o') v C m := by
  obtain ⟨a, dx, fs, h1, h2, h3, h4⟩ := h
  exact ⟨a, dx, fs, h1, by rw [upd_ne (show a ≠ p from fun z => h3 (z ▸ hn))]; exact h2, h3, Paired.imp h4 fun _ _ z => ⟨z.1, Dn.mut hp hw hn z.2⟩⟩
theorem ObOk.add {K : PySem.W.Frag} {N : Addr → Prop} {v : V} {C : Addr} {m : List (Str × PyData)} {p : Addr} (hp : H p = none) (h : ObOk K N H v C m) : ObOk K (fun a => N a ∨ a = p) H v C m := by
  obtain ⟨a, dx, fs, h1, h2, h3, h4⟩ := h
  refine ⟨a, dx, fs, h1, h2, fun z => z.elim h3 fun z => ?_, Paired.imp h4 fun _ _ z => ⟨z.1, Dn.add hp z.2⟩⟩
  rw [z, hp] at h2
  cases h2
theorem ZOk.ext {K : PySem.W.Frag} {N : Addr → Prop} {v : V} {m : List (Key × PyData)} (e : Ex H H') (h : ZOk K N H v m) : ZOk K N H' v m := by
  obtain ⟨a, dx, fs, h1, h2, h3, h4⟩ := h
  exact ⟨a, dx, fs, h1, e _ _ h2, h3, Paired.imp h4 fun _ _ z => ⟨z.1, Dn.ext e z.2⟩⟩
theorem ZOk.sub {K : PySem.W.Frag} {N N' : Addr → Prop} {v : V} {m : List (Key × PyData)} (e : ∀ a, N' a → N a) (h : ZOk K N H v m) : ZOk K N' H v m := by
  obtain ⟨a, dx, fs, h1, h2, h3, h4⟩ := h
  exact ⟨a, dx, fs, h1, h2, fun z => h3 (e _ z), Paired.imp h4 fun _ _ z => ⟨z.1, Dn.sub e z.2⟩⟩
theorem ZOk.mut {K : PySem.W.Frag} {N : Addr → Prop} {v : V} {m : List (Key × PyData)} {p : Addr} {o o' : HO} (hp : H p = some o) (hw : Wr o = true) (hn : N p) (h : ZOk K N H v m) : ZOk K N (upd H p o') v m := by
  obtain ⟨a, dx, fs, h1, h2, h3, h4⟩ := h
  exact ⟨a, dx, fs, h1, by rw [upd_ne (show a ≠ p from fun z => h3 (z ▸ hn))]; exact h2, h3, Paired.imp h4 fun _ _ z => ⟨z.1, Dn.mut hp hw hn z.2⟩⟩
theorem ZOk.add {K : PySem.W.Frag} {N : Addr → Prop} {v : V} {m : List (Key × PyData)} {p : Addr} (hp : H p = none) (h : ZOk K N H v m) : ZOk K (fun a => N a ∨ a = p) H v m := by
  obtain ⟨a, dx, fs, h1, h2, h3, h4⟩ := h
  refine ⟨a, dx, fs, h1, h2, fun z => z.elim h3 fun z => ?_, Paired.imp h4 fun _ _ z => ⟨z.1, Dn.add hp z.2⟩⟩
  rw [z, hp] at h2
  cases h2
theorem TOk.ext {N : Addr → Prop} {v : V} {u : HO} (e : Ex H H') (h : TOk N H v u) : TOk N H' v u := by
  obtain ⟨b, e1, e2, e3⟩ := h
  exact ⟨b, e1, e _ _ e2, e3⟩
theorem TOk.sub {N N' : Addr → Prop} {v : V} {u : HO} (e : ∀ a, N' a → N a) (h : TOk N H v u) : TOk N' H v u := by
  obtain ⟨b, e1, e2, e3⟩ := h
  exact ⟨b, e1, e2, e3.imp id fun e3 z => e3 (e _ z)⟩
theorem TOk.mut {N : Addr → Prop} {v : V} {u : HO} {p : Addr} {o o' : HO} (hp : H p = some o) (hw : Wr o = true) (hn : N p) (h : TOk N H v u) : TOk N (upd H p o') v u := by
  obtain ⟨b, e1, e2, e3⟩ := h
  exact ⟨b, e1, by rw [upd_ne (show b ≠ p from fun z => e3.elim (fun y => by subst z; rw [hp] at e2; cases e2; rw [hw] at y; cases y) fun y => y (z ▸ hn))]; exact e2, e3⟩
theorem TOk.add {N : Addr → Prop} {v : V} {u : HO} {p : Addr} (hp : H p = none) (h : TOk N H v u) : TOk (fun a => N a ∨ a = p) H v u := by
  obtain ⟨b, e1, e2, e3⟩ := h
  refine ⟨b, e1, e2, e3.imp id fun e3 z => z.elim e3 fun z => ?_⟩
  rw [z, hp] at e2
  cases e2
theorem SvOk.ext {K : PySem.W.Frag} {N : Addr → Prop} {n : Nat} {v : V} {s : SV} (e : Ex H H') (h : SvOk K N ad n H v s) : SvOk K N ad n H' v s := by
  cases s with
  | i d => exact Dn.ext e h
  | t ks => exact TOk.ext e h
  | ob C m => exact ObOk.ext e h
  | z m => exact ZOk.ext e h
  | r k => exact h
theorem SvOk.sub {K : PySem.W.Frag} {N N' : Addr → Prop} {n : Nat} {v : V} {s : SV} (e : ∀ a, N' a → N a) (h : SvOk K N ad n H v s) : SvOk K N' ad n H v s := by
  cases s with
  | i d => exact Dn.sub e h
  | t ks => exact TOk.sub e h
  | ob C m => exact ObOk.sub e h
  | z m => exact ZOk.sub e h
  | r k => exact h
theorem SvOk.mut {K : PySem.W.Frag} {N : Addr → Prop} {n : Nat} {v : V} {s : SV} {p : Addr} {o o' : HO} (hp : H p = some o) (hw : Wr o = true) (hn : N p) (h : SvOk K N ad n H v s) : SvOk K N ad n (upd H p o') v s := by
  cases s with
  | i d => exact Dn.mut hp hw hn h
  | ob C m => exact ObOk.mut hp hw hn h
  | z m => exact ZOk.mut hp hw hn h
  | t ks => exact TOk.mut hp hw hn h
  | r k => exact h
theorem SoOk.map {K : PySem.W.Frag} {N N' : Addr → Prop} {ad ad' : Nat → Addr} {n n' : Nat} {l : Addr} {o : SO} (f : ∀ v s, SvOk K N ad n H v s → SvOk K N' ad' n' H' v s) (hl : ∀ u, H l = some u → H' l = some u) (h : SoOk K N ad n H l o) : SoOk K N' ad' n' H' l o := by
  cases o with
  | x => exact True.intro
  | lst xs => obtain ⟨vs, e, p⟩ := h; exact ⟨vs, hl _ e, Paired.imp p f⟩
  | dK kvs => obtain ⟨vs, e, p⟩ := h; exact ⟨vs, hl _ e, Paired.imp p fun a b q => ⟨q.1, f _ _ q.2⟩⟩
  | dT kvs => obtain ⟨vs, e, p⟩ := h; exact ⟨vs, hl _ e, Paired.imp p fun a b q => ⟨q.1, f _ _ q.2⟩⟩
  | ho g => exact ⟨hl _ h.1, h.2⟩
  | tb P => obtain ⟨e, ps, e1, e2⟩ := h; exact ⟨e, ps, hl _ e1, e2⟩
  | nums => obtain ⟨ns, e⟩ := h; exact ⟨ns, hl _ e⟩
  | lk lo kvs => exact ⟨hl _ h.1, Paired.imp h.2 fun a b q => ⟨q.1, f _ _ q.2⟩⟩
  | stt k => obtain ⟨v, a, m, e, r⟩ := h; exact ⟨v, a, m, hl _ e, f _ _ r⟩
  | ob C fs => obtain ⟨dx, vs, e, p⟩ := h; exact ⟨dx, vs, hl _ e, Paired.imp p fun a b q => ⟨q.1, f _ _ q.2⟩⟩
theorem SoOk.some {K : PySem.W.Frag} {N : Addr → Prop} {n : Nat} {l : Addr} {o : SO} (h : SoOk K N ad n H l o) (hl : o.live = true) : ∃ u, H l = some u ∧ Wr u = true := by
  cases o with
  | lk lo kvs => exact ⟨_, h.1, rfl⟩
  | x => cases hl
  | lst xs => obtain ⟨vs, e, p⟩ := h; exact ⟨_, e, rfl⟩
  | dK kvs => obtain ⟨vs, e, p⟩ := h; exact ⟨_, e, rfl⟩
  | dT kvs => obtain ⟨vs, e, p⟩ := h; exact ⟨_, e, rfl⟩
  | ho g => exact ⟨_, h.1, h.2⟩
  | tb P => obtain ⟨e, ps, e1, e2⟩ := h; exact ⟨_, e1, rfl⟩
  | nums => obtain ⟨ns, e⟩ := h; exact ⟨_, e, rfl⟩
  | stt k => obtain ⟨v, a, m, e, r⟩ := h; exact ⟨_, e, rfl⟩
  | ob C fs => obtain ⟨dx, vs, e, p⟩ := h; exact ⟨_, e, rfl⟩
theorem Ok.nof (ok : Ok c ad env os σ H) {a : Addr} (h : Nof c ad os a) : H a ≠ none := by
  rcases h with h | ⟨k, ⟨o, e, l⟩, rfl⟩
  · exact ok.n0 a h
  · obtain ⟨u, q, _⟩ := (ok.obj k o e l).2.some l
    rw [q]; exact fun z => nomatch z
theorem Ok.ext (ok : Ok c ad env os σ H) (e : Ex H H') : Ok c ad env os σ H' where
  len := ok.len
  ex := fun a o h m => e a o (ok.ex a o h m)
  n0 := fun a h => e.some (ok.n0 a h)
  val := fun i s h => let ⟨v, h1, h2⟩ := ok.val i s h; ⟨v, h1, h2.ext e⟩
  obj := fun k o h l => let ⟨h1, h2⟩ := ok.obj k o h l; ⟨h1, h2.map (fun _ _ q => q.ext e) fun u q => e _ _ q⟩
  inj := ok.inj
  nn := ok.nn
  frm := fun p hp => (ok.frm p hp).ext e
  low := ok.low
theorem Ok.set {i : Nat} {v : V} {s : SV} (ok : Ok c ad env os σ H) (h : SvOk c.K (Nof c ad os) ad os.length H v s) : Ok c ad (env.set i (some s)) os (σ.set i (some v)) H where
  len := by simp [ok.len]
  ex := ok.ex
  n0 := ok.n0
  val := fun j t e => by
    by_cases q : i = j
    · subst q
      by_cases hi : i < env.length
      · rw [List.getElem?_set_self hi] at e
        have e' : s = t := Option.some.inj (Option.some.inj e)
        subst e'
        exact ⟨v, List.getElem?_set_self (by rw [ok.len]; exact hi), h⟩
      · rw [List.getElem?_eq_none (by simp; omega)] at e
        cases e
    · rw [List.getElem?_set_ne q] at e
      obtain ⟨w, h1, h2⟩ := ok.val j t e
      exact ⟨w, by rw [List.getElem?_set_ne q]; exact h1, h2⟩
  obj := ok.obj
  inj := ok.inj
  nn := ok.nn
  frm := ok.frm
  low := ok.low
/-- a slot is forgotten -/
theorem Ok.setU {i : Nat} {v : Option V} (ok : Ok c ad env os σ H) : Ok c ad (env.set i none) os (σ.set i v) H where
  len := by simp [ok.len]
  ex := ok.ex
  n0 := ok.n0
  val := fun j t e => by
    by_cases q : i = j
    · subst q
      by_cases hi : i < env.length
      · rw [List.getElem?_set_self hi] at e
        cases Option.some.inj e
      · rw [List.getElem?_eq_none (by simp; omega)] at e
        cases e
    · rw [List.getElem?_set_ne q] at e
      obtain ⟨w, h1, h2⟩ := ok.val j t e
      exact ⟨w, by rw [List.getElem?_set_ne q]; exact h1, h2⟩
  obj := ok.obj
  inj := ok.inj
  nn := ok.nn
  frm := ok.frm
  low := ok.low

/-! ### more in the store -/
def adN (ad : Nat → Addr) (n : Nat) (p : Addr) : Nat → Addr := fun j => if j = n then p else ad j
theorem adN_same {n : Nat} {p : Addr} : adN ad n p n = p := by unfold adN; rw [if_pos rfl]
theorem adN_ne {n j : Nat} {p : Addr} (h : j ≠ n) : adN ad n p j = ad j := by unfold adN; rw [if_neg h]
theorem SvOk.adN {K : PySem.W.Frag} {N : Addr → Prop} {n : Nat} {v : V} {s : SV} {p : Addr} (h : SvOk K N ad n H v s) : SvOk K N (adN ad n p) (n + 1) H v s := by
  cases s with
  | i d => exact h
  | t ks => exact h
  | ob C m => exact h
  | z m => exact h
  | r k => exact ⟨by rw [adN_ne (by have := h.2; omega)]; exact h.1, by have := h.2; omega⟩
theorem Lv_app {o : SO} {k : Nat} (h : Lv (os ++ [o]) k) : (Lv os k ∧ k < os.length) ∨ (k = os.length ∧ o.live = true) := by
  obtain ⟨u, e, l⟩ := h
  by_cases hk : k < os.length
  · rw [List.getElem?_append_left hk] at e
    exact Or.inl ⟨⟨u, e, l⟩, hk⟩
  · have hk2 : k = os.length := by
      have := (List.getElem?_eq_some_iff.mp e).1
      simp at this
      omega
    subst hk2
    rw [List.getElem?_append_right (Nat.le_refl _)] at e
    simp at e
    subst e
    exact Or.inr ⟨rfl, l⟩
theorem Nof_app {o : SO} {p : Addr} {a : Addr} (h : Nof c (adN ad os.length p) (os ++ [o]) a) : Nof c ad os a ∨ a = p := by
  rcases h with h | ⟨k, l, e⟩
  · exact Or.inl (Or.inl h)
  · rcases Lv_app l with ⟨l', hk⟩ | ⟨rfl, _⟩
    · rw [adN_ne (by omega)] at e
      exact Or.inl (Or.inr ⟨k, l', e⟩)
    · rw [adN_same] at e
      exact Or.inr e
/-- a new object -/
theorem Ok.new {o : SO} {p : Addr} (ok : Ok c ad env os σ H) (hp : H p = none) (e : Ex H H') (h0 : c.H0 p = none ∨ c.M p)
    (ho : SoOk c.K (fun a => Nof c ad os a ∨ a = p) ad os.length H' p o) : Ok c (adN ad os.length p) env (os ++ [o]) σ H' := by
  have hN : ∀ a, Nof c (adN ad os.length p) (os ++ [o]) a → Nof c ad os a ∨ a = p := fun a h => Nof_app h
  have hv : ∀ v s, SvOk c.K (Nof c ad os) ad os.length H v s → SvOk c.K (Nof c (adN ad os.length p) (os ++ [o])) (adN ad os.length p) (os ++ [o]).length H' v s := fun v s h => by
    have h1 : SvOk c.K (Nof c (adN ad os.length p) (os ++ [o])) ad os.length H' v s := by
      cases s with
      | i d => exact ((Dn.add hp h).sub hN).ext e
      | t ks => exact ((TOk.add hp h).sub hN).ext e
      | ob C m => exact ((ObOk.add hp h).sub hN).ext e
      | z m => exact ((ZOk.add hp h).sub hN).ext e
      | r k => exact h
    have h2 := h1.adN (p := p)
    simpa using h2
  have hv2 : ∀ v s, SvOk c.K (fun a => Nof c ad os a ∨ a = p) ad os.length H' v s → SvOk c.K (Nof c (adN ad os.length p) (os ++ [o])) (adN ad os.length p) (os ++ [o]).length H' v s := fun v s h => by
    have h2 := (h.sub hN).adN (p := p)
    simpa using h2
  refine ⟨ok.len, fun a u h m => e a u (ok.ex a u h m), fun a h => e.some (ok.n0 a h), fun i s h => ?_, fun k u h l => ?_, fun k j hk hj q => ?_, fun k hk => ?_, fun q hq => ?_, Nat.le_trans ok.low (by simp)⟩
  · obtain ⟨v, h1, h2⟩ := ok.val i s h
    exact ⟨v, h1, hv v s h2⟩
  · rcases Lv_app ⟨u, h, l⟩ with ⟨⟨u', e', l'⟩, hk⟩ | ⟨rfl, lo⟩
    · rw [List.getElem?_append_left hk] at h
      rw [adN_ne (by omega)]
      obtain ⟨h1, h2⟩ := ok.obj k u h l
      exact ⟨h1, h2.map hv fun w q => e _ _ q⟩
    · rw [List.getElem?_append_right (Nat.le_refl _)] at h
      simp at h
      subst h
      rw [adN_same]
      exact ⟨h0, ho.map hv2 fun w q => q⟩
  · rcases Lv_app hk with ⟨lk, hk'⟩ | ⟨rfl, _⟩
    · rcases Lv_app hj with ⟨lj, hj'⟩ | ⟨rfl, _⟩
      · rw [adN_ne (by omega), adN_ne (by omega)] at q
        exact ok.inj k j lk lj q
      · rw [adN_ne (by omega), adN_same] at q
        exact absurd hp (ok.nof (Or.inr ⟨k, lk, q.symm⟩))
    · rcases Lv_app hj with ⟨lj, hj'⟩ | ⟨rfl, _⟩
      · rw [adN_same, adN_ne (by omega)] at q
        exact absurd hp (ok.nof (Or.inr ⟨j, lj, q⟩))
      · rfl
  · rcases Lv_app hk with ⟨lk, hk'⟩ | ⟨rfl, _⟩
    · rw [adN_ne (by omega)]
      exact ok.nn k lk
    · rw [adN_same]
      intro z
      exact ok.n0 p z hp
  · have hf := ok.frm q hq
    obtain ⟨q1, q2⟩ := q
    cases q2 with
    | i d => exact ((Dn.add hp hf).sub hN).ext e
    | t ks => exact ((TOk.add hp hf).sub hN).ext e
    | ob C m => exact ((ObOk.add hp hf).sub hN).ext e
    | z m => exact ((ZOk.add hp hf).sub hN).ext e
    | r k => exact ⟨by rw [adN_ne (by have h1 := hf.2; have h2 := ok.low; omega)]; exact hf.1, hf.2⟩
theorem Lv_set {o o' : SO} {k j : Nat} (h0 : os[k]? = some o) (l0 : o.live = true) (l : o'.live = true) : Lv (os.set k o') j ↔ Lv os j := by
  constructor
  · rintro ⟨u, e, hu⟩
    by_cases q : k = j
    · subst q; exact ⟨o, h0, l0⟩
    · rw [List.getElem?_set_ne q] at e; exact ⟨u, e, hu⟩
  · rintro ⟨u, e, hu⟩
    by_cases q : k = j
    · subst q; exact ⟨o', List.getElem?_set_self (List.getElem?_eq_some_iff.mp h0).1, l⟩
    · exact ⟨u, by rw [List.getElem?_set_ne q]; exact e, hu⟩
theorem Nof_set {o o' : SO} {k : Nat} (h0 : os[k]? = some o) (l0 : o.live = true) (l : o'.live = true) : Nof c ad (os.set k o') = Nof c ad os := by
  funext a
  refine propext ⟨fun h => ?_, fun h => ?_⟩
  · rcases h with h | ⟨j, lj, e⟩
    · exact Or.inl h
    · exact Or.inr ⟨j, (Lv_set h0 l0 l).mp lj, e⟩
  · rcases h with h | ⟨j, lj, e⟩
    · exact Or.inl h
    · exact Or.inr ⟨j, (Lv_set h0 l0 l).mpr lj, e⟩
/-- an object of the store is changed -/
theorem Ok.mut {o o' : SO} {k : Nat} {u' : HO} (ok : Ok c ad env os σ H) (h0 : os[k]? = some o) (l0 : o.live = true) (l : o'.live = true)
    (ho : SoOk c.K (Nof c ad os) ad os.length (upd H (ad k) u') (ad k) o') : Ok c ad env (os.set k o') σ (upd H (ad k) u') := by
  obtain ⟨hk0, hk1⟩ := ok.obj k o h0 l0
  obtain ⟨u, eu, wu⟩ := hk1.some l0
  have hN : Nof c ad os (ad k) := Or.inr ⟨k, ⟨o, h0, l0⟩, rfl⟩
  have hv : ∀ v s, SvOk c.K (Nof c ad os) ad os.length H v s → SvOk c.K (Nof c ad (os.set k o')) ad (os.set k o').length (upd H (ad k) u') v s := fun v s h => by
    rw [Nof_set h0 l0 l, List.length_set]
    exact h.mut eu wu hN
  refine ⟨ok.len, fun a w h m => ?_, fun a h => ?_, fun i s h => ?_, fun j w h lw => ?_, fun i j hi hj q => ok.inj i j ((Lv_set h0 l0 l).mp hi) ((Lv_set h0 l0 l).mp hj) q, fun j hj => ok.nn j ((Lv_set h0 l0 l).mp hj), fun q hq => ?_, by rw [List.length_set]; exact ok.low⟩
  · by_cases q : a = ad k
    · subst q
      rcases hk0 with z | z
      · rw [z] at h; cases h
      · exact absurd z m
    · rw [upd_ne q]; exact ok.ex a w h m
  · by_cases q : a = ad k
    · rw [q, upd_same]; exact fun z => nomatch z
    · rw [upd_ne q]; exact ok.n0 a h
  · obtain ⟨v, h1, h2⟩ := ok.val i s h
    exact ⟨v, h1, hv v s h2⟩
  · by_cases q : k = j
    · subst q
      rw [List.getElem?_set_self (List.getElem?_eq_some_iff.mp h0).1] at h
      cases h
      rw [Nof_set h0 l0 l, List.length_set]
      exact ⟨hk0, ho⟩
    · rw [List.getElem?_set_ne q] at h
      obtain ⟨h1, h2⟩ := ok.obj j w h lw
      refine ⟨h1, h2.map hv fun x hx => ?_⟩
      rw [upd_ne]
      · exact hx
      · intro z
        exact q (ok.inj k j ⟨o, h0, l0⟩ ⟨w, h, lw⟩ z.symm)
  · rw [Nof_set h0 l0 l]
    exact (ok.frm q hq).mut eu wu hN

/-! ### less known -/
def WkE : Sy → Sy → Prop
  | [], [] => True
  | s :: e, t :: e' => (t = none ∨ s = t) ∧ WkE e e'
  | _, _ => False
def WkO : List SO → List SO → Prop
  | _, [] => True
  | o :: r, o' :: r' => (o' = .x ∨ o = o') ∧ WkO r r'
  | [], _ :: _ => False
theorem WkE.len : ∀ {e e' : Sy}, WkE e e' → e.length = e'.length
  | [], [], _ => rfl
  | _ :: _, _ :: _, h => congrArg (· + 1) (WkE.len h.2)
theorem WkE.get : ∀ {e e' : Sy} {i : Nat} {s : SV}, WkE e e' → e'[i]? = some (some s) → e[i]? = some (some s)
  | [], [], _, _, _, q => by simp at q
  | a :: e, b :: e', 0, s, h, q => by
    simp at q ⊢
    rcases h.1 with z | z
    · rw [z] at q; cases q
    · rw [z]; exact q
  | a :: e, b :: e', i + 1, s, h, q => by
    simp at q ⊢
    exact WkE.get h.2 q
theorem WkO.refl : ∀ e : List SO, WkO e e
  | [] => True.intro
  | _ :: e => ⟨Or.inr rfl, WkO.refl e⟩
theorem WkO.get : ∀ {e e' : List SO} {i : Nat} {s : SO}, WkO e e' → e'[i]? = some s → s.live = true → e[i]? = some s
  | _, [], _, _, _, q, _ => by simp at q
  | a :: e, b :: e', 0, s, h, q, l => by
    simp at q ⊢
    rcases h.1 with z | z
    · rw [z] at q; subst q; cases l
    · rw [z]; exact q
  | a :: e, b :: e', i + 1, s, h, q, l => by
    simp at q ⊢
    exact WkO.get h.2 q l
theorem WkO.lv {e e' : List SO} {k : Nat} (h : WkO e e') (l : Lv e' k) : Lv e k := by
  obtain ⟨o, q, lo⟩ := l
  exact ⟨o, h.get q lo, lo⟩
/-- no place n or above it is named -/
def SvLt (n : Nat) : SV → Prop
  | .i _ => True
  | .t _ => True
  | .ob _ _ => True
  | .z _ => True
  | .r k => k < n
def SoLt (n : Nat) : SO → Prop
  | .x => True
  | .lst xs => ∀ s ∈ xs, SvLt n s
  | .dK kvs => ∀ p ∈ kvs, SvLt n p.2
  | .dT kvs => ∀ p ∈ kvs, SvLt n p.2
  | .ho _ => True
  | .tb _ => True
  | .nums => True
  | .lk _ kvs => ∀ p ∈ kvs, SvLt n p.2
  | .stt k => k < n
  | .ob _ fs => ∀ p ∈ fs, SvLt n p.2
def EnLt (n : Nat) : Sy → Prop
  | [] => True
  | none :: e => EnLt n e
  | some s :: e => SvLt n s ∧ EnLt n e
def OsLt (n : Nat) : List SO → Prop
  | [] => True
  | o :: r => SoLt n o ∧ OsLt n r
theorem EnLt.get : ∀ {n : Nat} {e : Sy} {i : Nat} {s : SV}, EnLt n e → e[i]? = some (some s) → SvLt n s
  | _, [], _, _, _, q => by simp at q
  | n, none :: e, 0, s, h, q => by simp at q
  | n, some t :: e, 0, s, h, q => by simp at q; subst q; exact h.1
  | n, none :: e, i + 1, s, h, q => by simp at q; exact EnLt.get (e := e) h q
  | n, some t :: e, i + 1, s, h, q => by simp at q; exact EnLt.get h.2 q
theorem OsLt.get : ∀ {n : Nat} {e : List SO} {i : Nat} {s : SO}, OsLt n e → e[i]? = some s → SoLt n s
  | _, [], _, _, _, q => by simp at q
  | n, t :: e, 0, s, h, q => by simp at q; subst q; exact h.1
  | n, t :: e, i + 1, s, h, q => by simp at q; exact OsLt.get h.2 q
theorem Paired.impR {α β : Type} {F G : α → β → Prop} : ∀ {l₁ : List α} {l₂ : List β}, Paired F l₁ l₂ → (∀ a b, b ∈ l₂ → F a b → G a b) → Paired G l₁ l₂
  | _, _, .nil, _ => .nil
  | _, _, .cons r t, f => .cons (f _ _ (List.mem_cons_self ..) r) (Paired.impR t fun a b m => f a b (List.mem_cons_of_mem _ m))
theorem Ok.weak {env' : Sy} {os' : List SO} (ok : Ok c ad env os σ H) (he : WkE env env') (ho : WkO os os') (l1 : EnLt os'.length env') (l2 : OsLt os'.length os') (l3 : c.lo ≤ os'.length) : Ok c ad env' os' σ H := by
  have hN : ∀ a, Nof c ad os' a → Nof c ad os a := fun a h => by
    rcases h with h | ⟨k, l, e⟩
    · exact Or.inl h
    · exact Or.inr ⟨k, ho.lv l, e⟩
  have hv : ∀ v s, SvLt os'.length s → SvOk c.K (Nof c ad os) ad os.length H v s → SvOk c.K (Nof c ad os') ad os'.length H v s := fun v s l h => by
    cases s with
    | i d => exact Dn.sub hN h
    | t ks => exact TOk.sub hN h
    | ob C m => exact ObOk.sub hN h
    | z m => exact ZOk.sub hN h
    | r k => exact ⟨h.1, l⟩
  refine ⟨ok.len.trans he.len, ok.ex, ok.n0, fun i s h => ?_, fun k o h l => ?_, fun k j lk lj => ok.inj k j (ho.lv lk) (ho.lv lj), fun k lk => ok.nn k (ho.lv lk), fun p hp => (ok.frm p hp).sub hN, l3⟩
  · obtain ⟨v, h1, h2⟩ := ok.val i s (he.get h)
    exact ⟨v, h1, hv v s (l1.get h) h2⟩
  · obtain ⟨h1, h2⟩ := ok.obj k o (ho.get h l) l
    refine ⟨h1, ?_⟩
    have lt := l2.get h
    cases o with
    | x => exact True.intro
    | lst xs => obtain ⟨vs, e, p⟩ := h2; exact ⟨vs, e, Paired.impR p fun a b m q => hv _ _ (lt b m) q⟩
    | dK kvs => obtain ⟨vs, e, p⟩ := h2; exact ⟨vs, e, Paired.impR p fun a b m q => ⟨q.1, hv _ _ (lt b m) q.2⟩⟩
    | dT kvs => obtain ⟨vs, e, p⟩ := h2; exact ⟨vs, e, Paired.impR p fun a b m q => ⟨q.1, hv _ _ (lt b m) q.2⟩⟩
    | ho g => exact h2
    | tb P => exact h2
    | nums => exact h2
    | lk lo kvs => exact ⟨h2.1, Paired.impR h2.2 fun a b m q => ⟨q.1, hv _ _ (lt b m) q.2⟩⟩
    | stt k => obtain ⟨v, a, m, e, r⟩ := h2; exact ⟨v, a, m, e, hv _ _ lt r⟩
    | ob C fs => obtain ⟨dx, vs, e, p⟩ := h2; exact ⟨dx, vs, e, Paired.impR p fun a b m q => ⟨q.1, hv _ _ (lt b m) q.2⟩⟩
theorem paired_dn {K : PySem.W.Frag} {N : Addr → Prop} {n : Nat} : ∀ {vs : List V} {ds : List PyData}, Paired (SvOk K N ad n H) vs (ds.map SV.i) → DnAll K N H vs ds
  | _, [], h => by cases h; exact .nil
  | _, d :: ds, h => by
    cases h with
    | cons a b => exact .cons a (paired_dn b)
theorem dn_paired {K : PySem.W.Frag} {N : Addr → Prop} {n : Nat} : ∀ {vs : List V} {ds : List PyData}, DnAll K N H vs ds → Paired (SvOk K N ad n H) vs (ds.map SV.i)
  | _, _, .nil => .nil
  | _, _, .cons a b => .cons a (dn_paired b)
/-- a list of data is data from now on -/
theorem Ok.own {i k : Nat} {ds : List PyData} (ok : Ok c ad env os σ H) (hi : env[i]? = some (some (.r k))) (hk : os[k]? = some (.lst (ds.map SV.i))) :
    Ok c ad (env.set i (some (.i (.list ds)))) (os.set k .x) σ H := by
  have lk : Lv os k := ⟨_, hk, rfl⟩
  have hl : ∀ j, Lv (os.set k .x) j → Lv os j ∧ j ≠ k := fun j h => by
    obtain ⟨u, e, hu⟩ := h
    by_cases q : k = j
    · subst q
      rw [List.getElem?_set_self (List.getElem?_eq_some_iff.mp hk).1] at e
      cases e; cases hu
    · rw [List.getElem?_set_ne q] at e; exact ⟨⟨u, e, hu⟩, fun z => q z.symm⟩
  have hN : ∀ a, Nof c ad (os.set k .x) a → Nof c ad os a ∧ a ≠ ad k := fun a h => by
    rcases h with h | ⟨j, l, e⟩
    · exact ⟨Or.inl h, fun z => ok.nn k lk (z ▸ h)⟩
    · obtain ⟨l', ne⟩ := hl j l
      exact ⟨Or.inr ⟨j, l', e⟩, fun z => ne (ok.inj j k l' lk (e.symm.trans z))⟩
  have hv : ∀ v s, SvOk c.K (Nof c ad os) ad os.length H v s → SvOk c.K (Nof c ad (os.set k .x)) ad (os.set k .x).length H v s := fun v s h => by
    rw [List.length_set]
    exact h.sub fun a q => (hN a q).1
  obtain ⟨v0, hv0, e0, _⟩ := ok.val i _ hi
  obtain ⟨_, vs, hvs, pv⟩ := ok.obj k _ hk rfl
  have hd : Dn c.K (Nof c ad (os.set k .x)) H v0 (.list ds) := by
    rw [e0]
    exact .lst (Or.inl hvs) (fun z => (hN _ z).2 rfl) ((paired_dn pv).sub fun a q => (hN a q).1)
  refine ⟨by rw [List.length_set]; exact ok.len, ok.ex, ok.n0, fun j s h => ?_, fun j o h l => ?_, fun a b la lb => ok.inj a b (hl a la).1 (hl b lb).1, fun a la => ok.nn a (hl a la).1, fun p hp => (ok.frm p hp).sub fun a q => (hN a q).1, by rw [List.length_set]; exact ok.low⟩
  · by_cases q : i = j
    · subst q
      rw [List.getElem?_set_self (List.getElem?_eq_some_iff.mp hi).1] at h
      cases h
      exact ⟨v0, hv0, hd⟩
    · rw [List.getElem?_set_ne q] at h
      obtain ⟨v, h1, h2⟩ := ok.val j s h
      exact ⟨v, h1, hv v s h2⟩
  · by_cases q : k = j
    · subst q
      rw [List.getElem?_set_self (List.getElem?_eq_some_iff.mp hk).1] at h
      cases h; cases l
    · rw [List.getElem?_set_ne q] at h
      obtain ⟨h1, h2⟩ := ok.obj j o h l
      exact ⟨h1, h2.map hv fun u e => e⟩
/-- the same with other facts carried along -/
abbrev Cn.w (c : Cn) (fr : List (V × SV)) (lo : Nat) : Cn := ⟨c.K, c.H0, c.N0, c.M, fr, lo⟩
theorem SvOk.lift {K : PySem.W.Frag} {N : Addr → Prop} {n n' : Nat} {v : V} {s : SV} (e : n ≤ n') (h : SvOk K N ad n H v s) : SvOk K N ad n' H v s := by
  cases s with
  | i d => exact h
  | t ks => exact h
  | ob C m => exact h
  | z m => exact h
  | r k => exact ⟨h.1, Nat.lt_of_lt_of_le h.2 e⟩
/-- facts are carried along from here -/
theorem Ok.pin {v : V} {s : SV} (ok : Ok c ad env os σ H) (h : SvOk c.K (Nof c ad os) ad os.length H v s) : Ok (c.w ((v, s) :: c.fr) os.length) ad env os σ H :=
  ⟨ok.len, ok.ex, ok.n0, ok.val, ok.obj, ok.inj, ok.nn, fun p hp => by
    rcases List.mem_cons.mp hp with z | z
    · subst z; exact h
    · exact (ok.frm p z).lift ok.low, Nat.le_refl _⟩
theorem Ok.pin0 (ok : Ok c ad env os σ H) : Ok (c.w c.fr os.length) ad env os σ H :=
  ⟨ok.len, ok.ex, ok.n0, ok.val, ok.obj, ok.inj, ok.nn, fun p hp => (ok.frm p hp).lift ok.low, Nat.le_refl _⟩
end
end DL

set_option Elab.async false
set_option linter.all false
set_option maxRecDepth 100000
set_option maxHeartbeats 2000000
/-! The data layer: judgements and rules. -/
namespace DL
open PySem L2
open Evl (Ex Ex.refl Ex.trans Ex.new)

/-! ### judgements -/
/-- what is avoided: all of the store, or (w) what the caller wants avoided alone -/
def Nw (w : Bool) (c : Cn) (ad : Nat → Addr) (os : List SO) : Addr → Prop := fun a => c.N0 a ∨ (w = false ∧ ∃ k, Lv os k ∧ a = ad k)
theorem Nw_false {c : Cn} {ad : Nat → Addr} {os : List SO} : Nw false c ad os = Nof c ad os := by
  funext a
  exact propext ⟨fun h => h.elim Or.inl fun z => Or.inr z.2, fun h => h.elim Or.inl fun z => Or.inr ⟨rfl, z⟩⟩
theorem Nw_le {w : Bool} {c : Cn} {ad : Nat → Addr} {os : List SO} : ∀ a, Nw w c ad os a → Nof c ad os a := fun a h => h.elim Or.inl fun z => Or.inr z.2
/-- te gives the data d; the heap is only added to -/
def EvX (w : Bool) (c : Cn) (env : Sy) (os : List SO) (te : TE) (d : PyData) : Prop := ∀ ad σ H, Ok c ad env os σ H → ∀ Q : VK, (∀ v H2, Ex H H2 → Dn c.K (Nw w c ad os) H2 v d → Q v H2) → te σ H Q
/-- te gives the k-th object -/
def EvR (c : Cn) (env : Sy) (os : List SO) (te : TE) (k : Nat) : Prop := k < os.length ∧ ∀ ad σ H, Ok c ad env os σ H → ∀ Q : VK, (∀ H2, Ex H H2 → Q (.ref (ad k)) H2) → te σ H Q
/-- te gives an object that stays as it is -/
def EvK (c : Cn) (env : Sy) (os : List SO) (te : TE) (u : HO) : Prop := Wr u = false ∧ ∀ ad σ H, Ok c ad env os σ H → ∀ Q : VK, (∀ b H2, Ex H H2 → H2 b = some u → Q (.ref b) H2) → te σ H Q
/-- gives an instance -/
def EvB (c : Cn) (env : Sy) (os : List SO) (te : TE) (C : Addr) (m : List (Str × PyData)) : Prop := ∀ ad σ H, Ok c ad env os σ H → ∀ Q : VK, (∀ v H2, Ex H H2 → ObOk c.K (Nof c ad os) H2 v C m → Q v H2) → te σ H Q
/-- gives a dict of data that no one writes any more -/
def EvZ (c : Cn) (env : Sy) (os : List SO) (te : TE) (m : List (Key × PyData)) : Prop := ∀ ad σ H, Ok c ad env os σ H → ∀ Q : VK, (∀ v H2, Ex H H2 → ZOk c.K (Nof c ad os) H2 v m → Q v H2) → te σ H Q
def EvS (c : Cn) (env : Sy) (os : List SO) (te : TE) : SV → Prop
  | .i d => EvX false c env os te d
  | .t u => EvK c env os te u
  | .ob C m => EvB c env os te C m
  | .z m => EvZ c env os te m
  | .r k => EvR c env os te k
/-- te gives a new object -/
def EvF (c : Cn) (env : Sy) (os : List SO) (te : TE) (o : SO) : Prop := ∀ ad σ H, Ok c ad env os σ H → ∀ Q : VK, (∀ p H2, H p = none → Ex H H2 → SoOk c.K (fun a => Nof c ad os a ∨ a = p) ad os.length H2 p o → Q (.ref p) H2) → te σ H Q
/-- te gives a list that may be read -/
def EvI (c : Cn) (env : Sy) (os : List SO) (te : TE) (ss : List SV) : Prop := ∀ ad σ H, Ok c ad env os σ H → ∀ Q : VK, (∀ p vs H2, Ex H H2 → SqL c.K H2 p vs → Paired (SvOk c.K (Nof c ad os) ad os.length H2) vs ss → Q (.ref p) H2) → te σ H Q
def EvT (c : Cn) (env : Sy) (os : List SO) (tt : TT) (b : Bool) : Prop := ∀ ad σ H, Ok c ad env os σ H → ∀ Q : Bool → Hp → Prop, (∀ H2, Ex H H2 → Q b H2) → tt σ H Q
def EvA (w : Bool) (c : Cn) (env : Sy) (os : List SO) (ta : TA) (ds : List PyData) : Prop := ∀ ad σ H, Ok c ad env os σ H → ∀ Q : List V → Hp → Prop, (∀ vs H2, Ex H H2 → DnAll c.K (Nw w c ad os) H2 vs ds → Q vs H2) → ta σ H Q
def EvAS (c : Cn) (env : Sy) (os : List SO) (ta : TA) (ss : List SV) : Prop := ∀ ad σ H, Ok c ad env os σ H → ∀ Q : List V → Hp → Prop, (∀ vs H2, Ex H H2 → Paired (SvOk c.K (Nof c ad os) ad os.length H2) vs ss → Q vs H2) → ta σ H Q
def EvO (c : Cn) (env : Sy) (os : List SO) (to : TO) (o : Option Int) : Prop := ∀ ad σ H, Ok c ad env os σ H → ∀ Q : Option Int → Hp → Prop, (∀ H2, Ex H H2 → Q o H2) → to σ H Q

section
variable {w : Bool} {c : Cn} {env : Sy} {os : List SO} {te ta tb tl : TE} {d : PyData} {tt tu : TT}

/-! ### conversions -/
theorem EvX.weak (h : EvX false c env os te d) : EvX w c env os te d := fun ad σ H ok Q q => h ad σ H ok Q fun v H2 e r => q v H2 e (r.sub (by rw [Nw_false]; exact Nw_le))
theorem EvX.is {d' : PyData} (h : EvX w c env os te d) (e : d = d') : EvX w c env os te d' := e ▸ h
theorem EvT.is {b b' : Bool} (h : EvT c env os tt b) (e : b = b') : EvT c env os tt b' := e ▸ h
theorem EvF.ev {ds : List PyData} (h : EvF c env os te (.lst (ds.map SV.i))) : EvX w c env os te (.list ds) := EvX.weak fun ad σ H ok Q q => h ad σ H ok Q fun p H2 hp e r => by
  obtain ⟨vs, h1, h2⟩ := r
  refine q _ H2 e ?_
  rw [Nw_false]
  exact .lst (Or.inl h1) (fun z => ok.nof z hp) ((paired_dn h2).sub fun a z => Or.inl z)
theorem EvX.it {ds : List PyData} (h : EvX false c env os te (.list ds)) : EvI c env os te (ds.map SV.i) := fun ad σ H ok Q q => h ad σ H ok Q fun v H2 e r => by
  rw [Nw_false] at r
  cases r with
  | lst r n a => exact q _ _ H2 e (Or.inl r) (dn_paired a)
  | lstK r a => exact q _ _ H2 e (Or.inr r) (dn_paired a)
theorem EvR.it {k : Nat} {ss : List SV} (h : EvR c env os te k) (hk : os[k]? = some (.lst ss)) : EvI c env os te ss := fun ad σ H ok Q q => h.2 ad σ H ok Q fun H2 e => by
  obtain ⟨_, vs, h1, h2⟩ := (ok.ext e).obj k _ hk rfl
  exact q _ vs H2 e (Or.inl (Or.inl h1)) h2
theorem EvF.it {ss : List SV} (h : EvF c env os te (.lst ss)) : EvI c env os te ss := fun ad σ H ok Q q => h ad σ H ok Q fun p H2 hp e r => by
  obtain ⟨vs, h1, h2⟩ := r
  exact q _ vs H2 e (Or.inl (Or.inl h1)) (Paired.imp h2 fun _ _ z => z.sub fun a y => Or.inl y)
/-! ### names, constants -/
theorem ex_var {i : Nat} (h : env[i]? = some (some (.i d))) : EvX w c env os (tVar i) d := EvX.weak fun ad σ H ok Q q => by
  obtain ⟨v, h1, h2⟩ := ok.val i _ h
  exact ⟨v, h1, q v H (Ex.refl H) (by rw [Nw_false]; exact h2)⟩
theorem er_var {i k : Nat} (h : env[i]? = some (some (.r k))) (hk : k < os.length) : EvR c env os (tVar i) k := ⟨hk, fun ad σ H ok Q q => by
  obtain ⟨v, h1, h2⟩ := ok.val i _ h
  obtain ⟨rfl, _⟩ := h2
  exact ⟨_, h1, q H (Ex.refl H)⟩⟩
theorem ex_int {i : Int} : EvX w c env os (tC (.int i)) (.int i) := fun ad σ H ok Q q => q _ H (Ex.refl H) (.int i)
theorem ex_bl {i : Bool} : EvX w c env os (tC (.bl i)) (.bool i) := fun ad σ H ok Q q => q _ H (Ex.refl H) (.bl i)
theorem ex_str {i : Str} : EvX w c env os (tC (.str i)) (.str i) := fun ad σ H ok Q q => q _ H (Ex.refl H) (.str i)
theorem ex_non : EvX w c env os (tC .non) .none := fun ad σ H ok Q q => q _ H (Ex.refl H) .non
/-! ### operators on ints -/
theorem dn_int {K : PySem.W.Frag} {N : Addr → Prop} {H : Hp} {v : V} {i : Int} (h : Dn K N H v (.int i)) : v = .int i := by cases h; rfl
theorem dn_bool {K : PySem.W.Frag} {N : Addr → Prop} {H : Hp} {v : V} {i : Bool} (h : Dn K N H v (.bool i)) : v = .bl i := by cases h; rfl
theorem dn_str {K : PySem.W.Frag} {N : Addr → Prop} {H : Hp} {v : V} {i : Str} (h : Dn K N H v (.str i)) : v = .str i := by cases h; rfl
theorem ex_i2 {f : Int → Int → Int} {i j : Int} (ha : EvX true c env os ta (.int i)) (hb : EvX true c env os tb (.int j)) : EvX w c env os (tOp (rI0 fun i j => .int (f i j)) ta tb) (.int (f i j)) := fun ad σ H ok Q q =>
  ha ad σ H ok _ fun v H1 e1 r1 => hb ad σ H1 (ok.ext e1) _ fun u H2 e2 r2 => ⟨i, j, dn_int r1, dn_int r2, q _ H2 (e1.trans e2) (.int _)⟩
theorem ex_i2c {C : Int → Int → Prop} {f : Int → Int → Int} {i j : Int} (ha : EvX true c env os ta (.int i)) (hb : EvX true c env os tb (.int j)) (hc : C i j) : EvX w c env os (tOp (rI C fun i j => .int (f i j)) ta tb) (.int (f i j)) := fun ad σ H ok Q q =>
  ha ad σ H ok _ fun v H1 e1 r1 => hb ad σ H1 (ok.ext e1) _ fun u H2 e2 r2 => ⟨i, j, dn_int r1, dn_int r2, hc, q _ H2 (e1.trans e2) (.int _)⟩
theorem ex_b2 {f : Int → Int → Bool} {i j : Int} (ha : EvX true c env os ta (.int i)) (hb : EvX true c env os tb (.int j)) : EvX w c env os (tOp (rI0 fun i j => .bl (f i j)) ta tb) (.bool (f i j)) := fun ad σ H ok Q q =>
  ha ad σ H ok _ fun v H1 e1 r1 => hb ad σ H1 (ok.ext e1) _ fun u H2 e2 r2 => ⟨i, j, dn_int r1, dn_int r2, q _ H2 (e1.trans e2) (.bl _)⟩
theorem ex_u {f : Int → Int} {i : Int} (ha : EvX true c env os ta (.int i)) : EvX w c env os (tUn (rU fun i => .int (f i)) ta) (.int (f i)) := fun ad σ H ok Q q =>
  ha ad σ H ok _ fun v H1 e1 r1 => ⟨i, dn_int r1, q _ H1 e1 (.int _)⟩
theorem ex_eqI {i j : Int} (ha : EvX true c env os ta (.int i)) (hb : EvX true c env os tb (.int j)) : EvX w c env os (tOp rEq ta tb) (.bool (decide (i = j))) := fun ad σ H ok Q q =>
  ha ad σ H ok _ fun v H1 e1 r1 => hb ad σ H1 (ok.ext e1) _ fun u H2 e2 r2 => by
    cases dn_int r1; cases dn_int r2
    refine ⟨rfl, q _ H2 (e1.trans e2) ?_⟩
    rw [dec_int, Bool.beq_eq_decide_eq]
    exact .bl _
theorem ex_eqS {i j : Str} (ha : EvX true c env os ta (.str i)) (hb : EvX true c env os tb (.str j)) : EvX w c env os (tOp rEq ta tb) (.bool (i == j)) := fun ad σ H ok Q q =>
  ha ad σ H ok _ fun v H1 e1 r1 => hb ad σ H1 (ok.ext e1) _ fun u H2 e2 r2 => by
    cases dn_str r1; cases dn_str r2
    refine ⟨rfl, q _ H2 (e1.trans e2) ?_⟩
    rw [dec_str]
    exact .bl _
theorem ex_neS {i j : Str} (ha : EvX true c env os ta (.str i)) (hb : EvX true c env os tb (.str j)) : EvX w c env os (tOp rNe ta tb) (.bool (!(i == j))) := fun ad σ H ok Q q =>
  ha ad σ H ok _ fun v H1 e1 r1 => hb ad σ H1 (ok.ext e1) _ fun u H2 e2 r2 => by
    cases dn_str r1; cases dn_str r2
    refine ⟨rfl, q _ H2 (e1.trans e2) ?_⟩
    rw [dec_str]
    exact .bl _
theorem plain_of {d : PyData} (h : SeqAt.shaped d = true) : d.plain = true := PyData.plain_of_canLay0 d (by
  unfold SeqAt.shaped at h
  rw [Bool.and_eq_true] at h
  exact h.1)
theorem ex_neD {d e : PyData} (ha : EvX true c env os ta d) (hb : EvX true c env os tb e) (s1 : SeqAt.shaped d = true) (s2 : SeqAt.shaped e = true) : EvX w c env os (tOp (rNeD c.K) ta tb) (.bool (!PyData.eqv d e)) := fun ad σ H ok Q q =>
  ha ad σ H ok _ fun v H1 e1 r1 => hb ad σ H1 (ok.ext e1) _ fun u H2 e2 r2 => ⟨d, e, Dn.dp _ _ (plain_of s1) (r1.ext e2), Dn.dp _ _ (plain_of s2) r2, s1, s2, q _ H2 (e1.trans e2) (.bl _)⟩
theorem ex_isN {r : R2} (hr : r = (fun x y H Q => y = .non ∧ Q (.bl (decide (x = .non))) H)) (ha : EvX true c env os ta d) : EvX w c env os (tOp r ta (tC .non)) (.bool (match d with | .none => true | _ => false)) := fun ad σ H ok Q q => by
  subst hr
  refine ha ad σ H ok _ fun v H1 e1 r1 => ⟨rfl, q _ H1 e1 ?_⟩
  cases r1 <;> exact .bl _
/-- a op b op c -/
theorem ex_chain {r r' : R2} {ta tb tc : TE} {f g : Int → Int → Bool} {i j k : Int} (hr : r = rI0 fun i j => .bl (f i j)) (hr' : r' = rI0 fun i j => .bl (g i j)) (ha : EvX true c env os ta (.int i)) (hb : EvX true c env os tb (.int j)) (hc : EvX true c env os tc (.int k)) :
    EvX w c env os (tChain r r' ta tb tc) (.bool (f i j && g j k)) := fun ad σ H ok Q q => by
  subst hr hr'
  refine ha ad σ H ok _ fun v H1 e1 r1 => hb ad σ H1 (ok.ext e1) _ fun u H2 e2 r2 => ⟨i, j, dn_int r1, dn_int r2, f i j, rfl, ?_⟩
  cases hf : f i j with
  | true =>
    rw [if_pos rfl]
    exact hc ad σ H2 ((ok.ext e1).ext e2) _ fun z H3 e3 r3 => ⟨j, k, dn_int r2, dn_int r3, q _ H3 ((e1.trans e2).trans e3) (by rw [hf]; exact .bl _)⟩
  | false =>
    rw [if_neg (by decide)]
    exact q _ H2 (e1.trans e2) (by rw [hf]; exact .bl _)

/-! ### tests -/
theorem et_test {b : Bool} (h : EvX true c env os te (.bool b)) : EvT c env os (tTest te) b := fun ad σ H ok Q q => h ad σ H ok _ fun v H2 e r => ⟨b, dn_bool r, q H2 e⟩
theorem et_B {b : Bool} (h : EvX true c env os te (.bool b)) : EvT c env os (tB te) b := fun ad σ H ok Q q => h ad σ H ok _ fun v H2 e r => ⟨b, dn_bool r, q H2 e⟩
theorem et_and {a b : Bool} (h1 : EvT c env os tt a) (h2 : a = true → EvT c env os tu b) : EvT c env os (tAnd tt tu) (a && b) := fun ad σ H ok Q q => h1 ad σ H ok _ fun H2 e2 => by
  cases a with
  | true =>
    show tu σ H2 Q
    exact h2 rfl ad σ H2 (ok.ext e2) Q fun H3 e3 => q H3 (e2.trans e3)
  | false =>
    show Q false H2
    exact q H2 e2
theorem et_or {a b : Bool} (h1 : EvT c env os tt a) (h2 : a = false → EvT c env os tu b) : EvT c env os (tOr tt tu) (a || b) := fun ad σ H ok Q q => h1 ad σ H ok _ fun H2 e2 => by
  cases a with
  | true =>
    show Q true H2
    exact q H2 e2
  | false =>
    show tu σ H2 Q
    exact h2 rfl ad σ H2 (ok.ext e2) Q fun H3 e3 => q H3 (e2.trans e3)
theorem et_not {a : Bool} (h1 : EvT c env os tt a) : EvT c env os (tNot tt) (!a) := fun ad σ H ok Q q => h1 ad σ H ok _ fun H2 e2 => q H2 e2
theorem ex_and {a b : Bool} (h1 : EvX true c env os ta (.bool a)) (h2 : a = true → EvX true c env os tb (.bool b)) : EvX w c env os (tAndV ta tb) (.bool (a && b)) := fun ad σ H ok Q q => h1 ad σ H ok _ fun v H2 e2 r2 => ⟨a, dn_bool r2, by
  cases a with
  | true =>
    rw [if_pos rfl]
    exact h2 rfl ad σ H2 (ok.ext e2) Q fun u H3 e3 r3 => q u H3 (e2.trans e3) (by cases r3; exact .bl _)
  | false =>
    rw [if_neg (by decide)]
    exact q _ H2 e2 (.bl _)⟩
theorem ex_if {b : Bool} (h : EvT c env os tt b) (h1 : b = true → EvX w c env os ta d) (h2 : b = false → EvX w c env os tb d) : EvX w c env os (tIf tt ta tb) d := fun ad σ H ok Q q => h ad σ H ok _ fun H2 e2 => by
  cases b with
  | true =>
    show ta σ H2 Q
    exact h1 rfl ad σ H2 (ok.ext e2) Q fun v H3 e3 => q v H3 (e2.trans e3)
  | false =>
    show tb σ H2 Q
    exact h2 rfl ad σ H2 (ok.ext e2) Q fun v H3 e3 => q v H3 (e2.trans e3)
/-- the truth of a list -/
theorem et_truL {r : V → Hp → (Bool → Hp → Prop) → Prop} {ss : List SV} (hr : r = fun x H Q => ∃ k, TruV c.K x H k ∧ Q k H) (h : EvI c env os te ss) : EvT c env os (fun σ H Q => te σ H fun x H' => r x H' Q) (!ss.isEmpty) := fun ad σ H ok Q q => by
  subst hr
  refine h ad σ H ok _ fun p vs H2 e s r => ⟨!ss.isEmpty, Or.inl ⟨vs, s, ?_⟩, q H2 e⟩
  cases r <;> rfl

/-! ### argument lists -/
theorem ea_nil : EvA w c env os tNil [] := fun ad σ H ok Q q => q [] H (Ex.refl H) .nil
theorem ea_cons {tr : TA} {ds : List PyData} (h : EvX w c env os te d) (hr : EvA w c env os tr ds) : EvA w c env os (tCons te tr) (d :: ds) := fun ad σ H ok Q q =>
  h ad σ H ok _ fun v H2 e2 r2 => hr ad σ H2 (ok.ext e2) _ fun vs H3 e3 r3 => q _ H3 (e2.trans e3) (.cons (r2.ext e3) r3)
theorem eas_nil : EvAS c env os tNil [] := fun ad σ H ok Q q => q [] H (Ex.refl H) .nil
theorem EvA.ss {ta : TA} {ds : List PyData} (h : EvA false c env os ta ds) : EvAS c env os ta (ds.map SV.i) := fun ad σ H ok Q q => h ad σ H ok Q fun vs H2 e r => q vs H2 e (by rw [Nw_false] at r; exact dn_paired r)

/-! ### displays -/
theorem ex_tup {ta : TA} {ds : List PyData} (h : EvA w c env os ta ds) (hl : ds.length ≤ 100000) : EvX w c env os (tTup ta) (.tuple ds) := fun ad σ H ok Q q =>
  h ad σ H ok _ fun vs H2 e r => ⟨Nat.le_trans (by rw [r.length]; exact hl) (by decide), fun p hp => q _ _ (e.trans (Ex.new hp)) (.tup (SqT.of upd_same) (r.ext (Ex.new hp)))⟩
theorem ef_lst {ta : TA} {ss : List SV} (h : EvAS c env os ta ss) (hl : ss.length ≤ 100000) : EvF c env os (tLst ta) (.lst ss) := fun ad σ H ok Q q =>
  h ad σ H ok _ fun vs H2 e r => ⟨Nat.le_trans (by rw [Paired.length r]; exact hl) (by decide), fun p hp => q p _ (e.free hp) (e.trans (Ex.new hp)) ⟨vs, upd_same, Paired.imp r fun v s z => by
    cases s with
    | i d => exact (Dn.add hp z).ext (Ex.new hp)
    | t ks => exact (TOk.add hp z).ext (Ex.new hp)
    | ob C m => exact (ObOk.add hp z).ext (Ex.new hp)
    | z m => exact (ZOk.add hp z).ext (Ex.new hp)
    | r k => exact z⟩⟩

/-! ### subscripts -/
theorem paired_get {α β : Type} {F : α → β → Prop} : ∀ {l₁ : List α} {l₂ : List β} {i : Nat} {b : β}, Paired F l₁ l₂ → l₂[i]? = some b → ∃ a, l₁[i]? = some a ∧ F a b
  | _, _, _, _, .nil, e => by simp at e
  | _, _, 0, _, .cons r _, e => by simp at e; subst e; exact ⟨_, rfl, r⟩
  | _, _, i + 1, _, .cons _ t, e => by
    obtain ⟨v, h1, h2⟩ := paired_get (i := i) t (by simpa using e)
    exact ⟨v, by simpa using h1, h2⟩
theorem paired_at {α β : Type} {F : α → β → Prop} {l₁ : List α} {l₂ : List β} {i : Int} {b : β} (p : Paired F l₁ l₂) (h : atI l₂ i = some b) : ∃ a, atI l₁ i = some a ∧ F a b := by
  unfold atI at h
  cases hx : ixN l₂.length i with
  | none => rw [hx] at h; cases h
  | some j =>
    rw [hx] at h
    obtain ⟨a, h1, h2⟩ := paired_get p (show l₂[j]? = some b from h)
    refine ⟨a, ?_, h2⟩
    unfold atI
    rw [Paired.length p, hx]
    exact h1
/-- xs[i] of a list -/
theorem ex_ixL {tb : TE} {ss : List SV} {i : Int} (h : EvI c env os ta ss) (hi : EvX true c env os tb (.int i)) (hd : atI ss i = some (.i d)) : EvX w c env os (tOp (rIxL c.K) ta tb) d := EvX.weak fun ad σ H ok Q q =>
  h ad σ H ok _ fun p vs H1 e1 s1 r1 => hi ad σ H1 (ok.ext e1) _ fun u H2 e2 r2 => by
    cases dn_int r2
    obtain ⟨v, h1, h2⟩ := paired_at r1 hd
    exact ⟨p, vs, i, v, rfl, rfl, e2.sql s1, h1, q v H2 (e1.trans e2) (by rw [Nw_false]; exact Dn.ext e2 h2)⟩
/-- .. of data, told weakly -/
theorem ex_ixLD {tb : TE} {ds : List PyData} {i : Int} (h : EvX w c env os ta (.list ds)) (hi : EvX true c env os tb (.int i)) (hd : atI ds i = some d) : EvX w c env os (tOp (rIxL c.K) ta tb) d := fun ad σ H ok Q q =>
  h ad σ H ok _ fun v H1 e1 r1 => hi ad σ H1 (ok.ext e1) _ fun u H2 e2 r2 => by
    have r1' := r1.ext e2
    cases dn_int r2
    obtain ⟨j, z1, z2⟩ : ∃ j, ixN ds.length i = some j ∧ ds[j]? = some d := by
      unfold atI at hd
      cases hx : ixN ds.length i with
      | none => rw [hx] at hd; cases hd
      | some j => rw [hx] at hd; exact ⟨j, rfl, hd⟩
    cases r1' with
    | lst r n a =>
      obtain ⟨v, y1, y2⟩ := a.get z2
      refine ⟨_, _, i, v, rfl, rfl, Or.inl r, ?_, q v H2 (e1.trans e2) y2⟩
      unfold atI
      rw [a.length, z1]
      exact y1
    | lstK r a =>
      obtain ⟨v, y1, y2⟩ := a.get z2
      refine ⟨_, _, i, v, rfl, rfl, Or.inr r, ?_, q v H2 (e1.trans e2) y2⟩
      unfold atI
      rw [a.length, z1]
      exact y1
theorem eo_none : EvO c env os tNoPart none := fun ad σ H ok Q q => q H (Ex.refl H)
theorem eo_some {i : Int} (h : EvX true c env os te (.int i)) : EvO c env os (tPart te) (some i) := fun ad σ H ok Q q => h ad σ H ok _ fun v H2 e r => ⟨i, dn_int r, q H2 e⟩
def cutG {α : Type} (xs : List α) (lo hi : Option Int) : List α := (xs.drop (HT.sIx xs.length 0 lo)).take (HT.sIx xs.length xs.length hi - HT.sIx xs.length 0 lo)
/-! ### built-ins -/
theorem ex_len {r : List V → Hp → VK → Prop} {ss : List SV} (hr : r = fun xs H Q => ∃ p ys, xs = [.ref p] ∧ (SqL c.K H p ys ∨ SqT c.K H p ys) ∧ Q (.int ys.length) H) (h : EvI c env os te ss) : EvX w c env os (tCB r (tCons te tNil)) (.int (ss.length : Int)) := fun ad σ H ok Q q => by
  subst hr
  refine h ad σ H ok _ fun p vs H2 e s r => ⟨p, vs, rfl, Or.inl s, ?_⟩
  rw [Paired.length r]
  exact q _ H2 e (.int _)
theorem ef_list {r : List V → Hp → VK → Prop} {ss : List SV} (hr : r = fun xs H Q => ∃ p ys, xs = [.ref p] ∧ (SqL c.K H p ys ∨ SqT c.K H p ys) ∧ ∀ l, H l = none → Q (.ref l) (upd H l (.lst ys))) (h : EvI c env os te ss) : EvF c env os (tCB r (tCons te tNil)) (.lst ss) := fun ad σ H ok Q q => by
  subst hr
  refine h ad σ H ok _ fun p vs H2 e s r => ⟨p, vs, rfl, Or.inl s, fun l hl => q l _ (e.free hl) (e.trans (Ex.new hl)) ⟨vs, upd_same, Paired.imp r fun v s z => by
    cases s with
    | i d => exact (Dn.add hl z).ext (Ex.new hl)
    | t ks => exact (TOk.add hl z).ext (Ex.new hl)
    | ob C m => exact (ObOk.add hl z).ext (Ex.new hl)
    | z m => exact (ZOk.add hl z).ext (Ex.new hl)
    | r k => exact z⟩⟩
theorem ex_int1 {r : List V → Hp → VK → Prop} {i : Int} (hr : r = fun xs H Q => (∃ i, xs = [.int i] ∧ Q (.int i) H) ∨ ∃ k, xs = [.bl k] ∧ Q (.int (if k then 1 else 0)) H) (h : EvX true c env os te (.int i)) : EvX w c env os (tCB r (tCons te tNil)) (.int i) := fun ad σ H ok Q q => by
  subst hr
  exact h ad σ H ok _ fun v H2 e a => Or.inl ⟨i, by rw [dn_int a], q _ H2 e (.int i)⟩
/-- xs + ys, both new -/
theorem ef_cat {ss us : List SV} (ha : EvF c env os ta (.lst ss)) (hb : EvF c env os tb (.lst us)) (hl : ss.length + us.length ≤ 100000) : EvF c env os (tOp rCat ta tb) (.lst (ss ++ us)) := fun ad σ H ok Q q => by
  refine ha ad σ H ok _ fun a H1 pa e1 r1 => hb ad σ H1 (ok.ext e1) _ fun b H2 pb e2 r2 => ?_
  obtain ⟨xs, s1, r1⟩ := r1
  obtain ⟨ys, s2, r2⟩ := r2
  refine ⟨a, b, xs, ys, rfl, rfl, e2 _ _ s1, s2, ?_, fun p hp => q p _ ((e1.trans e2).free hp) ((e1.trans e2).trans (Ex.new hp)) ⟨xs ++ ys, upd_same, ?_⟩⟩
  · rw [Paired.length r1, Paired.length r2]; exact Nat.le_trans hl (by decide)
  · have app : ∀ {l1 : List V} {m1 : List SV} {l2 : List V} {m2 : List SV}, Paired (SvOk c.K (Nof c ad os) ad os.length H2) l1 m1 → Paired (SvOk c.K (Nof c ad os) ad os.length H2) l2 m2 → Paired (SvOk c.K (Nof c ad os) ad os.length H2) (l1 ++ l2) (m1 ++ m2) := by
      intro l1 m1 l2 m2 p q
      induction p with
      | nil => exact q
      | cons r t ih => exact .cons r ih
    exact Paired.imp (app (Paired.imp r1 fun _ _ z => (z.sub fun a y => Or.inl y).ext e2) (Paired.imp r2 fun _ _ z => z.sub fun a y => Or.inl y)) fun v s z => by
      cases s with
      | i d => exact (Dn.add hp z).ext (Ex.new hp)
      | t ks => exact (TOk.add hp z).ext (Ex.new hp)
      | ob C m => exact (ObOk.add hp z).ext (Ex.new hp)
      | z m => exact (ZOk.add hp z).ext (Ex.new hp)
      | r k => exact z
end

/-! ### promises -/
/-- data in, data out; nothing that stands is changed -/
def spD (K : PySem.W.Frag) (R : List PyData → PyData → Prop) : Sp := fun vs H Q _ => ∃ (N : Addr → Prop) (ds : List PyData) (d : PyData), (∀ a, N a → H a ≠ none) ∧ DnAll K N H vs ds ∧ R ds d ∧ ∀ v H', Ex H H' → Dn K N H' v d → Q v H'
/-- data in, a new list of data out -/
def spF (K : PySem.W.Frag) (R : List PyData → List PyData → Prop) : Sp := fun vs H Q _ => ∃ (N : Addr → Prop) (ds : List PyData) (rs : List PyData), (∀ a, N a → H a ≠ none) ∧ DnAll K N H vs ds ∧ R ds rs ∧
  ∀ p H' ws, H p = none → Ex H H' → H' p = some (.lst ws) → DnAll K (fun a => N a ∨ a = p) H' ws rs → Q (.ref p) H'
section
variable {w : Bool} {c : Cn} {env : Sy} {os : List SO} {te : TE} {ta : TA} {d : PyData}
theorem ex_call {R : List PyData → PyData → Prop} {E : XK} {ds : List PyData} (h : EvA w c env os ta ds) (hR : R ds d) : EvX w c env os (tCall (spD c.K R) [] E ta) d := fun ad σ H ok Q q =>
  h ad σ H ok _ fun vs H2 e a => by
    rw [List.append_nil]
    exact ⟨Nw w c ad os, ds, d, fun b z => (ok.ext e).nof (Nw_le b z), a, hR, fun v H' e' r => q v H' (e.trans e') r⟩
end

/-! ### statements -/
def Go (c : Cn) (env : Sy) (os : List SO) (t : TS) (D : Ends) : Prop := ∀ ad σ H, Ok c ad env os σ H → t D σ H
def Ret (c : Cn) (d : PyData) (D : Ends) : Prop := ∀ v H2, (∀ a o, c.H0 a = some o → ¬ c.M a → H2 a = some o) → Dn c.K c.N0 H2 v d → D.rt v H2
def RetF (c : Cn) (ds : List PyData) (D : Ends) : Prop := ∀ p H2 ws, c.H0 p = none → (∀ a o, c.H0 a = some o → ¬ c.M a → H2 a = some o) → H2 p = some (.lst ws) → DnAll c.K (fun a => c.N0 a ∨ a = p) H2 ws ds → D.rt (.ref p) H2
/-- such a state -/
def OkE (c : Cn) (env : Sy) (os : List SO) : St → Hp → Prop := fun σ H => ∃ ad, Ok c ad env os σ H
/-- a target takes a value -/
def Tg (c : Cn) (env : Sy) (os : List SO) (g : TG) (s : SV) (env' : Sy) (js : List Nat) : Prop := ∀ ad σ H v, Ok c ad env os σ H → SvOk c.K (Nof c ad os) ad os.length H v s → ∀ Q : St → Hp → Prop,
  (∀ σ', Ok c ad env' os σ' H → (∀ vs : List Nat, (∀ j ∈ js, j ∈ vs) → wipe σ' vs = wipe σ vs) → Q σ' H) → g v σ H Q
def Tgs (c : Cn) (env : Sy) (os : List SO) (g : TGs) (ds : List PyData) (env' : Sy) (js : List Nat) : Prop := ∀ ad σ H vs, Ok c ad env os σ H → DnAll c.K (Nof c ad os) H vs ds → ∀ Q : St → Hp → Prop,
  (∀ σ', Ok c ad env' os σ' H → (∀ vs : List Nat, (∀ j ∈ js, j ∈ vs) → wipe σ' vs = wipe σ vs) → Q σ' H) → g vs σ H Q
theorem wipe_set {σ : St} {j : Nat} {x : Option V} : ∀ {vs : List Nat}, j ∈ vs → wipe (σ.set j x) vs = wipe σ vs
  | v :: vs, h => by
    show (wipe (σ.set j x) vs).set v none = (wipe σ vs).set v none
    by_cases hj : j ∈ vs
    · rw [wipe_set hj]
    · have e : j = v := by
        rcases List.mem_cons.mp h with z | z
        · exact z
        · exact absurd z hj
      subst e
      have key : ∀ us : List Nat, j ∉ us → wipe (σ.set j x) us = (wipe σ us).set j x := by
        intro us
        induction us with
        | nil => intro _; rfl
        | cons u us ih =>
          intro hu
          have h1 : j ≠ u := fun z => hu (z ▸ List.mem_cons_self ..)
          have h2 : j ∉ us := fun z => hu (List.mem_cons_of_mem _ z)
          show (wipe (σ.set j x) us).set u none = ((wipe σ us).set u none).set j x
          rw [ih h2, List.set_comm _ _ h1]
      rw [key vs hj, List.set_set]
section
variable {w : Bool} {c : Cn} {env env' env'' : Sy} {os : List SO} {te ta tl : TE} {d : PyData} {g : TG} {u t v : TS} {D : Ends} {tt : TT}
theorem tg_name {j : Nat} {s : SV} : Tg c env os (gName j) s (env.set j (some s)) [j] := fun ad σ H v ok h Q q => q _ (ok.set h) fun vs hv => wipe_set (hv j (List.mem_cons_self ..))
theorem tgs_nil : Tgs c env os gNil [] env [] := fun ad σ H vs ok h Q q => by
  cases h
  exact ⟨rfl, q σ ok fun _ _ => rfl⟩
theorem tgs_cons {gs : TGs} {ds : List PyData} {js ks : List Nat} (h1 : Tg c env os g (.i d) env' js) (h2 : Tgs c env' os gs ds env'' ks) : Tgs c env os (gCons g gs) (d :: ds) env'' (js ++ ks) := fun ad σ H vs ok h Q q => by
  cases h with
  | cons a b =>
    refine ⟨_, _, rfl, h1 ad σ H _ ok a _ fun σ' ok' hw => h2 ad σ' H _ ok' b _ fun σ'' ok'' hw' => q σ'' ok'' fun vs hv => ?_⟩
    rw [hw' vs fun j hj => hv j (List.mem_append_right _ hj), hw vs fun j hj => hv j (List.mem_append_left _ hj)]
theorem tg_tup {gs : TGs} {ds : List PyData} {n : Nat} {js : List Nat} (h : Tgs c env os gs ds env' js) (hn : ds.length = n) : Tg c env os (gTup c.K n gs) (.i (.tuple ds)) env' js := fun ad σ H v ok r Q q => by
  cases (show Dn _ _ _ _ _ from r) with
  | tup r' a => exact ⟨_, _, rfl, r', a.length.trans hn, h ad σ H _ ok a Q q⟩
theorem gs_asg {i : Nat} (h : EvX false c env os te d) (k : Go c (env.set i (some (.i d))) os u D) : Go c env os (tSeq (tAsg te (gName i)) u) D := fun ad σ H ok =>
  h ad σ H ok _ fun v H2 e r => k ad _ H2 ((ok.ext e).set (by rw [Nw_false] at r; exact r))
theorem gs_asgF {i : Nat} {o : SO} (h : EvF c env os te o) (k : Go c (env.set i (some (.r os.length))) (os ++ [o]) u D) : Go c env os (tSeq (tAsg te (gName i)) u) D := fun ad σ H ok =>
  h ad σ H ok _ fun p H2 hp e r => by
    have h0 : c.H0 p = none ∨ c.M p := by
      by_cases hm : c.M p
      · exact Or.inr hm
      · refine Or.inl ?_
        cases hz : c.H0 p with
        | none => rfl
        | some o => rw [ok.ex p o hz hm] at hp; cases hp
    have ok2 := ok.new hp e h0 r
    refine k _ _ H2 (ok2.set (v := .ref p) (s := .r os.length) ⟨congrArg V.ref adN_same.symm, by simp⟩)
theorem gs_if {b : Bool} (h : EvT c env os tt b) (h1 : b = true → Go c env os t { D with nx := u D }) (h2 : b = false → Go c env os v { D with nx := u D }) : Go c env os (tSeq (tIfS tt t v) u) D := fun ad σ H ok =>
  h ad σ H ok _ fun H2 e => by
    cases b with
    | true => exact h1 rfl ad σ H2 (ok.ext e)
    | false => exact h2 rfl ad σ H2 (ok.ext e)
theorem g_next (h : ∀ ad σ H, Ok c ad env os σ H → D.nx σ H) : Go c env os tNext D := h
theorem g_nextU (h : Go c env os u D) : Go c env os tNext { D with nx := u D } := h
theorem gs_ret (h : EvX true c env os te d) (k : Ret c d D) : Go c env os (tSeq (tRet te) u) D := fun ad σ H ok =>
  h ad σ H ok _ fun v H2 e r => k v H2 (ok.ext e).ex (r.sub fun a z => Or.inl z)
theorem paired_snoc {α β : Type} {F : α → β → Prop} {a : α} {b : β} : ∀ {l₁ : List α} {l₂ : List β}, Paired F l₁ l₂ → F a b → Paired F (l₁ ++ [a]) (l₂ ++ [b])
  | _, _, .nil, h => .cons h .nil
  | _, _, .cons r t, h => .cons r (paired_snoc t h)
/-- xs.append(e) -/
theorem gs_app {k : Nat} {ss : List SV} {s : SV} (hl : EvR c env os tl k) (hk : os[k]? = some (.lst ss)) (h : EvS c env os te s) (hz : ss.length < 100000) (kk : Go c env (os.set k (.lst (ss ++ [s]))) u D) : Go c env os (tSeq (tDrop (tBM c.K "list" rAppend tl (tCons te tNil))) u) D := fun ad σ H ok =>
  hl.2 ad σ H ok _ fun H1 e1 => by
    have ok1 := ok.ext e1
    obtain ⟨_, vs, hvs, pv⟩ := ok1.obj k _ hk rfl
    refine ⟨Or.inl ⟨rfl, vs, SqL.of hvs⟩, ?_⟩
    have fin : ∀ v H2, Ex H1 H2 → SvOk c.K (Nof c ad os) ad os.length H2 v s → tNil σ H2 fun xs H3 => rAppend (.ref (ad k)) (v :: xs) H3 fun _ H4 => u D σ H4 := fun v H2 e2 r => by
      have ok2 := ok1.ext e2
      have hv2 := e2 _ _ hvs
      refine ⟨ad k, vs, v, rfl, rfl, hv2, Nat.lt_of_lt_of_le (by rw [Paired.length pv]; exact hz) (by decide), ?_⟩
      refine kk ad σ _ (ok2.mut hk rfl rfl ⟨vs ++ [v], upd_same, ?_⟩)
      have hN : Nof c ad os (ad k) := Or.inr ⟨k, ⟨_, hk, rfl⟩, rfl⟩
      exact paired_snoc (Paired.imp pv fun _ _ z => (z.ext e2).mut hv2 rfl hN) (r.mut hv2 rfl hN)
    cases s with
    | i d => exact (show EvX false c env os te d from h) ad σ H1 ok1 _ fun v H2 e2 r => fin v H2 e2 (by rw [Nw_false] at r; exact r)
    | t ks => exact (show EvK c env os te ks from h).2 ad σ H1 ok1 _ fun b H2 e2 r => fin _ H2 e2 ⟨b, rfl, r, .inl (show EvK c env os te ks from h).1⟩
    | ob C m => exact (show EvB c env os te C m from h) ad σ H1 ok1 _ fun v H2 e2 r => fin v H2 e2 r
    | z m => exact (show EvZ c env os te m from h) ad σ H1 ok1 _ fun v H2 e2 r => fin v H2 e2 r
    | r j => exact (show EvR c env os te j from h).2 ad σ H1 ok1 _ fun H2 e2 => fin _ H2 e2 ⟨rfl, (show EvR c env os te j from h).1⟩
/-- less is known -/
theorem gs_weak {os' : List SO} (he : WkE env env') (ho : WkO os os') (l1 : EnLt os'.length env') (l2 : OsLt os'.length os') (l3 : c.lo ≤ os'.length) (k : Go c env' os' u D) : Go c env os u D := fun ad σ H ok => k ad σ H (ok.weak he ho l1 l2 l3)
theorem gs_own {i k : Nat} {ds : List PyData} (hi : env[i]? = some (some (.r k))) (hk : os[k]? = some (.lst (ds.map SV.i))) (kk : Go c (env.set i (some (.i (.list ds)))) (os.set k .x) u D) : Go c env os u D := fun ad σ H ok => kk ad σ H (ok.own hi hk)
end

/-! ### what is walked -/
structure WalkD (c : Cn) (J : It) (n : Nat) (it : Nat → SV) (G : List SO → Prop) : Prop where
  goes : ∀ i ad env os σ H, i < n → Ok c ad env os σ H → G os → J.go i H
  stops : ∀ ad env os σ H, Ok c ad env os σ H → G os → J.stop n H
  yields : ∀ i ad env os σ H x H', i < n → Ok c ad env os σ H → G os → J.yld i H x H' → Ex H H' ∧ SvOk c.K (Nof c ad os) ad os.length H' x (it i)
/-- wi walks the n things it -/
def EvW (c : Cn) (env : Sy) (os : List SO) (wi : TI) (n : Nat) (it : Nat → SV) (G : List SO → Prop) : Prop := ∀ ad σ H, Ok c ad env os σ H → ∀ R : It → Hp → Prop,
  (∀ J H1 fr, Ex H H1 → Ok (c.w fr os.length) ad env os σ H1 → (∀ ad' env' os' σ' H', Ok (c.w fr os.length) ad' env' os' σ' H' → Ok c ad' env' os' σ' H') → WalkD (c.w fr os.length) J n it G → R J H1) → wi σ H R
/-- what is known outside is known inside -/
def Up (c c' : Cn) : Prop := ∀ ad env os σ H, Ok c' ad env os σ H → Ok c ad env os σ H
section
variable {c : Cn} {env : Sy} {os : List SO} {te tl : TE} {ad : Nat → Addr} {σ : St} {H : Hp}
theorem up_pin (ok : Ok c ad env os σ H) {v : V} {s : SV} : Up c (c.w ((v, s) :: c.fr) os.length) := fun ad' env' os' σ' H' o => ⟨o.len, o.ex, o.n0, o.val, o.obj, o.inj, o.nn, fun p hp => by
  have h1 := o.frm p (List.mem_cons_of_mem _ hp)
  have h2 := ok.frm p hp
  obtain ⟨x, y⟩ := p
  cases y with
  | i d => exact h1
  | t ks => exact h1
  | ob C m => exact h1
  | z m => exact h1
  | r k => exact ⟨h1.1, h2.2⟩, Nat.le_trans ok.low o.low⟩
theorem up_pin0 (ok : Ok c ad env os σ H) : Up c (c.w c.fr os.length) := fun ad' env' os' σ' H' o => ⟨o.len, o.ex, o.n0, o.val, o.obj, o.inj, o.nn, fun p hp => by
  have h1 := o.frm p hp
  have h2 := ok.frm p hp
  obtain ⟨x, y⟩ := p
  cases y with
  | i d => exact h1
  | t ks => exact h1
  | ob C m => exact h1
  | z m => exact h1
  | r k => exact ⟨h1.1, h2.2⟩, Nat.le_trans ok.low o.low⟩
theorem sql_of_dn {K : PySem.W.Frag} {N : Addr → Prop} {H : Hp} {a : Addr} {ds : List PyData} (h : Dn K N H (.ref a) (.list ds)) : ∃ xs, SqL K H a xs ∧ DnAll K N H xs ds := by
  cases h with
  | lst r n a => exact ⟨_, Or.inl r, a⟩
  | lstK r a => exact ⟨_, Or.inr r, a⟩
theorem dn_list_ref {K : PySem.W.Frag} {N : Addr → Prop} {H : Hp} {v : V} {ds : List PyData} (h : Dn K N H v (.list ds)) : ∃ a, v = .ref a := by cases h <;> exact ⟨_, rfl⟩
theorem dn_tup_ref {K : PySem.W.Frag} {N : Addr → Prop} {H : Hp} {v : V} {ds : List PyData} (h : Dn K N H v (.tuple ds)) : ∃ a xs, v = .ref a ∧ SqT K H a xs ∧ DnAll K N H xs ds := by
  cases h with
  | tup r a => exact ⟨_, _, rfl, r, a⟩
def itD (ds : List PyData) : Nat → SV := fun i => .i (ds.getD i .none)
theorem itD_at {ds : List PyData} {i : Nat} {d : PyData} (h : ds[i]? = some d) : itD ds i = .i d := by
  unfold itD
  rw [List.getD_eq_getElem?_getD, h]
  rfl
/-- a list of data -/
theorem ew_list {ds : List PyData} (h : EvX false c env os tl (.list ds)) : EvW c env os (iList c.K tl) ds.length (itD ds) (fun _ => True) := fun ad σ H ok R q =>
  h ad σ H ok _ fun v H1 e r => by
    rw [Nw_false] at r
    obtain ⟨a, rfl⟩ := dn_list_ref r
    obtain ⟨xs, hs, _⟩ := sql_of_dn r
    refine ⟨a, rfl, ⟨xs, hs⟩, q _ H1 ((.ref a, .i (.list ds)) :: c.fr) e ((ok.ext e).pin r) (up_pin (ok.ext e)) ⟨fun i ad' env' os' σ' H' hi o _ => ?_, fun ad' env' os' σ' H' o _ => ?_, fun i ad' env' os' σ' H' x H'' hi o _ y => ?_⟩⟩
    all_goals
      have r' : Dn c.K (Nof c ad' os') H' (.ref a) (.list ds) := o.frm _ (List.mem_cons_self ..)
      obtain ⟨ys, hy, ay⟩ := sql_of_dn r'
    · exact ⟨ys, ys[i]'(by rw [ay.length]; exact hi), hy, List.getElem?_eq_getElem _⟩
    · exact ⟨ys, hy, by rw [ay.length]; exact Nat.le_refl _⟩
    · obtain ⟨rfl, y⟩ := y
      refine ⟨Ex.refl _, ?_⟩
      obtain ⟨d, h1, h2⟩ := ay.getV (y ys hy)
      rw [itD_at h1]
      exact h2
/-- a tuple -/
theorem ew_tup {ds : List PyData} (h : EvX false c env os tl (.tuple ds)) : EvW c env os (iTup c.K tl) ds.length (itD ds) (fun _ => True) := fun ad σ H ok R q =>
  h ad σ H ok _ fun v H1 e r => by
    rw [Nw_false] at r
    obtain ⟨a, xs, rfl, hs, _⟩ := dn_tup_ref r
    refine ⟨a, rfl, ⟨xs, hs⟩, q _ H1 ((.ref a, .i (.tuple ds)) :: c.fr) e ((ok.ext e).pin r) (up_pin (ok.ext e)) ⟨fun i ad' env' os' σ' H' hi o _ => ?_, fun ad' env' os' σ' H' o _ => ?_, fun i ad' env' os' σ' H' x H'' hi o _ y => ?_⟩⟩
    all_goals
      have r' : Dn c.K (Nof c ad' os') H' (.ref a) (.tuple ds) := o.frm _ (List.mem_cons_self ..)
      obtain ⟨a', ys, ea, hy, ay⟩ := dn_tup_ref r'
      cases ea
    · exact ⟨ys, ys[i]'(by rw [ay.length]; exact hi), hy, List.getElem?_eq_getElem _⟩
    · exact ⟨ys, hy, by rw [ay.length]; exact Nat.le_refl _⟩
    · obtain ⟨rfl, y⟩ := y
      refine ⟨Ex.refl _, ?_⟩
      obtain ⟨d, h1, h2⟩ := ay.getV (y ys hy)
      rw [itD_at h1]
      exact h2
theorem ew_range1 {ta : TA} {n : Int} (h : EvA true c env os ta [.int n]) (hn : -1000000000000 ≤ n ∧ n ≤ 1000000000000) : EvW c env os (iRng1 ta) n.toNat (fun i => .i (.int (i : Int))) (fun _ => True) := fun ad σ H ok R q =>
  h ad σ H ok _ fun vs H1 e r => by
    cases r with
    | cons a b =>
      cases b
      cases dn_int a
      refine ⟨n, rfl, by omega, by omega, q _ H1 c.fr e (ok.ext e).pin0 (up_pin0 (ok.ext e)) ⟨fun i ad' env' os' σ' H' hi o _ => hi, fun ad' env' os' σ' H' o _ => Nat.le_refl _, fun i ad' env' os' σ' H' x H'' hi o _ y => ?_⟩⟩
      obtain ⟨rfl, rfl⟩ := y
      refine ⟨Ex.refl _, ?_⟩
      rw [Int.zero_add]
      exact Dn.int _
end

/-! ### loops -/
section
variable {c : Cn} {env : Sy} {os : List SO} {g : TG} {tb u : TS} {D : Ends}
/-- a for: E, O the slots and the store by the number of turns done -/
theorem gs_for {wi : TI} {n : Nat} {it : Nat → SV} {G : List SO → Prop} (E : Nat → Sy) (O : Nat → List SO) (hw : EvW c env os wi n it G)
    (h0 : ∀ c' : Cn, c'.lo = os.length → ∀ ad σ H, Ok c' ad env os σ H → Ok c' ad (E 0) (O 0) σ H) (hG : ∀ i, i ≤ n → G (O i))
    (hs : ∀ fr, Up c (c.w fr os.length) → ∀ i, i < n → ∃ env' js, Tg (c.w fr os.length) (E i) (O i) g (it i) env' js ∧ Go (c.w fr os.length) env' (O i) tb { D with nx := OkE (c.w fr os.length) (E (i + 1)) (O (i + 1)), ct := OkE (c.w fr os.length) (E (i + 1)) (O (i + 1)), bk := u D })
    (hd : Go c (E n) (O n) u D) : Go c env os (tSeq (tFor wi g tb) u) D := fun ad σ H ok => by
  refine hw ad σ H ok _ fun J H1 fr e ok1 up W => ?_
  refine ⟨fun i m σ H => m = n - i ∧ i ≤ n ∧ OkE (c.w fr os.length) (E i) (O i) σ H, ⟨n, by simp, Nat.zero_le _, ad, h0 _ rfl ad σ H1 ok1⟩, ?_⟩
  rintro i m σ H ⟨rfl, hi, ad', ok'⟩
  by_cases hlt : i < n
  · refine .inr ⟨W.goes i _ _ _ _ _ hlt ok' (hG i hi), OkE (c.w fr os.length) (E (i + 1)) (O (i + 1)), fun σ' H' p' => ⟨n - (i + 1), by omega, rfl, hlt, p'⟩, fun x H' y => ?_⟩
    obtain ⟨e2, r⟩ := W.yields i _ _ _ _ _ x H' hlt ok' (hG i hi) y
    obtain ⟨env', js, ht, hb⟩ := hs fr up i hlt
    exact ht ad' σ H' x (ok'.ext e2) r _ fun σ2 ok2 _ => hb ad' σ2 H' ok2
  · have q : i = n := by omega
    subst q
    exact .inl ⟨W.stops _ _ _ _ _ ok' (hG i hi), hd ad' σ H (up _ _ _ _ _ ok')⟩
/-- .. over the list of the e x, x in xs; E, O by the part that is done -/
theorem gs_forL {α : Type} {wi : TI} {xs : List α} {e : α → SV} {n : Nat} {it : Nat → SV} {G : List SO → Prop} (E : List α → Sy) (O : List α → List SO) (hw : EvW c env os wi n it G) (hn : n = xs.length) (hit : ∀ i x, xs[i]? = some x → it i = e x)
    (h0 : ∀ c' : Cn, c'.lo = os.length → ∀ ad σ H, Ok c' ad env os σ H → Ok c' ad (E []) (O []) σ H) (hG : ∀ pre post, xs = pre ++ post → G (O pre))
    (hs : ∀ fr, Up c (c.w fr os.length) → ∀ pre x post, xs = pre ++ x :: post → ∃ env' js, Tg (c.w fr os.length) (E pre) (O pre) g (e x) env' js ∧ Go (c.w fr os.length) env' (O pre) tb { D with nx := OkE (c.w fr os.length) (E (pre ++ [x])) (O (pre ++ [x])), ct := OkE (c.w fr os.length) (E (pre ++ [x])) (O (pre ++ [x])), bk := u D })
    (hd : Go c (E xs) (O xs) u D) : Go c env os (tSeq (tFor wi g tb) u) D := by
  subst hn
  refine gs_for (fun i => E (xs.take i)) (fun i => O (xs.take i)) hw (fun c' hc => by simpa using h0 c' hc) (fun i hi => hG _ (xs.drop i) (List.take_append_drop i xs).symm) (fun fr up i hi => ?_) (by simpa using hd)
  have e1 : xs = xs.take i ++ xs[i] :: xs.drop (i + 1) := by
    rw [List.getElem_cons_drop]; exact (List.take_append_drop i xs).symm
  obtain ⟨env', js, h1, h2⟩ := hs fr up (xs.take i) xs[i] (xs.drop (i + 1)) e1
  rw [hit i xs[i] (List.getElem?_eq_getElem hi)]
  refine ⟨env', js, h1, ?_⟩
  have e2 : xs.take (i + 1) = xs.take i ++ [xs[i]] := by rw [List.take_succ, List.getElem?_eq_getElem hi]; rfl
  simp only [e2]
  exact h2
theorem gs_cont {v : TS} (h : ∀ ad σ H, Ok c ad env os σ H → D.ct σ H) : Go c env os (tSeq tCont v) D := h
end
end DL

set_option Elab.async false
set_option linter.all false
set_option maxRecDepth 100000
set_option maxHeartbeats 2000000
/-! The data layer: comprehensions, types, a def's start. -/
namespace DL
open PySem L2
open Evl (Ex Ex.refl Ex.trans Ex.new)

/-! ### comprehensions -/
def wipeE (env : Sy) : List Nat → Sy
  | [] => env
  | v :: vs => (wipeE env vs).set v none
theorem Ok.wipe {c : Cn} {ad : Nat → Addr} {env : Sy} {os : List SO} {σ : St} {H : Hp} (ok : Ok c ad env os σ H) : ∀ vs : List Nat, Ok c ad (wipeE env vs) os (wipe σ vs) H
  | [] => ok
  | _ :: vs => (Ok.wipe ok vs).setU
section
variable {c : Cn} {env : Sy} {os : List SO} {g : TG} {tt : TT} {te : TE}
theorem ef_lc {α : Type} {wi : TI} {n : Nat} {it : Nat → SV} {G : List SO → Prop} {xs : List α} {e : α → SV} {vs : List Nat} (p : α → Bool) (f : α → PyData) (hw : EvW c env os wi n it G) (hn : n = xs.length) (hit : ∀ i x, xs[i]? = some x → it i = e x)
    (hG : ∀ o, G (os ++ [o])) (hz : xs.length ≤ 40000)
    (hs : ∀ fr lo, Up c (c.w fr lo) → ∀ acc x, x ∈ xs → ∃ env' js, (∀ j ∈ js, j ∈ vs) ∧ Tg (c.w fr lo) (wipeE env vs) (os ++ [.lst acc]) g (e x) env' js ∧ EvT (c.w fr lo) env' (os ++ [.lst acc]) tt (p x) ∧ (p x = true → EvX false (c.w fr lo) env' (os ++ [.lst acc]) te (f x))) :
    EvF c env os (tLc wi g tt te vs) (.lst (((xs.filter p).map f).map SV.i)) := fun ad σ H ok Q q => by
  subst hn
  refine hw ad σ H ok _ fun J H1 fr e1 ok1 up W D hD => ?_
  have h0 : (c.w fr os.length).H0 D = none ∨ (c.w fr os.length).M D := by
    by_cases hm : c.M D
    · exact Or.inr hm
    · refine Or.inl ?_
      show c.H0 D = none
      cases hz : c.H0 D with
      | none => rfl
      | some o => rw [ok1.ex D o hz hm] at hD; cases hD
  have ok2 := ok1.new (o := .lst []) hD (Ex.new (o := .lst []) hD) h0 ⟨[], upd_same, .nil⟩
  have ok3 := ok2.pin (v := .ref D) (s := .r os.length) ⟨congrArg V.ref adN_same.symm, by simp⟩
  have ok4 := ok3.wipe vs
  have up2 := up_pin (v := .ref D) (s := .r os.length) ok2
  generalize hlo : (os ++ [SO.lst []]).length = lo at ok4 up2
  generalize hfr : ((V.ref D, SV.r os.length) :: fr) = fr' at ok4 up2
  have upc : Up c (c.w fr' lo) := fun a b d e f z => up _ _ _ _ _ (up2 _ _ _ _ _ z)
  let acc : Nat → List SV := fun i => (((xs.take i).filter p).map f).map SV.i
  have hacc : ∀ i, (acc i).length ≤ i := fun i => by
    show ((((xs.take i).filter p).map f).map SV.i).length ≤ i
    rw [List.length_map, List.length_map]
    have h1 := List.length_filter_le p (xs.take i)
    rw [List.length_take] at h1
    omega
  refine ⟨fun i m H => m = xs.length - i ∧ i ≤ xs.length ∧ Ok (c.w fr' lo) (adN ad os.length D) (wipeE env vs) (os ++ [.lst (acc i)]) (wipe σ vs) H ∧ Ex H1 H, ⟨xs.length, by simp, Nat.zero_le _, ok4, Ex.new hD⟩, ?_⟩
  rintro i m H' ⟨rfl, hi, ok', ex1⟩
  have hget : (os ++ [SO.lst (acc i)])[os.length]? = some (.lst (acc i)) := by simp
  by_cases hlt : i < xs.length
  · have e0 : xs[i]? = some xs[i] := List.getElem?_eq_getElem hlt
    have et : xs.take (i + 1) = xs.take i ++ [xs[i]] := by rw [List.take_succ, e0]; rfl
    refine .inr ⟨W.goes i _ _ _ _ _ hlt (up2 _ _ _ _ _ ok') (hG _), fun H'' => Ok (c.w fr' lo) (adN ad os.length D) (wipeE env vs) (os ++ [.lst (acc (i + 1))]) (wipe σ vs) H'' ∧ Ex H1 H'', fun H'' p' => ⟨xs.length - (i + 1), by omega, rfl, hlt, p'.1, p'.2⟩, fun x H'' y => ?_⟩
    obtain ⟨e2, r⟩ := W.yields i _ _ _ _ _ x H'' hlt (up2 _ _ _ _ _ ok') (hG _) y
    rw [hit i xs[i] e0] at r
    have ok5 := ok'.ext e2
    obtain ⟨env', js, hjs, ht, hb, he⟩ := hs fr' lo upc (acc i) xs[i] (List.getElem_mem hlt)
    refine ht _ _ H'' x ok5 r _ fun σ2 ok6 hwp => ⟨?_, hb _ σ2 H'' ok6 _ fun H3 e3 => ?_⟩
    · rw [hwp vs hjs]
      have idem : ∀ (us : List Nat) (τ : St), (∀ j ∈ us, τ[j]? = some none ∨ τ[j]? = none) → wipe τ us = τ := by
        intro us
        induction us with
        | nil => intro τ _; rfl
        | cons u us ih =>
          intro τ h
          show (wipe τ us).set u none = τ
          rw [ih τ fun j hj => h j (List.mem_cons_of_mem _ hj)]
          rcases h u (List.mem_cons_self ..) with z | z
          · obtain ⟨h1, h2⟩ := List.getElem?_eq_some_iff.mp z
            exact List.ext_getElem? fun k => by
              by_cases q : u = k
              · subst q; rw [List.getElem?_set_self h1, z]
              · rw [List.getElem?_set_ne q]
          · exact List.set_eq_of_length_le (List.getElem?_eq_none_iff.mp z)
      refine idem vs _ fun j hj => ?_
      cases hx : (wipe σ vs)[j]? with
      | none => exact Or.inr rfl
      | some o =>
        cases o with
        | none => exact Or.inl rfl
        | some v => exact absurd hj (wipe_some hx).2
    · cases hp : p xs[i] with
      | false =>
        rw [if_neg (by decide)]
        have ea : acc (i + 1) = acc i := by
          show (((xs.take (i + 1)).filter p).map f).map SV.i = _
          rw [et, List.filter_append, List.filter_cons, if_neg (by rw [hp]; decide), List.filter_nil, List.append_nil]
        rw [ea]
        exact ⟨ok5.ext e3, (ex1.trans e2).trans e3⟩
      | true =>
        rw [if_pos rfl]
        refine he hp _ σ2 H3 (ok6.ext e3) _ fun y H4 e4 ry => ?_
        have ok7 := (ok5.ext e3).ext e4
        obtain ⟨_, ws, hws, pws⟩ := ok7.obj os.length _ hget rfl
        rw [adN_same] at hws
        have ea : acc (i + 1) = acc i ++ [SV.i (f xs[i])] := by
          show (((xs.take (i + 1)).filter p).map f).map SV.i = _
          rw [et, List.filter_append, List.filter_cons, if_pos hp, List.filter_nil, List.map_append, List.map_append]
          rfl
        refine ⟨ws, hws, ?_, ?_⟩
        · rw [Paired.length pws]
          exact Nat.lt_of_le_of_lt (hacc i) (Nat.lt_of_lt_of_le (show i < 40000 by omega) (by decide))
        · have hN : Nof (c.w fr' lo) (adN ad os.length D) (os ++ [SO.lst (acc i)]) D := Or.inr ⟨os.length, ⟨_, hget, rfl⟩, adN_same.symm⟩
          rw [Nw_false] at ry
          have m := ok7.mut (o' := .lst (acc (i + 1))) (u' := .lst (ws ++ [y])) hget rfl rfl (by
            rw [adN_same]
            refine ⟨_, upd_same, ?_⟩
            rw [ea]
            exact paired_snoc (Paired.imp pws fun _ _ z => z.mut hws rfl hN) (show Dn _ _ _ _ _ from Dn.mut hws rfl hN ry))
          rw [adN_same] at m
          have es : (os ++ [SO.lst (acc i)]).set os.length (SO.lst (acc (i + 1))) = os ++ [SO.lst (acc (i + 1))] := by
            rw [List.set_append_right _ _ (Nat.le_refl _), Nat.sub_self]
            rfl
          rw [es] at m
          refine ⟨m, fun a o h => ?_⟩
          rw [upd_ne (ne_of_none h hD)]
          exact ((ex1.trans e2).trans e3).trans e4 a o h
  · have q : i = xs.length := by omega
    subst q
    have ea : acc xs.length = ((xs.filter p).map f).map SV.i := by
      show (((xs.take xs.length).filter p).map f).map SV.i = _
      rw [List.take_length]
    refine .inl ⟨W.stops _ _ _ _ _ (up2 _ _ _ _ _ ok') (hG _), ?_⟩
    obtain ⟨_, ws, hws, pws⟩ := ok'.obj os.length _ hget rfl
    rw [adN_same] at hws
    refine q D H' (e1.free hD) (e1.trans ex1) ⟨ws, hws, ?_⟩
    have hget2 := hget
    rw [ea] at pws hget2
    refine dn_paired ((paired_dn pws).sub fun a z => ?_)
    rcases z with z | z
    · rcases z with z | ⟨k, ⟨o, h1, h2⟩, z⟩
      · exact Or.inl z
      · have hk : k < os.length := (List.getElem?_eq_some_iff.mp h1).1
        exact Or.inr ⟨k, ⟨o, by rw [List.getElem?_append_left hk]; exact h1, h2⟩, by rw [adN_ne (by omega)]; exact z⟩
    · exact Or.inr ⟨os.length, ⟨_, hget2, rfl⟩, by rw [adN_same]; exact z⟩
end

/-! ### types -/
def tyN : PyData → String
  | .none => "NoneType"
  | .bool _ => "bool"
  | .int _ => "int"
  | .str _ => "str"
  | .list _ => "list"
  | .tuple _ => "tuple"
  | .dict ((.bool true, _) :: _) => "@ins"
  | .dict ((.list [], _) :: _) => "@ins"
  | .dict _ => "dict"
/-- as kitB, for kinds of data alone -/
def kitD (a b : String) : Option Bool := if a = "@ins" then none else kitB a b
theorem tyx_of {K : PySem.W.Frag} {N : Addr → Prop} {H : Hp} {v : V} {d : PyData} (h : Dn K N H v d) (hi : tyN d ≠ "@ins") : TyX K H v (.type (tyN d)) := by
  cases h with
  | non => exact .base .non
  | bl b => exact .base (.bl b)
  | int i => exact .base (.int i)
  | str x => exact .base (.str x)
  | lst r n a =>
    rcases r with r | ⟨o, r⟩
    · exact .base (.lst r)
    · exact .base (.frz r)
  | lstK r a =>
    obtain ⟨o, its, n, h1, h2, _⟩ := r
    exact .kList h1 h2
  | tup r a =>
    rcases r with (r | ⟨o, r⟩) | ⟨o, its, n, h1, h2, _⟩
    · exact .base (.tup r)
    · exact .fTuple r
    · exact .kTuple h1 h2
  | @dkk _ ws kvs r n a =>
    have e : tyN (.dict kvs) = "dict" := by
      cases ws with
      | nil => cases a; rfl
      | cons x ws =>
        rw [List.map_cons] at a
        generalize hk : kdat x.1 = kd at a
        cases a
        obtain ⟨k, y⟩ := x
        cases k <;> cases hk <;> rfl
    rw [e]
    rcases r with r | ⟨o, r⟩
    · exact .base (.dK r)
    · exact .fDict r
  | dkt r n a =>
    cases a
    exact .base (.dT r)
  | dkz r n a =>
    cases a
    exact .fDict r
  | ft r n a =>
    cases a
    exact absurd rfl hi
  | ins r n a =>
    cases a
    exact absurd rfl hi
theorem kitD_ins {a b : String} {r : Bool} (h : kitD a b = some r) : a ≠ "@ins" := fun e => by
  unfold kitD at h
  rw [if_pos e] at h
  cases h
theorem kitD_b {a b : String} {r : Bool} (h : kitD a b = some r) : kitB a b = some r := by
  have e := kitD_ins h
  unfold kitD at h
  rwa [if_neg e] at h
theorem kit_str_str : kitD "str" "str" = some true := by decide +kernel
section
variable {w : Bool} {c : Cn} {env : Sy} {os : List SO} {te tl : TE} {d : PyData}
theorem ex_isi {T : String} {b : Bool} (h : EvX true c env os te d) (hb : kitD (tyN d) T = some b) : EvX w c env os (tCB (rIsi c.K) (tCons te (tCons (tC (.ty T)) tNil))) (.bool b) := fun ad σ H ok Q q =>
  h ad σ H ok _ fun v H2 e r => ⟨v, .ty T, .type (tyN d), .type T, b, rfl, .ty T, tyx_of r (kitD_ins hb), kit_ty (kitD_b hb), q _ H2 e (.bl b)⟩
def maxL : List Int → Int
  | [] => 0
  | x :: xs => xs.foldl max x
def minL : List Int → Int
  | [] => 0
  | x :: xs => xs.foldl min x
theorem bls_of {K : PySem.W.Frag} {N : Addr → Prop} {ad : Nat → Addr} {n : Nat} {H : Hp} : ∀ {vs : List V} {ns : List Bool}, Paired (SvOk K N ad n H) vs ((ns.map PyData.bool).map SV.i) → vs = ns.map V.bl
  | _, [], h => by cases h; rfl
  | _, x :: ns, h => by
    cases h with
    | cons a b => rw [bls_of b, dn_bool (show Dn _ _ _ _ _ from a)]; rfl
theorem ex_all {ns : List Bool} (h : EvI c env os tl ((ns.map PyData.bool).map SV.i)) : EvX w c env os (tCB (rAll c.K) (tCons tl tNil)) (.bool (ns.all id)) := fun ad σ H ok Q q =>
  h ad σ H ok _ fun p vs H2 e s r => by
    rw [bls_of r] at s
    exact ⟨p, ns, rfl, s, q _ H2 e (.bl _)⟩
end

/-! ### a def's start -/
def env0 (n : Nat) (ds : List PyData) : Sy := ds.map (fun d => some (SV.i d)) ++ List.replicate (n - ds.length) none
theorem ok_start {K : PySem.W.Frag} {H : Hp} {N : Addr → Prop} {vs : List V} {ds : List PyData} {Nm : List Str} (hN : ∀ a, N a → H a ≠ none) (h : DnAll K N H vs ds) : Ok ⟨K, H, N, fun _ => False, [], 0⟩ (fun _ => 0) (env0 Nm.length ds) [] (L2.start Nm vs) H where
  len := by unfold L2.start env0; simp [h.length]
  ex := fun a o e _ => e
  n0 := hN
  val := fun i s e => by
    unfold env0 at e
    by_cases hi : i < ds.length
    · rw [List.getElem?_append_left (by simpa using hi), List.getElem?_map] at e
      cases hd : ds[i]? with
      | none => rw [hd] at e; cases e
      | some d =>
        rw [hd] at e
        cases e
        obtain ⟨v, h1, h2⟩ := h.get hd
        refine ⟨v, ?_, h2.sub fun a z => z.elim id fun ⟨k, ⟨o, y, _⟩, _⟩ => by simp at y⟩
        unfold L2.start
        rw [List.getElem?_append_left (by rw [List.length_map, h.length]; exact hi), List.getElem?_map, h1]
        rfl
    · rw [List.getElem?_append_right (by simpa using hi)] at e
      rw [List.getElem?_replicate] at e
      split at e <;> cases e
  obj := fun k o e _ => by simp at e
  inj := fun k j ⟨o, e, _⟩ => by simp at e
  nn := fun k ⟨o, e, _⟩ => by simp at e
  frm := fun p hp => by cases hp
  low := Nat.le_refl _
theorem spD_len {K : PySem.W.Frag} {R : List PyData → PyData → Prop} {n : Nat} (hR : ∀ ds d, R ds d → ds.length = n) : ∀ vs H Q E, spD K R vs H Q E → vs.length = n := fun vs H Q E ⟨N, ds, d, _, h, r, _⟩ => h.length.trans (hR ds d r)
/-- the ends of a def's body -/
abbrev De (Q : VK) : Ends := { nx := fun _ H' => Q .non H', rt := Q }
theorem run_spD {K : PySem.W.Frag} {R : List PyData → PyData → Prop} {vs : List V} {H : Hp} {Q : VK} {E : XK} {Nm : List Str} {t : TS} (h : spD K R vs H Q E)
    (g : ∀ N ds d, R ds d → Ret ⟨K, H, N, fun _ => False, [], 0⟩ d (De Q) → Go ⟨K, H, N, fun _ => False, [], 0⟩ (env0 Nm.length ds) [] t (De Q)) : t (De Q) (L2.start Nm vs) H := by
  obtain ⟨N, ds, d, hN, hv, hR, hq⟩ := h
  exact g N ds d hR (fun v H2 e r => hq v H2 (fun a o z => e a o z fun y => y) r) _ _ _ (ok_start hN hv)
end DL

set_option Elab.async false
set_option linter.all false
set_option maxRecDepth 100000
set_option maxHeartbeats 2000000
/-! The data layer: a def that is called, the law's end. -/
namespace DL
open PySem PySem.Spec PyProof.Rows L2

/-- the module's name x stands for a def that keeps the promise sp -/
def Cal (P : Program) (w : World) (K : PySem.W.Frag) (mg : Str → Option Value) (base : Heap) (k : Nat) (x : Str) (ps : List Str) (sp : Sp) : Prop :=
  ∃ f fd, FnOk P w K mg base CX0 k f fd ps sp ∧ Binds K fd ps [] ∧ mg x = some (.ref f) ∧ PySem.W.keepIn K (.ref f) = true
theorem pe_cal {X : Cx} {k j : Nat} {ps : List Str} {sp : Sp} {x : Str} {p pos : Pos} {e : Expr} {es : List Expr} {t : TA} (h : Cal X.prog X.w X.K X.mg X.base k x ps sp) (hr : Room j X.A) (hj : k ≤ j) (hg : Gl X x) (hx : Passes CX0 X E0) (ha : PA X (e :: es) t)
    (hdb : (x == ("__debug__" : Str)) = false := by decide) (he : starEach (e :: es) X.env = (false, eval e X.env) :: starEach es X.env := by rfl) (hpl : (backTo pos (starEach es X.env)).any (·.1) = false := by rfl) :
    PE X (.Call (.Name x p) (e :: es) [] pos) (tCall sp [] E0 t) := by
  obtain ⟨f, fd, G, b, g, kp⟩ := h
  exact pe_call G (hr.mono hj) hg g kp b .nil hx ha hdb he hpl
section
variable {P : Program} {w : World} {K : PySem.W.Frag} {mg : Str → Option Value} {base : Heap}
abbrev FnP (K : PySem.W.Frag) (x : Str) (st : Stmt) (f : Addr) (fd : FuncData) : Prop := FunD K x x (defArgs st) (defBody st) (defScope st) [] [] f fd
theorem cal_mk {x : Str} {st : Stmt} {f : Addr} {fd : FuncData} {N ps : List Str} {k : Nat} {sp : Sp} (F : FnP K x st f fd) (S : FnScope N ps (defScope st)) (g : mg x = some (.ref f)) (len : ∀ vs H Q E, sp vs H Q E → vs.length = ps.length)
    (hb : ∀ (kV doc pm : Value) (an : Option Addr) (cdv ct : Value) (us : List Value), us.length = ps.length → bindArgs (PySem.W.fnOf x x (defArgs st) (defBody st) (defScope st) .none kV doc pm an cdv ct) ⟨us, []⟩ = pure (ps.zip us))
    (hbody : ∀ (cdv : Value) (A : Around) (outer : List Env) (s : Shared) (H : Hp) (vs : List V) (Q : VK) (E : XK), Room k (A.deeper (envOfC x (defScope st) s.heap.objs.size f cdv)) → sp vs H Q E →
      ∃ t, PSs (cxOf CX0 P w K mg base N x (defScope st) f cdv A outer s H E).nox (defBody st) t ∧ t (De Q) (L2.start N vs) H) : Cal P w K mg base (k + 1) x ps sp :=
  ⟨f, fd, F.ok S len fun cdv A outer s H vs Q E hr h => let ⟨t, a, b⟩ := hbody cdv A outer s H vs Q E hr h; ⟨t, a.nox, b⟩, F.bindsN hb, g, F.kp⟩
end
/-- the script's promise -/
def RLaw : List PyData → PyData → Prop := fun ds d => ∃ ns : List Int, ns.length ≤ 63 ∧ ds = [.list (ns.map PyData.int)] ∧ d = .bool true
theorem RLaw_len : ∀ ds d, RLaw ds d → ds.length = 1 := fun ds d ⟨ns, _, e, _⟩ => by rw [e]; rfl
theorem ints_dn {K : PySem.W.Frag} {N : Addr → Prop} {H : Hp} : ∀ ns : List Int, DnAll K N H (ns.map V.int) (ns.map PyData.int)
  | [] => .nil
  | n :: ns => .cons (.int n) (ints_dn ns)
theorem law_sp {K : PySem.W.Frag} {H : Hp} {a : Addr} {ns : List Int} (hl : ns.length ≤ 63) (h : SqL K H a (ns.map V.int)) : spD K RLaw [.ref a] H (fun v _ => v = .bl true) fun _ _ _ => False := by
  refine ⟨fun _ => False, [.list (ns.map PyData.int)], .bool true, fun _ z => z.elim, .cons ?_ .nil, ⟨ns, hl, rfl, rfl⟩, fun v H' _ r => dn_bool r⟩
  rcases h with h | h
  · exact .lst h id (ints_dn ns)
  · exact .lstK h (ints_dn ns)
theorem fnok_mk {P : Program} {w : World} {K : PySem.W.Frag} {mg : Str → Option Value} {base : Heap} {x : Str} {st : Stmt} {f : Addr} {fd : FuncData} {N ps : List Str} {k : Nat} {sp : Sp} (F : FnP K x st f fd) (S : FnScope N ps (defScope st)) (len : ∀ vs H Q E, sp vs H Q E → vs.length = ps.length)
    (hbody : ∀ (cdv : Value) (A : Around) (outer : List Env) (s : Shared) (H : Hp) (vs : List V) (Q : VK) (E : XK), Room k (A.deeper (envOfC x (defScope st) s.heap.objs.size f cdv)) → sp vs H Q E →
      ∃ t, PSs (cxOf CX0 P w K mg base N x (defScope st) f cdv A outer s H E).nox (defBody st) t ∧ t (De Q) (L2.start N vs) H) : FnOk P w K mg base CX0 (k + 1) f fd ps sp :=
  F.ok S len fun cdv A outer s H vs Q E hr h => let ⟨t, a, b⟩ := hbody cdv A outer s H vs Q E hr h; ⟨t, a.nox, b⟩
/-- THE END: of a law whose top holds defs and constants -/
theorem walk_end {l : PySem.W.OpenLaw} {k : Nat} {q : Program} {loose : List Str} {XP : (Str → Option Value) → Heap → Prop} {d : DefRec} {fa : List He.Fa} {fn : List He.DefD} {ts : List He.Tab} {tf : List He.Defn} {ex : PySem.W.Frag → Bool} {st : Stmt}
    (hn : l.most = some 63) (hdf : d.params.defaults = []) (hr : Room k callerA) (hd : d.name = ("law" : Str))
    (hba : ∀ (kV doc pm : Value) (an : Option Addr) (cdv ct : Value) (us : List Value), us.length = 1 → bindArgs (PySem.W.fnOf "law" "law" (defArgs st) (defBody st) (defScope st) .none kV doc pm an cdv ct) ⟨us, []⟩ = pure ((["script"] : List Str).zip us))
    (F : ∀ (w : World) (mg : Str → Option Value) (K : PySem.W.Frag) (h : Heap), K.In h → h.Ns mainGlobals mg → He.SaysX fa fn ts tf ex w h K → mg "law" = some (.ref (He.ga K "law")) ∧ ∃ fd, FnP K "law" st (He.ga K "law") fd ∧
      ∀ base : Heap, K.In base → base.Ns mainGlobals mg → FnOk l.prog w K mg base CX0 k (He.ga K "law") fd ["script"] (spD K RLaw)) :
    PySem.W.WalkO q loose XP (He.hookX 4 fa fn ts tf ex).says l.row.toRowW d [] (fun f vs => PySem.call f vs) := by
  refine L2.walk_ofE (k := k) (x := "script") (CX := CX0) hn (by decide) hdf hr ?_ (fun _ _ _ _ z => z)
  intro w mg fa' h Y G hmg
  obtain ⟨K, KX, c⟩ := Y
  rw [hd] at hmg
  obtain ⟨h0, fd, h1, h2⟩ := F w mg K h KX G c
  rw [h0] at hmg
  cases hmg
  exact ⟨K, fd, spD K RLaw, KX, fun s u => FunD.bindsA (ps := ["script"]) h1 hba s [u] rfl, fun H a ns hl _ hS => law_sp hl hS, h2⟩

/-! ### tables -/
theorem itD_map {α : Type} {f : α → PyData} {xs : List α} (i : Nat) (x : α) (h : xs[i]? = some x) : itD (xs.map f) i = .i (f x) := itD_at (by rw [List.getElem?_map, h]; rfl)
/-- .. over a tuple -/
theorem gs_forTu {α : Type} {c : Cn} {env : Sy} {os : List SO} {g : TG} {tb u : TS} {D : Ends} {tl : TE} {xs : List α} {f : α → PyData} (E : List α → Sy) (O : List α → List SO) (h : EvX false c env os tl (.tuple (xs.map f)))
    (h0 : ∀ c' : Cn, c'.lo = os.length → ∀ ad σ H, Ok c' ad env os σ H → Ok c' ad (E []) (O []) σ H)
    (hs : ∀ fr, Up c (c.w fr os.length) → ∀ pre x post, xs = pre ++ x :: post → ∃ env' js, Tg (c.w fr os.length) (E pre) (O pre) g (.i (f x)) env' js ∧ Go (c.w fr os.length) env' (O pre) tb { D with nx := OkE (c.w fr os.length) (E (pre ++ [x])) (O (pre ++ [x])), ct := OkE (c.w fr os.length) (E (pre ++ [x])) (O (pre ++ [x])), bk := u D })
    (hd : Go c (E xs) (O xs) u D) : Go c env os (tSeq (tFor (iTup c.K tl) g tb) u) D :=
  gs_forL (e := fun x => .i (f x)) E O (ew_tup h) (by simp) itD_map h0 (fun _ _ _ => True.intro) hs hd
/-- a join behind an if -/
theorem gs_ifJ {c : Cn} {env : Sy} {os : List SO} {tt : TT} {t v u : TS} {D : Ends} {b : Bool} (env' : Sy) (os' : List SO) (h : EvT c env os tt b) (k : Go c env' os' u D) (h1 : b = true → Go c env' os' u D → Go c env os t { D with nx := u D }) (h2 : b = false → Go c env' os' u D → Go c env os v { D with nx := u D }) : Go c env os (tSeq (tIfS tt t v) u) D :=
  gs_if h (fun e => h1 e k) fun e => h2 e k
theorem EvF.is {c : Cn} {env : Sy} {os : List SO} {te : TE} {o o' : SO} (h : EvF c env os te o) (e : o = o') : EvF c env os te o' := e ▸ h
/-! ### equal data -/
end DL

set_option Elab.async false
set_option linter.all false
set_option maxRecDepth 100000
set_option maxHeartbeats 2000000
/-! The data layer: lists of rectangles and the like. -/
namespace DL
open PySem PySem.Spec PyProof.Rows L2
open Evl (Ex Ex.refl Ex.trans Ex.new)

/-! ### shapes of data -/
theorem canAll : ∀ {ds : List PyData}, (∀ d ∈ ds, d.canLay0 = true) → PyData.canLayAll0 ds = true
  | [], _ => rfl
  | d :: ds, h => by
    show (d.canLay0 && PyData.canLayAll0 ds) = true
    rw [h d (List.mem_cons_self ..), canAll fun e he => h e (List.mem_cons_of_mem _ he)]
    rfl
theorem depAll {n : Nat} : ∀ {ds : List PyData}, (∀ d ∈ ds, d.depth ≤ n) → PyData.depthAll ds ≤ n
  | [], _ => Nat.zero_le _
  | d :: ds, h => by
    show max d.depth (PyData.depthAll ds) ≤ n
    exact Nat.max_le.mpr ⟨h d (List.mem_cons_self ..), depAll fun e he => h e (List.mem_cons_of_mem _ he)⟩
theorem eqv_self {d : PyData} (h : SeqAt.shaped d = true) : PyData.eqv d d = true := SeqAt.eqv_refl d (SeqAt.canLay_of_shaped h)

/-! ### rectangles -/
abbrev Rc := Int × Int × Int × Int
def dR (r : Rc) : PyData := .tuple [.int r.1, .int r.2.1, .int r.2.2.1, .int r.2.2.2]
abbrev dRs (rs : List Rc) : PyData := .list (rs.map dR)
/-! ### slices -/
theorem cutG_from {α : Type} (xs : List α) (k : Nat) : cutG xs (some (k : Int)) none = xs.drop k := by
  unfold cutG
  rw [HT.sIx_nat, HT.sIx_none]
  by_cases h : k ≤ xs.length
  · rw [Nat.min_eq_left h]
    exact List.take_of_length_le (by rw [List.length_drop]; exact Nat.le_refl _)
  · rw [Nat.min_eq_right (by omega), Nat.sub_self, List.take_zero, List.drop_of_length_le (by omega)]
theorem cutG_to {α : Type} (xs : List α) (k : Nat) : cutG xs none (some (k : Int)) = xs.take k := by
  unfold cutG
  rw [HT.sIx_nat, HT.sIx_none, List.drop_zero, Nat.sub_zero]
  by_cases h : k ≤ xs.length
  · rw [Nat.min_eq_left h]
  · rw [Nat.min_eq_right (by omega), List.take_length, List.take_of_length_le (by omega)]

/-! ### comprehensions over lists of data -/
section
variable {c : Cn} {env : Sy} {os : List SO} {g : TG} {tt : TT} {te tl ta tb : TE} {w : Bool}
theorem ef_lcD {α : Type} {xs : List α} {e : α → PyData} {vs : List Nat} (p : α → Bool) (f : α → PyData) (h : EvX false c env os tl (.list (xs.map e))) (hz : xs.length ≤ 40000)
    (hs : ∀ fr lo, Up c (c.w fr lo) → ∀ acc x, x ∈ xs → ∃ env' js, (∀ j ∈ js, j ∈ vs) ∧ Tg (c.w fr lo) (wipeE env vs) (os ++ [.lst acc]) g (.i (e x)) env' js ∧ EvT (c.w fr lo) env' (os ++ [.lst acc]) tt (p x) ∧ (p x = true → EvX false (c.w fr lo) env' (os ++ [.lst acc]) te (f x))) :
    EvF c env os (tLc (iList c.K tl) g tt te vs) (.lst (((xs.filter p).map f).map SV.i)) :=
  ef_lc (e := fun x => .i (e x)) p f (ew_list h) (by simp) itD_map (fun _ => True.intro) hz hs
/-- over a range -/
theorem ef_lcR {ta : TA} {n : Int} {vs : List Nat} (p : Nat → Bool) (f : Nat → PyData) (h : EvA true c env os ta [.int n]) (hn : -1000000000000 ≤ n ∧ n ≤ 40000)
    (hs : ∀ fr lo, Up c (c.w fr lo) → ∀ acc (x : Nat), (x : Int) < n → ∃ env' js, (∀ j ∈ js, j ∈ vs) ∧ Tg (c.w fr lo) (wipeE env vs) (os ++ [.lst acc]) g (.i (.int (x : Int))) env' js ∧ EvT (c.w fr lo) env' (os ++ [.lst acc]) tt (p x) ∧ (p x = true → EvX false (c.w fr lo) env' (os ++ [.lst acc]) te (f x))) :
    EvF c env os (tLc (iRng1 ta) g tt te vs) (.lst ((((List.range n.toNat).filter p).map f).map SV.i)) :=
  ef_lc (e := fun (x : Nat) => .i (.int (x : Int))) p f (ew_range1 h (by omega)) (by simp) (fun i x hx => by
    obtain ⟨h1, h2⟩ := List.getElem?_eq_some_iff.mp hx
    rw [List.getElem_range] at h2
    rw [h2]) (fun _ => True.intro) (by simp; omega) fun fr lo up acc x hx => hs fr lo up acc x (by have := List.mem_range.mp hx; omega)
theorem et_yes : EvT c env os tYes true := fun ad σ H ok Q q => q H (Ex.refl H)
end
end DL

set_option Elab.async false
set_option linter.all false
set_option maxRecDepth 100000
set_option maxHeartbeats 2000000
/-! The data layer: the rules that name what the module has written, told by a letter. -/
namespace DL
open PySem PySem.Spec PyProof.Rows L2
section
variable {X : Cx} {K : PySem.W.Frag} {pos : Pos}
theorem kIxL (h : X.K = K := by rfl) : IxR X (rIxL K) := by subst h; exact ix_list
def rLenK (K : PySem.W.Frag) : List V → Hp → VK → Prop := fun xs H Q => ∃ p ys, xs = [.ref p] ∧ (SqL K H p ys ∨ SqT K H p ys) ∧ Q (.int ys.length) H
theorem kLen (h : X.K = K := by rfl) : CallR X (.builtin "len") (rLenK K) := by subst h; exact call_len_seq
def rListK (K : PySem.W.Frag) : List V → Hp → VK → Prop := fun xs H Q => ∃ p ys, xs = [.ref p] ∧ (SqL K H p ys ∨ SqT K H p ys) ∧ ∀ l, H l = none → Q (.ref l) (upd H l (.lst ys))
theorem kList (h : X.K = K := by rfl) : CallR X (.type "list") (rListK K) := by subst h; exact call_list_of
theorem kAll (hc : X.calm = true) (h : X.K = K := by rfl) : CallR X (.builtin "all") (rAll K) := by subst h; exact cr_all hc
theorem kIsi (h : X.K = K := by rfl) : CallR X (.builtin "isinstance") (rIsi K) := by subst h; exact call_isi
theorem kNeD (hu : X.A.units + 64 < cLine) (h : X.K = K := by rfl) : OpR X (compareOp .NotEq) (rNeD K) := by subst h; exact op_neD hu
theorem kBm {T : String} {r : V → List V → Hp → VK → Prop} {e : Expr} {to : TE} {t : TA} (h : PE X e (tBM X.K T r to t)) (hk : X.K = K := by rfl) : PE X e (tBM K T r to t) := by subst hk; exact h
theorem kTup {es : List Expr} {k : Nat} {t : TGs} {n : Nat} (hc : X.calm = true) (h : PGs X es t)
    (hn : (assignEach es X.env).length = n := by rfl) (hst : (assignEach es X.env).findIdx? (·.1) = none := by rfl) (hk : X.K = K := by rfl) : PG X (.Tuple es k pos) (gTup K n t) := by subst hk; exact pg_tup hc h hn hst
theorem kPiL {tg l : Expr} {tl : TE} (hl : PE X l tl) (hk : X.K = K := by rfl) : PI X tg l (iList K tl) := by subst hk; exact pi_list hl
theorem kPiT {tg l : Expr} {tl : TE} (hl : PE X l tl) (hk : X.K = K := by rfl) : PI X tg l (iTup K tl) := by subst hk; exact pi_tup hl
def tTruK (K : PySem.W.Frag) (ta : TE) : TT := fun σ H Q => ta σ H fun x H' => ∃ k, TruV K x H' k ∧ Q k H'
theorem kTru {a : Expr} {ta : TE} (ha : PE X a ta) (he : ∀ whole, isTrue a X.env whole = (do let v ← whole; standAt a.pos; holding [v] (truthy v))) (hk : X.K = K := by rfl) : PT X a (tTruK K ta) := by subst hk; exact pt_truth ha he
end
section
variable {w : Bool} {c : Cn} {env : Sy} {os : List SO} {te ta tb tl : TE} {d : PyData} {tt tu : TT}
theorem ex_lenK {ss : List SV} (h : EvI c env os te ss) : EvX w c env os (tCB (rLenK c.K) (tCons te tNil)) (.int (ss.length : Int)) := ex_len rfl h
theorem ef_listK {ss : List SV} (h : EvI c env os te ss) : EvF c env os (tCB (rListK c.K) (tCons te tNil)) (.lst ss) := ef_list rfl h
theorem et_truK {ss : List SV} (h : EvI c env os te ss) : EvT c env os (tTruK c.K te) (!ss.isEmpty) := et_truL rfl h
end
theorem soLt_data {n : Nat} {ds : List PyData} : SoLt n (.lst (ds.map SV.i)) := fun s hs => by
  obtain ⟨d, _, rfl⟩ := List.mem_map.mp hs
  exact True.intro
theorem filt_all {α : Type} (xs : List α) : xs.filter (fun _ => true) = xs := List.filter_eq_self.mpr fun _ _ => rfl
end DL

set_option Elab.async false
set_option linter.all false
set_option maxRecDepth 100000
set_option maxHeartbeats 2000000
/-! The data layer: lists, sets and dicts of any length are sorted. -/
namespace DL
open PySem PySem.Spec PyProof.Rows L2
open Evl (Ex Ex.refl Ex.trans Ex.new)

/-- sorted(xs): data of any kind that has an order -/
def rSortD (K : PySem.W.Frag) : List V → Hp → VK → Prop := fun vs H Q => ∃ (a : Addr) (xs : List V) (ds : List PyData), vs = [V.ref a] ∧ SqL K H a xs ∧ DpAll K H xs ds ∧ PySem.W.AllAlike ds ∧ PySem.W.Sortable ds ∧ (∀ d ∈ ds, d.depth ≤ 8) ∧
  ∀ p : Addr, H p = none → Q (.ref p) (upd H p (.lst (((xs.zip ds).mergeSort (PySem.W.dataLe false Prod.snd)).map Prod.fst)))
section
variable {w : Bool} {c : Cn} {env : Sy} {os : List SO} {te ta tb tl : TE} {d : PyData} {tt tu : TT}
mutual
theorem plain_alike : ∀ d : PyData, PySem.W.alike d d = true → d.plain = true
  | .none, _ => rfl
  | .bool _, _ => rfl
  | .int _, _ => rfl
  | .str _, _ => rfl
  | .list xs, h => by
    show PyData.plainAll xs = true
    exact plain_alikes xs (by simpa [PySem.W.alike] using h)
  | .tuple xs, h => by
    show PyData.plainAll xs = true
    exact plain_alikes xs (by simpa [PySem.W.alike] using h)
  | .dict _, h => by simp [PySem.W.alike] at h
theorem plain_alikes : ∀ ds : List PyData, PySem.W.alikeAll ds ds = true → PyData.plainAll ds = true
  | [], _ => rfl
  | d :: ds, h => by
    rw [PySem.W.alikeAll, Bool.and_eq_true] at h
    show (d.plain && PyData.plainAll ds) = true
    rw [plain_alike d h.1, plain_alikes ds h.2]
    rfl
end
end

/-! ### sets of ints, keys of dicts -/
section
variable {prog : Program} {w : World} {A : Around} {E : Value → Shared → Prop} {s : Shared}
end

section
variable {X : Cx}
/-- sorted(S), a set of ints -/
def rSortSetA (w : World) : List V → Hp → VK → Prop := fun vs H Q => ∃ (a : Addr) (S : Int → Bool) (n : Nat), vs = [V.ref a] ∧ H a = some (SetO w a S n) ∧
  ∀ (ns : List Int) (p : Addr), ns.Pairwise (· < ·) → (∀ k : Int, k ∈ ns ↔ S k = true) → ns.length = n → H p = none → Q (.ref p) (upd H p (.lst (ns.map V.int)))
/-- sorted(d), the keys ints -/
def rSortDKA : List V → Hp → VK → Prop := fun vs H Q => ∃ (a : Addr) (kvs : List (Key × V)) (ks : List Int), vs = [V.ref a] ∧ H a = some (.dK kvs) ∧ kvs.map (·.1) = ks.map Sum.inl ∧
  ∀ (ns : List Int) (p : Addr), ns.Perm ks → ns.Pairwise (· ≤ ·) → H p = none → Q (.ref p) (upd H p (.lst (ns.map V.int)))
end
end DL

set_option Elab.async false
set_option linter.all false
set_option maxRecDepth 100000
set_option maxHeartbeats 4000000
/-! Comprehensions of two clauses into a set of ints: each clause's loop by one lemma. -/
namespace DL
open PySem PySem.Spec PyProof.Rows L2
open PpSet (eval_SetComp newSet_ok codeAny_compStart_set)

/-- one turn of a clause: what goes on behind the tests, told by what comes after it -/
def turnT (tg i : Expr) (ifs : List Expr) (env : Env) (it : Value) (bodyK : Sem Fin → Sem Fin) (nxt : Sem Fin) : Sem Fin := do
  standAt i.pos
  match ← pyNext it with
  | none => pure (.done .next)
  | some v =>
    letOwnedTupleGo tg it v
    assign tg env v
    let mut ok := true
    for c in ifs do
      if ok then ok ← isTrue c env (eval c env)
    if ok then bodyK nxt else nxt
abbrev two (elt t0 i0 t1 i1 : Expr) (f0 f1 : List Expr) (scope : Scope) (pos : Pos) : Expr := .SetComp elt [⟨t0, i0, f0, 0⟩, ⟨t1, i1, f1, 0⟩] scope pos
def nestK (e i1 : Expr) (acc : Value) (env : Env) (nxt : Sem Fin) : Sem Fin := do
  let x ← eval i1 env
  standAt i1.pos
  let x ← foldedSetIterable i1 env x
  let _ ← runOwn (.compStart e 1 (← holding [x] (pyIter x)) acc env) env
  nxt
def emitK (elt : Expr) (acc : Value) (env : Env) (nxt : Sem Fin) : Sem Fin := do
  (do let v ← eval elt env; standAt elt.pos; let _ ← call (.builtin "set.add") [acc, v])
  nxt
/-- σ' knows what σ knows -/
def Kn (σ σ' : L2.St) : Prop := σ.length = σ'.length ∧ ∀ (j : Nat) v, σ[j]? = some (some v) → σ'[j]? = some (some v)
section
variable {Y : Cx}
end

/-- {elt for t0 in i0 if .. for t1 in i1 if ..}: the second clause's loop, from the first one's turn -/
def tNest (w : World) (D : Addr) (wi1 : TI) (g1 : TG) (tt1 : TT) (te : TE) (vs1 : List Nat) (σ : L2.St) (H : Hp) (Nx : Hp → Prop) : Prop := wi1 σ H fun J H4 => ∃ W : Nat → Nat → Hp → Prop, (∃ m, W 0 m H4) ∧ ∀ k m H, W k m H →
  (J.stop k H ∧ Nx H) ∨ (J.go k H ∧ ∃ Nx1 : Hp → Prop, (∀ H', Nx1 H' → ∃ m', m' < m ∧ W (k + 1) m' H') ∧ ∀ x H', J.yld k H x H' → g1 x (wipe σ vs1) H' fun σ3 H5 => wipe σ3 vs1 = wipe σ vs1 ∧ tt1 σ3 H5 fun b H6 =>
    if b = true then te σ3 H6 fun y H7 => ∃ (z : Int) (S : Int → Bool) (n : Nat), y = .int z ∧ H7 D = some (SetO w D S n) ∧ n + 1 < scanBound ∧ Nx1 (upd H7 D (SetO w D (fun j => S j || decide (j = z)) (if S z = true then n else n + 1))) else Nx1 H6)
def tSc2 (w : World) (wi : TI) (g : TG) (tt : TT) (wi1 : TI) (g1 : TG) (tt1 : TT) (te : TE) (vs vs1 : List Nat) : TE := fun σ H Q => wi σ H fun J H1 => ∀ D, H1 D = none → ∃ W : Nat → Nat → Hp → Prop, (∃ m, W 0 m (upd H1 D (SetO w D (fun _ => false) 0))) ∧ ∀ k m H, W k m H →
  (J.stop k H ∧ Q (.ref D) H) ∨ (J.go k H ∧ ∃ Nx : Hp → Prop, (∀ H', Nx H' → ∃ m', m' < m ∧ W (k + 1) m' H') ∧ ∀ x H', J.yld k H x H' → g x (wipe σ vs) H' fun σ2 H2 => wipe σ2 vs = wipe σ vs ∧ tt σ2 H2 fun b H3 =>
    if b = true then tNest w D wi1 g1 tt1 te vs1 σ2 H3 Nx else Nx H3)
section
variable {Y : Cx}
end

section
variable {X : Cx}
abbrev Blk (X : Cx) (scope : Scope) (P : Cx → Prop) : Prop := ∀ (s : Shared) (H : Hp) (C : Addr) (cl : List (PySem.Str × Addr)) (fp : List Addr), P (X.blk s H scope (compEnvC scope cl C X.env) fp)
end
end DL

set_option Elab.async false
set_option linter.all false
set_option maxRecDepth 100000
set_option maxHeartbeats 2000000
/-! The data layer: dicts. -/
namespace DL
open PySem PySem.Spec PyProof.Rows L2
open Evl (Ex Ex.refl Ex.trans Ex.new)

/-! ### tables -/
section
variable {κ β γ : Type} [DecidableEq κ]
def getA : List (κ × β) → κ → Option β
  | [], _ => none
  | p :: r, k => if p.1 = k then some p.2 else getA r k
def setA (m : List (κ × β)) (k : κ) (v : β) : List (κ × β) := if (getA m k).isSome then m.map (fun p => (p.1, if p.1 = k then v else p.2)) else m ++ [(k, v)]
variable {α : Type} [DecidableEq α]
end
section
variable {κ : Type} [DecidableEq κ]
end

/-! ### rules for a dict of the store -/
section
variable {K : PySem.W.Frag} {N : Addr → Prop} {H : Hp}
end
section
variable {w : Bool} {c : Cn} {env env' : Sy} {os : List SO} {te ta tb tl td ty tv tx : TE} {d : PyData} {u : TS} {D : Ends}
/-- what a thing of either kind gives -/
theorem EvS.run {tv : TE} {s : SV} (h : EvS c env os tv s) {ad : Nat → Addr} {σ : L2.St} {H : Hp} (ok : Ok c ad env os σ H) {Q : VK} (q : ∀ v H2, Ex H H2 → SvOk c.K (Nof c ad os) ad os.length H2 v s → Q v H2) : tv σ H Q := by
  cases s with
  | i d => exact (show EvX false c env os tv d from h) ad σ H ok Q fun v H2 e r => q v H2 e (by rw [Nw_false] at r; exact r)
  | t o => exact (show EvK c env os tv o from h).2 ad σ H ok Q fun b H2 e r => q _ H2 e ⟨b, rfl, r, .inl (show EvK c env os tv o from h).1⟩
  | ob C m => exact (show EvB c env os tv C m from h) ad σ H ok Q fun v H2 e r => q v H2 e r
  | z m => exact (show EvZ c env os tv m from h) ad σ H ok Q fun v H2 e r => q v H2 e r
  | r j => exact (show EvR c env os tv j from h).2 ad σ H ok Q fun H2 e => q _ H2 e ⟨rfl, (show EvR c env os tv j from h).1⟩
/-- sorted(d), keys ints -/
def srtI (ks : List Int) : List Int := ks.mergeSort fun a b => decide (a ≤ b)
end
end DL

set_option Elab.async false
set_option linter.all false
set_option maxRecDepth 100000
set_option maxHeartbeats 2000000
/-! The data layer: dicts as data, walks over keys and pairs, items that are set. -/
namespace DL
open PySem PySem.Spec PyProof.Rows L2
open Evl (Ex Ex.refl Ex.trans Ex.new)

/-! ### a dict with tuple keys, as data -/
def dTd {α β : Type} (ek : α → List Key) (ev : β → PyData) (m : List (α × β)) : PyData := .dict ((.none, .none) :: m.map fun p => (tdat (ek p.1), ev p.2))
section
variable {α β : Type} {K : PySem.W.Frag} {N : Addr → Prop} {H : Hp}
variable [DecidableEq α]
end
section
variable {α β : Type} [DecidableEq α] {w w' : Bool} {c : Cn} {env env' : Sy} {os : List SO} {te ta tb tl td ty tv tx : TE} {d : PyData} {u : TS} {D : Ends} {ek : α → List Key} {ev : β → PyData} {m : List (α × β)}
/-- a fresh dict is told by a def -/
def spT {α β : Type} (K : PySem.W.Frag) (ek : α → List Key) (ev : β → PyData) (R : List PyData → List (α × β) → Prop) : Sp := fun vs H Q _ => ∃ (N : Addr → Prop) (ds : List PyData) (m : List (α × β)), (∀ a, N a → H a ≠ none) ∧ DnAll K N H vs ds ∧ R ds m ∧
  ∀ p H' ws, H p = none → Ex H H' → H' p = some (.dT ws) → Paired (fun (x : List Key × V) (y : α × β) => x.1 = ek y.1 ∧ Dn K (fun a => N a ∨ a = p) H' x.2 (ev y.2)) ws m → Q (.ref p) H'
def RetT (ek : α → List Key) (ev : β → PyData) (c : Cn) (m : List (α × β)) (D : Ends) : Prop := ∀ p H2 ws, c.H0 p = none → (∀ a o, c.H0 a = some o → ¬ c.M a → H2 a = some o) → H2 p = some (.dT ws) → Paired (fun (x : List Key × V) (y : α × β) => x.1 = ek y.1 ∧ Dn c.K (fun a => c.N0 a ∨ a = p) H2 x.2 (ev y.2)) ws m → D.rt (.ref p) H2
end

/-! ### walks -/
/-- a new object is held fast from here on -/
def tFrz (te : TE) : TE := fun σ H Q => te σ H fun x H1 => ∃ d u, x = .ref d ∧ H1 d = some u ∧ Mut (some u) ∧ ∀ od, Q (.ref d) (upd H1 d (.frz od u))
section
variable {α β : Type} {w w' : Bool} {c : Cn} {env env' : Sy} {os : List SO} {te ta tb tl td ty tv tx : TE} {d : PyData} {u : TS} {D : Ends}
/-- as EvW; the walk takes what it goes over -/
def EvW2 (c : Cn) (env : Sy) (os os2 : List SO) (wi : TI) (n : Nat) (it : Nat → SV) (G : List SO → Prop) : Prop := ∀ ad σ H, Ok c ad env os σ H → ∀ R : It → Hp → Prop,
  (∀ J H1 fr, Ok (c.w fr os.length) ad env os2 σ H1 → (∀ ad' env' os' σ' H', Ok (c.w fr os.length) ad' env' os' σ' H' → Ok c ad' env' os' σ' H') → WalkD (c.w fr os.length) J n it G → R J H1) → wi σ H R
def itK (kvs : List (List Key × SV)) : Nat → SV := fun i => .t (.tup (((kvs.getD i ([], .i .none)).1).map kV))
/-! ### parts of a tuple, items that are set -/
theorem paired_set {γ δ : Type} {F : γ → δ → Prop} {a : γ} {b : δ} : ∀ {l1 : List γ} {l2 : List δ} (j : Nat), Paired F l1 l2 → F a b → Paired F (l1.set j a) (l2.set j b)
  | _, _, _, .nil, _ => .nil
  | _, _, 0, .cons r t, h => .cons h t
  | _, _, j + 1, .cons r t, h => .cons r (paired_set j t h)
/-- xs[i] = e -/
theorem gs_setI {k j : Nat} {ss : List SV} {s : SV} {i : Int} (h : EvS c env os te s) (hl : EvR c env os tl k) (hk : os[k]? = some (.lst ss)) (hi : EvX true c env os tb (.int i)) (hj : ixN ss.length i = some j)
    (g : Go c env (os.set k (.lst (ss.set j s))) u D) : Go c env os (tSeq (tAsg te (gSub tl tb rSetL)) u) D := fun ad σ H ok =>
  h.run ok fun v H1 e1 r => hl.2 ad σ H1 (ok.ext e1) _ fun H2 e2 => hi ad σ H2 ((ok.ext e1).ext e2) _ fun y H3 e3 r3 => by
    have ok3 := ((ok.ext e1).ext e2).ext e3
    obtain ⟨_, vs, hvs, pv⟩ := ok3.obj k _ hk rfl
    have hN : Nof c ad os (ad k) := Or.inr ⟨k, ⟨_, hk, rfl⟩, rfl⟩
    refine ⟨ad k, vs, i, j, rfl, dn_int r3, hvs, by rw [Paired.length pv]; exact hj, g ad σ _ (ok3.mut hk rfl rfl ⟨vs.set j v, upd_same, ?_⟩)⟩
    exact paired_set j (Paired.imp pv fun _ _ z => z.mut hvs rfl hN) ((r.ext (e2.trans e3)).mut hvs rfl hN)
end
end DL

set_option Elab.async false
set_option linter.all false
set_option maxRecDepth 100000
set_option maxHeartbeats 4000000
/-! The data layer: sets of ints by comprehension. -/
namespace DL
open PySem PySem.Spec PyProof.Rows L2
open Evl (Ex Ex.refl Ex.trans Ex.new)
def addS (p : (Int → Bool) × Nat) (z : Int) : (Int → Bool) × Nat := (fun j => p.1 j || decide (j = z), if p.1 z = true then p.2 else p.2 + 1)
def setOf (zs : List Int) : (Int → Bool) × Nat := zs.foldl addS (fun _ => false, 0)
/-- each once, ascending -/
def dd : List Int → List Int
  | [] => []
  | z :: zs => if z ∈ zs then dd zs else z :: dd zs
def asc (zs : List Int) : List Int := srtI (dd zs)
def soS (w : World) (zs : List Int) : SO := .ho fun a => SetO w a (setOf zs).1 (setOf zs).2
section
variable {c : Cn} {env : Sy} {os : List SO} {g g1 : TG} {tt tt1 : TT} {te ts : TE}
end

section
variable {c : Cn} {env : Sy} {os : List SO} {te ta tb : TE} {tr : TA}
end
end DL

set_option Elab.async false
set_option linter.all false
set_option maxRecDepth 100000
set_option maxHeartbeats 2000000
/-! The data layer: an object of the store gets another place. -/
namespace DL
open PySem PySem.Spec PyProof.Rows L2
open Evl (Ex Ex.refl Ex.trans Ex.new)
end DL

set_option Elab.async false
set_option linter.all false
set_option maxRecDepth 100000
set_option maxHeartbeats 2000000
/-! The data layer: texts. -/
namespace DL
open PySem PySem.Spec PyProof.Rows L2
open Evl (Ex Ex.refl Ex.trans Ex.new)
/-- a text by its signs -/
abbrev sT (l : List Nat) : Str := ⟨l.toArray⟩
abbrev dT (l : List Nat) : PyData := .str (sT l)
theorem sT_len (l : List Nat) : (sT l).length = l.length := by simp [sT, Str.length]
theorem sT_cps (l : List Nat) : (sT l).cps.toList = l := by simp [sT]
theorem sT_app (a b : List Nat) : sT a ++ sT b = sT (a ++ b) := TL.ext_tl (by rw [TL.tl_append])
theorem sT_inj {a b : List Nat} (h : sT a = sT b) : a = b := by
  have := congrArg (fun x : Str => x.cps.toList) h
  simpa using this
theorem sT_beq (a b : List Nat) : ((sT a == sT b : Bool)) = decide (a = b) := by
  by_cases h : a = b
  · subst h; simp
  · rw [decide_eq_false h]
    refine Bool.eq_false_iff.mpr fun z => h (sT_inj (by simpa using z))
def rMulS : R2 := fun x y H Q => ∃ (z : Str) (n : Int), x = .str z ∧ y = .int n ∧ 0 ≤ n ∧ n ≤ 1000000 ∧ z.length * n.toNat ≤ sizeLine ∧ Q (.str (sT (List.replicate n.toNat z.cps.toList).flatten)) H
section
variable {w : Bool} {c : Cn} {env : Sy} {os : List SO} {te ta tb tl : TE} {d : PyData} {tt tu : TT}
theorem ex_txt {x : Str} {l : List Nat} (h : x = sT l) : EvX w c env os (tC (.str x)) (dT l) := by subst h; exact ex_str
theorem ex_catS {r : R2} {a b : List Nat} (hr : r = (fun x y H Q => ∃ i j, x = .str i ∧ y = .str j ∧ i.length + j.length ≤ sizeLine ∧ Q (.str (i ++ j)) H)) (ha : EvX true c env os ta (dT a)) (hb : EvX true c env os tb (dT b)) (hl : a.length + b.length ≤ 16777216) : EvX w c env os (tOp r ta tb) (dT (a ++ b)) := fun ad σ H ok Q q => by
  subst hr
  refine ha ad σ H ok _ fun v H1 e1 r1 => hb ad σ H1 (ok.ext e1) _ fun u H2 e2 r2 => ⟨sT a, sT b, dn_str r1, dn_str r2, by rw [sT_len, sT_len]; exact hl, ?_⟩
  rw [sT_app]
  exact q _ H2 (e1.trans e2) (.str _)
theorem ex_ixS {a : List Nat} {i : Int} {x : Nat} (ha : EvX true c env os ta (dT a)) (hb : EvX true c env os tb (.int i)) (hl : a.length ≤ 16777216) (hd : atI a i = some x) : EvX w c env os (tOp rIxS ta tb) (dT [x]) := fun ad σ H ok Q q => by
  refine ha ad σ H ok _ fun v H1 e1 r1 => hb ad σ H1 (ok.ext e1) _ fun u H2 e2 r2 => ⟨sT a, i, x, dn_str r1, dn_int r2, by rw [sT_len]; exact hl, by rw [sT_cps]; exact hd, q _ H2 (e1.trans e2) (.str _)⟩
theorem ex_lenS {r : List V → Hp → VK → Prop} {a : List Nat} (hr : r = (fun xs H Q => ∃ z, xs = [.str z] ∧ z.length ≤ sizeLine ∧ Q (.int z.length) H)) (ha : EvX true c env os ta (dT a)) (hl : a.length ≤ 16777216) : EvX w c env os (tCB r (tCons ta tNil)) (.int (a.length : Int)) := fun ad σ H ok Q q => by
  subst hr
  refine ha ad σ H ok _ fun v H1 e1 r1 => ⟨sT a, by rw [dn_str r1], by rw [sT_len]; exact hl, ?_⟩
  rw [sT_len]
  exact q _ H1 e1 (.int _)
theorem ex_eqT {a b : List Nat} (ha : EvX true c env os ta (dT a)) (hb : EvX true c env os tb (dT b)) : EvX w c env os (tOp rEq ta tb) (.bool (decide (a = b))) := EvX.is (ex_eqS ha hb) (congrArg PyData.bool (sT_beq a b))
theorem ex_neT {a b : List Nat} (ha : EvX true c env os ta (dT a)) (hb : EvX true c env os tb (dT b)) : EvX w c env os (tOp rNe ta tb) (.bool (!decide (a = b))) := EvX.is (ex_neS ha hb) (congrArg (fun z => PyData.bool (!z)) (sT_beq a b))
theorem cutS_cutG (a : List Nat) (lo hi : Option Int) : L2.cutS (sT a) lo hi = sT (cutG a lo hi) := by
  unfold L2.cutS cutG
  rw [sT_cps, sT_len]
theorem ex_slS {tl th : TO} {a : List Nat} {lo hi : Option Int} (h : EvX true c env os te (dT a)) (h1 : EvO c env os tl lo) (h2 : EvO c env os th hi) (hl : a.length ≤ 16777216) : EvX w c env os (tSl rSlS te tl th) (dT (cutG a lo hi)) := fun ad σ H ok Q q =>
  h ad σ H ok _ fun v H1 e1 r1 => h1 ad σ H1 (ok.ext e1) _ fun H2 e2 => h2 ad σ H2 ((ok.ext e1).ext e2) _ fun H3 e3 => ⟨sT a, dn_str r1, by rw [sT_len]; exact hl, by
    rw [cutS_cutG]
    exact q _ H3 ((e1.trans e2).trans e3) (.str _)⟩
/-- a text is walked -/
theorem ew_str {a : List Nat} (h : EvX true c env os te (dT a)) : EvW c env os (iStr te) a.length (fun i => .i (dT [a.getD i 0])) (fun _ => True) := fun ad σ H ok R q =>
  h ad σ H ok _ fun v H1 e r => by
    refine ⟨sT a, dn_str r, q _ H1 c.fr e (ok.ext e).pin0 (up_pin0 (ok.ext e)) ⟨fun i ad' env' os' σ' H' hi o _ => ?_, fun ad' env' os' σ' H' o _ => ?_, fun i ad' env' os' σ' H' x H'' hi o _ y => ?_⟩⟩
    · show i < (sT a).cps.size
      simpa using hi
    · show (sT a).cps.size ≤ _
      simp
    · obtain ⟨rfl, x, hx, rfl⟩ := y
      refine ⟨Ex.refl _, ?_⟩
      have hx2 : a[i]? = some x := by simpa using hx
      rw [List.getD_eq_getElem?_getD, hx2]
      exact Dn.str _
end
end DL
namespace DL
open PySem PySem.Spec PyProof.Rows L2
theorem gci {mg : Str → Option Value} {x : Str} {z : Int} (h : ∃ t, mg x = some (.int z t)) : ∃ u, mg x = some u ∧ RelV (.int z) u := by
  obtain ⟨t, h⟩ := h
  exact ⟨_, h, t, rfl⟩
end DL
namespace DL
theorem EvW.is {c : Cn} {env : Sy} {os : List SO} {wi : L2.TI} {n n' : Nat} {it : Nat → SV} {G : List SO → Prop} (h : EvW c env os wi n it G) (e : n = n') : EvW c env os wi n' it G := e ▸ h
end DL

set_option Elab.async false
set_option linter.all false
set_option maxRecDepth 100000
set_option maxHeartbeats 2000000
/-! The data layer: methods of texts, what is in a tuple. -/
namespace DL
open PySem PySem.Spec PyProof.Rows L2
open Evl (Ex Ex.refl Ex.trans Ex.new)
/-- the parts between the signs d -/
def splitC (d : Nat) : List Nat → List (List Nat)
  | [] => [[]]
  | c :: r => if c = d then [] :: splitC d r else match splitC d r with
    | [] => [[c]]
    | p :: ps => (c :: p) :: ps
theorem splitC_hit (d : Nat) (r : List Nat) : splitC d (d :: r) = [] :: splitC d r := by show (if d = d then _ else _) = _; rw [if_pos rfl]
theorem splitC_miss {d c : Nat} {r : List Nat} {p : List Nat} {ps : List (List Nat)} (h : ¬ c = d) (e : splitC d r = p :: ps) : splitC d (c :: r) = (c :: p) :: ps := by
  show (if c = d then _ else match splitC d r with | [] => [[c]] | p :: ps => (c :: p) :: ps) = _
  rw [if_neg h, e]
theorem splitC_ne (d : Nat) : ∀ l, splitC d l ≠ []
  | [] => by simp [splitC]
  | c :: r => by
    unfold splitC
    split
    · simp
    · split <;> simp
theorem splitC_ex (d : Nat) (l : List Nat) : ∃ p ps, splitC d l = p :: ps := by
  have hn := splitC_ne d l
  cases hs : splitC d l with
  | nil => exact absurd hs hn
  | cons p ps => exact ⟨p, ps, rfl⟩
theorem spl_splitC (d : Nat) : ∀ (l acc : List Nat) (p : List Nat) (ps : List (List Nat)), splitC d l = p :: ps → TL.spl [d] 0 acc l = (acc ++ p) :: ps
  | [], acc, p, ps, e => by
    rw [TL.spl_nil]
    injection e with e1 e2
    subst e1 e2
    simp
  | c :: r, acc, p, ps, e => by
    obtain ⟨p2, ps2, e2⟩ := splitC_ex d r
    by_cases h : c = d
    · subst h
      rw [TL.spl_hit (by simp [TL.pre])]
      rw [splitC_hit] at e
      injection e with e3 e4
      subst e3 e4
      have ih := spl_splitC c r [] p2 ps2 e2
      show acc :: TL.spl [c] 0 [] r = _
      rw [ih, e2]
      simp
    · rw [TL.spl_miss (by simp [TL.pre, h])]
      rw [splitC_miss h e2] at e
      injection e with e3 e4
      subst e3 e4
      rw [spl_splitC d r (acc ++ [c]) p2 ps2 e2]
      simp
theorem split_C (l : List Nat) (d : Nat) (hd : d < 256) : Txt.split (sT l) (sT [d]) = (splitC d l).map sT := by
  have h := TL.split_spl (sT l) (sT [d]) (by simp [TL.tl]) (TL.kind_ok (by simp; omega))
  refine TL.map_tl_inj ?_
  rw [h]
  show TL.spl [d] 0 [] l = _
  obtain ⟨p, ps, hs⟩ := splitC_ex d l
  rw [spl_splitC d l [] p ps hs, hs]
  rw [List.map_map]
  have e : (TL.tl ∘ sT) = fun x : List Nat => x := by funext x; simp [TL.tl]
  rw [e, List.map_id']
  rfl
theorem splitC_len (d : Nat) : ∀ l, (splitC d l).length = 1 + l.count d
  | [] => rfl
  | c :: r => by
    have ih := splitC_len d r
    obtain ⟨p2, ps2, e2⟩ := splitC_ex d r
    by_cases h : c = d
    · subst h
      rw [splitC_hit, List.length_cons, ih, List.count_cons_self]
      omega
    · rw [splitC_miss h e2, List.count_cons_of_ne h, ← ih, e2]
      rfl
section
variable {w : Bool} {c : Cn} {env : Sy} {os : List SO} {te ta tb tl : TE} {d : PyData} {tt tu : TT}
theorem strs_dn {K : PySem.W.Frag} {N : Addr → Prop} {H : Hp} : ∀ ls : List (List Nat), DnAll K N H ((ls.map sT).map V.str) (ls.map dT)
  | [] => .nil
  | l :: ls => .cons (.str _) (strs_dn ls)
/-- text.split(sign) -/
theorem ef_split {r : V → List V → Hp → VK → Prop} {l : List Nat} {x : Nat} (hr : r = (fun x xs H Q => ∃ a b, x = .str a ∧ xs = [.str b] ∧ (b.length == 0) = false ∧ a.length + 2 ≤ sizeLine ∧ rNewStrs (Txt.split a b) H Q)) (ha : EvX true c env os ta (dT l)) (hb : EvX true c env os tb (dT [x])) (hx : x < 256) (hl : l.length ≤ 100000) :
    EvF c env os (tM1 r ta tb) (.lst (((splitC x l).map dT).map SV.i)) := fun ad σ H ok Q q => by
  subst hr
  refine ha ad σ H ok _ fun v H1 e1 r1 => ⟨⟨_, dn_str r1⟩, hb ad σ H1 (ok.ext e1) _ fun u H2 e2 r2 => ⟨sT l, sT [x], dn_str r1, by rw [dn_str r2], rfl, by rw [sT_len]; exact Nat.le_trans (Nat.add_le_add_right hl 2) (by decide), fun p hp => ?_⟩⟩
  rw [split_C l x hx]
  refine q p _ (e1.free (e2.free hp)) ((e1.trans e2).trans (Ex.new hp)) ⟨_, upd_same, ?_⟩
  exact dn_paired (strs_dn _)
end
theorem kNotInSeq {X : Cx} {K : PySem.W.Frag} (h : X.K = K := by rfl) : OpR X (compareOp .NotIn) (rIn K true) := by subst h; exact op_notIn_seq
/-- texts as values -/
def txV (ls : List (List Nat)) : List V := ls.map fun l => V.str (sT l)
theorem txs_of {K : PySem.W.Frag} {N : Addr → Prop} {H : Hp} : ∀ {vs : List V} {ls : List (List Nat)}, DnAll K N H vs (ls.map dT) → vs = txV ls
  | _, [], h => by cases h; rfl
  | _, l :: ls, h => by
    cases h with
    | cons a b => rw [txs_of b, dn_str a]; rfl
theorem txV_flat (ls : List (List Nat)) : (txV ls).all flatV = true := by
  unfold txV
  rw [List.all_map]
  exact List.all_eq_true.mpr fun _ _ => rfl
theorem inV_txV (l : List Nat) (ls : List (List Nat)) : inV (.str (sT l)) (txV ls) = decide (l ∈ ls) := by
  unfold inV txV
  rw [List.any_map]
  by_cases h : l ∈ ls
  · rw [decide_eq_true h]
    exact List.any_eq_true.mpr ⟨l, h, by simp [eqV]⟩
  · rw [decide_eq_false h]
    refine Bool.eq_false_iff.mpr fun z => h ?_
    obtain ⟨y, hy, e⟩ := List.any_eq_true.mp z
    have e2 : sT y = sT l := by simpa [eqV] using e
    rw [← sT_inj e2]
    exact hy
section
variable {w : Bool} {c : Cn} {env : Sy} {os : List SO} {te ta tb tl : TE} {d : PyData} {tt tu : TT}
end
end DL
namespace DL
open PySem PySem.Spec PyProof.Rows L2
open Evl (Ex Ex.refl Ex.trans Ex.new)
section
variable {w : Bool} {c : Cn} {env : Sy} {os : List SO} {te ta tb tl : TE} {d : PyData} {tt tu : TT} {u : TS} {D : Ends}
end
end DL
namespace DL
open PySem PySem.Spec PyProof.Rows L2
open Evl (Ex Ex.refl Ex.trans Ex.new)
end DL

set_option Elab.async false
set_option linter.all false
set_option maxRecDepth 100000
set_option maxHeartbeats 2000000
/-! The data layer: strip, partition, find of texts. -/
namespace DL
open PySem PySem.Spec PyProof.Rows L2
open Evl (Ex Ex.refl Ex.trans Ex.new)
/-- the part ahead of the first d -/
def upC (d : Nat) (l : List Nat) : List Nat := l.takeWhile fun c => !decide (c = d)
/-- strip(sign) -/
def stripL (d : Nat) (l : List Nat) : List Nat := (Txt.stripChars (sT l) (sT [d])).cps.toList
section
variable {w : Bool} {c : Cn} {env : Sy} {os : List SO} {te ta tb tl : TE} {d : PyData} {tt tu : TT}
end
end DL

set_option Elab.async false
set_option linter.all false
set_option maxRecDepth 100000
set_option maxHeartbeats 2000000
/-! The data layer: keywords, written dicts, divmod. -/
namespace DL
open PySem PySem.Spec PyProof.Rows L2
open Evl (Ex Ex.refl Ex.trans Ex.new)
/-! ### defs with keyword-only parameters -/
abbrev FnQ (K : PySem.W.Frag) (x : Str) (st : Stmt) (kws : List (Str × V)) (f : Addr) (fd : FuncData) : Prop := FunD K x x (defArgs st) (defBody st) (defScope st) [] kws f fd
/-- a form of call: how many values by place, the names, what fills up -/
abbrev CForm := Nat × List Str × List (Str × V)
def FormOk (K : PySem.W.Frag) (fd : FuncData) (ps : List Str) (F : CForm) : Prop := ∃ ds, KBn K fd ps F.1 F.2.1 (fun us ws => us ++ (ws ++ ds)) (fun vs zs => vs ++ (zs ++ F.2.2.map (·.2)))
def CalQ (P : Program) (w : World) (K : PySem.W.Frag) (mg : Str → Option Value) (base : Heap) (k : Nat) (x : Str) (ps : List Str) (sp : Sp) (fs : List CForm) : Prop :=
  ∃ f fd, FnOk P w K mg base CX0 k f fd ps sp ∧ (∀ F ∈ fs, FormOk K fd ps F) ∧ mg x = some (.ref f) ∧ PySem.W.keepIn K (.ref f) = true
section
variable {P : Program} {w : World} {K : PySem.W.Frag} {mg : Str → Option Value} {base : Heap}
end
section
variable {w : Bool} {c : Cn} {env : Sy} {os : List SO} {te ta tb tl : TE} {d : PyData} {tt tu : TT} {t tk : TA}
/-! ### written dicts -/
def EvP (c : Cn) (env : Sy) (os : List SO) (trs : List (TE × TE)) (kvs : List (Key × PyData)) : Prop := ∀ ad σ H, Ok c ad env os σ H → ∀ Q : List (V × V) → Hp → Prop,
  (∀ (vs : List (Key × V)) H2, Ex H H2 → Paired (fun (x : Key × V) (y : Key × PyData) => x.1 = y.1 ∧ Dn c.K (fun _ => True) H2 x.2 y.2) vs kvs → Q (vs.map fun kv => (kV kv.1, kv.2)) H2) → tPairs trs σ H Q
end
end DL

set_option Elab.async false
set_option linter.all false
set_option maxRecDepth 100000
set_option maxHeartbeats 2000000
/-! The data layer: enumerate of a text. -/
namespace L2
open PySem PySem.Spec PyProof.Rows
def IteS (x : Str) : It :=
  ⟨fun i _ => i < x.cps.size, fun i H v H' => ∃ T c, v = .ref T ∧ H T = none ∧ H' = upd H T (.tup [.int (i : Nat), .str ⟨#[c]⟩]) ∧ x.cps[i]? = some c, fun i _ => x.cps.size ≤ i⟩
def iEnumS (ta : TA) : TI := fun σ H R => ta σ H fun vs H1 => ∃ x, vs = [.str x] ∧ R (IteS x) H1
end L2
namespace DL
open PySem PySem.Spec PyProof.Rows L2
open Evl (Ex Ex.refl Ex.trans Ex.new)
end DL

set_option Elab.async false
set_option linter.all false
set_option maxRecDepth 100000
set_option maxHeartbeats 2000000
/-! The data layer: a generator that hands out a list's items; list(g). -/
namespace L2
open PySem PySem.Spec PyProof.Rows GenW
section
variable {prog : Program} {w : World} {A : Around} {E : Value → Shared → Prop} {s : Shared}
end
section
variable {X : Cx} {e : Expr} {te : TE}
def tYfLst (te : TE) : TYf := fun σ H Q => te σ H fun x H1 => ∃ a xs, x = .ref a ∧ H1 a = some (.lst xs) ∧ Q xs H1
end
end L2
namespace DL
open PySem PySem.Spec PyProof.Rows L2
open Evl (Ex Ex.refl Ex.trans Ex.new)
/-- data in; what is handed out -/
def spG (K : PySem.W.Frag) (R : List PyData → List PyData → Prop) : SpG := fun vs H Q _ => ∃ (N : Addr → Prop) (ds : List PyData) (rs : List PyData), (∀ a, N a → H a ≠ none) ∧ DnAll K N H vs ds ∧ R ds rs ∧ ∀ H' ws, Ex H H' → DnAll K N H' ws rs → Q ws H'
def CalG (P : Program) (w : World) (K : PySem.W.Frag) (mg : Str → Option Value) (base : Heap) (k : Nat) (x : Str) (ps : List Str) (sp : SpG) : Prop :=
  ∃ f fd, GFn P w K mg base k f fd ps sp ∧ Binds K fd ps [] ∧ mg x = some (.ref f) ∧ PySem.W.keepIn K (.ref f) = true
section
variable {c : Cn} {env : Sy} {os : List SO} {ta : TA}
end
end DL

set_option Elab.async false
set_option linter.all false
set_option maxRecDepth 100000
set_option maxHeartbeats 2000000
/-! The data layer: dicts with whole numbers or texts as keys, as data; lists of the store within a dict of the store. -/
namespace DL
open PySem PySem.Spec PyProof.Rows L2
open Evl (Ex Ex.refl Ex.trans Ex.new)
/-! ### as data -/
def dKd {α β : Type} (ek : α → Key) (ev : β → PyData) (m : List (α × β)) : PyData := .dict (m.map fun p => (kdat (ek p.1), ev p.2))
section
variable {α β : Type} {K : PySem.W.Frag} {N : Addr → Prop} {H : Hp}
variable [DecidableEq α]
end
section
variable {α β : Type} [DecidableEq α] {w w' : Bool} {c : Cn} {env env' : Sy} {os : List SO} {te ta tb tl td ty tv tx : TE} {d : PyData} {u : TS} {D : Ends} {ek : α → Key} {ev : β → PyData} {m : List (α × β)}
/-! ### of the store -/
/-! ### a fresh dict is told by a def -/
def spI {α β : Type} (K : PySem.W.Frag) (ek : α → Key) (ev : β → PyData) (R : List PyData → List (α × β) → Prop) : Sp := fun vs H Q _ => ∃ (N : Addr → Prop) (ds : List PyData) (m : List (α × β)), (∀ a, N a → H a ≠ none) ∧ DnAll K N H vs ds ∧ R ds m ∧
  ∀ p H' ws, H p = none → Ex H H' → H' p = some (.dK ws) → Paired (fun (x : Key × V) (y : α × β) => x.1 = ek y.1 ∧ Dn K (fun a => N a ∨ a = p) H' x.2 (ev y.2)) ws m → Q (.ref p) H'
def RetI (ek : α → Key) (ev : β → PyData) (c : Cn) (m : List (α × β)) (D : Ends) : Prop := ∀ p H2 ws, c.H0 p = none → (∀ a o, c.H0 a = some o → ¬ c.M a → H2 a = some o) → H2 p = some (.dK ws) → Paired (fun (x : Key × V) (y : α × β) => x.1 = ek y.1 ∧ Dn c.K (fun a => c.N0 a ∨ a = p) H2 x.2 (ev y.2)) ws m → D.rt (.ref p) H2
/-! ### a walk over the keys -/
def EvW3 (c : Cn) (env : Sy) (os : List SO) (env2 : Sy) (os2 : List SO) (wi : TI) (n : Nat) (it : Nat → SV) (G : List SO → Prop) : Prop := ∀ ad σ H, Ok c ad env os σ H → ∀ R : It → Hp → Prop,
  (∀ J H1 fr, Ok (c.w fr os.length) ad env2 os2 σ H1 → (∀ ad' env' os' σ' H', Ok (c.w fr os.length) ad' env' os' σ' H' → Ok c ad' env' os' σ' H') → WalkD (c.w fr os.length) J n it G → R J H1) → wi σ H R
end
end DL

set_option Elab.async false
set_option linter.all false
set_option maxRecDepth 100000
set_option maxHeartbeats 2000000
/-! The data layer: a state [numbers, number, number] of the caller that defs draw from and change. -/
namespace DL
open PySem PySem.Spec PyProof.Rows L2
open Evl (Ex Ex.refl Ex.trans Ex.new)
def Stt (H : Hp) (s b : Addr) : Prop := ∃ (ns : List Int) (a m : Int), H b = some (.lst (ns.map V.int)) ∧ H s = some (.lst [.ref b, .int a, .int m])
theorem Stt.ne {H : Hp} {s b : Addr} (h : Stt H s b) : s ≠ b := by
  obtain ⟨ns, a, m, h1, h2⟩ := h
  intro e
  subst e
  rw [h1] at h2
  cases ns with
  | nil => cases h2
  | cons n ns => cases h2
section
variable {w : Bool} {c : Cn} {env : Sy} {os : List SO} {te ta tb tl t1 t2 : TE} {tr : TA} {u : TS} {D : Ends} {P PA PB : PyData → Prop} {ad : Nat → Addr} {σ : L2.St} {H H' : Hp}
theorem Ok.chg {ks ki : Nat} (ok : Ok c ad env os σ H) (hs : os[ks]? = some (.stt ki)) (hb : os[ki]? = some .nums) (hch : ∀ a u, H a = some u → a ≠ ad ks → a ≠ ad ki → H' a = some u) (st : Stt H' (ad ks) (ad ki)) : Ok c ad env os σ H' := by
  have ls : Lv os ks := ⟨_, hs, rfl⟩
  have lb : Lv os ki := ⟨_, hb, rfl⟩
  have Ns : Nof c ad os (ad ks) := Or.inr ⟨ks, ls, rfl⟩
  have Nb : Nof c ad os (ad ki) := Or.inr ⟨ki, lb, rfl⟩
  obtain ⟨ms, us, es, ws⟩ : (c.H0 (ad ks) = none ∨ c.M (ad ks)) ∧ ∃ u, H (ad ks) = some u ∧ Wr u = true := ⟨(ok.obj ks _ hs rfl).1, (ok.obj ks _ hs rfl).2.some rfl⟩
  obtain ⟨mb, ub, eb, wb⟩ : (c.H0 (ad ki) = none ∨ c.M (ad ki)) ∧ ∃ u, H (ad ki) = some u ∧ Wr u = true := ⟨(ok.obj ki _ hb rfl).1, (ok.obj ki _ hb rfl).2.some rfl⟩
  have hnw : ∀ a x, H a = some x → Wr x = false → H' a = some x := fun a x e hw => hch a x e (fun z => by subst z; rw [es] at e; cases e; rw [ws] at hw; cases hw) (fun z => by subst z; rw [eb] at e; cases e; rw [wb] at hw; cases hw)
  have hout : ∀ a x, H a = some x → ¬ Nof c ad os a → H' a = some x := fun a x e n => hch a x e (fun z => n (z ▸ Ns)) (fun z => n (z ▸ Nb))
  have hrd : ∀ a x, Rd H a x → ¬ Nof c ad os a → Rd H' a x ∧ ¬ Nof c ad os a := fun a x r n => ⟨by
    rcases r with r | ⟨o, r⟩
    · exact Or.inl (hout a x r n)
    · exact Or.inr ⟨o, hout a _ r n⟩, n⟩
  have hsq : TP c.K H H' := ⟨fun a xs r => by
    rcases r with (r | ⟨o, r⟩) | r
    · exact Or.inl (Or.inl (hnw a _ r rfl))
    · exact Or.inl (Or.inr ⟨o, hnw a _ r rfl⟩)
    · exact Or.inr r, fun a o xs r => hnw a _ r rfl⟩
  have hv : ∀ n v s, SvOk c.K (Nof c ad os) ad n H v s → SvOk c.K (Nof c ad os) ad n H' v s := fun n v s h => by
    cases s with
    | i d => exact Dn.go hrd hout hsq d v h
    | t x => obtain ⟨b, e1, e2, e3⟩ := h; exact ⟨b, e1, e3.elim (hnw b _ e2) (hout b _ e2), e3⟩
    | ob C m => obtain ⟨a, dx, fs, e1, e2, e3, e4⟩ := h; exact ⟨a, dx, fs, e1, hout a _ e2 e3, e3, Paired.imp e4 fun _ _ z => ⟨z.1, Dn.go hrd hout hsq _ _ z.2⟩⟩
    | z m => obtain ⟨a, dx, fs, e1, e2, e3, e4⟩ := h; exact ⟨a, dx, fs, e1, hout a _ e2 e3, e3, Paired.imp e4 fun _ _ z => ⟨z.1, Dn.go hrd hout hsq _ _ z.2⟩⟩
    | r k => exact h
  refine ⟨ok.len, fun a o h m => ?_, fun a h => ?_, fun i s h => ?_, fun k o h l => ?_, ok.inj, ok.nn, fun p hp => hv _ _ _ (ok.frm p hp), ok.low⟩
  · refine hch a o (ok.ex a o h m) (fun z => ?_) (fun z => ?_)
    · subst z
      rcases ms with z | z
      · rw [z] at h; cases h
      · exact m z
    · subst z
      rcases mb with z | z
      · rw [z] at h; cases h
      · exact m z
  · cases e : H a with
    | none => exact absurd e (ok.n0 a h)
    | some x =>
      rw [hch a x e (fun z => ok.nn ks ls (z ▸ h)) (fun z => ok.nn ki lb (z ▸ h))]
      exact fun z => nomatch z
  · obtain ⟨v, h1, h2⟩ := ok.val i s h
    exact ⟨v, h1, hv _ v s h2⟩
  · obtain ⟨ns, a, m, z1, z2⟩ := st
    by_cases q1 : k = ks
    · subst q1
      rw [hs] at h; cases h
      exact ⟨ms, _, a, m, z2, rfl, (List.getElem?_eq_some_iff.mp hb).1⟩
    · by_cases q2 : k = ki
      · subst q2
        rw [hb] at h; cases h
        exact ⟨mb, ns, z1⟩
      · obtain ⟨h1, h2⟩ := ok.obj k o h l
        exact ⟨h1, h2.map (hv _) fun x e => hch _ x e (fun z => q1 (ok.inj k ks ⟨o, h, l⟩ ls z)) (fun z => q2 (ok.inj k ki ⟨o, h, l⟩ lb z))⟩
/-- an object of the store is told otherwise -/
theorem Ok.reset {o o' : SO} {k : Nat} (ok : Ok c ad env os σ H) (h0 : os[k]? = some o) (l0 : o.live = true) (l : o'.live = true) (ho : SoOk c.K (Nof c ad os) ad os.length H (ad k) o') : Ok c ad env (os.set k o') σ H := by
  obtain ⟨x, e, _⟩ := (ok.obj k o h0 l0).2.some l0
  have hu : upd H (ad k) x = H := by
    funext a
    by_cases q : a = ad k
    · rw [q, upd_same, e]
    · rw [upd_ne q]
  have := ok.mut (u' := x) h0 l0 l (by rw [hu]; exact ho)
  rwa [hu] at this
/-! ### the promise -/
def spM (K : PySem.W.Frag) (R : List PyData → PyData → Prop) : Sp := fun vs H Q _ => ∃ (N : Addr → Prop) (s b : Addr) (rest : List V) (ds : List PyData), vs = .ref s :: rest ∧ Stt H s b ∧ ¬ N s ∧ ¬ N b ∧ (∀ a, N a → H a ≠ none) ∧ DnAll K (fun a => N a ∨ a = s ∨ a = b) H rest ds ∧ (∃ d, R ds d) ∧
  ∀ v H' d, R ds d → (∀ a x, H a = some x → a ≠ s → a ≠ b → H' a = some x) → Stt H' s b → Dn K (fun a => N a ∨ a = s ∨ a = b) H' v d → Q v H'
theorem spM_len {K : PySem.W.Frag} {R : List PyData → PyData → Prop} {n : Nat} (hR : ∀ ds d, R ds d → ds.length = n) : ∀ vs H Q E, spM K R vs H Q E → vs.length = n + 1 := fun vs H Q E ⟨N, s, b, rest, ds, e, _, _, _, _, h, ⟨d, r⟩, _⟩ => by rw [e, List.length_cons, h.length, hR ds d r]
/-- te gives data with P; the state may be drawn from -/
def EvM (c : Cn) (env : Sy) (os : List SO) (te : TE) (P : PyData → Prop) : Prop := ∀ ad σ H, Ok c ad env os σ H → ∀ Q : VK, (∀ v H2 d, P d → Ok c ad env os σ H2 → Dn c.K (Nof c ad os) H2 v d → Q v H2) → te σ H Q
def EvAM (c : Cn) (env : Sy) (os : List SO) (ta : TA) (P : List PyData → Prop) : Prop := ∀ ad σ H, Ok c ad env os σ H → ∀ Q : List V → Hp → Prop, (∀ vs H2 ds, P ds → Ok c ad env os σ H2 → DnAll c.K (Nof c ad os) H2 vs ds → Q vs H2) → ta σ H Q
theorem em_x {d : PyData} (h : EvX false c env os te d) (hP : P d) : EvM c env os te P := fun ad σ H ok Q q => h ad σ H ok Q fun v H2 e r => q v H2 d hP (ok.ext e) (by rw [Nw_false] at r; exact r)
theorem EvM.imp (h : EvM c env os te PA) (f : ∀ d, PA d → P d) : EvM c env os te P := fun ad σ H ok Q q => h ad σ H ok Q fun v H2 d p => q v H2 d (f d p)
theorem em_call {R : List PyData → PyData → Prop} {E : XK} {ks ki i : Nat} {ds : List PyData} (hi : env[i]? = some (some (.r ks))) (hs : os[ks]? = some (.stt ki)) (hb : os[ki]? = some .nums) (h : EvA false c env os tr ds) (hR : ∃ d, R ds d) : EvM c env os (tCall (spM c.K R) [] E (tCons (tVar i) tr)) (R ds) := fun ad σ H ok Q q => by
  obtain ⟨v, hv, hr⟩ := ok.val i _ hi
  obtain ⟨rfl, _⟩ := (show v = .ref (ad ks) ∧ ks < os.length from hr)
  refine ⟨_, hv, h ad σ H ok _ fun vs H2 e a => ?_⟩
  rw [Nw_false] at a
  have ok2 := ok.ext e
  have ls : Lv os ks := ⟨_, hs, rfl⟩
  have lb : Lv os ki := ⟨_, hb, rfl⟩
  obtain ⟨_, v2, x, m, e2, e3, _⟩ := ok2.obj ks _ hs rfl
  obtain ⟨_, ns, e4⟩ := ok2.obj ki _ hb rfl
  subst e3
  have hN : ∀ b, (Nof c ad os b ∧ b ≠ ad ks ∧ b ≠ ad ki) ∨ b = ad ks ∨ b = ad ki → Nof c ad os b := fun b z => by
    rcases z with z | z | z
    · exact z.1
    · rw [z]; exact Or.inr ⟨ks, ls, rfl⟩
    · rw [z]; exact Or.inr ⟨ki, lb, rfl⟩
  have hN2 : ∀ b, Nof c ad os b → (Nof c ad os b ∧ b ≠ ad ks ∧ b ≠ ad ki) ∨ b = ad ks ∨ b = ad ki := fun b z => by
    by_cases q1 : b = ad ks
    · exact Or.inr (Or.inl q1)
    · by_cases q2 : b = ad ki
      · exact Or.inr (Or.inr q2)
      · exact Or.inl ⟨z, q1, q2⟩
  refine ⟨fun b => Nof c ad os b ∧ b ≠ ad ks ∧ b ≠ ad ki, ad ks, ad ki, vs, ds, by simp, ⟨ns, x, m, e4, e2⟩, fun z => z.2.1 rfl, fun z => z.2.2 rfl, fun b z => ok2.nof z.1, a.sub hN, hR, fun v H' d hd hch st r => q v H' d hd (ok2.chg hs hb hch st) (r.sub hN2)⟩
/-! ### one thing behind the other -/
theorem ex_pin {v : V} {d : PyData} (h : (v, SV.i d) ∈ c.fr) : EvX w c env os (tC v) d := EvX.weak fun ad σ H ok Q q => q v H (Ex.refl H) (by
  rw [Nw_false]
  exact ok.frm _ h)
theorem em_op {r : R2} (ha : EvM c env os ta PA) (h : ∀ v d, PA d → EvM (c.w ((v, .i d) :: c.fr) os.length) env os (tOp r (tC v) tb) P) : EvM c env os (tOp r ta tb) P := fun ad σ H ok Q q =>
  ha ad σ H ok _ fun v H1 d p ok1 r1 => h v d p ad σ H1 (ok1.pin (s := .i d) r1) Q fun v2 H2 d2 p2 ok2 r2 => q v2 H2 d2 p2 (up_pin (v := v) (s := .i d) ok1 _ _ _ _ _ ok2) r2
theorem em_op2 {r : R2} {v0 : V} (hb : EvM c env os tb PB) (h : ∀ v d, PB d → EvM (c.w ((v, .i d) :: c.fr) os.length) env os (tOp r (tC v0) (tC v)) P) : EvM c env os (tOp r (tC v0) tb) P := fun ad σ H ok Q q =>
  hb ad σ H ok _ fun v H1 d p ok1 r1 => h v d p ad σ H1 (ok1.pin (s := .i d) r1) Q fun v2 H2 d2 p2 ok2 r2 => q v2 H2 d2 p2 (up_pin (v := v) (s := .i d) ok1 _ _ _ _ _ ok2) r2
theorem eam_a {ds : List PyData} {PP : List PyData → Prop} (h : EvA false c env os tr ds) (hP : PP ds) : EvAM c env os tr PP := fun ad σ H ok Q q => h ad σ H ok Q fun vs H2 e r => q vs H2 ds hP (ok.ext e) (by rw [Nw_false] at r; exact r)
theorem eam_cons {PP : List PyData → Prop} (h : EvM c env os te PA) (hr : ∀ v d, PA d → EvAM (c.w ((v, .i d) :: c.fr) os.length) env os tr (fun ds => PP (d :: ds))) : EvAM c env os (tCons te tr) PP := fun ad σ H ok Q q =>
  h ad σ H ok _ fun v H1 d p ok1 r1 => hr v d p ad σ H1 (ok1.pin (s := .i d) r1) _ fun vs H2 ds p2 ok2 r2 => q _ H2 (d :: ds) p2 (up_pin (v := v) (s := .i d) ok1 _ _ _ _ _ ok2) (.cons (ok2.frm (v, .i d) (List.mem_cons_self ..)) r2)
theorem em_tup {PP : List PyData → Prop} (h : EvAM c env os tr PP) (hl : ∀ ds, PP ds → ds.length ≤ 100000) : EvM c env os (tTup tr) (fun d => ∃ ds, d = .tuple ds ∧ PP ds) := fun ad σ H ok Q q =>
  h ad σ H ok _ fun vs H2 ds p ok2 r => ⟨Nat.le_trans (by rw [r.length]; exact hl ds p) (by decide), fun l hl => q _ _ (.tuple ds) ⟨ds, rfl, p⟩ (ok2.ext (Ex.new hl)) (.tup (SqT.of upd_same) (r.ext (Ex.new hl)))⟩
/-- a call with one argument that draws -/
theorem em_call1 {R : List PyData → PyData → Prop} {E : XK} (h : EvM c env os te PA) (hR : ∀ d, PA d → ∃ e, R [d] e ∧ P e) : EvM c env os (tCall (spD c.K R) [] E (tCons te tNil)) P := fun ad σ H ok Q q =>
  h ad σ H ok _ fun v H1 d p ok1 r1 => by
    obtain ⟨e, h1, h2⟩ := hR d p
    show spD c.K R ([v] ++ []) H1 Q E
    rw [List.append_nil]
    exact ⟨Nof c ad os, [d], e, fun b z => ok1.nof z, .cons r1 .nil, h1, fun v' H' e' r => q v' H' e h2 (ok1.ext e') r⟩
/-! ### statements -/
theorem gs_asgM {i : Nat} (h : EvM c env os te P) (k : ∀ d, P d → Go c (env.set i (some (.i d))) os u D) : Go c env os (tSeq (tAsg te (gName i)) u) D := fun ad σ H ok =>
  h ad σ H ok _ fun v H2 d p ok2 r => k d p ad _ H2 (ok2.set (s := .i d) r)
def RetM (c : Cn) (R : List PyData → PyData → Prop) (ds : List PyData) (D : Ends) : Prop := ∀ ad env os σ v H2 d, Ok c ad env os σ H2 → os[0]? = some .nums → os[1]? = some (.stt 0) → R ds d → Dn c.K (Nof c ad os) H2 v d → D.rt v H2
theorem gs_retM {R : List PyData → PyData → Prop} {ds : List PyData} (h : EvM c env os te P) (k : RetM c R ds D) (h0 : os[0]? = some .nums) (h1 : os[1]? = some (.stt 0)) (hP : ∀ d, P d → R ds d) : Go c env os (tSeq (tRet te) u) D := fun ad σ H ok =>
  h ad σ H ok _ fun v H2 d p ok2 r => k ad env os σ v H2 d ok2 h0 h1 (hP d p) r
def env1 (n : Nat) (ds : List PyData) : Sy := some (.r 1) :: env0 (n - 1) ds
theorem ok_startM {K : PySem.W.Frag} {N : Addr → Prop} {s b : Addr} {vs : List V} {ds : List PyData} {Nm : List Str} (hN : ∀ a, N a → H a ≠ none) (st : Stt H s b) (hs : ¬ N s) (hb : ¬ N b) (h : DnAll K (fun a => N a ∨ a = s ∨ a = b) H vs ds) (hn : Nm ≠ []) :
    Ok ⟨K, H, N, fun a => a = s ∨ a = b, [(.ref s, .r 1), (.ref b, .r 0)], 2⟩ (fun k => if k = 0 then b else s) (env1 Nm.length ds) [.nums, .stt 0] (L2.start Nm (.ref s :: vs)) H := by
  have ne := st.ne
  obtain ⟨ns, a, m, e1, e2⟩ := st
  have lv : ∀ k, Lv [SO.nums, SO.stt 0] k → k = 0 ∨ k = 1 := fun k ⟨o, e, _⟩ => by
    have := (List.getElem?_eq_some_iff.mp e).1
    simp at this; omega
  have hN2 : ∀ x, Nof ⟨K, H, N, fun a => a = s ∨ a = b, [(.ref s, .r 1), (.ref b, .r 0)], 2⟩ (fun k => if k = 0 then b else s) [.nums, .stt 0] x → N x ∨ x = s ∨ x = b := fun x z => by
    rcases z with z | ⟨k, l, z⟩
    · exact Or.inl z
    · rcases lv k l with q | q
      · subst q; exact Or.inr (Or.inr z)
      · subst q; exact Or.inr (Or.inl z)
  have hl : 0 < Nm.length := List.length_pos_iff.mpr hn
  have hlen := h.length
  refine ⟨?_, fun a o e _ => e, hN, fun i t e => ?_, fun k o e l => ?_, fun k j hk hj q => ?_, fun k hk => ?_, fun p hp => ?_, Nat.le_refl _⟩
  · unfold L2.start env1 env0; simp [hlen]; omega
  · unfold env1 at e
    cases i with
    | zero =>
      simp at e
      subst e
      exact ⟨.ref s, by simp [L2.start], rfl, by simp⟩
    | succ i =>
      rw [List.getElem?_cons_succ] at e
      unfold env0 at e
      by_cases hi : i < ds.length
      · rw [List.getElem?_append_left (by simpa using hi), List.getElem?_map] at e
        cases hd : ds[i]? with
        | none => rw [hd] at e; cases e
        | some d =>
          rw [hd] at e
          cases e
          obtain ⟨v, h1, h2⟩ := h.get hd
          refine ⟨v, ?_, Dn.sub hN2 h2⟩
          unfold L2.start
          rw [List.getElem?_append_left (by simp [hlen]; omega), List.getElem?_map, List.getElem?_cons_succ, h1]
          rfl
      · rw [List.getElem?_append_right (by simpa using hi)] at e
        rw [List.getElem?_replicate] at e
        split at e <;> cases e
  · rcases lv k ⟨o, e, l⟩ with q | q
    · subst q
      cases e
      exact ⟨Or.inr (Or.inr rfl), ns, e1⟩
    · subst q
      cases e
      exact ⟨Or.inr (Or.inl rfl), .ref b, a, m, e2, rfl, by simp⟩
  · rcases lv k hk with q1 | q1 <;> rcases lv j hj with q2 | q2 <;> subst q1 q2
    · rfl
    · exact absurd q.symm ne
    · exact absurd q ne
    · rfl
  · rcases lv k hk with q | q <;> subst q
    · exact hb
    · exact hs
  · rcases List.mem_cons.mp hp with z | z
    · subst z; exact ⟨rfl, Nat.lt_succ_self 1⟩
    · rw [List.mem_singleton.mp z]; exact ⟨rfl, Nat.succ_pos 1⟩
theorem run_spM {K : PySem.W.Frag} {R : List PyData → PyData → Prop} {vs : List V} {Q : VK} {E : XK} {Nm : List Str} {t : TS} (h : spM K R vs H Q E) (hn : Nm ≠ [])
    (g : ∀ (N : Addr → Prop) (s b : Addr) ds, (∃ d, R ds d) → RetM ⟨K, H, N, fun a => a = s ∨ a = b, [(.ref s, .r 1), (.ref b, .r 0)], 2⟩ R ds (De Q) → Go ⟨K, H, N, fun a => a = s ∨ a = b, [(.ref s, .r 1), (.ref b, .r 0)], 2⟩ (env1 Nm.length ds) [.nums, .stt 0] t (De Q)) : t (De Q) (L2.start Nm vs) H := by
  obtain ⟨N, s, b, rest, ds, rfl, st, hs, hb, hN, ha, hR, hq⟩ := h
  refine g N s b ds hR (fun ad env os σ v H2 d ok h0 h1 hd r => ?_) _ _ _ (ok_startM hN st hs hb ha hn)
  obtain ⟨f1, _⟩ := (show V.ref s = .ref (ad 1) ∧ _ from ok.frm (.ref s, .r 1) (List.mem_cons_self ..))
  obtain ⟨f0, _⟩ := (show V.ref b = .ref (ad 0) ∧ _ from ok.frm (.ref b, .r 0) (List.mem_cons_of_mem _ (List.mem_cons_self ..)))
  have f1 := V.ref.inj f1
  have f0 := V.ref.inj f0
  obtain ⟨_, ns, e0⟩ := ok.obj 0 _ h0 rfl
  obtain ⟨_, v2, a, m, e1, e2, _⟩ := ok.obj 1 _ h1 rfl
  subst e2
  refine hq v H2 d hd (fun x o e n1 n2 => ok.ex x o e fun z => z.elim n1 n2) ⟨ns, a, m, by rw [f0]; exact e0, by rw [f1, f0]; exact e1⟩ (r.sub fun x z => ?_)
  rcases z with z | z | z
  · exact Or.inl z
  · rw [z, f1]; exact Or.inr ⟨1, ⟨_, h1, rfl⟩, rfl⟩
  · rw [z, f0]; exact Or.inr ⟨0, ⟨_, h0, rfl⟩, rfl⟩
/-- the state is looked into -/
theorem gs_open01 (k : ∀ (ns : List Int) (a m : Int), Go c env [.lst ((ns.map PyData.int).map SV.i), .lst [.r 0, .i (.int a), .i (.int m)]] u D) : Go c env [.nums, .stt 0] u D := fun ad σ H ok => by
  obtain ⟨_, ns, e0⟩ := ok.obj 0 _ rfl rfl
  obtain ⟨_, v2, a, m, e1, e2⟩ := ok.obj 1 _ rfl rfl
  have ok1 := ok.reset (k := 0) (o' := .lst ((ns.map PyData.int).map SV.i)) rfl rfl rfl ⟨_, e0, dn_paired (ints_dn ns)⟩
  have ok2 := ok1.reset (k := 1) (o' := .lst [.r 0, .i (.int a), .i (.int m)]) rfl rfl rfl ⟨_, e1, .cons e2 (.cons (Dn.int a) (.cons (Dn.int m) .nil))⟩
  exact k ns a m ad σ H ok2
theorem gs_close01 {ns : List Int} {a m : Int} (k : Go c env [.nums, .stt 0] u D) : Go c env [.lst ((ns.map PyData.int).map SV.i), .lst [.r 0, .i (.int a), .i (.int m)]] u D := fun ad σ H ok => by
  obtain ⟨_, vs, e0, p0⟩ := ok.obj 0 _ rfl rfl
  obtain ⟨_, ws, e1, p1⟩ := ok.obj 1 _ rfl rfl
  have ev : vs = ns.map V.int := (paired_dn p0).ints
  have ok1 := ok.reset (k := 0) (o' := .nums) rfl rfl rfl ⟨ns, by rw [← ev]; exact e0⟩
  refine k ad σ H (ok1.reset (k := 1) (o' := .stt 0) rfl rfl rfl ?_)
  cases p1 with
  | cons q1 p1 =>
    cases p1 with
    | cons q2 p1 =>
      cases p1 with
      | cons q3 p1 =>
        cases p1
        cases (show Dn _ _ _ _ _ from q2)
        cases (show Dn _ _ _ _ _ from q3)
        exact ⟨_, a, m, e1, q1⟩
theorem er_ixO {k j : Nat} {ss : List SV} {i : Int} (hl : EvR c env os ta k) (hk : os[k]? = some (.lst ss)) (hi : EvX true c env os tb (.int i)) (hd : atI ss i = some (.r j)) (hj : j < os.length) : EvR c env os (tOp (rIxL c.K) ta tb) j := ⟨hj, fun ad σ H ok Q q =>
  hl.2 ad σ H ok _ fun H1 e1 => hi ad σ H1 (ok.ext e1) _ fun y H2 e2 r2 => by
    cases dn_int r2
    obtain ⟨_, vs, h1, h2⟩ := ((ok.ext e1).ext e2).obj k _ hk rfl
    obtain ⟨v, h3, h4⟩ := paired_at h2 hd
    obtain ⟨rfl, _⟩ := (show v = .ref (ad j) ∧ _ from h4)
    exact ⟨ad k, vs, i, _, rfl, rfl, SqL.of h1, h3, q H2 (e1.trans e2)⟩⟩
/-- x = xs.pop(0) -/
theorem gs_asgPop0 {i k : Nat} {d : PyData} {ss : List SV} (hl : EvR c env os tl k) (hk : os[k]? = some (.lst (.i d :: ss))) (h0 : EvX true c env os te (.int 0)) (g : Go c (env.set i (some (.i d))) (os.set k (.lst ss)) u D) : Go c env os (tSeq (tAsg (tBM c.K "list" rPopAt tl (tCons te tNil)) (gName i)) u) D := fun ad σ H ok =>
  hl.2 ad σ H ok _ fun H1 e1 => by
    obtain ⟨_, vs1, hvs1, _⟩ := (ok.ext e1).obj k _ hk rfl
    refine ⟨Or.inl ⟨rfl, vs1, SqL.of hvs1⟩, h0 ad σ H1 (ok.ext e1) _ fun v2 H2 e2 r2 => ?_⟩
    cases dn_int r2
    have ok2 := (ok.ext e1).ext e2
    obtain ⟨_, vs, hvs, pv⟩ := ok2.obj k _ hk rfl
    have hN : Nof c ad os (ad k) := Or.inr ⟨k, ⟨_, hk, rfl⟩, rfl⟩
    cases pv with
    | cons q1 pv =>
      rename_i y ys
      refine ⟨ad k, _, 0, 0, y, rfl, rfl, hvs, by decide, by decide, by simp [seqIndex?], rfl, ?_⟩
      have ok3 := ok2.mut (u' := .lst ys) hk rfl (o' := .lst ss) rfl ⟨ys, upd_same, Paired.imp pv fun _ _ z => z.mut hvs rfl hN⟩
      refine g ad _ _ (ok3.set (s := .i d) ?_)
      rw [Nof_set hk rfl rfl]
      exact Dn.mut hvs rfl hN q1
/-- state = [list(..), a, m] -/
theorem gs_asgSt {i : Nat} {ns : List Int} {a m : Int} (hl : EvF c env os tl (.lst ((ns.map PyData.int).map SV.i))) (h1 : EvX true c env os t1 (.int a)) (h2 : EvX true c env os t2 (.int m)) (g : Go c (env.set i (some (.r (os.length + 1)))) (os ++ [.nums] ++ [.stt os.length]) u D) :
    Go c env os (tSeq (tAsg (tLst (tCons tl (tCons t1 (tCons t2 tNil)))) (gName i)) u) D := fun ad σ H ok =>
  hl ad σ H ok _ fun p H1 hp e1 r => h1 ad σ H1 (ok.ext e1) _ fun v1 H2 e2 r1 => h2 ad σ H2 ((ok.ext e1).ext e2) _ fun v2 H3 e3 r2 => by
    have fresh : ∀ (ad' : Nat → Addr) (env' : Sy) (os' : List SO) (q : Addr) (σ' : L2.St) (H' : Hp), Ok c ad' env' os' σ' H' → H' q = none → c.H0 q = none ∨ c.M q := fun ad' env' os' q σ' H' ok hq => by
      by_cases hm : c.M q
      · exact Or.inr hm
      · refine Or.inl ?_
        cases hz : c.H0 q with
        | none => rfl
        | some o => rw [ok.ex q o hz hm] at hq; cases hq
    obtain ⟨vs, e0, p0⟩ := r
    have ev : vs = ns.map V.int := (paired_dn p0).ints
    have ok1 := ok.new (o := .nums) hp e1 (fresh _ _ _ _ _ _ ok hp) ⟨ns, by rw [← ev]; exact e0⟩
    have ok3 := (ok1.ext e2).ext e3
    cases dn_int r1
    cases dn_int r2
    refine ⟨Nat.le_of_ble_eq_true rfl, fun q hq => ?_⟩
    have ok4 := ok3.new (o := .stt os.length) hq (Ex.new hq) (fresh _ _ _ _ _ _ ok3 hq) ⟨.ref p, a, m, upd_same, by rw [adN_same], by simp⟩
    refine g _ _ _ (ok4.set (v := .ref q) (s := .r (os.length + 1)) ⟨?_, by simp⟩)
    have : (os ++ [SO.nums]).length = os.length + 1 := by simp
    rw [← this, adN_same]
end
end DL

set_option Elab.async false
set_option linter.all false
set_option maxRecDepth 100000
set_option maxHeartbeats 2000000
/-! The data layer: a dict of the module with text keys. -/
namespace DL
open PySem PySem.Spec PyProof.Rows L2
open Evl (Ex Ex.refl Ex.trans Ex.new)
/-! ### what is looked at -/
mutual
theorem datB_ok {K : PySem.W.Frag} : ∀ (d : PyData) (u : Value), datB K d u = true → ∃ v, RelV v u ∧ ∀ N H, Dn K N H v d
  | .none, u, h => by unfold datB at h; cases u <;> cases h
  | .list _, u, h => by unfold datB at h; cases u <;> cases h
  | .dict _, u, h => by unfold datB at h; cases u <;> cases h
  | .int i, u, h => by
    cases u <;> unfold datB at h <;> first | cases h | skip
    exact ⟨.int i, ⟨_, by rw [of_decide_eq_true h]⟩, fun N H => .int i⟩
  | .bool b, u, h => by
    cases u <;> unfold datB at h <;> first | cases h | skip
    exact ⟨.bl b, by rw [beq_iff_eq.mp h]; rfl, fun N H => .bl b⟩
  | .str x, u, h => by
    cases u <;> unfold datB at h <;> first | cases h | skip
    exact ⟨.str x, ⟨_, by rw [of_decide_eq_true h]⟩, fun N H => .str x⟩
  | .tuple ds, u, h => by
    cases u with
    | ref a =>
      unfold datB at h
      cases q : K.lookup a with
      | none => rw [q] at h; cases h
      | some o =>
        obtain ⟨oc, od, dt, osl⟩ := o
        rw [q] at h
        cases oc with
        | type c =>
          cases dt with
          | seq its n =>
            have h1 : (decide (c = "tuple") && (decide (its.size ≤ sizeLine) && datsB K ds its.toList)) = true := h
            rw [Bool.and_eq_true, Bool.and_eq_true] at h1
            obtain ⟨h2, h3, h4⟩ := h1
            obtain ⟨vs, h5, h6⟩ := datsB_ok ds its.toList h4
            exact ⟨.ref a, rfl, fun N H => .tup (.inr ⟨_, its, n, q, congrArg Value.type (of_decide_eq_true h2), rfl, of_decide_eq_true h3, h5⟩) (h6 N H)⟩
          | _ => cases h
        | _ => cases dt <;> cases h
    | _ => unfold datB at h; cases h
theorem datsB_ok {K : PySem.W.Frag} : ∀ (ds : List PyData) (us : List Value), datsB K ds us = true → ∃ vs, Vals vs us ∧ ∀ N H, DnAll K N H vs ds
  | [], [], _ => ⟨[], .nil, fun _ _ => .nil⟩
  | [], _ :: _, h => by unfold datsB at h; cases h
  | _ :: _, [], h => by unfold datsB at h; cases h
  | d :: ds, u :: us, h => by
    unfold datsB at h
    rw [Bool.and_eq_true] at h
    obtain ⟨v, h1, h2⟩ := datB_ok d u h.1
    obtain ⟨vs, h3, h4⟩ := datsB_ok ds us h.2
    exact ⟨v :: vs, .cons h1 h3, fun N H => .cons (h2 N H) (h4 N H)⟩
end
/-- the dict m stands at a -/
structure KdOk (K : PySem.W.Frag) (w : World) (a : Addr) (m : List (Str × PyData)) : Prop where
  get : ∀ p ∈ m, ∃ v, KDct K w a p.1 v ∧ ∀ N H, Dn K N H v p.2
  keys : He.dicW K a = some (He.keysIn w.params (m.map (·.1)))
theorem kdOk_of {K : PySem.W.Frag} {w : World} {a : Addr} {m : List (Str × PyData)} (h1 : kdB K a m = true) (h2 : He.dicW K a = some (He.keysIn w.params (m.map (·.1)))) : KdOk K w a m := by
  refine ⟨fun p hp => ?_, h2⟩
  obtain ⟨es, n, D⟩ := He.dicW_ok h2
  have h3 := List.all_eq_true.mp h1 p hp
  cases q : PySem.W.nsIn K a p.1 with
  | none => rw [q] at h3; cases h3
  | some r =>
    cases r with
    | none => rw [q] at h3; cases h3
    | some u =>
      rw [q] at h3
      obtain ⟨v, h4, h5⟩ := datB_ok p.2 u h3
      exact ⟨v, ⟨es, n, u, D.at_, D.lit, q, h4⟩, h5⟩
/-! ### rules -/
section
variable {w : Bool} {c : Cn} {env : Sy} {os : List SO} {te ta tb : TE}
theorem ex_kdget {W : World} {a : Addr} {m : List (Str × PyData)} {x : Str} {d : PyData} (hk : KdOk c.K W a m) (hm : (x, d) ∈ m) (hb : EvX true c env os tb (.str x)) : EvX w c env os (tOp (rIxD c.K W) (tC (.ref a)) tb) d := fun ad σ H ok Q q =>
  hb ad σ H ok _ fun v H2 e r => by
    obtain ⟨u, h1, h2⟩ := hk.get _ hm
    cases dn_str r
    exact ⟨a, x, u, rfl, rfl, h1, q u H2 e (h2 _ _)⟩
end
/-- sorted(d) of such a dict -/
def rSortKd (K : PySem.W.Frag) (W : World) : List V → Hp → VK → Prop := fun vs H Q => ∃ (a : Addr) (ks : List Str), vs = [V.ref a] ∧ He.dicW K a = some (He.keysIn W.params ks) ∧ ks.length ≤ 1000 ∧ ∀ p, H p = none → Q (.ref p) (upd H p (.lst ((ks.mergeSort (PySem.W.dataLe false PyData.str)).map V.str)))
/-! ### written dicts with lists -/
section
variable {w : Bool} {c : Cn} {env : Sy} {os : List SO} {te ta tb td ty tx : TE} {d : PyData}
def EvP2 (c : Cn) (env : Sy) (os : List SO) (trs : List (TE × TE)) (kvs : List (Key × PyData)) : Prop := ∀ ad σ H, Ok c ad env os σ H → ∀ Q : List (V × V) → Hp → Prop,
  (∀ (vs : List (Key × V)) H2, Ex H H2 → Paired (fun (x : Key × V) (y : Key × PyData) => x.1 = y.1 ∧ Dn c.K (Nof c ad os) H2 x.2 y.2) vs kvs → Q (vs.map fun kv => (kV kv.1, kv.2)) H2) → tPairs trs σ H Q
end
/-- list + list, read only -/
def rCatL (K : PySem.W.Frag) : R2 := fun x y H Q => ∃ (a b : Addr) (xs ys : List V), x = .ref a ∧ y = .ref b ∧ SqL K H a xs ∧ SqL K H b ys ∧ xs.length + ys.length ≤ sizeLine ∧ ∀ p, H p = none → Q (.ref p) (upd H p (.lst (xs ++ ys)))
/-- a list's item that is drawn -/
theorem em_ixD {c : Cn} {env : Sy} {os : List SO} {ta tb : TE} {PP : List PyData → Prop} {P : PyData → Prop} (ha : EvM c env os ta (fun d => ∃ ds, d = .list ds ∧ PP ds)) (hb : ∀ (v : V) (ds : List PyData), PP ds → EvM (c.w ((v, .i (.list ds)) :: c.fr) os.length) env os tb (fun d => ∃ i : Int, d = .int i ∧ 0 ≤ i ∧ i < (ds.length : Int)))
    (hP : ∀ ds, PP ds → ∀ x ∈ ds, P x) : EvM c env os (tOp (rIxL c.K) ta tb) P :=
  em_op ha fun v d ⟨ds, e, hp⟩ => by
    subst e
    refine em_op2 (hb v ds hp) fun v2 d2 ⟨i, e2, h0, h1⟩ => ?_
    subst e2
    obtain ⟨j, rfl⟩ := Int.eq_ofNat_of_zero_le h0
    have hi : j < ds.length := by omega
    exact em_x (d := ds[j]) (ex_ixLD (ex_pin (d := .list ds) (List.mem_cons_of_mem _ (List.mem_cons_self ..))) (ex_pin (d := .int (j : Int)) (List.mem_cons_self ..)) (atI_nat (List.getElem?_eq_getElem hi))) (hP ds hp _ (List.getElem_mem hi))
theorem tab_keys {fa : List He.Fa} {fn : List He.DefD} {ts : List He.Tab} {w : World} {K : PySem.W.Frag} (c : He.SaysT fa fn ts w K) (i : Nat) {t : He.Tab} (h : ts[i]? = some t) : He.dicW K (t.1 K) = some (He.keysIn w.params t.2) := by
  have e : ts.map (fun t => He.dicW K (t.1 K)) = ts.map fun t => some (He.keysIn w.params t.2) := congrArg (fun z : He.AlT => z.2) c
  have e2 : (ts.map fun t => He.dicW K (t.1 K))[i]? = (ts.map fun t => some (He.keysIn w.params t.2))[i]? := by rw [e]
  rw [List.getElem?_map, List.getElem?_map, h] at e2
  exact Option.some.inj e2
theorem kIxKd {X : Cx} {K : PySem.W.Frag} {W : World} (h : X.K = K := by rfl) (h2 : X.w = W := by rfl) : IxR X (rIxD K W) := by subst h h2; exact ix_kdict
end DL

set_option Elab.async false
set_option linter.all false
set_option maxRecDepth 100000
set_option maxHeartbeats 2000000
/-! The data layer: reversed(list), list(dict), whole numbers in a list. -/
namespace DL
open PySem PySem.Spec PyProof.Rows L2
open Evl (Ex Ex.refl Ex.trans Ex.new)
section
variable {w : Bool} {c : Cn} {env : Sy} {os : List SO} {te ta tb tl td : TE} {d : PyData}
/-! a dict of the store with whole numbers as keys -/
def addK (ns : List Int) (n : Int) : List Int := if n ∈ ns then ns else ns ++ [n]
abbrev encK (ns : List Int) : List (Key × SV) := ns.map fun n => ((.inl n : Key), SV.i (.bool true))
end
end DL
namespace DL
open PySem PySem.Spec PyProof.Rows L2
section
variable {c : Cn} {env : Sy} {os : List SO} {g : TG} {tb u : TS} {D : Ends}
end
end DL
namespace DL
open PySem PySem.Spec PyProof.Rows L2
open Evl (Ex Ex.refl Ex.trans Ex.new)
section
variable {w : Bool} {c : Cn} {env : Sy} {os : List SO} {te ta tb tl td ty tx : TE} {d : PyData}
end
end DL
namespace DL
open PySem PySem.Spec PyProof.Rows L2
open Evl (Ex Ex.refl Ex.trans Ex.new)
section
variable {w : Bool} {c : Cn} {env : Sy} {os : List SO} {te ta tb : TE}
end
end DL
namespace DL
open PySem PySem.Spec PyProof.Rows L2
open Evl (Ex Ex.refl Ex.trans Ex.new)
end DL
namespace DL
open PySem PySem.Spec PyProof.Rows L2
open Evl (Ex Ex.refl Ex.trans Ex.new)
end DL

set_option Elab.async false
set_option linter.all false
set_option maxRecDepth 100000
set_option maxHeartbeats 2000000
/-! The data layer: == of dicts of data, max of three. -/
namespace DL
open PySem PySem.Spec PyProof.Rows L2
open Evl (Ex Ex.refl Ex.trans Ex.new)
/-- a datum that is equal to itself, place by place -/
structure Same1 (d : PyData) : Prop where
  al : PySem.W.alike d d = true
  eq : PyData.eqv d d = true
  dep : d.depth ≤ 8
def rNeDi (K : PySem.W.Frag) : R2 := fun x y H Q => ∃ a b ks ls, x = .ref a ∧ y = .ref b ∧ Rd H a (.dK ks) ∧ Rd H b (.dK ls) ∧ ks.length = ls.length ∧ (∀ p ∈ ks, ∃ v d, valV ls p.1 = some v ∧ Dp K H p.2 d ∧ Dp K H v d ∧ Same1 d) ∧ Q (.bl false) H
section
variable {X : Cx}
end
section
variable {α β : Type} [DecidableEq α] {w : Bool} {c : Cn} {env : Sy} {os : List SO} {ta tb tc : TE} {ek : α → Key} {ev : β → PyData} {m : List (α × β)}
end
end DL
namespace DL
open PySem PySem.Spec PyProof.Rows L2
end DL

set_option Elab.async false
set_option linter.all false
set_option maxRecDepth 100000
set_option maxHeartbeats 2000000
/-! The data layer: a list of new lists; a list within a list becomes data. -/
namespace DL
open PySem L2
open Evl (Ex Ex.refl Ex.trans Ex.new)
/-- gives the object k of the store, which has grown to os' -/
def EvG (c : Cn) (env : Sy) (os : List SO) (te : TE) (k : Nat) (os' : List SO) : Prop := k < os'.length ∧ ∀ ad σ H, Ok c ad env os σ H → ∀ Q : VK, (∀ ad' H2, Ok c ad' env os' σ H2 → Q (.ref (ad' k)) H2) → te σ H Q
section
variable {c : Cn} {env env' : Sy} {os os' : List SO} {g : TG} {tt : TT} {te : TE} {u : TS} {D : Ends}
def refL (n i : Nat) : List SV := (List.range i).map fun j => SV.r (n + 1 + j)
end
section
variable {c : Cn} {env env' : Sy} {os os' : List SO} {u : TS} {D : Ends}
end
end DL
namespace DL
open PySem L2
open Evl (Ex Ex.refl Ex.trans Ex.new)
/-! ### a dict comprehension -/
def dcM {α A B : Type} [DecidableEq A] (fk : α → A) (fv : α → B) (xs : List α) : List (A × B) := xs.foldl (fun m x => setA m (fk x) (fv x)) []
section
variable {c : Cn} {env env' : Sy} {os os' : List SO} {g : TG} {tt : TT} {tk tv : TE} {u : TS} {D : Ends}
end
end DL
namespace L2
open PySem PySem.Spec PyProof.Rows
section
variable {X : Cx} {o lo hi : Expr} {to tl th : TE} {p2 pos : Pos}
/-- xs[i:j] = ys -/
def gSl (to tl th : TE) : TG := fun v σ H Q => to σ H fun o H1 => tl σ H1 fun a H2 => th σ H2 fun c H3 => ∃ (l b : Addr) (xs ys : List V) (i j : Int), o = .ref l ∧ v = .ref b ∧ a = .int i ∧ c = .int j ∧ H3 l = some (.lst xs) ∧ H3 b = some (.lst ys) ∧ l ≠ b ∧ 0 ≤ i ∧ i ≤ j ∧ j ≤ xs.length ∧ xs.length + ys.length ≤ sizeLine ∧
  Q σ (upd H3 l (.lst (xs.take i.toNat ++ ys ++ xs.drop j.toNat)))
end
end L2
namespace DL
open PySem L2
open Evl (Ex Ex.refl Ex.trans Ex.new)
section
variable {c : Cn} {env env' : Sy} {os os' : List SO} {te tl ta tb : TE} {u : TS} {D : Ends}
end
end DL

set_option Elab.async false
set_option linter.all false
set_option maxRecDepth 100000
set_option maxHeartbeats 2000000
/-! enumerate(zip(a, b)) over two lists. -/
namespace EZ
open PySem PySem.Spec PyProof.Rows L2
section
variable {prog : Program} {w : World} {A : Around} {E : Value → Shared → Prop} {s : Shared}
/-- what the next item of a zip leaves behind -/
def ZOut (h h' : Heap) (z TI TO i1 i2 l1 l2 : Addr) (k1 k2 : Nat) (x y : Value) : Prop :=
  (∃ T f, IsZipHeld h' z TI TO T f) ∧ (∃ a b, IsPair h' TO a b) ∧ h'.IsListIter i1 l1 (k1 + 1) ∧ h'.IsListIter i2 l2 (k2 + 1) ∧ IsPair h' h.objs.size x y ∧ h'.objs.size = h.objs.size + 1 ∧
    ∀ c o, c ≠ z → c ≠ TO → c ≠ i1 → c ≠ i2 → h.get? c = some o → h'.get? c = some o
/-- a zip in any state between its items -/
def ZSt (h : Heap) (z TI TO : Addr) : Prop := IsZip h z TI TO .none ∨ ∃ T f, IsZipHeld h z TI TO T f
end
end EZ
namespace L2
open PySem PySem.Spec PyProof.Rows EZ
/-- the lists at a and b as they stand at each turn: a new pair of the number and a new pair of the items -/
def Itez (K : PySem.W.Frag) (a b : Addr) : It :=
  ⟨fun i H => ∃ (xs ys : List V) (x y : V), SqL K H a xs ∧ SqL K H b ys ∧ xs[i]? = some x ∧ ys[i]? = some y,
    fun i H v H' => ∃ (T T2 : Addr) (x y : V), v = .ref T ∧ H T2 = none ∧ upd H T2 (.tup [x, y]) T = none ∧ H' = upd (upd H T2 (.tup [x, y])) T (.tup [.int (i : Nat), .ref T2]) ∧ (∀ xs, SqL K H a xs → xs[i]? = some x) ∧ ∀ ys, SqL K H b ys → ys[i]? = some y,
    fun i H => ∃ xs ys : List V, SqL K H a xs ∧ SqL K H b ys ∧ (xs.length ≤ i ∨ ys.length ≤ i)⟩
def EzSt (e z TI TO i1 i2 a b : Addr) (i : Nat) (h : Heap) : Prop :=
  (∃ old, IsEnum h e z ((i : Nat) : Int) old) ∧ ZSt h z TI TO ∧ IsPair h TI (.ref i1) (.ref i2) ∧ (∃ x y, IsPair h TO x y) ∧ h.IsListIter i1 a i ∧ h.IsListIter i2 b i
end L2
namespace L2
open PySem PySem.Spec PyProof.Rows EZ
def iEZ (K : PySem.W.Frag) (ta : TA) : TI := fun σ H R => ta σ H fun vs H1 => ∃ a b xs ys, vs = [.ref a, .ref b] ∧ SqL K H1 a xs ∧ SqL K H1 b ys ∧ R (Itez K a b) H1
end L2
namespace DL
open PySem PySem.Spec PyProof.Rows L2
open Evl (Ex Ex.refl Ex.trans Ex.new)
end DL
namespace L2
open PySem PySem.Spec PyProof.Rows
section
variable {X : Cx}
end
end L2

set_option Elab.async false
set_option linter.all false
set_option maxRecDepth 100000
set_option maxHeartbeats 2000000
/-! The data layer: instances of the program's classes. -/
namespace DL
open PySem PySem.Spec PyProof.Rows L2
open Evl (Ex Ex.refl Ex.trans Ex.new)
/-! ### reading -/
section
variable {w : Bool} {c : Cn} {env env' : Sy} {os os' : List SO} {te ta : TE} {t tk : TA} {d : PyData} {C : Addr} {m : List (Str × PyData)} {u : TS} {D : Ends}
/-! ### methods that read -/
def spSD (K : PySem.W.Frag) (C : Addr) (R : List (Str × PyData) → List PyData → PyData → Prop) : Sp := fun vs H Q _ => ∃ (N : Addr → Prop) (v : V) (rest : List V) (m : List (Str × PyData)) (ds : List PyData) (d : PyData), vs = v :: rest ∧ (∀ a, N a → H a ≠ none) ∧ ObOk K N H v C m ∧ DnAll K N H rest ds ∧ R m ds d ∧ ∀ v H', Ex H H' → Dn K N H' v d → Q v H'
def spSF (K : PySem.W.Frag) (C : Addr) (R : List (Str × PyData) → List PyData → List PyData → Prop) : Sp := fun vs H Q _ => ∃ (N : Addr → Prop) (v : V) (rest : List V) (m : List (Str × PyData)) (ds rs : List PyData), vs = v :: rest ∧ (∀ a, N a → H a ≠ none) ∧ ObOk K N H v C m ∧ DnAll K N H rest ds ∧ R m ds rs ∧
  ∀ p H' ws, H p = none → Ex H H' → H' p = some (.lst ws) → DnAll K (fun a => N a ∨ a = p) H' ws rs → Q (.ref p) H'
/-! ### the start of a method's body -/
def envS (n : Nat) (ss : List SV) : Sy := ss.map some ++ List.replicate (n - ss.length) none
end
end DL
namespace DL
open PySem PySem.Spec PyProof.Rows L2
open Evl (Ex Ex.refl Ex.trans Ex.new)
/-! ### methods and constructors as promises -/
def MetP (P : Program) (w : World) (K : PySem.W.Frag) (mg : Str → Option Value) (base : Heap) (k : Nat) (C : Addr) (m : Str) (ps : List Str) (sp : Sp) : Prop :=
  ∃ f fd, Cls K C ∧ Meth K C m f ∧ FnOk P w K mg base CX0 k f fd ps sp ∧ Binds K fd ps []
def MakP (P : Program) (w : World) (K : PySem.W.Frag) (mg : Str → Option Value) (base : Heap) (k : Nat) (x : Str) (C : Addr) (ps : List Str) (sp : Sp) (fs : List CForm) : Prop :=
  ∃ f fd, Mk K C f ∧ FnOk P w K mg base CX0 k f fd ps sp ∧ (∀ F ∈ fs, FormOk K fd ps F) ∧ mg x = some (.ref C)
abbrev FnM (K : PySem.W.Frag) (x qual : Str) (st : Stmt) (kws : List (Str × V)) (f : Addr) (fd : FuncData) : Prop := FunD K x qual (defArgs st) (defBody st) (defScope st) [] kws f fd
section
variable {P : Program} {w : World} {K : PySem.W.Frag} {mg : Str → Option Value} {base : Heap}
end
section
variable {X : Cx} {k j : Nat} {ps : List Str} {sp : Sp} {x m : Str} {p pos apos : Pos} {e o : Expr} {es : List Expr} {t tk : TA} {ta : TE} {C : Addr} {kws : List Keyword} {fs : List CForm} {n : Nat} {ks : List Str} {ms : List (Str × V)}
end
/-! ### making -/
def spO (K : PySem.W.Frag) (C : Addr) (R : List PyData → List (Str × PyData) → Prop) : Sp := fun vs H Q _ => ∃ (N : Addr → Prop) (x dx : Addr) (rest : List V) (ds : List PyData) (m : List (Str × PyData)), vs = .ref x :: rest ∧ H x = some (.ins C dx []) ∧ (∀ a, N a → H a ≠ none) ∧ ¬ N x ∧ DnAll K (fun a => N a ∨ a = x) H rest ds ∧ R ds m ∧
  ∀ H', (∀ a o, H a = some o → a ≠ x → H' a = some o) → ObOk K N H' (.ref x) C m → Q .non H'
section
variable {w : Bool} {c : Cn} {env env' : Sy} {os os' : List SO} {te ta tv to : TE} {t tk : TA} {d : PyData} {C : Addr} {m : List (Str × PyData)} {u : TS} {D : Ends}
/-! ### the body of __init__ -/
def putS (f : Str) (v : SV) : List (Str × SV) → List (Str × SV)
  | [] => [(f, v)]
  | (g, x) :: r => if g = f then (g, v) :: r else (g, x) :: putS f v r
def RetO (x : Addr) (C : Addr) (m : List (Str × PyData)) (c : Cn) (D : Ends) : Prop := ∀ ad env os σ H2, Ok c ad env os σ H2 → os[0]? = some (.ob C (m.map fun p => (p.1, SV.i p.2))) → D.nx σ H2
end
end DL
namespace DL
open PySem PySem.Spec PyProof.Rows L2
end DL

set_option Elab.async false
set_option linter.all false
set_option maxRecDepth 100000
set_option maxHeartbeats 2000000
/-! The data layer: list(o) of an instance whose __iter__ gives iter(list); properties. -/
namespace DL
open PySem PySem.Spec PyProof.Rows L2
open Evl (Ex Ex.refl Ex.trans Ex.new)
section
variable {prog : Program} {w : World} {A : Around} {E : Value → Shared → Prop} {s : Shared} {it l : Addr} {i : Nat} {items : Array Value}
end
section
variable {X : Cx} {pins : List (Addr × Obj)} {σ : L2.St} {H : Hp} {s : Shared} {A1 : Around}
variable {C fi : Addr} {fdI : FuncData} {psI : List Str} {sp : Sp} {n : Nat}
/-- list(o) of an o whose __iter__ gives an iterator over a list -/
def rItr (K : PySem.W.Frag) (C : Addr) (sp : Sp) : List V → Hp → VK → Prop := fun xs H Q => ∃ a dx fs, xs = [.ref a] ∧ H a = some (.ins C dx fs) ∧ ∀ q, H q = none →
  sp [.ref a] (upd H q (.lst [])) (fun v H1 => ∃ it l ys, v = .ref it ∧ H1 it = some (ItO l it 0) ∧ H1 q = some (.lst []) ∧ (∃ dx fs, H1 a = some (.ins C dx fs)) ∧ SqL K H1 l ys ∧ Q (.ref q) (upd (upd H1 q (.lst ys)) it (ItE it ys.length))) E0
end

/-! ### __iter__ as a promise -/
def spIt (K : PySem.W.Frag) (C : Addr) (R : List (Str × PyData) → List PyData → Prop) : Sp := fun vs H Q _ => ∃ (N : Addr → Prop) (v : V) (m : List (Str × PyData)) (ds : List PyData), vs = [v] ∧ (∀ a, N a → H a ≠ none) ∧ ObOk K N H v C m ∧ R m ds ∧
  ∀ it l ys H1, H it = none → Ex H H1 → H1 it = none → SqL K H1 l ys → DnAll K N H1 ys ds → Q (.ref it) (upd H1 it (ItO l it 0))
def RetIt (c : Cn) (ds : List PyData) (D : Ends) : Prop := ∀ it l ys H1, (∀ a o, c.H0 a = some o → ¬ c.M a → H1 a = some o) → H1 it = none → SqL c.K H1 l ys → DnAll c.K c.N0 H1 ys ds → D.rt (.ref it) (upd H1 it (ItO l it 0))
section
variable {X : Cx} {K : PySem.W.Frag} {k j : Nat} {ps : List Str} {C : Addr} {sp : Sp}
end
/-! ### properties -/
def PropP (P : Program) (w : World) (K : PySem.W.Frag) (mg : Str → Option Value) (base : Heap) (k : Nat) (C : Addr) (f : Str) (sp : Sp) : Prop :=
  ∃ p g fd, Cls K C ∧ PropOf K C f p g ∧ FnOk P w K mg base CX0 k g fd ["self"] sp ∧ Binds K fd ["self"] []
end DL
namespace DL
open PySem PySem.Spec PyProof.Rows L2 He
/-! ### the head's facts of properties -/
structure PrD where
  cl : Str
  f : Str
  d : DefD
def prP (K : PySem.W.Frag) (p : PrD) : Addr := match PySem.W.findIn K (.ref (ga K p.cl)) p.f with
  | some (some (.ref a)) => a
  | _ => 0
def prG (K : PySem.W.Frag) (p : PrD) : Addr := match PySem.W.recIn K (prP K p) "property" with
  | some (.ref g :: _) => g
  | _ => 0
def fnWA (K : PySem.W.Frag) (a : Addr) : FnW := match K.lookup a with
  | some ⟨_, _, .func fd, _⟩ => some (fd.name, fd.qualname, fd.params, fd.body, fd.scope, fd.globals, fd.closure, fd.builtins)
  | _ => none
def okA (K : PySem.W.Frag) (a : Addr) (d : DefD) : Bool := PySem.W.keepIn K (.ref a) && (match K.lookup a with
  | some ⟨_, _, .func fd, _⟩ => PySem.W.codeIn K fd.code d.qual && (dflB K fd.defaults (d.dvs K) && kwdB K fd.kwdefaults (d.kws K))
  | _ => false)
def PrD.ok (K : PySem.W.Frag) (p : PrD) : Bool := eqO (PySem.W.findIn K (.ref (ga K p.cl)) p.f) (some (some (.ref (prP K p)))) && (eqO (PySem.W.specialIn K (.ref (prP K p)) "__get__") (some (some (.builtin "property.__get__"))) && (decide (PySem.W.takesIn K (.ref (prP K p)) = some true) && ((match PySem.W.recIn K (prP K p) "property" with
  | some (.ref g :: _) => true
  | _ => false) && okA K (prG K p) p.d)))
abbrev AlP : Type := AlX × Bool × List FnW
def obsP (n : Nat) (fa : List Fa) (fn : List DefD) (ts : List Tab) (tf : List Defn) (ex : PySem.W.Frag → Bool) (pn : List PrD) (g : Addr → Option Obj) : AlP := (obsX n fa fn ts tf ex g, pn.all (PrD.ok (frT g (asD g n))), pn.map fun p => fnWA (frT g (asD g n)) (prG (frT g (asD g n)) p))
def valP (fn : List DefD) (ts : List Tab) (pn : List PrD) (w : World) : AlP := (valX fn ts w, true, pn.map fun p => p.d.val)
structure SaysP (fa : List Fa) (fn : List DefD) (ts : List Tab) (tf : List Defn) (ex : PySem.W.Frag → Bool) (pn : List PrD) (w : World) (h : Heap) (K : PySem.W.Frag) : Prop where
  x : SaysX fa fn ts tf ex w h K
  b : ∀ p ∈ pn, p.ok K = true
  v : pn.map (fun p => fnWA K (prG K p)) = pn.map fun p => p.d.val
def hookP (n : Nat) (fa : List Fa) (fn : List DefD) (ts : List Tab) (tf : List Defn) (ex : PySem.W.Frag → Bool) (pn : List PrD) : PySem.W.Hook where
  α := AlP
  obs := fun s => obsP n fa fn ts tf ex pn s.heap.get?
  val := fun w => valP fn ts pn w
  says := fun w h => ∃ K : PySem.W.Frag, K.In h ∧ SaysP fa fn ts tf ex pn w h K
  of := fun w s e => ⟨_, frT_in, saysX_of (n := n) (congrArg (fun z : AlP => z.1) e), List.all_eq_true.mp (congrArg (fun z : AlP => z.2.1) e), congrArg (fun z : AlP => z.2.2) e⟩
  keeps := fun _ _ _ ⟨K, hK, c⟩ k => ⟨K, PySem.W.Frag.In.keeps hK k, ⟨c.x.t, c.x.more, c.x.hd, c.x.out, fun p hp => k _ _ (c.x.empty p hp)⟩, c.b, c.v⟩
end DL
namespace DL
open PySem PySem.Spec PyProof.Rows L2
open Evl (Ex Ex.refl Ex.trans Ex.new)
/-! ### making, with defaults ahead of what is written -/
abbrev CForm2 := Nat × List Str × List (Str × V) × List (Str × V)
def FormOk2 (K : PySem.W.Frag) (fd : FuncData) (ps : List Str) (F : CForm2) : Prop := ∃ da db, KBn K fd ps F.1 F.2.1 (fun us ws => us ++ (da ++ (ws ++ db))) (fun vs zs => vs ++ (F.2.2.1.map (·.2) ++ (zs ++ F.2.2.2.map (·.2))))
def MakP2 (P : Program) (w : World) (K : PySem.W.Frag) (mg : Str → Option Value) (base : Heap) (k : Nat) (x : Str) (C : Addr) (ps : List Str) (sp : Sp) (fs : List CForm2) : Prop :=
  ∃ f fd, Mk K C f ∧ FnOk P w K mg base CX0 k f fd ps sp ∧ (∀ F ∈ fs, FormOk2 K fd ps F) ∧ mg x = some (.ref C)
end DL
namespace DL
open PySem PySem.Spec PyProof.Rows L2
open Evl (Ex Ex.refl Ex.trans Ex.new)
/-! ### a def that takes a list over: gives it back, or a new list -/
def spV (K : PySem.W.Frag) (j : Nat) (R : List PyData → List PyData → Prop) : Sp := fun vs H Q _ => ∃ (N : Addr → Prop) (l : Addr) (ds rs es : List PyData) (ws : List V), (∀ a, N a → H a ≠ none) ∧ ¬ N l ∧ H l = some (.lst ws) ∧ DnAll K (fun a => N a ∨ a = l) H ws es ∧ ds[j]? = some (.list es) ∧ Paired (SvOk K (fun a => N a ∨ a = l) (fun _ => l) 1 H) vs ((ds.map SV.i).set j (.r 0)) ∧ R ds rs ∧
  ∀ p H' ws', (p = l ∨ H p = none) → (∀ a o, H a = some o → a ≠ l → H' a = some o) → H' p = some (.lst ws') → DnAll K (fun a => N a ∨ a = p) H' ws' rs → Q (.ref p) H'
def RetV (c : Cn) (ds : List PyData) (D : Ends) : Prop := ∀ p H2 ws, (c.H0 p = none ∨ c.M p) → (∀ a o, c.H0 a = some o → ¬ c.M a → H2 a = some o) → H2 p = some (.lst ws) → DnAll c.K (fun a => c.N0 a ∨ a = p) H2 ws ds → D.rt (.ref p) H2
end DL
namespace DL
open PySem PySem.Spec PyProof.Rows L2
open Evl (Ex Ex.refl Ex.trans Ex.new)
def absI (i : Int) : Int := if i < 0 then -i else i
/-! ### rfind of a newline; list(range(..)) -/
/-- where the paragraph of the index i begins -/
def bgn (l : List Nat) : Nat → Nat
  | 0 => 0
  | i + 1 => if l[i]? = some 10 then i + 1 else bgn l i
/-- the ints lo .. lo + n - 1 -/
def rgI (lo : Int) (n : Nat) : List Int := (List.range n).map fun i : Nat => lo + (i : Int)
end DL

set_option Elab.async false
set_option linter.all false
set_option maxRecDepth 100000
set_option maxHeartbeats 4000000
/-! The data layer: len(set(xs)) of texts, starred targets. -/
namespace DL
open PySem PySem.Spec PyProof.Rows L2
open Evl (Ex Ex.refl Ex.trans Ex.new)
/-- how many unlike ones stand among the first i -/
def cntD (xs : List Str) : Nat → Nat
  | 0 => 0
  | i + 1 => if xs.getD i Str.empty ∈ xs.take i then cntD xs i else cntD xs i + 1
theorem cntD_le (xs : List Str) : ∀ i, cntD xs i ≤ i
  | 0 => Nat.le_refl _
  | i + 1 => by
    have := cntD_le xs i
    unfold cntD
    split <;> omega
section
variable {prog : Program} {w : World} {A : Around} {R : Result → Shared → Prop} {I S : Addr} {fp wr : List Addr} {G : Array GenState → Array GenState → Prop} {n : Nat} {P : Nat → Value → Prop} {St : Nat → Shared → Prop} {xs : List Str}
theorem setOf_keep {h h' : Heap} {F : Str → Bool} {m : Nat} (r : h.SetOf (strKind prog w) S F m) (k : ∀ o, h.get? S = some o → h'.get? S = some o) : h'.SetOf (strKind prog w) S F m := by
  obtain ⟨o, es, ep, t, ho, z⟩ := r
  exact ⟨o, es, ep, t, k o ho, z⟩
/-- the loop of an update by texts, any number of them -/
theorem strs_update (W : WalksS prog w A.in1 I fp wr G n P St) (hSf : S ∉ fp) (hsz : xs.length = n) (hn : n ≤ 4000) (hval : ∀ i v, P i v → ∃ t, v = .str (xs.getD i Str.empty) t) :
    ∀ (k i : Nat) (s : Shared), n - i = k → i ≤ n → St i s → s.heap.SetOf (strKind prog w) S (fun z => decide (z ∈ xs.take i)) (cntD xs i) →
      (∀ s', Moved (S :: wr) G s s' → s'.heap.SetOf (strKind prog w) S (fun z => decide (z ∈ xs.take n)) (cntD xs n) → R (.ok (.ret .none)) s') →
      codeAny (model prog w) A (.builtin "set.update.loop" ⟨[.ref S, .ref I], []⟩) R s := by
  have up : ∀ b ∈ wr, b ∈ S :: wr := fun b hb => List.mem_cons_of_mem _ hb
  have hSw : S ∉ wr := fun z => hSf (W.sub _ z)
  intro k
  induction k with
  | zero =>
    intro i s hk hi st hS done
    obtain rfl : i = n := by omega
    refine codeAny_builtin PyProof.Rows.F.entry_set_update_loop ?_
    rw [Around.under_plainId PyProof.Rows.F.plain_set_update_loop _]
    show wpAny _ A.in1 (pyNext (.ref I) >>= _) _ _ s
    refine wpAny_bind (W.done s _ _ st fun s' hm => ?_)
    show wpAny _ A.in1 (ret Value.none) _ _ s'
    exact wpAny_pure (done s' (hm.mono up) (setOf_keep hS fun o e => hm.heap S _ hSw e))
  | succ k ih =>
    intro i s hk hi st hS done
    have hlt : i < n := by omega
    refine codeAny_builtin PyProof.Rows.F.entry_set_update_loop ?_
    rw [Around.under_plainId PyProof.Rows.F.plain_set_update_loop _]
    show wpAny _ A.in1 (pyNext (.ref I) >>= _) _ _ s
    refine wpAny_bind (W.item i s _ _ hlt st fun v s' hP st' hm => ?_)
    obtain ⟨t, rfl⟩ := hval i v hP
    have hS1 := setOf_keep hS fun o e => hm.heap S _ hSw e
    show wpAny _ A.in1 (holding [Value.str (xs.getD i Str.empty) t] (setAdd S (.str (xs.getD i Str.empty) t)) >>= _) _ _ s'
    refine wpAny_bind (wpAny_holding ?_)
    unfold setAdd
    refine wpAny_holding (wpAny_bind ((strKind prog w).pyHash (k := xs.getD i Str.empty) (strKind_is _ _ _ _) ?_))
    have room : cntD xs i + 1 < scanBound := by have := cntD_le xs i; unfold scanBound; omega
    refine wpAny_setAddHashed_of (knd := strKind prog w) (s := { s' with toks := s'.toks + 1 }) (strKind_is _ _ _ _) rfl hS1 room fun h' sb hS2 => ?_
    have e1 : xs.take (i + 1) = xs.take i ++ [xs.getD i Str.empty] := by
      rw [List.take_add_one, List.getD_eq_getElem?_getD, List.getElem?_eq_getElem (by omega)]; rfl
    have hS3 : h'.SetOf (strKind prog w) S (fun z => decide (z ∈ xs.take (i + 1))) (cntD xs (i + 1)) := by
      refine SetOf_congr hS2 (fun z => ?_) ?_
      · show (decide (z ∈ xs.take i) || decide (z = xs.getD i Str.empty)) = decide (z ∈ xs.take (i + 1))
        rw [e1, ← Bool.decide_or]
        exact decide_eq_decide.mpr (by simp)
      · show (if decide (xs.getD i Str.empty ∈ xs.take i) = true then cntD xs i else cntD xs i + 1) = if xs.getD i Str.empty ∈ xs.take i then cntD xs i else cntD xs i + 1
        by_cases z : xs.getD i Str.empty ∈ xs.take i
        · rw [if_pos z, if_pos (decide_eq_true z)]
        · rw [if_neg z, if_neg (by simpa using z)]
    refine wpAny_pure ⟨plainId_quiet PyProof.Rows.F.plain_set_update_loop _, ih (i + 1) _ (by omega) hlt (W.frame _ s' _ _ st' (Nat.le_succ _) fun b hb o e => ?_) hS3 fun s'' hm'' hS'' => ?_⟩
    · rw [sb.2 b (fun z : b = S => hSf (z ▸ hb))]; exact e
    · refine done s'' (Moved.trans W.gtrans ((hm.mono up).then_heap (Nat.le_succ _) fun b o hb e => ?_) hm'') hS''
      rw [sb.2 b (fun z : b = S => hb (by rw [z]; exact List.mem_cons_self))]; exact e
end

section
variable {prog : Program} {w : World} {A : Around} {E : Value → Shared → Prop} {s : Shared}
set_option maxHeartbeats 3200000 in
/-- set(xs), a list of texts -/
theorem call_setS {l : Addr} {items : Array Value} {xs : List Str} {Q : Value → Shared → Prop} (hh : A.handled = none) (hl : s.heap.IsList l items) (hi : StrsAre items.toList xs) (hn : xs.length ≤ 4000)
    (h : ∀ (h' : Heap) (tk : Nat), h'.SetOf (strKind prog w) s.heap.objs.size (fun z => decide (z ∈ xs)) (cntD xs xs.length) → (∀ b o, b < s.heap.objs.size → s.heap.get? b = some o → h'.get? b = some o) → Q (.ref s.heap.objs.size) { s with heap := h', toks := tk }) :
    wpAny (model prog w) A (call (.type "set") [.ref l]) Q E s := by
  have hsz : xs.length = items.size := by rw [← StrsAre.len_eq hi, Array.length_toList]
  obtain ⟨c, tl, hmro⟩ := F.called_set.mro
  have hmade := F.called_set.made
  have hsub := F.called_set.sub
  have hnt := F.called_set.notType
  have hcan := F.called_set.canCreate
  have hct := F.typeCall_set_1 (.ref l)
  refine wpAny_call (codeAny_of_tree ?_)
  show wpAny _ _ (callAny (.type "set") _) _ _ _
  refine wpAny_pure ⟨Code.quiet_builtin _ (by decide +kernel), codeAny_builtin F.entry_type_call ?_⟩
  rw [Around.under_plain (weight_type_call_type "set" [.ref l] []) rfl]
  repeat (any_goals (first | assumption | wp_step))
  refine codeAny_mono (code_set_new_1 (.ref l) (E := E) (Q₁ := fun obj s₁ => ∃ b : Bool, obj = .ref s.heap.objs.size ∧ s₁ = { s with heap := s.heap.push { cls := .type "set", dict := none, data := .set #[] 0 (.fresh 0 0 b) } }) fun b => ⟨b, rfl, rfl⟩) fun r s₁ hr => ?_
  cases r with
  | error e => exact hr
  | ok fl =>
    cases fl with
    | ret obj =>
      obtain ⟨b, rfl, rfl⟩ := hr
      obtain ⟨a, ha⟩ : ∃ a, s.heap.objs.size = a := ⟨_, rfl⟩
      have hS : (s.heap.push { cls := .type "set", dict := none, data := .set #[] 0 (.fresh 0 0 b) }).get? s.heap.objs.size = some { cls := .type "set", dict := none, data := .set #[] 0 (.fresh 0 0 b) } := Heap.get?_push_size _ rfl
      have hT : Shared.TypeIs { s with heap := s.heap.push { cls := .type "set", dict := none, data := .set #[] 0 (.fresh 0 0 b) } } (.ref s.heap.objs.size) "set" := ⟨_, hS, rfl⟩
      have hli := F.called_set.init.lookup
      have hbi := F.called_set.init.bind (.ref s.heap.objs.size)
      repeat (any_goals (first | assumption | wp_step))
      refine codeAny_mono (codeAny_call_builtin (R := wants (fun r s₂ => r = .none ∧ ∃ h' tk, s₂ = { s with heap := h', toks := tk } ∧ h'.SetOf (strKind prog w) s.heap.objs.size (fun z => decide (z ∈ xs)) (cntD xs xs.length) ∧ (∀ b o, b < s.heap.objs.size → s.heap.get? b = some o → h'.get? b = some o)) E) F.called_set.init.plain F.entry_set_init (check_set_init_1 hT ?_)) fun r₂ s₂ hr₂ => ?_
      · obtain ⟨ol, hol, hcl, nl, hdl⟩ := hl
        obtain ⟨oc, od, dt, sl⟩ := ol
        simp only at hcl hdl
        subst hcl hdl
        have hol' : (s.heap.push { cls := .type "set", dict := none, data := .set #[] 0 (.fresh 0 0 b) }).get? l = some { cls := .type "list", dict := od, data := .seq items nl, slots := sl } := Heap.get?_push_of_some _ hol
        have hsls := F.sub_list_set
        have hslf := F.sub_list_frozenset
        have hne : (Value.type "list" == Value.type "dict") = false := by decide
        have hl1 : (s.heap.push { cls := .type "set", dict := none, data := .set #[] 0 (.fresh 0 0 b) }).IsList l items := ⟨_, hol', rfl, nl, rfl⟩
        unfold Builtin.«set.__init__» noKeywords Builtin.Frozenset.updateFrom
        generalize hPI : pyIter = PI
        wp_walk
        subst hPI
        refine wpAny_pyIter_list hl1 ?_
        refine wpAny_bind (wpAny_runValue ?_)
        have hlS : l < s.heap.objs.size := Heap.lt_size hol
        have hh3 : A.in1.in1.in1.handled = none := by simp [hh]
        have hsz1 : (s.heap.push { cls := .type "set", dict := none, data := .set #[] 0 (.fresh 0 0 b) }).objs.size = s.heap.objs.size + 1 := Heap.size_push ..
        have hneI : l ≠ (s.heap.push { cls := .type "set", dict := none, data := .set #[] 0 (.fresh 0 0 b) }).objs.size := by rw [hsz1]; exact Nat.ne_of_lt (Nat.lt_succ_of_lt hlS)
        have hSf : s.heap.objs.size ∉ [(s.heap.push { cls := .type "set", dict := none, data := .set #[] 0 (.fresh 0 0 b) }).objs.size, l] := by
          rw [hsz1]
          intro z
          rcases List.mem_cons.mp z with z | z
          · exact absurd z (Nat.ne_of_lt (Nat.lt_succ_self _))
          · exact absurd (List.mem_singleton.mp z) (Nat.ne_of_gt hlS)
        refine strs_update (xs := xs) ((Walks.list hh3 _ l hneI items).toS) hSf hsz (by omega) (fun i v hv => SS.strs_at hi i v (by rw [Array.getElem?_toList]; exact hv)) (items.size - 0) 0 _ (by omega) (Nat.zero_le _) ⟨⟨_, Heap.get?_push_size _ rfl, rfl, rfl⟩, (hl1.push _)⟩ ?hS0 ?hR
        case hS0 => exact SetOf_congr ((setObjOf_fresh (knd := strKind prog w) b).setOf (Heap.get?_push_of_some _ hS) (by unfold scanBound; omega)) (fun z => by simp) rfl
        case hR =>
          intro s' hm hS'
          obtain ⟨h', g', d', tk', os'⟩ := s'
          have eg : g' = s.gens := hm.gens
          have ed : d' = s.drawn := hm.drawn
          have eo : os' = s.os := hm.os
          subst eg ed eo
          rw [← hsz, List.take_length] at hS'
          show wpAny _ _ _ _ _ _
          refine wpAny_pure ?_
          show wpAny _ _ (ret Value.none) _ _ _
          refine wpAny_pure ⟨rfl, h', tk', rfl, hS', fun b2 o hb e => hm.heap b2 o (fun z => ?_) (Heap.get?_push_of_some _ (Heap.get?_push_of_some _ e))⟩
          rw [hsz1] at z
          rcases List.mem_cons.mp z with z | z
          · exact absurd z (Nat.ne_of_lt hb)
          · exact absurd (List.mem_singleton.mp z) (Nat.ne_of_lt (Nat.lt_succ_of_lt hb))
      · cases r₂ with
        | error e => exact hr₂
        | ok fl₂ =>
          cases fl₂ with
          | ret r =>
            obtain ⟨rfl, h', tk, rfl, hS', hk'⟩ := hr₂
            repeat (any_goals (first | assumption | wp_step))
            exact h _ _ hS' hk'
          | _ => exact hr₂.elim
    | _ => exact hr.elim
end
/-- len(set(xs)), xs a list of texts -/
def tLenS (K : PySem.W.Frag) (ta : TE) : TE := fun σ H Q => ta σ H fun x H1 => ∃ (l : Addr) (xs : List Str), x = .ref l ∧ SqL K H1 l (xs.map V.str) ∧ xs.length ≤ 4000 ∧ Q (.int (cntD xs xs.length : Nat)) H1
theorem pe_lenS {X : Cx} {K : PySem.W.Frag} {a : Expr} {ta : TE} {p p2 q pos : Pos} (hg : Gl X "len") (hm : X.mg "len" = none) (hg2 : Gl X "set") (hm2 : X.mg "set" = none) (ha : PE X a ta) (hc : X.calm = true := by rfl) (hk : X.K = K := by rfl)
    (na : starEach [a] X.env = (false, eval a X.env) :: starEach [] X.env := by rfl) : PE X (.Call (.Name "len" p) [.Call (.Name "set" p2) [a] [] q] [] pos) (tLenS K ta) := by
  subst hk
  refine ⟨fun pins s σ H Q I h => ?_⟩
  refine Call_ (ld_blt I hg hm boot_len ?_)
  refine PyProof.Rows.callWith_builtin1 (PyProof.Rows.args_cons ?_ rfl) rfl rfl
  refine Call_ (ld_blt I hg2 hm2 boot_set ?_)
  refine PyProof.Rows.callWith_type1 (PyProof.Rows.args_cons (thn (ha.run pins s σ H _ I h) fun v s1 ⟨x, H1, I1, r1, q1⟩ => PyProof.Rows.args_nil ?_) na) na rfl
  obtain ⟨l, xs, rfl, hq, hn, q1⟩ := q1
  cases r1
  obtain ⟨its, r, pl, hz⟩ := I1.list hq
  refine call_setS (I1.ok.hd hc) pl.isList (by simpa using L2.strsAre_of r) hn fun h' tk hS hk => ?_
  refine PyProof.Rows.args_nil ?_
  have hle := cntD_le xs xs.length
  obtain ⟨o, es, ep, t, ho, hex, hd, _, _, _, hf, hn2⟩ := hS
  have I2 : Inv X pins σ H1 { s1 with heap := h', toks := tk } := I1.kept fun b o e => hk b o (Heap.lt_size e) e
  exact call_len_set ho hex hd hf (by rw [hn2] <;> omega) ⟨.int (cntD xs xs.length : Nat), H1, I2.tok _, ⟨_, by rw [hn2]⟩, q1⟩

/-! ### (a, *b) = a list -/
theorem shiftW {prog : Program} {w : World} {A : Around} {I : Addr} {fp wr : List Addr} {G : Array GenState → Array GenState → Prop} {n : Nat} {P : Nat → Value → Prop} {St : Nat → Shared → Prop} (W : WalksS prog w A I fp wr G (n + 1) P St) : WalksS prog w A I fp wr G n (fun i => P (i + 1)) (fun i => St (i + 1)) where
  sub := W.sub
  grefl := W.grefl
  gtrans := W.gtrans
  frame := fun i => W.frame (i + 1)
  item := fun i s Q E hi st hQ => W.item (i + 1) s Q E (by omega) st hQ
  done := fun s Q E st hQ => W.done s Q E st hQ
  self := fun i s Q E st hQ => W.self (i + 1) s Q E st hQ
section
variable {prog : Program} {w : World} {A : Around} {E : Value → Shared → Prop} {s : Shared}
theorem unpack_star {l : Addr} {x : Value} {rest : List Value} {Q : List Value → Shared → Prop} (hh : A.handled = none) (hl : s.heap.IsList l (x :: rest).toArray) (hz : rest.length ≤ sizeLine)
    (hQ : ∀ (h' : Heap) (tk : Nat), (∀ b o, s.heap.get? b = some o → h'.get? b = some o) → Q [x, .ref h'.objs.size] { s with heap := h'.push { cls := .type "list", data := .seq rest.toArray }, toks := tk }) :
    wpAny (model prog w) A (unpackItems (.ref l) 2 (some 1)) Q E s := by
  have hlt : l ≠ s.heap.objs.size := by obtain ⟨o, ho, _⟩ := hl; exact Nat.ne_of_lt (Heap.lt_size ho)
  unfold unpackItems
  refine wpAny_bind ?_
  unfold notIterableAtAll
  refine wpAny_bind (wpAny_specialOf hl.typeIs slot_list_iter.lookup ?_)
  refine wpAny_pure ?_
  simp only [Bool.false_eq_true, if_false]
  refine wpAny_bind (wpAny_holding (wpAny_pyIter_list hl ?_))
  refine wpAny_bind (wpAny_holding (PySem.W.kun_draw hlt 1 0 _ _ ⟨_, Heap.get?_push_size _ rfl, rfl, rfl⟩ (hl.push _) (by simp) fun h₁ hit₁ hs₁ => ?_))
  have e1 : List.take 1 (List.drop 0 (x :: rest).toArray.toList) = [x] := rfl
  rw [e1]
  rw [if_neg (by simp)]
  have hl₁ : h₁.IsList l (x :: rest).toArray := (hl.push _).extBut hs₁.extBut hlt
  have hsz : (x :: rest).toArray.size = rest.length + 1 := by simp
  have W := (Walks.list (prog := prog) (w := w) (A := A.in1) hh s.heap.objs.size l hlt (x :: rest).toArray).toS
  rw [hsz] at W
  have lt1 : ∀ b ∈ [s.heap.objs.size, l], b < h₁.objs.size := fun b hb => by
    rcases List.mem_cons.mp hb with z | z
    · subst z; obtain ⟨o, ho, _⟩ := hit₁; exact Heap.lt_size ho
    · rw [List.mem_singleton.mp z]; obtain ⟨o, ho, _⟩ := hl₁; exact Heap.lt_size ho
  refine wpAny_bind (wpAny_holding (wpAny_collect_iter (T := "list_iterator") (.inr (.inr (.inl rfl))) (shiftW W) (fun i s' st => st.1.typeIs) ⟨hit₁, hl₁⟩ lt1 (List.mem_cons_self ..) (fun s' acc hm hi => ?_) hz))
  obtain ⟨h', g', d', tk', os'⟩ := s'
  have eg : g' = s.gens := hm.gens
  have ed : d' = s.drawn := hm.drawn
  have eo : os' = s.os := hm.os
  subst eg ed eo
  have eacc : acc.toList = rest := by
    have hlen : acc.toList.length = rest.length := by rw [Array.length_toList]; exact hi.1
    refine List.ext_getElem? fun j => ?_
    by_cases hj : j < rest.length
    · obtain ⟨v, hv⟩ : ∃ v, acc[j]? = some v := ⟨acc[j]'(by rw [hi.1]; exact hj), Array.getElem?_eq_getElem (by rw [hi.1]; exact hj)⟩
      have h2 := hi.2 j v hv
      simp at h2
      rw [Array.getElem?_toList, hv, h2]
    · rw [List.getElem?_eq_none (by omega), List.getElem?_eq_none (by omega)]
  have ha : ¬ acc.toList.length < 2 - 1 - 1 := by omega
  rw [if_neg ha, eacc]
  have et : List.take (rest.length - (2 - 1 - 1)) rest = rest := by simp
  have ed2 : List.drop (rest.length - (2 - 1 - 1)) rest = [] := by simp
  rw [et, ed2]
  refine wpAny_bind (wpAny_newList ?_ hz)
  refine wpAny_pure (hQ h' tk' fun b o hb => hm.heap b o (fun z => Nat.lt_irrefl _ (List.mem_singleton.mp z ▸ Heap.lt_size hb)) ?_)
  exact hs₁.extBut b o (Nat.ne_of_lt (Heap.lt_size hb)) (Heap.get?_push_of_some _ hb)
end
/-- a, *b = a list: b a new list -/
def gStar (K : PySem.W.Frag) (t : TGs) : TG := fun v σ H Q => ∃ a x xs, v = .ref a ∧ SqL K H a (x :: xs) ∧ ∀ p, H p = none → t [x, .ref p] σ (upd H p (.lst xs)) Q
theorem pg_star {X : Cx} {K : PySem.W.Frag} {pos sp : Pos} {e1 e2 : Expr} {k : Nat} {t : TGs} (h : PGs X [e1, e2] t) (hst : assignEach [e1, .Starred e2 sp] X.env = [(false, assign e1 X.env), (true, assign e2 X.env)] := by rfl) (hs2 : assignEach [e1, e2] X.env = [(false, assign e1 X.env), (false, assign e2 X.env)] := by rfl) (hc : X.calm = true := by rfl) (hk : X.K = K := by rfl) :
    PG X (.Tuple [e1, .Starred e2 sp] k pos) (gStar K t) := by
  subst hk
  refine ⟨fun pins s σ H v u Q I r hw => ?_⟩
  obtain ⟨a, x, xs, e, hq, hw⟩ := hw
  subst e
  cases r
  obtain ⟨its, rv, pl, hz⟩ := I.list hq
  cases rv with
  | @cons _ y _ ys r0 rt =>
  have hl' : s.heap.IsList a (y :: ys).toArray := pl.isList
  rw [PyProof.Rows.assign_Tuple, hst]
  refine wpAny_bind (wpAny_standAt ?_)
  unfold unpack
  have hle : ys.length ≤ sizeLine := by
    have h1 := rt.length
    rw [List.length_cons] at hz
    omega
  refine wpAny_bind (wpAny_holding (unpack_star (I.ok.hd hc) hl' hle fun h' tk hk => ?_))
  have I1 : Inv X pins σ H { s with heap := h', toks := tk } := I.kept (t' := tk) hk
  have I2 : Inv X pins σ (upd H h'.objs.size (.lst xs)) { s with heap := h'.push { cls := .type "list", data := .seq ys.toArray }, toks := tk } := I1.lnew (its := ys) (t' := tk) rt (by rw [rt.length]; exact hle)
  have := h.run pins _ σ (upd H h'.objs.size (.lst xs)) [x, .ref h'.objs.size] [y, .ref h'.objs.size] Q I2 (.cons r0 (.cons rfl .nil)) (hw _ (I1.hok.fresh (Nat.le_refl _)))
  rw [hs2] at this
  exact this
end DL

set_option Elab.async false
set_option linter.all false
set_option maxRecDepth 100000
set_option maxHeartbeats 2000000
/-! The data layer: what is drawn within tests, targets, loops, displays and comprehensions; tuple(..), signs in order, a starred target. -/
namespace DL
open PySem PySem.Spec PyProof.Rows L2
open Evl (Ex Ex.refl Ex.trans Ex.new)
theorem kTupleOf {X : Cx} {K : PySem.W.Frag} (h : X.K = K := by rfl) : CallR X (.type "tuple") (fun xs H Q => ∃ p ys, xs = [.ref p] ∧ ((SqL K H p ys ∧ ∀ l, H l = none → Q (.ref l) (upd H l (.tup ys))) ∨ (SqT K H p ys ∧ Q (.ref p) H))) := by subst h; exact call_tuple_of
section
variable {w : Bool} {c : Cn} {env env' : Sy} {os : List SO} {te ta tb tc tl td ty to : TE} {tr : TA} {u : TS} {D : Ends} {g : TG} {P PA PB : PyData → Prop} {d : PyData}
theorem fresh0 {ad : Nat → Addr} {σ : L2.St} {H : Hp} {p : Addr} (ok : Ok c ad env os σ H) (hp : H p = none) : c.H0 p = none ∨ c.M p := by
  by_cases hm : c.M p
  · exact Or.inr hm
  · refine Or.inl ?_
    cases hz : c.H0 p with
    | none => rfl
    | some o => rw [ok.ex p o hz hm] at hp; cases hp
theorem EvF.is2 {o o' : SO} (h : EvF c env os te o) (e : o = o') : EvF c env os te o' := e ▸ h
/-- text not in a list of texts -/
theorem ex_notinLt {l : List Nat} {ls : List (List Nat)} (ha : EvX true c env os ta (dT l)) (hb : EvI c env os tb ((ls.map dT).map SV.i)) : EvX w c env os (tOp (rIn c.K true) ta tb) (.bool (!decide (l ∈ ls))) := fun ad σ H ok Q q =>
  ha ad σ H ok _ fun v H1 e1 r1 => hb ad σ H1 (ok.ext e1) _ fun p vs H2 e2 hs pv => by
    rw [txs_of (paired_dn pv)] at hs
    refine ⟨p, txV ls, rfl, Or.inl hs, by rw [dn_str r1]; rfl, txV_flat ls, ?_⟩
    rw [dn_str r1]
    show Q (.bl (!inV (.str (sT l)) (txV ls))) H2
    rw [inV_txV]
    exact q _ H2 (e1.trans e2) (.bl _)
/-- tuple(a list) -/
theorem ex_tupleOf {r : List V → Hp → VK → Prop} {ds : List PyData} (hr : r = (fun xs H Q => ∃ p ys, xs = [.ref p] ∧ ((SqL c.K H p ys ∧ ∀ l, H l = none → Q (.ref l) (upd H l (.tup ys))) ∨ (SqT c.K H p ys ∧ Q (.ref p) H)))) (h : EvI c env os te (ds.map SV.i)) : EvX w c env os (tCB r (tCons te tNil)) (.tuple ds) := EvX.weak fun ad σ H ok Q q => by
  subst hr
  refine h ad σ H ok _ fun p vs H2 e hs pv => ⟨p, vs, rfl, Or.inl ⟨hs, fun l hl => q _ _ (e.trans (Ex.new hl)) ?_⟩⟩
  rw [Nw_false]
  exact .tup (SqT.of upd_same) ((paired_dn pv).ext (Ex.new hl))
/-- a <= x <= b of signs -/
theorem ex_chainS {r r' : R2} {lo x hi : Nat} (hr : r = (fun x y H Q => ∃ i j : Str, x = .str i ∧ y = .str j ∧ Q (.bl (!decide (j.cps.toList < i.cps.toList))) H)) (hr' : r' = r) (ha : EvX true c env os ta (dT [lo])) (hb : EvX true c env os tb (dT [x])) (hc : EvX true c env os tc (dT [hi])) :
    EvX w c env os (tChain r r' ta tb tc) (.bool (decide (lo ≤ x) && decide (x ≤ hi))) := fun ad σ H ok Q q => by
  subst hr hr'
  have key : ∀ a b : Nat, (!decide ((sT [b]).cps.toList < (sT [a]).cps.toList)) = decide (a ≤ b) := fun a b => by
    rw [sT_cps, sT_cps]
    have e : ([b] < [a]) ↔ b < a := by
      rw [List.cons_lt_cons_iff]
      simp
    rw [decide_eq_decide.mpr e, ← decide_not]
    exact decide_eq_decide.mpr Nat.not_lt
  refine ha ad σ H ok _ fun v H1 e1 r1 => hb ad σ H1 (ok.ext e1) _ fun u H2 e2 r2 => ⟨_, _, dn_str r1, dn_str r2, _, rfl, ?_⟩
  rw [key]
  cases hf : decide (lo ≤ x) with
  | true =>
    rw [if_pos rfl]
    exact hc ad σ H2 ((ok.ext e1).ext e2) _ fun z H3 e3 r3 => ⟨_, _, dn_str r2, dn_str r3, q _ H3 ((e1.trans e2).trans e3) (by rw [key, hf, Bool.true_and]; exact .bl _)⟩
  | false =>
    rw [if_neg (by decide)]
    exact q _ H2 (e1.trans e2) (by rw [hf, Bool.false_and]; exact .bl _)
theorem cntD_nodup {xs : List Str} (h : xs.Nodup) : ∀ i, i ≤ xs.length → cntD xs i = i
  | 0, _ => rfl
  | i + 1, hi => by
    have hlt : i < xs.length := hi
    show (if xs.getD i Str.empty ∈ xs.take i then cntD xs i else cntD xs i + 1) = i + 1
    rw [if_neg, cntD_nodup h i (by omega)]
    intro hm
    rw [List.getD_eq_getElem?_getD, List.getElem?_eq_getElem hlt] at hm
    obtain ⟨j, hj, e⟩ := List.mem_iff_getElem.mp hm
    rw [List.length_take] at hj
    rw [List.getElem_take] at e
    have := (List.getElem_inj h).mp e
    omega
/-- a, *b = a list -/
theorem gs_asgStar {i j : Nat} {ds : List PyData} (h : EvI c env os te ((d :: ds).map SV.i)) (k : Go c ((env.set i (some (.i d))).set j (some (.r os.length))) (os ++ [.lst (ds.map SV.i)]) u D) : Go c env os (tSeq (tAsg te (gStar c.K (gCons (gName i) (gCons (gName j) gNil)))) u) D := fun ad σ H ok =>
  h ad σ H ok _ fun p vs H2 e hs pv => by
    cases pv with
    | @cons v _ ws _ a b =>
      refine ⟨p, v, ws, rfl, hs, fun l hl => ⟨v, [.ref l], rfl, ⟨.ref l, [], rfl, rfl, ?_⟩⟩⟩
      have ok2 := ok.ext e
      have ok3 := (ok2.set (i := i) a).new (o := .lst (ds.map SV.i)) hl (Ex.new (o := .lst ws) hl) (fresh0 ok2 hl) ⟨ws, upd_same, Paired.imp b fun _ _ z => ?_⟩
      · exact k _ _ _ (ok3.set (i := j) (v := .ref l) (s := .r os.length) ⟨congrArg V.ref adN_same.symm, by simp⟩)
      · cases ‹SV› with
        | i d => exact (Dn.add hl z).ext (Ex.new hl)
        | ob C m => exact (ObOk.add hl z).ext (Ex.new hl)
        | z m => exact (ZOk.add hl z).ext (Ex.new hl)
        | t x => exact (TOk.add hl z).ext (Ex.new hl)
        | r k => exact z
/-! ### what is drawn -/
def EvTM (c : Cn) (env : Sy) (os : List SO) (tt : TT) (PB : Bool → Prop) : Prop := ∀ ad σ H, Ok c ad env os σ H → ∀ Q : Bool → Hp → Prop, (∀ b H2, PB b → Ok c ad env os σ H2 → Q b H2) → tt σ H Q
theorem etm_test {PB : Bool → Prop} (h : EvM c env os te (fun d => ∃ b, d = .bool b ∧ PB b)) : EvTM c env os (tTest te) PB := fun ad σ H ok Q q => h ad σ H ok _ fun v H2 d p ok2 r => by
  obtain ⟨b, rfl, hb⟩ := p
  exact ⟨b, dn_bool r, q b H2 hb ok2⟩
theorem gs_ifM {tt : TT} {t v : TS} {PB : Bool → Prop} (h : EvTM c env os tt PB) (h1 : PB true → Go c env os t { D with nx := u D }) (h2 : PB false → Go c env os v { D with nx := u D }) : Go c env os (tSeq (tIfS tt t v) u) D := fun ad σ H ok =>
  h ad σ H ok _ fun b H2 p ok2 => by
    cases b with
    | true => exact h1 p ad σ H2 ok2
    | false => exact h2 p ad σ H2 ok2
/-- .. with what both ways lead to -/
theorem gs_ifMJ {α : Type} {tt : TT} {t v : TS} {PB : Bool → Prop} (PA : α → Prop) (E : α → Sy) (O : α → List SO) (h : EvTM c env os tt PB) (k : ∀ a, PA a → Go c (E a) (O a) u D)
    (h1 : PB true → (∀ a, PA a → Go c (E a) (O a) u D) → Go c env os t { D with nx := u D }) (h2 : PB false → (∀ a, PA a → Go c (E a) (O a) u D) → Go c env os v { D with nx := u D }) : Go c env os (tSeq (tIfS tt t v) u) D := gs_ifM h (fun p => h1 p k) (fun p => h2 p k)
theorem gs_ifJA {α : Type} {tt : TT} {t v : TS} {b : Bool} (PA : α → Prop) (E : α → Sy) (O : α → List SO) (h : EvT c env os tt b) (k : ∀ a, PA a → Go c (E a) (O a) u D)
    (h1 : b = true → (∀ a, PA a → Go c (E a) (O a) u D) → Go c env os t { D with nx := u D }) (h2 : b = false → (∀ a, PA a → Go c (E a) (O a) u D) → Go c env os v { D with nx := u D }) : Go c env os (tSeq (tIfS tt t v) u) D := gs_if h (fun p => h1 p k) (fun p => h2 p k)
def EvWM (c : Cn) (env : Sy) (os : List SO) (wi : TI) (PN : Nat → Prop) (it : Nat → SV) (G : List SO → Prop) : Prop := ∀ ad σ H, Ok c ad env os σ H → ∀ R : It → Hp → Prop,
  (∀ n J H1 fr, PN n → Ok (c.w fr os.length) ad env os σ H1 → (∀ ad' env' os' σ' H', Ok (c.w fr os.length) ad' env' os' σ' H' → Ok c ad' env' os' σ' H') → WalkD (c.w fr os.length) J n it G → R J H1) → wi σ H R
theorem ewm {wi : TI} {n : Nat} {it : Nat → SV} {G : List SO → Prop} {PN : Nat → Prop} (h : EvW c env os wi n it G) (hn : PN n) : EvWM c env os wi PN it G := fun ad σ H ok R q => h ad σ H ok R fun J H1 fr _ ok1 up W => q n J H1 fr hn ok1 up W
theorem ewm_range1 {PN : Nat → Prop} (h : EvM c env os te (fun d => ∃ n : Int, d = .int n ∧ -1000000000000 ≤ n ∧ n ≤ 1000000000000 ∧ PN n.toNat)) : EvWM c env os (iRng1 (tCons te tNil)) PN (fun i => .i (.int (i : Int))) (fun _ => True) := fun ad σ H ok R q =>
  h ad σ H ok _ fun v H1 d p ok1 r => by
    obtain ⟨n, rfl, h1, h2, hn⟩ := p
    cases dn_int r
    refine ⟨n, rfl, by omega, by omega, q _ _ H1 c.fr hn ok1.pin0 (up_pin0 ok1) ⟨fun i ad' env' os' σ' H' hi o _ => hi, fun ad' env' os' σ' H' o _ => Nat.le_refl _, fun i ad' env' os' σ' H' x H'' hi o _ y => ?_⟩⟩
    obtain ⟨rfl, rfl⟩ := y
    refine ⟨Ex.refl _, ?_⟩
    rw [Int.zero_add]
    exact Dn.int _
def OkI (c : Cn) (J : Sy → List SO → Prop) : L2.St → Hp → Prop := fun σ H => ∃ e o, J e o ∧ OkE c e o σ H
/-- a for whose slots and store are known by what holds of them -/
theorem gs_forN {wi : TI} {it : Nat → SV} {G : List SO → Prop} {tb : TS} (PN : Nat → Prop) (I : Nat → Sy → List SO → Prop) (hw : EvWM c env os wi PN it G)
    (h0 : I 0 env os) (hG : ∀ i e o, I i e o → G o)
    (hs : ∀ fr, Up c (c.w fr os.length) → ∀ n i e o, PN n → i < n → I i e o → ∃ env' js, Tg (c.w fr os.length) e o g (it i) env' js ∧ Go (c.w fr os.length) env' o tb { D with nx := OkI (c.w fr os.length) (I (i + 1)), ct := OkI (c.w fr os.length) (I (i + 1)), bk := u D })
    (hd : ∀ n e o, PN n → I n e o → Go c e o u D) : Go c env os (tSeq (tFor wi g tb) u) D := fun ad σ H ok => by
  refine hw ad σ H ok _ fun n J H1 fr hn ok1 up W => ?_
  refine ⟨fun i m σ H => m = n - i ∧ i ≤ n ∧ OkI (c.w fr os.length) (I i) σ H, ⟨n, by simp, Nat.zero_le _, env, os, h0, ad, ok1⟩, ?_⟩
  rintro i m σ H ⟨rfl, hi, e0, o0, hI, ad', ok'⟩
  by_cases hlt : i < n
  · refine .inr ⟨W.goes i _ _ _ _ _ hlt ok' (hG i _ _ hI), OkI (c.w fr os.length) (I (i + 1)), fun σ' H' p' => ⟨n - (i + 1), by omega, rfl, hlt, p'⟩, fun x H' y => ?_⟩
    obtain ⟨e2, r⟩ := W.yields i _ _ _ _ _ x H' hlt ok' (hG i _ _ hI) y
    obtain ⟨env', js, ht, hb⟩ := hs fr up n i e0 o0 hn hlt hI
    exact ht ad' σ H' x (ok'.ext e2) r _ fun σ2 ok2 _ => hb ad' σ2 H' ok2
  · have q : i = n := by omega
    subst q
    exact .inl ⟨W.stops _ _ _ _ _ ok' (hG i _ _ hI), hd i e0 o0 hn hI ad' σ H (up _ _ _ _ _ ok')⟩
theorem gs_nxI {J : Sy → List SO → Prop} {e : Sy} {o : List SO} (hj : J e o) (h : ∀ ad σ H, Ok c ad env os σ H → OkE c e o σ H) (hD : D.nx = OkI c J := by rfl) : Go c env os tNext D := fun ad σ H ok => by
  show D.nx σ H
  rw [hD]
  exact ⟨e, o, hj, h ad σ H ok⟩
/-- [.. for .. in ..] whose elements are drawn -/
theorem em_lc {wi : TI} {n : Nat} {it : Nat → SV} {G : List SO → Prop} {vs : List Nat} {PE : PyData → Prop} {tt : TT} (hw : EvW c env os wi n it G) (hG : ∀ o, G (os ++ [o])) (hz : n ≤ 40000) (he : wipeE env vs = env) (hO : OsLt os.length os) (hE : EnLt os.length env)
    (hs : ∀ fr lo, Up c (c.w fr lo) → ∀ acc i, i < n → ∃ env' js, (∀ j ∈ js, j ∈ vs) ∧ wipeE env' vs = env ∧ Tg (c.w fr lo) env (os ++ [.lst acc]) g (it i) env' js ∧ EvT (c.w fr lo) env' (os ++ [.lst acc]) tt true ∧ EvM (c.w fr lo) env' (os ++ [.lst acc]) te PE) :
    EvM c env os (tLc wi g tt te vs) (fun d => ∃ ds, d = .list ds ∧ ds.length = n ∧ ∀ x ∈ ds, PE x) := fun ad σ H ok Q q => by
  refine hw ad σ H ok _ fun J H1 fr e1 ok1 up W Da hD => ?_
  have ok2 := ok1.new (o := .lst []) hD (Ex.new (o := .lst []) hD) (fresh0 ok1 hD) ⟨[], upd_same, .nil⟩
  have ok3 := ok2.pin (v := .ref Da) (s := .r os.length) ⟨congrArg V.ref adN_same.symm, by simp⟩
  have ok4 := ok3.wipe vs
  rw [he] at ok4
  have up2 := up_pin (v := .ref Da) (s := .r os.length) ok2
  generalize hlo : (os ++ [SO.lst []]).length = lo at ok4 up2
  generalize hfr : ((V.ref Da, SV.r os.length) :: fr) = fr' at ok4 up2
  have upc : Up c (c.w fr' lo) := fun a b d e f z => up _ _ _ _ _ (up2 _ _ _ _ _ z)
  refine ⟨fun i m H => m = n - i ∧ i ≤ n ∧ ∃ ds : List PyData, ds.length = i ∧ (∀ x ∈ ds, PE x) ∧ Ok (c.w fr' lo) (adN ad os.length Da) env (os ++ [.lst (ds.map SV.i)]) (wipe σ vs) H, ⟨n, by simp, Nat.zero_le _, [], rfl, fun x hx => absurd hx List.not_mem_nil, ok4⟩, ?_⟩
  rintro i m H' ⟨rfl, hi, ds, hds, hPE, ok'⟩
  have hget : (os ++ [SO.lst (ds.map SV.i)])[os.length]? = some (.lst (ds.map SV.i)) := by simp
  by_cases hlt : i < n
  · refine .inr ⟨W.goes i _ _ _ _ _ hlt (up2 _ _ _ _ _ ok') (hG _), fun H'' => ∃ d : PyData, PE d ∧ Ok (c.w fr' lo) (adN ad os.length Da) env (os ++ [.lst ((ds ++ [d]).map SV.i)]) (wipe σ vs) H'', fun H'' p' => ⟨n - (i + 1), by omega, rfl, hlt, ?_⟩, fun x H'' y => ?_⟩
    · obtain ⟨d, hd, okd⟩ := p'
      exact ⟨ds ++ [d], by simp [hds], fun x hx => by
        rcases List.mem_append.mp hx with z | z
        · exact hPE x z
        · rw [List.mem_singleton.mp z]; exact hd, okd⟩
    obtain ⟨e2, r⟩ := W.yields i _ _ _ _ _ x H'' hlt (up2 _ _ _ _ _ ok') (hG _) y
    have ok5 := ok'.ext e2
    obtain ⟨env', js, hjs, hwe, ht, hb, hte⟩ := hs fr' lo upc (ds.map SV.i) i hlt
    refine ht _ _ H'' x ok5 r _ fun σ2 ok6 hwp => ?_
    have hww : wipe σ2 vs = wipe σ vs := by
      rw [hwp vs hjs]
      have idem : ∀ (us : List Nat) (τ : L2.St), (∀ j ∈ us, τ[j]? = some none ∨ τ[j]? = none) → wipe τ us = τ := by
        intro us
        induction us with
        | nil => intro τ _; rfl
        | cons u us ih =>
          intro τ h
          show (wipe τ us).set u none = τ
          rw [ih τ fun j hj => h j (List.mem_cons_of_mem _ hj)]
          rcases h u (List.mem_cons_self ..) with z | z
          · obtain ⟨h1, h2⟩ := List.getElem?_eq_some_iff.mp z
            exact List.ext_getElem? fun k => by
              by_cases q : u = k
              · subst q; rw [List.getElem?_set_self h1, z]
              · rw [List.getElem?_set_ne q]
          · exact List.set_eq_of_length_le (List.getElem?_eq_none_iff.mp z)
      refine idem vs _ fun j hj => ?_
      cases hx : (wipe σ vs)[j]? with
      | none => exact Or.inr rfl
      | some o =>
        cases o with
        | none => exact Or.inl rfl
        | some v => exact absurd hj (wipe_some hx).2
    refine ⟨hww, hb _ σ2 H'' ok6 _ fun H3 e3 => ?_⟩
    rw [if_pos rfl]
    refine hte _ σ2 H3 (ok6.ext e3) _ fun y H4 d hd ok7 ry => ?_
    have ok8 := ok7.wipe vs
    rw [hwe, hww] at ok8
    obtain ⟨_, ws, hws, pws⟩ := ok8.obj os.length _ hget rfl
    rw [adN_same] at hws
    refine ⟨ws, hws, ?_, d, hd, ?_⟩
    · rw [Paired.length pws, List.length_map, hds]
      exact Nat.lt_of_lt_of_le (show i < 40000 by omega) (by decide)
    · have hN : Nof (c.w fr' lo) (adN ad os.length Da) (os ++ [SO.lst (ds.map SV.i)]) Da := Or.inr ⟨os.length, ⟨_, hget, rfl⟩, adN_same.symm⟩
      have m := ok8.mut (o' := .lst ((ds ++ [d]).map SV.i)) (u' := .lst (ws ++ [y])) hget rfl rfl (by
        rw [adN_same]
        refine ⟨_, upd_same, ?_⟩
        rw [List.map_append]
        exact paired_snoc (Paired.imp pws fun _ _ z => z.mut hws rfl hN) (show Dn _ _ _ _ _ from Dn.mut hws rfl hN ry))
      rw [adN_same] at m
      have es : (os ++ [SO.lst (ds.map SV.i)]).set os.length (SO.lst ((ds ++ [d]).map SV.i)) = os ++ [SO.lst ((ds ++ [d]).map SV.i)] := by
        rw [List.set_append_right _ _ (Nat.le_refl _), Nat.sub_self]
        rfl
      rw [es] at m
      exact m
  · have q0 : i = n := by omega
    subst q0
    refine .inl ⟨W.stops _ _ _ _ _ (up2 _ _ _ _ _ ok') (hG _), ?_⟩
    have okc := upc _ _ _ _ _ ok'
    obtain ⟨_, ws, hws, pws⟩ := okc.obj os.length _ hget rfl
    rw [adN_same] at hws
    have lvU : ∀ k, Lv os k → Lv (os ++ [SO.lst (ds.map SV.i)]) k ∧ k < os.length := fun k ⟨o, h1, h2⟩ => by
      have hk : k < os.length := (List.getElem?_eq_some_iff.mp h1).1
      exact ⟨⟨o, by rw [List.getElem?_append_left hk]; exact h1, h2⟩, hk⟩
    have hN : ∀ a, Nof c ad os a → Nof c (adN ad os.length Da) (os ++ [SO.lst (ds.map SV.i)]) a := fun a z => by
      rcases z with z | ⟨k, l, z⟩
      · exact Or.inl z
      · obtain ⟨l2, hk⟩ := lvU k l
        exact Or.inr ⟨k, l2, by rw [adN_ne (by omega)]; exact z⟩
    have hv : ∀ m v s, SvLt os.length s → SvOk c.K (Nof c (adN ad os.length Da) (os ++ [SO.lst (ds.map SV.i)])) (adN ad os.length Da) m H' v s → SvOk c.K (Nof c ad os) ad os.length H' v s := fun m v s l h => by
      cases s with
      | i d => exact Dn.sub hN h
      | t x => exact TOk.sub hN h
      | ob C m => exact ObOk.sub hN h
      | z m => exact ZOk.sub hN h
      | r k => exact ⟨by rw [h.1, adN_ne (Nat.ne_of_lt l)], l⟩
    have okR : Ok c ad env os σ H' := by
      refine ⟨ok.len, okc.ex, okc.n0, fun j s h => ?_, fun k o h l => ?_, fun k j lk lj z => ?_, fun k lk => ?_, fun p hp => ?_, ok.low⟩
      · obtain ⟨v, h1, h2⟩ := okc.val j s h
        exact ⟨v, (wipe_some h1).1, hv _ v s (hE.get h) h2⟩
      · obtain ⟨lv, hk⟩ := lvU k ⟨o, h, l⟩
        obtain ⟨h1, h2⟩ := okc.obj k o (by rw [List.getElem?_append_left hk]; exact h) l
        rw [adN_ne (Nat.ne_of_lt hk)] at h1 h2
        refine ⟨h1, ?_⟩
        have lt := hO.get h
        cases o with
        | x => exact True.intro
        | lst xs => obtain ⟨vs, e, p⟩ := h2; exact ⟨vs, e, Paired.impR p fun a b m q => hv _ _ _ (lt b m) q⟩
        | dK kvs => obtain ⟨vs, e, p⟩ := h2; exact ⟨vs, e, Paired.impR p fun a b m q => ⟨q.1, hv _ _ _ (lt b m) q.2⟩⟩
        | dT kvs => obtain ⟨vs, e, p⟩ := h2; exact ⟨vs, e, Paired.impR p fun a b m q => ⟨q.1, hv _ _ _ (lt b m) q.2⟩⟩
        | ho g => exact h2
        | tb P => exact h2
        | nums => exact h2
        | lk lo kvs => obtain ⟨e, p⟩ := h2; exact ⟨e, Paired.impR p fun a b m q => ⟨q.1, hv _ _ _ (lt b m) q.2⟩⟩
        | stt k => obtain ⟨v, a, m, e, r⟩ := h2; exact ⟨v, a, m, e, hv _ _ _ lt r⟩
        | ob C fs => obtain ⟨dx, vs, e, p⟩ := h2; exact ⟨dx, vs, e, Paired.impR p fun a b m q => ⟨q.1, hv _ _ _ (lt b m) q.2⟩⟩
      · obtain ⟨l1, hk⟩ := lvU k lk
        obtain ⟨l2, hj⟩ := lvU j lj
        exact okc.inj k j l1 l2 (by rw [adN_ne (Nat.ne_of_lt hk), adN_ne (Nat.ne_of_lt hj)]; exact z)
      · obtain ⟨l1, hk⟩ := lvU k lk
        have := okc.nn k l1
        rw [adN_ne (Nat.ne_of_lt hk)] at this
        exact this
      · have h1 := okc.frm p hp
        have h2 := ok.frm p hp
        cases hs : p.2 with
        | r k =>
          rw [hs] at h2
          exact h2
        | i d => rw [hs] at h1; exact Dn.sub hN h1
        | t x => rw [hs] at h1; exact TOk.sub hN h1
        | ob C m => rw [hs] at h1; exact ObOk.sub hN h1
        | z m => rw [hs] at h1; exact ZOk.sub hN h1
    refine q _ H' _ ⟨ds, rfl, hds, hPE⟩ okR (.lst (Or.inl hws) (fun z => ?_) ((paired_dn pws).sub hN))
    exact ok1.nof (show Nof (c.w fr os.length) ad os Da from z) hD
/-- ''.join(..) of drawn texts -/
theorem joinL_nil : ∀ ls : List (List Nat), TL.joinL [] ls = ls.flatten
  | [] => rfl
  | [p] => by simp [TL.joinL]
  | p :: q :: r => by
    show p ++ ([] ++ TL.joinL [] (q :: r)) = _
    rw [joinL_nil (q :: r), List.nil_append]
    simp
theorem em_join {r : V → List V → Hp → VK → Prop} {PT : List (List Nat) → Prop} (hr : r = (fun x xs H Q => ∃ a p, ∃ ys : List Str, x = .str a ∧ xs = [.ref p] ∧ (SqL c.K H p (ys.map V.str) ∨ SqT c.K H p (ys.map V.str)) ∧ (ys.map (·.length)).sum + ys.length * a.length ≤ 16777216 ∧ Q (.str (Txt.join a ys)) H))
    (ho : EvX true c env os to (dT [])) (h : EvM c env os te (fun d => ∃ ls : List (List Nat), d = .list (ls.map dT) ∧ PT ls)) (hl : ∀ ls, PT ls → (ls.map List.length).sum ≤ 16777216) : EvM c env os (tM1 r to te) (fun d => ∃ ls, PT ls ∧ d = dT ls.flatten) := fun ad σ H ok Q q => by
  subst hr
  refine ho ad σ H ok _ fun v H1 e1 r1 => ⟨⟨_, dn_str r1⟩, h ad σ H1 (ok.ext e1) _ fun x H2 d p ok2 r2 => ?_⟩
  obtain ⟨ls, rfl, hp⟩ := p
  have hsq : ∃ p, x = .ref p ∧ SqL c.K H2 p ((ls.map sT).map V.str) := by
    have ev : ∀ vs, DnAll c.K (Nof c ad os) H2 vs (ls.map dT) → vs = (ls.map sT).map V.str := fun vs pd => by
      clear r2 hp q h hl
      induction ls generalizing vs with
      | nil => cases pd; rfl
      | cons x xs ih =>
        cases pd with
        | cons a b => rw [dn_str a, ih _ b]; rfl
    cases r2 with
    | lst r n a => exact ⟨_, rfl, ev _ a ▸ Or.inl r⟩
    | lstK r a => exact ⟨_, rfl, ev _ a ▸ Or.inr r⟩
  obtain ⟨p, rfl, hs⟩ := hsq
  refine ⟨sT [], p, ls.map sT, dn_str r1, rfl, Or.inl hs, ?_, ?_⟩
  · have e : ((ls.map sT).map (·.length)).sum = (ls.map List.length).sum := by
      rw [List.map_map]
      exact congrArg _ (List.map_congr_left fun a _ => sT_len a)
    rw [e]
    have := hl ls hp
    rw [show (sT []).length = 0 from rfl]
    omega
  · have e : Txt.join (sT []) (ls.map sT) = sT ls.flatten := by
      refine TL.ext_tl ?_
      rw [TL.join_eq, TL.tl_join, List.map_map]
      have e1 : ls.map (TL.tl ∘ sT) = ls := by
        have : ∀ l : List Nat, (TL.tl ∘ sT) l = l := fun l => sT_cps l
        rw [List.map_congr_left fun l _ => this l]
        exact List.map_id' ls
      rw [e1]
      show TL.joinL [] ls = TL.tl (sT ls.flatten)
      rw [joinL_nil]
    rw [e]
    exact q _ H2 _ ⟨ls, hp, rfl⟩ ok2 (.str _)
/-- a sign of a text at a drawn place -/
theorem em_ixS {l : List Nat} (ha : EvX true c env os ta (dT l)) (hb : EvM c env os tb (fun d => ∃ i : Nat, d = .int (i : Int) ∧ i < l.length)) (hl : l.length ≤ 16777216) : EvM c env os (tOp rIxS ta tb) (fun d => ∃ x ∈ l, d = dT [x]) := fun ad σ H ok Q q =>
  ha ad σ H ok _ fun v H1 e1 r1 => hb ad σ H1 (ok.ext e1) _ fun u H2 d p ok2 r2 => by
    obtain ⟨i, rfl, hi⟩ := p
    exact ⟨sT l, i, l[i], dn_str r1, dn_int r2, by rw [sT_len]; exact hl, by rw [sT_cps]; exact atI_nat (List.getElem?_eq_getElem hi), q _ H2 _ ⟨l[i], List.getElem_mem hi, rfl⟩ ok2 (.str _)⟩
end
end DL
namespace DL
open PySem PySem.Spec PyProof.Rows L2
theorem kLenS {X : Cx} {K : PySem.W.Frag} {a : Expr} {ta : TE} {p p2 q pos : Pos} (hg : Gl X "len") (hm : X.mg "len" = none) (hg2 : Gl X "set") (hm2 : X.mg "set" = none) (ha : PE X a ta) (hc : X.calm = true := by rfl) (hk : X.K = K := by rfl)
    (na : starEach [a] X.env = (false, eval a X.env) :: starEach [] X.env := by rfl) : PE X (.Call (.Name "len" p) [.Call (.Name "set" p2) [a] [] q] [] pos) (tLenS K ta) := pe_lenS hg hm hg2 hm2 ha hc hk na
def rJoin (K : PySem.W.Frag) : V → List V → Hp → VK → Prop := fun x xs H Q => ∃ a p, ∃ ys : List Str, x = .str a ∧ xs = [.ref p] ∧ (SqL K H p (ys.map V.str) ∨ SqT K H p (ys.map V.str)) ∧ (ys.map (·.length)).sum + ys.length * a.length ≤ 16777216 ∧ Q (.str (Txt.join a ys)) H
theorem kJoin {X : Cx} {K : PySem.W.Frag} {o e : Expr} {to te : TE} {apos pos : Pos} (ho : PE X o to) (he : PE X e te) (hk : X.K = K := by rfl) (hs : starEach [e] X.env = [(false, eval e X.env)] := by rfl) (hbase : attributeBase o "join" X.env (eval o X.env) = eval o X.env := by rfl) (hline : (apos.endLine == pos.line) = true := by rfl) :
    PE X (.Call (.Attribute o "join" apos) [e] [] pos) (tM1 (rJoin K) to te) := by subst hk; exact pe_join ho he hs hbase hline
theorem kStarT {X : Cx} {K : PySem.W.Frag} {pos sp : Pos} {e1 e2 : Expr} {k : Nat} {t : TGs} (h : PGs X [e1, e2] t) (hst : assignEach [e1, .Starred e2 sp] X.env = [(false, assign e1 X.env), (true, assign e2 X.env)] := by rfl) (hs2 : assignEach [e1, e2] X.env = [(false, assign e1 X.env), (false, assign e2 X.env)] := by rfl) (hc : X.calm = true := by rfl) (hk : X.K = K := by rfl) :
    PG X (.Tuple [e1, .Starred e2 sp] k pos) (gStar K t) := pg_star h hst hs2 hc hk
end DL

set_option Elab.async false
set_option linter.all false
set_option maxRecDepth 100000
set_option maxHeartbeats 4000000
/-! Errors with a value: asked by isinstance, several except clauses with names. -/
namespace DL
open PySem PySem.Spec PyProof.Rows L2
/-! ### isinstance of an error that has its own dict -/
section
open PySem.W PySem.Calls
variable {prog : Program} {w : World} {A : Around} {E : Value → Shared → Prop} {s : Shared} {K : Frag} {x D : Addr} {ox : Obj} {od : Option Obj}
theorem find_descr {C : Addr} {name : Str} {a g : Value} (hc : (clsIn K C).isSome = true) (ha : findIn K (.ref C) name = some (some a)) (hg : specialIn K a "__get__" = some (some g)) (ht : takesIn K a = some true) : findObj K C od name = some (.bind g a) := by
  cases e : clsIn K C with
  | none => rw [e] at hc; cases hc
  | some cd => simp [findObj, e, ha, hg, ht]
theorem cls_of_exc {Q : Option Value → Shared → Prop} (C : ExcC K D) (X : K.In s.heap) (I : InstAt s.heap x ox D od) (h : Q (some (.ref D)) { s with toks := s.toks + 1 }) : wpAny (model prog w) A (getAttr? (.ref x) "__class__") Q E s := by
  have hf : findObj K D od "__class__" = some (.bind (.builtin "getset_descriptor.__get__") (.builtin "object.__class__")) := find_descr (by obtain ⟨cd, hc, _⟩ := any_some C.hd; simp [hc]) C.ha C.hn C.ht
  obtain ⟨hp, g, d, t, os⟩ := s
  have ty := I.type (M := model prog w)
  have isE : Looks (model prog w) hp (isInstance (.ref x) (.type "BaseException")) true := ty.andThen (looks_subIn X C.hs)
  have ne : (Value.builtin "BaseException.__getattribute__" == Value.builtin "object.__getattribute__") = false := by decide +kernel
  unfold getAttr? getAttrBy? getAttrBy
  refine wpAny_bind (wpAny_mkText (wpAny_bind (wpAny_attempt (wpAny_holding (wpAny_bind (ty.at (wpAny_bind ((looks_findIn (M := model prog w) X C.hg).at ?_))))))))
  dsimp only
  rw [ne, Bool.and_false, if_neg Bool.false_ne_true]
  unfold getAttrByItsOwn hookBefore
  refine wpAny_bind ?_
  rw [if_pos (show onTheHeap (Value.ref D) = true from rfl)]
  refine (looks_findIn (M := model prog w) X C.hk).at (wpAny_bind (wpAny_attempt (wpAny_holding ?_)))
  unfold callGetattribute
  rw [if_neg (show ¬ ((false && onTheHeap (Value.builtin "BaseException.__getattribute__")) = true) from Bool.false_ne_true)]
  unfold boundAndCalled
  rw [PySem.F.excAttr_ValueError.ga.bind (.ref x)]
  refine wpAny_bind (wpAny_pure ?_)
  show wpAny _ _ (call (.builtin "BaseException.__getattribute__") [.ref x, .str "__class__" t]) _ _ _
  refine wpAny_call (codeAny_call_builtin PySem.F.excAttr_ValueError.ga.plain PySem.F.entry_bexc_ga ?_)
  refine @check_slot (model prog w) _ _ ⟨hp, g, d, t + 1, os⟩ "BaseException.__getattribute__" "BaseException" "__getattribute__" (.ref x) [.str "__class__" t] [] _ (by decide +kernel) (by decide +kernel) isE (PySem.F.args_bexc_ga (.ref x) (.str "__class__" t)) ?_
  unfold Builtin.«object.__getattribute__»
  refine wpAny_bind (wpAny_of_eq (a := ((Value.ref x : Value), [Value.str "__class__" t])) (by first | rfl | (simp only [slotArgs]; rfl)) ?_)
  refine wpAny_bind (wpAny_pure (wpAny_bind (ty.at (wpAny_bind ((looks_find (M := model prog w) X I hf).at ?_)))))
  show wpAny _ _ (holding [Value.builtin "object.__class__"] (call (.builtin "getset_descriptor.__get__") [.builtin "object.__class__", .ref x, .ref D]) >>= ret) _ _ _
  refine wpAny_bind (wpAny_holding (wpAny_call (class_get (s := ⟨hp, g, d, t + 1, os⟩) (ox := ox) (od := od) X I C.hm ?_)))
  refine wpAny_pure ?_
  show wpAny _ _ (handedOut (.ref D)) _ _ _
  rw [handedOut_of (v := .ref D) rfl]
  first
    | exact wpAny_pure (wpAny_pure h)
    | exact wpAny_pure h
    | exact wpAny_pure (wpAny_bind (wpAny_pure (wpAny_pure h)))
theorem kit_of_exc (C : ExcC K D) : KitX K (.ref x) (.ref D) (fun h => ∃ ox od, InstAt h x ox D od) := by
  obtain ⟨cd, hcd, _⟩ := any_some C.hd
  have there : ∃ c' d' sl, K.lookup D = some ⟨c', d', .cls cd, sl⟩ := by
    unfold clsIn at hcd
    split at hcd
    · rename_i c' d' cd' sl' ho
      cases hcd
      exact ⟨_, _, _, ho⟩
    · cases hcd
  obtain ⟨c', d', sl, ho⟩ := there
  refine ⟨fun M h X ⟨ox, od, I⟩ => I.type, fun M h X _ => fun A' Q' E' s' k q => ?_, fun h tp dd its n sl X htp => ?_, fun X ⟨ox, od, I⟩ k => cls_of_exc C X I k⟩
  · unfold isType loadHead
    exact wpAny_bind (wpAny_loadPart (k _ _ (X _ _ ho)) (wpAny_pure q))
  · refine Bool.eq_false_iff.mpr fun q => ?_
    rw [← Value.ref.inj (beq_iff_eq.mp q)] at htp
    have z := (X _ _ ho).symm.trans htp
    cases z
end
/-- isinstance(e, c), e the error that the suite holds; its class D, its dict d -/
theorem call_isD {X : Cx} {a D dd : Addr} {oe : Obj} {fs : List (Str × V)} {pn : List (Addr × Obj)} (C : ExcC X.K D) (hz : Zc (.ref D) (some dd) oe) (hf : ∃ vs, oe.data = .fields vs) :
    CallR (X.suite a ((a, oe) :: pn)) (.builtin "isinstance") (fun xs H Q => (∃ fs, H dd = some (.xd fs)) ∧ rIsE X.K D a xs H Q) := by
  intro pins s σ H xs us Q I r h
  obtain ⟨⟨fs, hdd⟩, c, cv, b, rfl, hcv, e, q⟩ := h
  cases r with
  | cons rx rr =>
    cases rr with
    | cons rt rr =>
      cases rr
      cases rx
      have ec := hcv _ rt
      subst ec
      obtain ⟨hget, _⟩ := I.pin (a, oe) (List.mem_append.mpr (.inl List.mem_cons_self))
      obtain ⟨vs, hv⟩ := hf
      have hx : ObjOk X.prog X.w H s.heap dd (.xd fs) := I.hok dd _ hdd
      obtain ⟨mA, hns, hr⟩ := hx
      obtain ⟨od, ho, hl⟩ := lookIn_ns hns
      have J : PySem.W.InstAt s.heap a oe D (some od) := ⟨hget, hz.1, by unfold PySem.W.notCls; rw [hv] <;> rfl, by rw [hz.2]; exact ho⟩
      exact PySem.W.kia_one (kit_of_exc C) I.kIn ⟨_, _, J⟩ e (fun z => nomatch z) fun tk => ⟨.bl b, H, I.kept (t' := tk) fun _ _ z => z, rfl, q⟩
/-! ### try: several except clauses, each with or without a name -/
/-- a clause: its class, the slot of its name, what its suite asks -/
abbrev Cl : Type := Value × Option Nat × (Addr → Value → Option Addr → TS)
def endAs (i : Nat) (D : Ends) : Ends := { nx := fun σ' H' => D.nx (σ'.set i none) H', rt := D.rt, bk := fun σ' H' => D.bk (σ'.set i none) H', ct := fun σ' H' => D.ct (σ'.set i none) H' }
def clT (D : Ends) (a : Addr) (cls : Value) (d : Option Addr) (σ : L2.St) (H : L2.Hp) : Option Nat → (Addr → Value → Option Addr → TS) → Prop
  | none, ts => ts a cls d D σ H
  | some i, ts => ts a cls d (endAs i D) (σ.set i (some (.ref a))) H
def wCl (K : PySem.W.Frag) (Wout : WX) (D : Ends) : List Cl → WX
  | [] => Wout
  | (c, n, ts) :: r => fun cls d σ H => ∃ b, PySem.W.exmOne K cls c = some b ∧ (b = true → ∀ a, H a = none → clT D a cls d σ H n ts) ∧ (b = false → wCl K Wout D r cls d σ H)
inductive ClOk (X : Cx) : List ExceptHandler → List Cl → Prop
  | nil : ClOk X [] []
  | cons {x : Str} {c : Value} {ts : Addr → Value → Option Addr → TS} {b₀ : Stmt} {suite : List Stmt} {np pos' : Pos} {hds : List ExceptHandler} {l : List Cl} (hc : Names X x c)
      (hsu : ∀ (a : Addr) (oe : Obj) (cls : Value) (d : Option Addr) (pn : List (Addr × Obj)), Zc cls d oe → (∃ vs, oe.data = .fields vs) → PSs (X.suite a ((a, oe) :: pn)) (b₀ :: suite) (ts a cls d)) (r : ClOk X hds l) :
      ClOk X (.ExceptHandler (some (.Name x np)) none (b₀ :: suite) pos' :: hds) ((c, none, ts) :: l)
  | as {x n : Str} {i : Nat} {c : Value} {ts : Addr → Value → Option Addr → TS} {b₀ : Stmt} {suite : List Stmt} {np pos' : Pos} {hds : List ExceptHandler} {l : List Cl} (hN : X.N.Nodup) (hi : X.N[i]? = some n) (hln : X.env.kindOf n = some .local) (hc : Names X x c)
      (hsu : ∀ (a : Addr) (oe : Obj) (cls : Value) (d : Option Addr) (pn : List (Addr × Obj)), Zc cls d oe → (∃ vs, oe.data = .fields vs) → PSs (X.suite a ((a, oe) :: pn)) (b₀ :: suite) (ts a cls d)) (r : ClOk X hds l) :
      ClOk X (.ExceptHandler (some (.Name x np)) (some n) (b₀ :: suite) pos' :: hds) ((c, some i, ts) :: l)
section
variable {X : Cx} {body : List Stmt} {h₀ : ExceptHandler} {hds : List ExceptHandler} {l : List Cl} {pos : Pos} {tb : WX → TS} {Wout : WX}
theorem ps_tryCl (hs : X.stack = X.env :: X.outer) (hf : X.env.frame = some X.env.locals) (tk : Takes X Wout) (hh : ClOk X (h₀ :: hds) l)
    (hb : ∀ (W : WX) (pn : List (Addr × Obj)) (xe : Value → Shared → Prop), Takes (X.tr pn xe) W → PassesOwn (model X.prog X.w) X.A X.env xe → PSs (X.tr pn xe) body (tb W)) :
    PS X (.Try body (h₀ :: hds) [] [] pos) (fun D σ H => tb (wCl X.K Wout D l) D σ H) := by
  refine ⟨fun pins s σ H D I h => ?_⟩
  have ok := I.ok
  have hfr : X.A.frames = some (X.env :: X.outer) := by rw [ok.frames, hs]
  refine wpAny_Try_except (wpAny_mono ((hb (wCl X.K Wout D l) (X.pn ++ pins) (fun e s₁ => wpAny (model X.prog X.w) X.A (noteFrame e X.env) (fun _ s₂ => wpAny (model X.prog X.w) X.A (setFlight e none) (fun _ s₃ =>
    wpAny (model X.prog X.w) X.A (handleBy e X.env (h₀ :: hds)) (SP X pins D) X.xe s₃) X.xe s₂) X.xe s₁) (fun u s' xx => ?_) PassesOwn.looking).run [] s σ H D (I.toTry _) h) (fun f s1 hsp => ?_) (fun e s1 he => he))
  · obtain ⟨a, B, sI, pins', σ', H', cls, d, rfl, J', nb, up, sky, na, os, ag, w⟩ := xx
    have J : Inv X pins σ' H' sI := J'.ofTry ok
    have sky' : Sky B (X.env :: X.outer) a (Zc cls d) X.env.locals s'.heap := by rw [← hs]; exact sky
    show wpAny (model X.prog X.w) X.A (noteFrame (.ref a) X.env) _ _ _
    refine Sky.land Zc.steady hfr hf sky' fun h3 fl3 up3 => ?_
    obtain ⟨oe3, vs3, he3, hz3, hd3⟩ := fl3.there
    have nfr : a ∉ frs (X.env :: X.outer) := fun hm => by
      obtain ⟨_, o', e', hnf⟩ := fl3.2.2.1.mem hm
      rw [he3] at e'
      cases e'
      exact hnf _ hd3
    have nL : a ≠ X.env.locals := fun z => nfr (List.mem_filterMap.mpr ⟨X.env, List.mem_cons_self, by rw [hf, z]⟩)
    have nF : a ∉ X.fs := fun hm => by
      obtain ⟨e, he, q⟩ := List.mem_filterMap.mp hm
      exact nfr (List.mem_filterMap.mpr ⟨e, List.mem_cons_of_mem _ he, q⟩)
    have J3 : Inv X pins σ' H' { s' with heap := h3 } := J.landed nb fl3.1 (up.trans up3) os ag
    have S3 := J3.suite he3 hd3 na nL nF
    -- the test of a clause
    have ask : ∀ {x : Str} {np : Pos} {c : Value} {b : Bool} {Q : Value → Shared → Prop} {E : Value → Shared → Prop}, Names X x c → Q c { s' with heap := h3 } →
        wpAny (model X.prog X.w) (X.A.mark (some (.ref a))) (eval (.Name x np) X.env) Q E { s' with heap := h3 } := fun {x np c b Q E} hc q => by
      obtain ⟨hg, hdbg, hm | ⟨hm, hv, hnn⟩⟩ := hc
      · exact ld_glob (X := X.suite a ((a, oe3) :: (X.pn ++ pins))) S3 hg hm q hdbg
      · exact ld_blt (X := X.suite a ((a, oe3) :: (X.pn ++ pins))) S3 hg hm hv q hnn hdbg
    have LT : PySem.W.Looks (model X.prog X.w) h3 (typeOf (.ref a)) cls := fun A Q E s k q => wpAny_typeOf_ref (k _ _ he3) (by rw [hz3.1]; exact q)
    have go : ∀ {hds' : List ExceptHandler} {l' : List Cl}, ClOk X hds' l' → wCl X.K Wout D l' cls d σ' H' → wpAny (model X.prog X.w) X.A (handleBy (.ref a) X.env hds') (SP X pins D) X.xe { s' with heap := h3 } := by
      intro hds' l' hk
      induction hk with
      | nil =>
        intro w
        refine wpAny_handleBy_nil ?_
        obtain ⟨k1, k2, k3, oe, vs, T, oT, ts', he, hz, hd, h1, hr⟩ := id fl3
        unfold PySem.passOn
        refine wpAny_bind (wpAny_field he hd h1 ?_)
        rw [if_neg (show ¬ ((Value.ref T == Value.none) = true) from by simp)]
        have fin : wpAny (model X.prog X.w) X.A (setFlight (.ref a) X.env.frame) (fun _ s4 => wpAny (model X.prog X.w) X.A (throw (.ref a) : Sem Flow) (SP X pins D) X.xe s4) X.xe { s' with heap := h3 } := by
          rw [hf]
          exact HandSPX.setFlight_upZ fl3 fun h4 hh4 up4 => wpAny_throw (tk _ _ ⟨a, B, sI, pins, σ', H', cls, d, rfl, J, nb, (up.trans up3).trans up4, .inr (.inr (by rw [hs]; exact hh4)), na, os, ag, w⟩)
        first
          | exact wpAny_bind (wpAny_pure (wpAny_bind fin))
          | exact wpAny_bind fin
      | @cons x c ts b₀ suite np pos' hds2 l2 hc hsu r ih =>
        intro w
        obtain ⟨b, hb1, hyes, hno⟩ := w
        refine wpAny_handleBy_cons (codeAny_handlers_test ?_) (by intro q; cases q)
        refine ask (b := b) hc ((PySem.W.exm_one (M := model X.prog X.w) J3.kIn LT hb1).here ?_)
        cases b with
        | true =>
          refine codeAny_handlers_suite (HandSPX.lands_againZ fl3 fun h4 fl4 up4 => ?_)
          obtain ⟨oe4, vs4, he4, hz4, hd4⟩ := fl4.there
          have S4 := (J.landed nb fl4.1 ((up.trans up3).trans up4) os ag : Inv X pins σ' H' { s' with heap := h4 }).suite he4 hd4 na nL nF
          refine wpAny_mono ((hsu a oe4 cls d (X.pn ++ pins) hz4 ⟨_, hd4⟩).run [] _ _ H' D S4 (hyes rfl a na)) (fun f s6 hsp => ?_) (fun _ _ z => False.elim z)
          cases f with
          | ret u =>
            obtain ⟨v6, σ6, H6, S6, r6, q6⟩ := hsp
            exact ⟨_, _, _, S6.unsuite ok, r6, q6⟩
          | next => obtain ⟨σ6, H6, S6, q6⟩ := hsp; exact ⟨_, _, S6.unsuite ok, q6⟩
          | brk => obtain ⟨σ6, H6, S6, q6⟩ := hsp; exact ⟨_, _, S6.unsuite ok, q6⟩
          | cont => obtain ⟨σ6, H6, S6, q6⟩ := hsp; exact ⟨_, _, S6.unsuite ok, q6⟩
        | false => exact ih (hno rfl)
      | @as x n i c ts b₀ suite np pos' hds2 l2 hN hi hln hc hsu r ih =>
        intro w
        obtain ⟨b, hb1, hyes, hno⟩ := w
        refine wpAny_handleBy_cons (codeAny_handlers_test ?_) (by intro q; cases q)
        refine ask (b := b) hc ((PySem.W.exm_one (M := model X.prog X.w) J3.kIn LT hb1).here ?_)
        cases b with
        | true =>
          refine codeAny_handlers_suite_as (HandSPX.lands_againZ fl3 fun h4 fl4 up4 => ?_)
          obtain ⟨oe4, vs4, he4, hz4, hd4⟩ := fl4.there
          have S4 := (J.landed nb fl4.1 ((up.trans up3).trans up4) os ag : Inv X pins σ' H' { s' with heap := h4 }).suite he4 hd4 na nL nF
          refine store_ok (X := X.suite a ((a, oe4) :: (X.pn ++ pins))) (v := .ref a) S4 hN hi (.inl hln) rfl (fun s5 S5 => ?_) (.inr hln)
          refine wpAny_mono ((hsu a oe4 cls d (X.pn ++ pins) hz4 ⟨_, hd4⟩).run [] s5 _ H' _ S5 (hyes rfl a na)) (fun f s6 hsp => ?_) (fun _ _ z => False.elim z)
          have end_ : ∀ {σ6 : L2.St} {H6 : L2.Hp} {Q : Shared → Prop}, Inv (X.suite a ((a, oe4) :: (X.pn ++ pins))) [] σ6 H6 s6 → (∀ s7, Inv X pins (σ6.set i none) H6 s7 → Q s7) →
              wpAny (model X.prog X.w) X.A (do bindName X.env n .none; unbindBehindTheSuite X.env n pos') (fun _ s7 => Q s7) X.xe s6 := fun {σ6 H6 Q} S6 hq => gone_ok (S6.unsuite ok) hN hi hln hq
          cases f with
          | ret u => obtain ⟨v6, σ6, H6, S6, r6, q6⟩ := hsp; exact end_ S6 fun s7 J7 => ⟨_, _, _, J7, r6, q6⟩
          | next => obtain ⟨σ6, H6, S6, q6⟩ := hsp; exact end_ S6 fun s7 J7 => ⟨_, _, J7, q6⟩
          | brk => obtain ⟨σ6, H6, S6, q6⟩ := hsp; exact end_ S6 fun s7 J7 => ⟨_, _, J7, q6⟩
          | cont => obtain ⟨σ6, H6, S6, q6⟩ := hsp; exact end_ S6 fun s7 J7 => ⟨_, _, J7, q6⟩
        | false => exact ih (hno rfl)
    exact go hh w
  · cases f with
    | ret u => obtain ⟨v, σ', H', J', r, q⟩ := hsp; exact ⟨v, σ', H', J'.ofTry ok, r, q⟩
    | next => obtain ⟨σ', H', J', q⟩ := hsp; exact wpAny_execs_nil ⟨σ', H', J'.ofTry ok, q⟩
    | brk => obtain ⟨σ', H', J', q⟩ := hsp; exact ⟨σ', H', J'.ofTry ok, q⟩
    | cont => obtain ⟨σ', H', J', q⟩ := hsp; exact ⟨σ', H', J'.ofTry ok, q⟩
end
end DL

set_option Elab.async false
set_option linter.all false
set_option maxRecDepth 100000
set_option maxHeartbeats 4000000
/-! Errors with a value in the data layer. -/
namespace DL
open PySem PySem.Spec PyProof.Rows L2 Evl
/-! ### the classes -/
structure ErC (K : PySem.W.Frag) (C fI : Addr) : Prop where
  o : OexC K C
  i : PySem.W.findIn K (.ref C) "__init__" = some (some (.ref fI))
  t : PySem.W.typeIn K (.ref fI) = some (.type "function")
  nv : PySem.W.findIn K (.ref C) "value" = some none
  xf : XfC K C
  ec : ExcC K C
theorem exoB_ok {K : PySem.W.Frag} {C : Addr} (h : exoB K C = true) : ∃ nm q N bs bm sn sub ab col dd k0 k1 k2 k3 k5, K.lookup C = some (excClassObj nm q C N bs bm true sn sub ab col dd k0 k1 k2 k3 k5 "ValueError.__new__") ∧ PySem.HandSPX.refsVE bm = true := by
  unfold exoB at h
  split at h
  · rename_i dd cd sl ho
    split at h
    · rename_i C' bm k0 k1 k2 k3 n k5 hm hs
      simp only [Bool.and_eq_true, beq_iff_eq, Bool.not_eq_true'] at h
      obtain ⟨⟨⟨⟨rfl, rfl⟩, hdel⟩, hdi⟩, hr⟩ := h
      obtain ⟨nm, bs, mro, ns, qn, hd, sn, sub, ab, col, del⟩ := cd
      dsimp only at hm hdel hdi
      subst hm hdel hdi
      have hsl : sl = #[k0, k1, k2, k3, some (.builtin "ValueError.__new__"), k5] := by
        obtain ⟨l⟩ := sl
        simp only at hs
        rw [hs]
      subst hsl
      exact ⟨_, _, _, _, _, _, _, _, _, _, _, _, _, _, _, ho, hr⟩
    · cases h
  · cases h
/-- all that is asked of an error's class -/
theorem erB_ok {K : PySem.W.Frag} {C fI : Addr} (h : erB K C fI = true) : ErC K C fI := by
  simp only [erB, Bool.and_eq_true, decide_eq_true_eq] at h
  obtain ⟨h1, h2, h3, h4, h5, h6, h7, h8, h9, h10, h11, h12, h13⟩ := h
  have X := xfB_ok h9
  exact ⟨⟨exoB_ok h1, h2, h3, h4, h5⟩, h6, h7, h8, X, ⟨X.ga, X.gg, h3, X.hdC, h10, h11, h12, h13⟩⟩
theorem veB_ok {K : PySem.W.Frag} (h : veB K = true) : PySem.W.findCls K (.type "ValueError") (.type "type") "__init__" = some (.val (.builtin "ValueError.__init__")) := by
  unfold veB at h
  split at h
  · rename_i v e
    rw [e, of_decide_eq_true h]
  · cases h
theorem all_id {l : List Bool} {i : Nat} {b : Bool} (h : l.all id = true) (e : l[i]? = some b) : b = true := by
  have := List.all_eq_true.mp h b (List.mem_of_getElem? e)
  exact this
/-! ### the value -/
/-- what an error may carry here: a text or a number -/
def EvD : PyData → V → Prop := fun d v => (∃ l, d = .str l ∧ v = .str l) ∨ (∃ i, d = .int i ∧ v = .int i ∧ i.natAbs.log2 < 1920)
theorem evD_dn {K : PySem.W.Frag} {N : Addr → Prop} {H : Hp} {d : PyData} {v : V} (h : EvD d v) : Dn K N H v d := by
  rcases h with ⟨l, rfl, rfl⟩ | ⟨i, rfl, rfl, _⟩
  · exact .str _
  · exact .int _
theorem evD_of {K : PySem.W.Frag} {N : Addr → Prop} {H : Hp} {d : PyData} {v u : V} (h : EvD d v) (r : Dn K N H u d) : u = v := by
  rcases h with ⟨l, rfl, rfl⟩ | ⟨i, rfl, rfl, _⟩
  · exact dn_str r
  · exact dn_int r
theorem evD_T (l : List Nat) : EvD (dT l) (.str (sT l)) := .inl ⟨sT l, rfl, rfl⟩
/-- str(e) of these -/
def rStr : List V → Hp → VK → Prop := fun xs H Q => ∃ v, xs = [v] ∧ ((∃ a, v = .str a ∧ Q (.str a) H) ∨ (∃ i, v = .int i ∧ i.natAbs.log2 < 1920 ∧ Q (.str (toString i)) H))
theorem call_strV {X : Cx} : CallR X (.type "str") rStr := fun pins s σ H xs us Q I r h => by
  obtain ⟨v, rfl, ⟨a, rfl, q⟩ | ⟨i, rfl, hi, q⟩⟩ := h
  · exact SkE.call_str_str pins s σ H _ us Q I r ⟨a, rfl, q⟩
  · exact call_str_int pins s σ H _ us Q I r ⟨i, rfl, hi, q⟩
/-! ### PageError.__init__ and a raise -/
def spE0 (K : PySem.W.Frag) : Sp := fun vs H Q _ => ∃ (a C : Addr) (d : PyData) (v : V), vs = [.ref a, v] ∧ EvD d v ∧ H a = some (exo a C none) ∧ OexC K C ∧ PySem.W.findIn K (.ref C) "value" = some none ∧
  ∀ dx, H dx = none → dx ≠ a → Q .non (upd (upd H dx (exd dx [("value", v)])) a (exo a C (some dx)))
theorem spE0_len {K : PySem.W.Frag} : ∀ vs H Q E, spE0 K vs H Q E → vs.length = 2 := fun _ _ _ _ ⟨_, _, _, _, e, _⟩ => by rw [e]; rfl
/-- ValueError.__init__(self, str(value)); self.value = value -/
def tInit (K : PySem.W.Frag) : TS := tSeq (tDrop (tVeI K (tCons (tVar 0) (tCons (tCB rStr (tCons (tVar 1) tNil)) tNil)))) (tOst K "value" (tVar 0) (tVar 1))
theorem run_spE0 {K : PySem.W.Frag} {vs : List V} {H : Hp} {Q : VK} {E : XK} (h : spE0 K vs H Q E) : tInit K (De Q) (L2.start ["self", "value"] vs) H := by
  obtain ⟨a, C, d, v, rfl, hv, ha, T, hn, q⟩ := h
  have key : ∀ x, (∃ (a' C : Addr) (ws : List V), [V.ref a, x] = .ref a' :: ws ∧ ws.length ≤ 1000 ∧ OexC K C ∧ H a' = some (exo a' C none) ∧ tOst K "value" (tVar 0) (tVar 1) (De Q) (L2.start ["self", "value"] [.ref a, v]) H) := fun x =>
    ⟨a, C, [x], rfl, Nat.le_of_ble_eq_true rfl, T, ha, v, rfl, .ref a, rfl, a, C, rfl, T, hn, .inl ⟨ha, fun dx h1 h2 => q dx h1 h2⟩⟩
  refine ⟨.ref a, rfl, v, rfl, v, rfl, ?_⟩
  rcases hv with ⟨l, rfl, rfl⟩ | ⟨i, rfl, rfl, hi⟩
  · exact .inl ⟨l, rfl, key _⟩
  · exact .inr ⟨i, rfl, hi, key _⟩
section
variable {c : Cn} {env : Sy} {os : List SO} {te ta tb : TE} {t u v : TS} {D : Ends} {d e : PyData} {x : V}
/-- what a raise leaves -/
def RetE (c : Cn) (C : Addr) (x : V) (E : XK) : Prop := ∀ H' dd, (∀ a o, c.H0 a = some o → ¬ c.M a → H' a = some o) → H' dd = some (.xd [("value", x)]) → E (.ref C) (some dd) H'
theorem gs_raise {C fI : Addr} {tr : TA} {E : XK} (T : ErC c.K C fI) (hx : EvD d x) (h : EvA true c env os tr [d]) (k : RetE c C x E) : Go c env os (fun _ σ H => tMkO C (spE0 c.K) [] tr σ H fun cls d H' => E cls d H') D := fun ad σ H ok =>
  h ad σ H ok _ fun vs H1 e1 r => by
    cases r with
    | cons r1 r2 =>
      cases r2
      obtain rfl := evD_of hx r1
      refine ⟨Nat.le_of_ble_eq_true rfl, fun a ha => ⟨a, C, d, _, rfl, hx, upd_same, T.o, T.nv, fun dx hdx ne => ⟨rfl, dx, [("value", _)], upd_same, ?_, ?_, k _ dx ?_ upd_same⟩⟩⟩
      · rw [upd_ne ne, upd_same]
      · rw [upd_ne ne] at hdx
        exact hdx
      · intro b o hb hM
        have h1 : H1 b = some o := e1 _ _ (ok.ex b o hb hM)
        have ba : b ≠ a := fun z => by rw [z, ha] at h1; cases h1
        have bd : b ≠ dx := fun z => by rw [upd_ne ne] at hdx; rw [z, hdx] at h1; cases h1
        rw [upd_ne bd, del_ne ba, upd_ne ba, upd_ne bd, upd_ne ba]
        exact h1
/-! ### a def that answers data or raises -/
inductive Out where
  | val (d : PyData)
  | err (C : Addr) (d : PyData)
def spX (K : PySem.W.Frag) (R : List PyData → Out → Prop) : Sp := fun vs H Q E => ∃ (N : Addr → Prop) (ds : List PyData) (o : Out), (∀ a, N a → H a ≠ none) ∧ DnAll K N H vs ds ∧ R ds o ∧
  (∀ d, o = .val d → ∀ v H', Ex H H' → Dn K N H' v d → Q v H') ∧ (∀ C d, o = .err C d → ∀ x H' dd, EvD d x → Ex H H' → H' dd = some (.xd [("value", x)]) → E (.ref C) (some dd) H')
theorem spX_len {K : PySem.W.Frag} {n : Nat} {R : List PyData → Out → Prop} (hR : ∀ ds d, R ds d → ds.length = n) : ∀ vs H Q E, spX K R vs H Q E → vs.length = n := fun vs H Q E ⟨N, ds, d, _, h, r, _⟩ => h.length.trans (hR ds d r)
/-- what the def owes -/
def RetX (c : Cn) (o : Out) (D : Ends) (E : XK) : Prop := (∀ d, o = .val d → Ret c d D) ∧ ∀ C d x, o = .err C d → EvD d x → RetE c C x E
theorem run_spX {K : PySem.W.Frag} {R : List PyData → Out → Prop} {vs : List V} {H : Hp} {Q : VK} {E : XK} {Nm : List Str} {t : TS} (h : spX K R vs H Q E)
    (g : ∀ N ds o, R ds o → RetX ⟨K, H, N, fun _ => False, [], 0⟩ o (De Q) E → Go ⟨K, H, N, fun _ => False, [], 0⟩ (env0 Nm.length ds) [] t (De Q)) : t (De Q) (L2.start Nm vs) H := by
  obtain ⟨N, ds, o, hN, hv, hR, h1, h2⟩ := h
  exact g N ds o hR ⟨fun d e v H2 e1 r => h1 d e v H2 (fun a o z => e1 a o z fun y => y) r, fun C d x e hx H' dd e1 r => h2 C d e x H' dd hx (fun a o z => e1 a o z fun y => y) r⟩ _ _ _ (ok_start hN hv)
/-- the module's name x stands for a def that keeps sp and may raise -/
def CalX (P : Program) (w : World) (K : PySem.W.Frag) (mg : Str → Option Value) (base : Heap) (k : Nat) (x : Str) (ps : List Str) (sp : Sp) : Prop :=
  ∃ f fd, FnOk P w K mg base (L2.CX P w) k f fd ps sp ∧ Binds K fd ps [] ∧ mg x = some (.ref f) ∧ PySem.W.keepIn K (.ref f) = true
theorem cal_mkX {P : Program} {w : World} {K : PySem.W.Frag} {mg : Str → Option Value} {base : Heap} {x : Str} {st : Stmt} {f : Addr} {fd : FuncData} {N ps : List Str} {k : Nat} {sp : Sp} (F : FnP K x st f fd) (S : FnScope N ps (defScope st)) (g : mg x = some (.ref f)) (len : ∀ vs H Q E, sp vs H Q E → vs.length = ps.length)
    (hb : ∀ (kV doc pm : Value) (an : Option Addr) (cdv ct : Value) (us : List Value), us.length = ps.length → bindArgs (PySem.W.fnOf x x (defArgs st) (defBody st) (defScope st) .none kV doc pm an cdv ct) ⟨us, []⟩ = pure (ps.zip us))
    (hbody : ∀ (cdv : Value) (A : Around) (outer : List Env) (s : Shared) (H : Hp) (vs : List V) (Q : VK) (E : XK), Room k (A.deeper (envOfC x (defScope st) s.heap.objs.size f cdv)) → sp vs H Q E →
      ∃ t, PSs (cxOf (L2.CX P w) P w K mg base N x (defScope st) f cdv A outer s H E) (defBody st) t ∧ t (De Q) (L2.start N vs) H) : CalX P w K mg base (k + 1) x ps sp :=
  ⟨f, fd, F.ok S len fun cdv A outer s H vs Q E hr h => hbody cdv A outer s H vs Q E hr h, F.bindsN hb, g, F.kp⟩
theorem init_mk {P : Program} {w : World} {K : PySem.W.Frag} {mg : Str → Option Value} {base : Heap} {qual : Str} {st : Stmt} {f : Addr} {fd : FuncData} {k : Nat} (F : FnM K "__init__" qual st [] f fd) (S : FnScope ["self", "value"] ["self", "value"] (defScope st))
    (hbody : ∀ (cdv : Value) (A : Around) (outer : List Env) (s : Shared) (H : Hp) (E : XK), Room k (A.deeper (envOfC qual (defScope st) s.heap.objs.size f cdv)) → PSs (cxOf CX0 P w K mg base ["self", "value"] qual (defScope st) f cdv A outer s H E).nox (defBody st) (tInit K)) :
    FnOk P w K mg base CX0 (k + 1) f fd ["self", "value"] (spE0 K) :=
  F.ok S spE0_len fun cdv A outer s H vs Q E hr h => ⟨_, (hbody cdv A outer s H E hr).nox, run_spE0 h⟩
section
variable {X : Cx} {k j : Nat} {ps : List Str} {sp : Sp} {y : Str} {p pos : Pos} {e1 : Expr} {es : List Expr} {tr : TA} {W : WX}
/-- a call within a try -/
theorem pe_calX (h : CalX X.prog X.w X.K X.mg X.base k y ps sp) (hr : Room j X.A) (hj : k ≤ j) (hg : Gl X y) (tk : Takes X W) (ha : PA X (e1 :: es) tr)
    (hdb : (y == ("__debug__" : Str)) = false := by decide) (he : starEach (e1 :: es) X.env = (false, eval e1 X.env) :: starEach es X.env := by rfl) (hpl : (backTo pos (starEach es X.env)).any (·.1) = false := by rfl) :
    PE X (.Call (.Name y p) (e1 :: es) [] pos) (tCallS sp (WE W) tr) := by
  obtain ⟨f, fd, G, b, g, kp⟩ := h
  exact pe_callS G (hr.mono hj) hg g kp b (fun σ => passAt tk σ) ha hdb he hpl
/-- a call that raises nothing -/
theorem pe_calX0 (h : CalX X.prog X.w X.K X.mg X.base k y ps sp) (hr : Room j X.A) (hj : k ≤ j) (hg : Gl X y) (ha : PA X (e1 :: es) tr)
    (hdb : (y == ("__debug__" : Str)) = false := by decide) (he : starEach (e1 :: es) X.env = (false, eval e1 X.env) :: starEach es X.env := by rfl) (hpl : (backTo pos (starEach es X.env)).any (·.1) = false := by rfl) :
    PE X (.Call (.Name y p) (e1 :: es) [] pos) (tCall sp [] E0 tr) := by
  obtain ⟨f, fd, G, b, g, kp⟩ := h
  exact pe_call G (hr.mono hj) hg g kp b .nil passL ha hdb he hpl
end
theorem ex_callX {w : Bool} {R : List PyData → Out → Prop} {tr : TA} {ds : List PyData} (h : EvA w c env os tr ds) (hR : R ds (.val d)) : EvX w c env os (tCall (spX c.K R) [] E0 tr) d := fun ad σ H ok Q q =>
  h ad σ H ok _ fun vs H2 e a => by
    rw [List.append_nil]
    exact ⟨Nw w c ad os, ds, .val d, fun b z => (ok.ext e).nof (Nw_le b z), a, hR, fun d' e' v H' e2 r => by cases e'; exact q v H' (e.trans e2) r, fun C d' e' => nomatch e'⟩
/-! ### try: f(..) -/
/-- what holds in a suite: the error stands in slot i, its value in its dict -/
def ErAt (i : Nat) (a dd : Addr) (x : V) (σ : L2.St) (H : Hp) : Prop := σ[i]? = some (some (.ref a)) ∧ H dd = some (.xd [("value", x)])
theorem ErAt.ext {i : Nat} {a dd : Addr} {σ : L2.St} {H H' : Hp} (h : ErAt i a dd x σ H) (e : Ex H H') : ErAt i a dd x σ H' := ⟨h.1, e _ _ h.2⟩
/-- statements and expressions of a suite -/
def XGo (i : Nat) (a dd : Addr) (x : V) (c : Cn) (env : Sy) (os : List SO) (t : TS) (D : Ends) : Prop := ∀ ad σ H, Ok c ad env os σ H → ErAt i a dd x σ H → t D σ H
def XvE (i : Nat) (a dd : Addr) (x : V) (c : Cn) (env : Sy) (os : List SO) (te : TE) (d : PyData) : Prop := ∀ ad σ H, Ok c ad env os σ H → ErAt i a dd x σ H → ∀ Q : VK, (∀ v H2, Ex H H2 → Dn c.K (Nw true c ad os) H2 v d → Q v H2) → te σ H Q
def XvT (i : Nat) (a dd : Addr) (x : V) (c : Cn) (env : Sy) (os : List SO) (tt : TT) (b : Bool) : Prop := ∀ ad σ H, Ok c ad env os σ H → ErAt i a dd x σ H → ∀ Q : Bool → Hp → Prop, (∀ H2, Ex H H2 → Q b H2) → tt σ H Q
theorem Ok.hole {ad : Nat → Addr} {σ : L2.St} {H : Hp} {i : Nat} {z : Option V} (ok : Ok c ad env os σ H) : Ok c ad (env.set i none) os (σ.set i z) H where
  len := by simp [ok.len]
  ex := ok.ex
  n0 := ok.n0
  val := fun j t e => by
    by_cases q : i = j
    · subst q
      by_cases hi : i < env.length
      · rw [List.getElem?_set_self hi] at e; cases e
      · rw [List.getElem?_eq_none (by simpa using hi)] at e; cases e
    · rw [List.getElem?_set_ne q] at e
      obtain ⟨v, h1, h2⟩ := ok.val j t e
      exact ⟨v, by rw [List.getElem?_set_ne q]; exact h1, h2⟩
  obj := ok.obj
  inj := ok.inj
  nn := ok.nn
  frm := ok.frm
  low := ok.low
/-- it raises, the first clause takes it -/
theorem gs_tryE {R : List PyData → Out → Prop} {tr : TA} {ds : List PyData} {l : List Cl} {Wout : WX} {C : Addr} {cv : Value} {i : Nat} {ts : Addr → Value → Option Addr → TS} (h : EvA true c env os tr ds) (hR : R ds (.err C e)) (hm : PySem.W.exmOne c.K (.ref C) cv = some true)
    (hi : i < env.length) (k : ∀ a dd x, EvD e x → XGo i a dd x c (env.set i none) os (ts a (.ref C) (some dd)) (endAs i { D with nx := u D })) :
    Go c env os (tSeq (fun D σ H => tDrop (tCallS (spX c.K R) (WE (wCl c.K Wout D ((cv, some i, ts) :: l))) tr) D σ H) u) D := fun ad σ H ok =>
  h ad σ H ok _ fun vs H1 e1 a => ⟨Nw true c ad os, ds, .err C e, fun b z => (ok.ext e1).nof (Nw_le b z), a, hR, (fun d1 e1 => nomatch e1), fun C1 d1 e3 x H' dd hx e2 hdd => by
    cases e3
    exact ⟨true, hm, fun _ a0 _ => k a0 dd x hx ad _ H' (ok.ext (e1.trans e2)).hole ⟨List.getElem?_set_self (by rw [ok.len]; exact hi), hdd⟩, fun z => nomatch z⟩⟩
/-! ### within a suite -/
section
variable {i : Nat} {a dd : Addr} {tt tu : TT} {b b1 b2 : Bool}
theorem gp_if (h : XvT i a dd x c env os tt b) (h1 : b = true → XGo i a dd x c env os t { D with nx := u D }) (h2 : b = false → XGo i a dd x c env os v { D with nx := u D }) : XGo i a dd x c env os (tSeq (tIfS tt t v) u) D := fun ad σ H ok p =>
  h ad σ H ok p _ fun H2 e => by
    cases b with
    | true => exact h1 rfl ad σ H2 (ok.ext e) (p.ext e)
    | false => exact h2 rfl ad σ H2 (ok.ext e) (p.ext e)
theorem gp_nextU (h : XGo i a dd x c env os u D) : XGo i a dd x c env os tNext { D with nx := u D } := h
theorem gp_ret (h : XvE i a dd x c env os te d) (k : Ret c d D) : XGo i a dd x c env os (tSeq (tRet te) u) D := fun ad σ H ok p =>
  h ad σ H ok p _ fun v H2 e r => k v H2 (ok.ext e).ex (r.sub fun a z => Or.inl z)
theorem ep_of (h : EvX true c env os te d) : XvE i a dd x c env os te d := fun ad σ H ok _ => h ad σ H ok
theorem XvE.is (h : XvE i a dd x c env os te d) (q : d = e) : XvE i a dd x c env os te e := q ▸ h
theorem XvT.is (h : XvT i a dd x c env os tt b1) (q : b1 = b2) : XvT i a dd x c env os tt b2 := q ▸ h
theorem ept_B (h : XvE i a dd x c env os te (.bool b)) : XvT i a dd x c env os (tB te) b := fun ad σ H ok p Q q => h ad σ H ok p _ fun v H2 e r => ⟨b, dn_bool r, q H2 e⟩
theorem ept_not (h1 : XvT i a dd x c env os tt b) : XvT i a dd x c env os (tNot tt) (!b) := fun ad σ H ok p Q q => h1 ad σ H ok p _ fun H2 e2 => q H2 e2
theorem ept_or (h1 : XvT i a dd x c env os tt b1) (h2 : b1 = false → XvT i a dd x c env os tu b2) : XvT i a dd x c env os (tOr tt tu) (b1 || b2) := fun ad σ H ok p Q q => h1 ad σ H ok p _ fun H2 e2 => by
  cases b1 with
  | true =>
    show Q true H2
    exact q H2 e2
  | false =>
    show tu σ H2 Q
    exact h2 rfl ad σ H2 (ok.ext e2) (p.ext e2) Q fun H3 e3 => q H3 (e2.trans e3)
theorem ep_and (h1 : XvE i a dd x c env os ta (.bool b1)) (h2 : b1 = true → XvE i a dd x c env os tb (.bool b2)) : XvE i a dd x c env os (tAndV ta tb) (.bool (b1 && b2)) := fun ad σ H ok p Q q => h1 ad σ H ok p _ fun v H2 e2 r2 => ⟨b1, dn_bool r2, by
  cases b1 with
  | true =>
    rw [if_pos rfl]
    exact h2 rfl ad σ H2 (ok.ext e2) (p.ext e2) Q fun u H3 e3 r3 => q u H3 (e2.trans e3) r3
  | false =>
    rw [if_neg Bool.false_ne_true]
    exact q _ H2 e2 (.bl _)⟩
theorem ep_eqT {l m : List Nat} (ha : XvE i a dd x c env os ta (dT l)) (hb : XvE i a dd x c env os tb (dT m)) : XvE i a dd x c env os (tOp rEq ta tb) (.bool (decide (l = m))) := fun ad σ H ok p Q q =>
  ha ad σ H ok p _ fun v H1 e1 r1 => hb ad σ H1 (ok.ext e1) (p.ext e1) _ fun u H2 e2 r2 => by
    cases dn_str r1; cases dn_str r2
    refine ⟨rfl, q _ H2 (e1.trans e2) ?_⟩
    rw [dec_str, sT_beq]
    exact .bl _
/-- error.value -/
def tVal (K : PySem.W.Frag) (a : Addr) (cls : Value) (d : Option Addr) (f : Str) (te : TE) : TE := fun σ H Q => te σ H fun x H1 => x = .ref a ∧ ∃ C, cls = .ref C ∧ XfC K C ∧ PySem.W.findIn K (.ref C) f = some none ∧ ∃ (dd : Addr) (fs : List (Str × V)) (v : V), d = some dd ∧ H1 dd = some (.xd fs) ∧ fs.lookup f = some v ∧ Q v H1
theorem pe_val {X : Cx} {oe : Obj} {cls : Value} {d : Option Addr} {pn : List (Addr × Obj)} {e : Expr} {te : TE} {pos : Pos} {n : Str} (hz : Zc cls d oe) (hf : ∃ vs, oe.data = .fields vs) (he : PE (X.suite a ((a, oe) :: pn)) e te)
    (hb : attributeBase e n X.env (eval e X.env) = eval e X.env := by rfl) : PE (X.suite a ((a, oe) :: pn)) (.Attribute e n pos) (tVal X.K a cls d n te) := by
  refine ⟨fun pins s σ H Q I h => attr_of hb (thn (he.run pins s σ H _ I h) fun u s1 hh => ?_)⟩
  obtain ⟨x, H1, I1, rx, ex, C, ec, T, hno, dd, fs, v, ed, ea, l, q⟩ := hh
  subst ex ec ed
  obtain rfl : u = Value.ref a := rx
  obtain ⟨ha, _⟩ := I1.pin (a, oe) (List.mem_append_left _ List.mem_cons_self)
  obtain ⟨vs, hd⟩ := hf
  obtain ⟨mA, hns, hr⟩ := (I1.hok dd _ ea : ObjOk X.prog X.w H1 s1.heap dd (.xd fs))
  obtain ⟨od, ho, hl⟩ := lookIn_ns hns
  obtain ⟨u, hu, ru⟩ := RelO.some_of (v := v) (o := mA n) (by rw [← l]; exact hr n)
  have J : PySem.W.InstAt s1.heap a oe C (some od) := ⟨ha, hz.1, by unfold PySem.W.notCls; rw [hd] <;> rfl, by rw [hz.2]; exact ho⟩
  exact HandSPX.exc_get I1.kIn J T.ga T.gg T.exC (PySem.W.findObj_own T.hdC hno rfl (by rw [hl, hu])) (handed_of ru) ⟨v, H1, I1.tok _, ru, q⟩
theorem ep_val {C fI : Addr} (T : ErC c.K C fI) (hx : EvD e x) : XvE i a dd x c env os (tVal c.K a (.ref C) (some dd) "value" (tVar i)) e := fun ad σ H ok p Q q =>
  ⟨.ref a, p.1, rfl, C, rfl, T.xf, T.nv, dd, _, x, rfl, p.2, by simp [List.lookup], q x H (fun _ _ z => z) (evD_dn hx)⟩
/-- isinstance(error, c) -/
def rIsG (K : PySem.W.Frag) (a : Addr) (cls : Value) (d : Option Addr) : List V → Hp → VK → Prop := fun xs H Q => ∃ (D dd : Addr), cls = .ref D ∧ d = some dd ∧ ExcC K D ∧ (∃ fs, H dd = some (.xd fs)) ∧ rIsE K D a xs H Q
theorem call_isG {X : Cx} {oe : Obj} {cls : Value} {d : Option Addr} {pn : List (Addr × Obj)} (hz : Zc cls d oe) (hf : ∃ vs, oe.data = .fields vs) : CallR (X.suite a ((a, oe) :: pn)) (.builtin "isinstance") (rIsG X.K a cls d) := by
  intro pins s σ H xs us Q I r h
  obtain ⟨D, dd, rfl, rfl, C, h1, h2⟩ := h
  exact call_isD (fs := []) C hz hf pins s σ H xs us Q I r ⟨h1, h2⟩
theorem ep_isC {C fI C' : Addr} (T : ErC c.K C fI) (hk : PySem.W.kitOne c.K (.ref C) (.ref C') = some b) : XvE i a dd x c env os (tCB (rIsG c.K a (.ref C) (some dd)) (tCons (tVar i) (tCons (tC (.ref C')) tNil))) (.bool b) := fun ad σ H ok p Q q =>
  ⟨.ref a, p.1, C, dd, rfl, rfl, T.ec, ⟨_, p.2⟩, .ref C', .ref C', b, rfl, fun u r => r, hk, q _ H (fun _ _ z => z) (.bl _)⟩
theorem ep_isT {C fI : Addr} {U : String} (T : ErC c.K C fI) (hk : PySem.W.kitOne c.K (.ref C) (.type U) = some b) : XvE i a dd x c env os (tCB (rIsG c.K a (.ref C) (some dd)) (tCons (tVar i) (tCons (tC (.ty U)) tNil))) (.bool b) := fun ad σ H ok p Q q =>
  ⟨.ref a, p.1, C, dd, rfl, rfl, T.ec, ⟨_, p.2⟩, .ty U, .type U, b, rfl, fun u r => r, hk, q _ H (fun _ _ z => z) (.bl _)⟩
end
end
/-! ### len(set(texts)) of any texts -/
theorem nodup_cntD {xs : List Str} : ∀ i, i ≤ xs.length → cntD xs i = i → (xs.take i).Nodup
  | 0, _, _ => by simp
  | i + 1, hi, h => by
    have h0 := cntD_le xs i
    have h1 : (if xs.getD i Str.empty ∈ xs.take i then cntD xs i else cntD xs i + 1) = i + 1 := h
    split at h1
    · omega
    · rename_i hm
      have hlt : i < xs.length := hi
      rw [List.getD_eq_getElem?_getD, List.getElem?_eq_getElem hlt] at hm
      rw [List.take_succ_eq_append_getElem hlt, List.nodup_append]
      refine ⟨nodup_cntD i (by omega) (by omega), by simp, fun a ha b hb e => ?_⟩
      rw [List.mem_singleton] at hb
      exact hm (by rw [← hb, ← e]; exact ha)
theorem ex_lenSetC {w : Bool} {c : Cn} {env : Sy} {os : List SO} {te : TE} {xs : List Str} (h : EvI c env os te ((xs.map PyData.str).map SV.i)) (hz : xs.length ≤ 4000) : EvX w c env os (tLenS c.K te) (.int (cntD xs xs.length : Int)) := fun ad σ H ok Q q => by
  refine h ad σ H ok _ fun p vs H2 e hs pv => ⟨p, xs, rfl, ?_, hz, q _ H2 e (.int _)⟩
  have ev : vs = xs.map V.str := by
    have pd := paired_dn pv
    clear hs q h hz pv
    induction xs generalizing vs with
    | nil => cases pd; rfl
    | cons x xs ih =>
      cases pd with
      | cons a b => rw [dn_str a, ih _ b]; rfl
  rw [← ev]; exact hs
theorem cntD_lt {xs : List Str} : decide (cntD xs xs.length < xs.length) = !decide xs.Nodup := by
  by_cases h : xs.Nodup
  · rw [cntD_nodup h _ (Nat.le_refl _), decide_eq_true h]; simp
  · rw [decide_eq_false h]
    have := cntD_le xs xs.length
    have h2 : cntD xs xs.length ≠ xs.length := fun z => h (by have := nodup_cntD xs.length (Nat.le_refl _) z; rwa [List.take_length] at this)
    simp; omega
/-- xs.append(e), e drawn (as gs_appM) -/
theorem gs_appMr {c : Cn} {env : Sy} {os : List SO} {tl te : TE} {u : TS} {D : Ends} {k : Nat} {ss : List SV} {P : PyData → Prop} (hl : EvR c env os tl k) (hk : os[k]? = some (.lst ss)) (h : EvM c env os te P) (hz : ss.length < 100000) (kk : ∀ d, P d → Go c env (os.set k (.lst (ss ++ [.i d]))) u D) : Go c env os (tSeq (tDrop (tBM c.K "list" rAppend tl (tCons te tNil))) u) D := fun ad σ H ok =>
  hl.2 ad σ H ok _ fun H1 e1 => by
    have ok1 := ok.ext e1
    obtain ⟨_, vs, hvs, pv⟩ := ok1.obj k _ hk rfl
    refine ⟨Or.inl ⟨rfl, vs, SqL.of hvs⟩, h ad σ H1 ok1 _ fun v H2 d hd ok2 r => ?_⟩
    obtain ⟨_, vs2, hv2, pv2⟩ := ok2.obj k _ hk rfl
    refine ⟨ad k, vs2, v, rfl, rfl, hv2, Nat.lt_of_lt_of_le (by rw [Paired.length pv2]; exact hz) (by decide), ?_⟩
    refine kk d hd ad σ _ (ok2.mut hk rfl rfl ⟨vs2 ++ [v], upd_same, ?_⟩)
    have hN : Nof c ad os (ad k) := Or.inr ⟨k, ⟨_, hk, rfl⟩, rfl⟩
    exact paired_snoc (Paired.imp pv2 fun _ _ z => z.mut hv2 rfl hN) (show Dn _ _ _ _ _ from Dn.mut hv2 rfl hN r)
/-! ### x += text, f'..{x}' -/
section
variable {w : Bool} {c : Cn} {env : Sy} {os : List SO} {te : TE} {u : TS} {D : Ends} {a b : List Nat}
theorem gs_augT {i : Nat} {ti : TIp} (ht : ti = (fun x y H Q => ∃ i j, x = .str i ∧ y = .str j ∧ i.length + j.length ≤ sizeLine ∧ Q (.str (i ++ j)) H)) (hx : env[i]? = some (some (.i (dT a)))) (h : EvX true c env os te (dT b)) (hl : a.length + b.length ≤ 16777216)
    (k : Go c (env.set i (some (.i (dT (a ++ b))))) os u D) : Go c env os (tSeq (tAug i te ti) u) D := fun ad σ H ok => by
  subst ht
  obtain ⟨v, h1, h2⟩ := ok.val i _ hx
  have e := dn_str (show Dn _ _ _ v (.str (sT a)) from h2)
  subst e
  refine ⟨_, h1, h ad σ H ok _ fun y H2 e r => ⟨sT a, sT b, rfl, dn_str r, by rw [sT_len, sT_len]; exact hl, ?_⟩⟩
  rw [sT_app]
  exact k ad _ H2 ((ok.ext e).set (show Dn _ _ _ _ _ from .str _))
/-- f'p{x}' -/
def tFs (p : Str) (te : TE) : TE := fun σ H Q => tJs [tC (.str p), tFmt te] Str.empty σ H fun out H1 => Q (.str out) H1
theorem pe_fsT {X : Cx} {p : Str} {q1 q2 q3 : Pos} {jj : Nat} {e : Expr} (he : PE X e te) : PE X (.JoinedStr [.Constant (.str p) jj q1, .FormattedValue e (-1) none q2] q3) (tFs p te) := pe_joined (.cons pe_str (.cons (pe_fmt he) .nil))
theorem ex_fsT {p : Str} (hp : p = sT a) (h : EvX true c env os te (dT b)) (hl : a.length + b.length ≤ 1000000) : EvX w c env os (tFs p te) (dT (a ++ b)) := fun ad σ H ok Q q => by
  subst hp
  have e0 : Str.empty ++ sT a = sT a := (congrArg (· ++ sT a) (show Str.empty = sT [] from rfl)).trans (sT_app [] a)
  have hz : ∀ x : List Nat, x.length ≤ 1000000 → (sT x).length ≤ sizeLine := fun x hx => by rw [sT_len, sizeLine_eq]; omega
  refine ⟨sT a, rfl, by rw [e0]; exact hz a (by omega), h ad σ H ok _ fun y H1 e1 r => .inl ⟨sT b, dn_str r, hz b (by omega), sT b, rfl, ?_, ?_⟩⟩
  · rw [e0, sT_app]; exact hz _ (by rw [List.length_append]; exact hl)
  · rw [e0, sT_app]
    exact q _ H1 e1 (.str _)
end
/-- sep.join(texts) -/
theorem ex_joinS {w : Bool} {c : Cn} {env : Sy} {os : List SO} {to te : TE} {a : List Nat} {ls : List (List Nat)} {r : V → List V → Hp → VK → Prop} (hr : r = (fun x xs H Q => ∃ a p, ∃ ys : List Str, x = .str a ∧ xs = [.ref p] ∧ (SqL c.K H p (ys.map V.str) ∨ SqT c.K H p (ys.map V.str)) ∧ (ys.map (·.length)).sum + ys.length * a.length ≤ 16777216 ∧ Q (.str (Txt.join a ys)) H))
    (ho : EvX true c env os to (dT a)) (h : EvI c env os te ((ls.map dT).map SV.i)) (hl : (ls.map List.length).sum + ls.length * a.length ≤ 16777216) : EvX w c env os (tM1 r to te) (dT (TL.joinL a ls)) := fun ad σ H ok Q q => by
  subst hr
  refine ho ad σ H ok _ fun v H1 e1 r1 => ⟨⟨_, dn_str r1⟩, h ad σ H1 (ok.ext e1) _ fun p vs H2 e2 hs pv => ?_⟩
  have ev : vs = (ls.map sT).map V.str := by
    have pd := paired_dn pv
    clear hs q h hl pv
    induction ls generalizing vs with
    | nil => cases pd; rfl
    | cons x xs ih =>
      cases pd with
      | cons a b => rw [dn_str a, ih _ b]; rfl
  subst ev
  refine ⟨sT a, p, ls.map sT, dn_str r1, rfl, Or.inl hs, ?_, ?_⟩
  · have e : ((ls.map sT).map (·.length)).sum = (ls.map List.length).sum := by
      rw [List.map_map]
      exact congrArg _ (List.map_congr_left fun a _ => sT_len a)
    rw [e, sT_len, List.length_map]
    exact hl
  · have e : Txt.join (sT a) (ls.map sT) = sT (TL.joinL a ls) := by
      refine TL.ext_tl ?_
      rw [TL.join_eq, TL.tl_join, List.map_map]
      have h0 : ∀ l : List Nat, TL.tl (sT l) = l := fun l => sT_cps l
      have e1 : ls.map (TL.tl ∘ sT) = ls := by
        rw [List.map_congr_left fun l _ => show (TL.tl ∘ sT) l = l from h0 l]
        exact List.map_id' ls
      rw [e1, h0, h0]
    rw [e]
    exact q _ H2 (e1.trans e2) (.str _)
end DL

set_option Elab.async false
set_option linter.all false
set_option maxRecDepth 100000
set_option maxHeartbeats 4000000
open PySem PySem.Spec PyProof.Rows L2 DL
namespace Q
open QH
abbrev T4 (x y w h : Int) : PyData := .tuple [.int x, .int y, .int w, .int h]
local macro_rules | `(tactic| walk_at "cc") => `(tactic| first
  | assumption | decide | omega
  | exact Or.inr ⟨by decide, by decide⟩ | exact Or.inl ⟨by decide, by decide⟩
  | (refine Or.inr ⟨?_, ?_⟩ <;> omega) | (refine Or.inl ⟨?_, ?_⟩ <;> omega)
  | (refine ⟨?_, ?_⟩ <;> omega) | (refine wide_div (b := 64) ?_ ?_ (by decide) (by decide) <;> omega) | (dsimp only; omega) | (simp only [CDiv, CMul, CPow]; omega))
local macro_rules | `(tactic| walk_at "at") => `(tactic| first | rfl | exact atI_nat rfl)
local macro_rules | `(tactic| walk_at "v") => `(tactic| first
  | exact ex_int | exact ex_bl | exact ex_non | exact ex_str
  | exact ex_var rfl
  | exact ex_const (by assumption)
  | (refine' ex_i2 ?va ?vb; (case va => walk_at "v"); (case vb => walk_at "v"))
  | (refine' ex_b2 ?va ?vb; (case va => walk_at "v"); (case vb => walk_at "v"))
  | (refine' ex_i2c ?va ?vb ?vc; (case va => walk_at "v"); (case vb => walk_at "v"); (case vc => walk_at "cc"))
  | (refine' ex_u ?va; (case va => walk_at "v"))
  | (refine' ex_tup ?va ?vb; (case va => walk_at "a"); (case vb => exact Nat.le_of_ble_eq_true rfl))
  | (refine' ex_int1 rfl ?va; (case va => walk_at "v"))
  | (refine' ex_and ?va ?vb; (case va => walk_at "v"); (case vb => intro _; walk_at "v"))
  | (refine' ex_or ?va ?vb; (case va => walk_at "v"); (case vb => intro _; walk_at "v"))
  | (refine' ex_not ?va; (case va => walk_at "v"))
  | (refine' ex_chain rfl rfl ?va ?vb ?vc; (case va => walk_at "v"); (case vb => walk_at "v"); (case vc => walk_at "v"))
  | (refine' ex_ixT ?va ?vb ?vc; (case va => walk_at "v"); (case vb => walk_at "v"); (case vc => walk_at "at"))
  | (refine' ex_eqI ?va ?vb; (case va => walk_at "v"); (case vb => walk_at "v"))
  | (refine' ex_neI ?va ?vb; (case va => walk_at "v"); (case vb => walk_at "v"))
  | (refine' ex_eqB ?va ?vb; (case va => walk_at "v"); (case vb => walk_at "v"))
  | (refine' ex_neB ?va ?vb; (case va => walk_at "v"); (case vb => walk_at "v"))
  | (refine' ex_eqD ?va ?vb ?vc ?vd; (case va => walk_at "v"); (case vb => walk_at "v"); (case vc => walk_at "sh"); (case vd => walk_at "sh"))
  | (refine' ex_neD ?va ?vb ?vc ?vd; (case va => walk_at "v"); (case vb => walk_at "v"); (case vc => walk_at "sh"); (case vd => walk_at "sh"))
  | (refine' ex_isi ?va ?vb; (case va => walk_at "v"); (case vb => walk_at "kit"))
  | (refine' ex_lenK ?va; (case va => walk_at "i"))
  | (refine' ex_lenTK ?va; (case va => walk_at "v"))
  | (refine' ex_max2 rfl ?va ?vb; (case va => walk_at "v"); (case vb => walk_at "v"))
  | (refine' ex_min2 rfl ?va ?vb; (case va => walk_at "v"); (case vb => walk_at "v"))
  | (refine' ex_call ?va ?vb; (case va => walk_at "a"); (case vb => walk_at "r"))
  | (refine' EvF.ev ?va; (case va => walk_at "f")))
local macro_rules | `(tactic| walk_at "a") => `(tactic| first
  | exact ea_nil
  | (refine' ea_cons ?va ?vb; (case va => walk_at "v"); (case vb => walk_at "a")))
local macro_rules | `(tactic| walk_at "f") => `(tactic| first
  | (refine' ef_lst (EvA.ss (ds := _) ?va) ?vb; (case va => walk_at "a"); (case vb => exact Nat.le_of_ble_eq_true rfl))
  | (refine' ef_listK ?va; (case va => walk_at "i")))
local macro_rules | `(tactic| walk_at "i") => `(tactic| first
  | (refine' EvX.it ?va; (case va => walk_at "v"))
  | (refine' EvR.it (er_var rfl ?va) rfl; (case va => decide)))
local macro_rules | `(tactic| walk_at "t") => `(tactic| first
  | (refine' et_test ?va; (case va => walk_at "v"))
  | (refine' et_B ?va; (case va => walk_at "v"))
  | (refine' et_and ?va ?vb; (case va => walk_at "t"); (case vb => intro _; walk_at "t"))
  | (refine' et_or ?va ?vb; (case va => walk_at "t"); (case vb => intro _; walk_at "t"))
  | (refine' et_not ?va; (case va => walk_at "t")))
local macro_rules | `(tactic| walk_at "r") => `(tactic| first | assumption | walk_at "r2")
local macro_rules | `(tactic| walk_at "set") => `(tactic| (refine' gs_asg ?va ?_; (case va => walk_at "v")))
local macro_rules | `(tactic| walk_at "env") => `(tactic| simp only [env0, List.map, List.length, List.replicate, List.append, List.cons_append, List.nil_append, Nat.reduceAdd, Nat.reduceSub, Nat.sub_self])
local macro_rules | `(tactic| walk_at "ret") => `(tactic| (refine' gs_ret (EvX.is ?va ?vb) (by assumption); (case va => walk_at "v"); (try (case vb => rfl))))
local macro_rules | `(tactic| walk_at "asg4") => `(tactic| (refine' gs_asgT ?va (tg_tup (tgs_cons tg_name (tgs_cons tg_name (tgs_cons tg_name (tgs_cons tg_name tgs_nil)))) rfl) ?_; (case va => walk_at "v")))
local macro_rules | `(tactic| walk_at "asg3") => `(tactic| (refine' gs_asgT ?va (tg_tup (tgs_cons tg_name (tgs_cons tg_name (tgs_cons tg_name tgs_nil))) rfl) ?_; (case va => walk_at "v")))
local macro_rules | `(tactic| walk_at "nf") => `(tactic| simp only [List.set_cons_zero, List.set_cons_succ])
local macro_rules | `(tactic| walk_at "wk") => `(tactic| (refine g_next ?_; intro ad σ H ok; exact (show OkE _ _ _ _ _ from ⟨ad, ok.weak (by simp [WkE]) (by simp [WkO]) (by simp [EnLt, SvLt]) (by walk_at "osl") (by simp)⟩)))
local macro_rules | `(tactic| walk_at "kit") => `(tactic| first | exact kit_int_int | exact kit_int_bool | exact kit_int_str | exact kit_int_tuple | exact kit_int_list | exact kit_int_dict | exact kit_bool_int | exact kit_bool_bool | exact kit_bool_str | exact kit_bool_tuple | exact kit_bool_list | exact kit_bool_dict | exact kit_str_int | exact kit_str_bool | exact kit_str_str | exact kit_str_tuple | exact kit_str_list | exact kit_str_dict | exact kit_tuple_int | exact kit_tuple_bool | exact kit_tuple_str | exact kit_tuple_tuple | exact kit_tuple_list | exact kit_tuple_dict | exact kit_list_int | exact kit_list_bool | exact kit_list_str | exact kit_list_tuple | exact kit_list_list | exact kit_list_dict | exact kit_NoneType_int | exact kit_NoneType_bool | exact kit_NoneType_str | exact kit_NoneType_tuple | exact kit_NoneType_list | exact kit_NoneType_dict | exact kit_dict_int | exact kit_dict_bool | exact kit_dict_str | exact kit_dict_tuple | exact kit_dict_list | exact kit_dict_dict)
local macro_rules | `(tactic| walk_at "sh") => `(tactic| first | exact shaped_T4 _ _ _ _ | assumption | rfl)
local macro_rules | `(tactic| walk_at "f") => `(tactic| (refine' ef_call ?va ?vb; (case va => walk_at "a"); (case vb => walk_at "r")))
local macro_rules | `(tactic| walk_at "f") => `(tactic| (refine' ef_cat ?va ?vb ?vc; (case va => walk_at "f"); (case vb => walk_at "f"); (case vc => first | exact Nat.le_of_ble_eq_true rfl | assumption)))
local macro_rules | `(tactic| walk_at "skip") => `(tactic| (refine' gs_if (b := false) (EvT.is ?va ?vb) (fun hb => nomatch hb) (fun _ => g_nextU ?_); (case va => walk_at "t"); (case vb => first | rfl | (simp; done))))
local macro_rules | `(tactic| walk_at "t") => `(tactic| (refine' et_truK ?va; (case va => walk_at "i")))
local macro_rules | `(tactic| walk_at "t") => `(tactic| exact et_yes)
local macro_rules | `(tactic| walk_at "js") => `(tactic| (intro j hj; first | (simpa using hj) | (simp at hj; simp [hj])))
local macro_rules | `(tactic| walk_at "we") => `(tactic| simp only [wipeE, List.set_cons_zero, List.set_cons_succ, List.map_cons, List.map_nil])
local macro_rules | `(tactic| walk_at "tg4") => `(tactic| exact tg_tup (tgs_cons tg_name (tgs_cons tg_name (tgs_cons tg_name (tgs_cons tg_name tgs_nil)))) rfl)
local macro_rules | `(tactic| walk_at "osl1") => `(tactic| first | exact soLt_data | exact True.intro | exact soLt_dK | exact soLt_dT)
local macro_rules | `(tactic| walk_at "osl") => `(tactic| first | exact True.intro | (refine ⟨?_, ?_⟩; (walk_at "osl1"); (walk_at "osl")) | simp [OsLt, SoLt, SvLt])
local macro_rules | `(tactic| walk_at "wkP") => `(tactic| (refine g_next ?_; intro ad σ H ok; refine ⟨?_, (show OkE _ _ _ _ _ from ⟨ad, ok.weak (by simp [WkE]) (by simp [WkO]) (by simp [EnLt, SvLt]) (by walk_at "osl") (by simp)⟩)⟩))

theorem sc_PageError___init__ : FnScope ["self", "value"] ["self", "value"] (defScope s_PageError___init__) := ⟨rfl, rfl, rfl, by decide +kernel, rfl, by decide +kernel, by decide +kernel⟩
theorem ok_PageError___init__ {P : Program} {w : World} {K : PySem.W.Frag} {mg : Str → Option Value} {base : Heap} {f : Addr} {fd : FuncData} (F : DL.FnM K "__init__" "PageError.__init__" s_PageError___init__ [] f fd) (z_ValueError : mg "ValueError" = none) (z_str : mg "str" = none) (hv : DL.veB K = true) :
    FnOk P w K mg base CX0 1 f fd ["self", "value"] (DL.spE0 K) :=
  DL.init_mk F sc_PageError___init__ (fun cdv A outer s H E hr => pss_cons (ps_expr (pe_veinit (by rfl) z_ValueError (DL.veB_ok hv) (pa_cons (pv 0) (pa_cons (pe_callTy DL.call_strV (by rfl) z_str (by decide +kernel) (pa_cons (pv 1) pa_nil)) pa_nil)))) (pss_one (ps_ost (pv 0) (pv 1))))
theorem sc_is_word : FnScope ["value", "char"] ["value"] (defScope s_is_word) := ⟨rfl, rfl, rfl, by decide +kernel, rfl, by decide +kernel, by decide +kernel⟩
def wB (l : List Nat) : Bool := decide (1 ≤ l.length) && decide (l.length ≤ 12) && l.all (fun x => decide (97 ≤ x) && decide (x ≤ 122))
def R_is_word : List PyData → PyData → Prop := fun ds d => ∃ l : List Nat, l.length ≤ 40000 ∧ ds = [dT l] ∧ d = .bool (wB l)
theorem R_is_word_i {l : List Nat} (h : l.length ≤ 40000) : R_is_word [dT l] (.bool (wB l)) := ⟨l, h, rfl, rfl⟩
local macro_rules | `(tactic| walk_at "r2") => `(tactic| exact R_is_word_i (by assumption))
theorem R_is_word_len : ∀ ds d, R_is_word ds d → ds.length = 1 := by
  intro ds d hh
  unfold R_is_word at hh
  repeat (obtain ⟨_, hh⟩ := hh)
  subst_eqs
  rfl
theorem ok_is_word {P : Program} {w : World} {K : PySem.W.Frag} {mg : Str → Option Value} {base : Heap} {f : Addr} {fd : FuncData} (F : FnP K "is_word" s_is_word f fd) (g0 : mg "is_word" = some (.ref f)) (z_isinstance : mg "isinstance" = none) (z_str : mg "str" = none) (z_len : mg "len" = none) (z_all : mg "all" = none) (c_LONGEST_WORD : ∃ t, mg "LONGEST_WORD" = some (.int 12 t)) : Cal P w K mg base 1 "is_word" ["value"] (spD K  R_is_word) := by
  refine cal_mk F sc_is_word g0 (spD_len R_is_word_len) (fun _ _ _ _ _ _ us hl => match us, hl with | [_], _ => rfl) (fun cdv A outer s H vs Q E hr h => ⟨_,
    (pss_cons (ps_if (PW.pt (pw_or (pt_not (pt_val (pe_callB (DL.kIsi (K := K)) (by rfl) z_isinstance (by decide +kernel) (pa_cons (pv 0) (pa_cons (pe_bltn (v := .ty "str") (u := .type "str") (by rfl) z_str (by decide +kernel) rfl) pa_nil))))) (pw_or1 (pt_not (pt_chain op_le op_le pe_int (pe_callB call_len_str (by rfl) z_len (by decide +kernel) (pa_cons (pv 0) pa_nil)) (C8.pe_gc (v := .int 12) (by rfl) (DL.gci c_LONGEST_WORD)))))))
     (pss_cons (ps_ret pe_bl)
     pss_nil)
     pss_nil)
     (pss_cons (ps_ret (pe_callB (DL.kAll (K := K) rfl) (by rfl) z_all (by decide +kernel) (pa_cons (pe_lc (own := [("char", 1)]) (by rfl) sc_is_word.nd (pi_str (pv 0)) (blkOk_by (own := [("char", 1)]) (N := ["value", "char"]) (sc := defScope s_is_word) (by decide +kernel)) (fun _ _ _ _ _ => (pg_name (i := 1) sc_is_word.nd rfl (by first | exact Or.inl rfl | exact Or.inr rfl))) (fun _ _ _ _ _ => pts_nil) (fun _ _ _ _ _ => (pe_chain op_le_str op_le_str pe_str (pv 1) pe_str))) pa_nil)))
     pss_nil)), ?_⟩)
  refine run_spD h fun N ds d hR hq => ?_
  obtain ⟨l, hl, rfl, rfl⟩ := hR
  walk_at "env"
  refine gs_if (b := !(decide ((1 : Int) ≤ (l.length : Int)) && decide ((l.length : Int) ≤ 12))) (EvT.is (et_or (et_not (et_B (ex_isi (ex_var rfl) kit_str_str))) (fun _ => et_not (et_test (ex_chain rfl rfl ex_int (ex_lenS rfl (ex_var rfl) (by omega)) ex_int)))) rfl) (fun h => ?_) (fun h => g_nextU ?_)
  · refine gs_ret (EvX.is ex_bl ?_) hq
    unfold wB
    refine congrArg PyData.bool (Eq.symm ?_)
    have h2 : (decide (1 ≤ l.length) && decide (l.length ≤ 12)) = false := by
      simp only [Bool.not_eq_true', Bool.and_eq_false_iff, decide_eq_false_iff_not] at h ⊢
      omega
    rw [h2, Bool.false_and]
  · refine gs_ret (EvX.is (ex_all (ns := l.map fun x => decide (97 ≤ x) && decide (x ≤ 122)) (EvF.it ?f1)) ?f2) hq
    case f1 =>
      refine EvF.is2 (ef_lc (xs := l) (e := fun x => .i (dT [x])) (fun _ => true) (fun x => .bool (decide (97 ≤ x) && decide (x ≤ 122))) (ew_str (ex_var rfl)) rfl (fun i x hx => by rw [List.getD_eq_getElem?_getD, hx]; rfl) (fun _ => True.intro) hl (fun fr lo up acc x hx => ⟨_, _, fun j hj => hj, tg_name, ?g1, fun _ => ?g2⟩)) ?g3
      case g1 => exact et_yes
      case g2 => exact ex_chainS rfl rfl (ex_txt (l := [97]) (by decide +kernel)) (ex_var rfl) (ex_txt (l := [122]) (by decide +kernel))
      case g3 => simp only [filt_all, List.map_map]; rfl
    case f2 =>
      refine congrArg PyData.bool ?_
      have h2 : (decide (1 ≤ l.length) && decide (l.length ≤ 12)) = true := by
        simp only [Bool.not_eq_false', Bool.and_eq_true, decide_eq_true_eq] at h ⊢
        omega
      unfold wB
      rw [h2, Bool.true_and, List.all_map]
      rfl
-- END is_word
theorem sc__parse_step : FnScope ["joint", "part", "name", "marks", "mark"] ["joint", "part"] (defScope s__parse_step) := ⟨rfl, rfl, rfl, by decide +kernel, rfl, by decide +kernel, by decide +kernel⟩
/-! Steps of a selector and their texts. -/
def isW (l : List Nat) : Prop := 1 ≤ l.length ∧ l.length ≤ 12 ∧ ∀ x ∈ l, 97 ≤ x ∧ x ≤ 122
abbrev Stp := List Nat × List Nat × List (List Nat)
def dStp (s : Stp) : PyData := .tuple [dT s.1, dT s.2.1, .tuple (s.2.2.map dT)]
/-- a step's text, its joint aside -/
def stT (s : Stp) : List Nat := s.2.1 ++ (s.2.2.map (fun m => 46 :: m)).flatten
def stOk (s : Stp) : Prop := (s.2.1 = [42] ∧ s.2.2 = []) ∨ ((isW s.2.1 ∨ (s.2.1 = [] ∧ s.2.2 ≠ [])) ∧ (∀ m ∈ s.2.2, isW m) ∧ s.2.2.Nodup)
theorem isW_not {l : List Nat} (h : isW l) {d : Nat} (hd : d < 97) : d ∉ l := fun z => by have := (h.2.2 d z).1; omega
theorem isW_ne {l : List Nat} (h : isW l) : l ≠ [] := fun z => by rw [z] at h; exact absurd h.1 (by decide)
theorem splitC_none {d : Nat} : ∀ {l : List Nat}, d ∉ l → splitC d l = [l]
  | [], _ => rfl
  | c :: r, h => splitC_miss (fun z => h (z ▸ List.mem_cons_self ..)) (splitC_none fun z => h (List.mem_cons_of_mem _ z))
theorem splitC_app {d : Nat} : ∀ {l r : List Nat}, d ∉ l → splitC d (l ++ d :: r) = l :: splitC d r
  | [], r, _ => splitC_hit d r
  | c :: l, r, h => splitC_miss (fun z => h (z ▸ List.mem_cons_self ..)) (splitC_app fun z => h (List.mem_cons_of_mem _ z))
theorem splitC_marks : ∀ {n : List Nat} {ms : List (List Nat)}, 46 ∉ n → (∀ m ∈ ms, 46 ∉ m) → splitC 46 (n ++ (ms.map (fun m => 46 :: m)).flatten) = n :: ms
  | n, [], h, _ => by simpa using splitC_none h
  | n, m :: ms, h, hm => by
    rw [List.map_cons, List.flatten_cons, List.cons_append, splitC_app h, splitC_marks (hm m (List.mem_cons_self ..)) fun x hx => hm x (List.mem_cons_of_mem _ hx)]
theorem stOk_n {s : Stp} (h : stOk s) {d : Nat} (hd : d < 97) (h2 : d ≠ 42) : d ∉ s.2.1 := by
  rcases h with h | ⟨h | h, _⟩
  · rw [h.1]; simpa using h2
  · exact isW_not h hd
  · rw [h.1]; exact List.not_mem_nil
theorem stOk_m {s : Stp} (h : stOk s) {d : Nat} (hd : d < 97) : ∀ m ∈ s.2.2, d ∉ m := by
  rcases h with h | ⟨_, h, _⟩
  · rw [h.2]; exact fun m hm => absurd hm List.not_mem_nil
  · exact fun m hm => isW_not (h m hm) hd
theorem stT_split {s : Stp} (h : stOk s) : splitC 46 (stT s) = s.2.1 :: s.2.2 := splitC_marks (stOk_n h (by decide) (by decide)) (stOk_m h (by decide))
/-- no space, no '>' in a step's text; it is not empty -/
theorem stT_free {s : Stp} (h : stOk s) {d : Nat} (hd : d < 97) (h2 : d ≠ 42) (h3 : d ≠ 46) : d ∉ stT s := by
  intro z
  rcases List.mem_append.mp z with z | z
  · exact stOk_n h hd h2 z
  · obtain ⟨l, hl, hd2⟩ := List.mem_flatten.mp z
    obtain ⟨m, hm, rfl⟩ := List.mem_map.mp hl
    rcases List.mem_cons.mp hd2 with e | e
    · exact h3 e
    · exact stOk_m h hd m hm e
theorem stT_ne {s : Stp} (h : stOk s) : stT s ≠ [] := by
  unfold stT
  rcases h with h | ⟨h | h, _⟩
  · rw [h.1]; simp
  · have := isW_ne h; simp [this]
  · cases e : s.2.2 with
    | nil => exact absurd e h.2
    | cons m ms => simp
theorem stT_star {s : Stp} (h : stOk s) : stT s = [42] ↔ s.2.1 = [42] := by
  constructor
  · intro e
    rcases h with h | ⟨h | h, _⟩
    · exact h.1
    · exact absurd (show 42 ∈ s.2.1 from by
        unfold stT at e
        cases hn : s.2.1 with
        | nil => exact absurd hn (isW_ne h)
        | cons a r => rw [hn, List.cons_append] at e; rw [(List.cons.inj e).1]; exact List.mem_cons_self ..) (isW_not h (by decide))
    · unfold stT at e
      rw [h.1, List.nil_append] at e
      cases hm : s.2.2 with
      | nil => exact absurd hm h.2
      | cons m ms => rw [hm, List.map_cons, List.flatten_cons, List.cons_append] at e; exact absurd (List.cons.inj e).1 (by decide)
  · intro e
    rcases h with h | ⟨h | h, _⟩
    · unfold stT; rw [h.1, h.2]; rfl
    · exact absurd (e ▸ List.mem_singleton.mpr rfl) (isW_not h (show 42 < 97 by decide))
    · rw [h.1] at e; cases e
/-! the text of all steps -/
def jnT (j : List Nat) : List Nat := if j = [62] then [32, 62, 32] else j
def wrT : List Stp → List Nat
  | [] => []
  | s :: r => jnT s.1 ++ stT s ++ wrT r
/-- steps as they follow a first one -/
def folOk (s : Stp) : Prop := (s.1 = [32] ∨ s.1 = [62]) ∧ stOk s
def stepsOk : List Stp → Prop
  | [] => False
  | s :: r => s.1 = [] ∧ stOk s ∧ ∀ x ∈ r, folOk x
/-- the parts that parse meets behind a step -/
def parts : List Stp → List (List Nat)
  | [] => []
  | s :: r => (if s.1 = [62] then [[62]] else []) ++ stT s :: parts r
theorem split_rest : ∀ {r : List Stp} {p : List Nat}, (∀ x ∈ r, folOk x) → 32 ∉ p → splitC 32 (p ++ wrT r) = p :: parts r
  | [], p, _, hp => by
    show splitC 32 (p ++ []) = _
    rw [List.append_nil]
    exact splitC_none hp
  | s :: r, p, h, hp => by
    obtain ⟨hj, hs⟩ := h s (List.mem_cons_self ..)
    have hs32 : 32 ∉ stT s := stT_free hs (by decide) (by decide) (by decide)
    have ih := split_rest (r := r) (p := stT s) (fun x hx => h x (List.mem_cons_of_mem _ hx)) hs32
    show splitC 32 (p ++ (jnT s.1 ++ stT s ++ wrT r)) = p :: ((if s.1 = [62] then [[62]] else []) ++ stT s :: parts r)
    rcases hj with hj | hj
    · rw [hj]
      show splitC 32 (p ++ ([32] ++ stT s ++ wrT r)) = _
      rw [List.append_assoc [32], List.singleton_append, splitC_app hp, ih]
      rfl
    · rw [hj]
      show splitC 32 (p ++ ([32, 62, 32] ++ stT s ++ wrT r)) = _
      have e : p ++ ([32, 62, 32] ++ stT s ++ wrT r) = p ++ 32 :: ([62] ++ 32 :: (stT s ++ wrT r)) := by simp
      rw [e, splitC_app hp, splitC_app (by decide), ih]
      rfl
theorem split_all {s : Stp} {r : List Stp} (h : stepsOk (s :: r)) : splitC 32 (wrT (s :: r)) = parts (s :: r) := by
  obtain ⟨h1, h2, h3⟩ := h
  show splitC 32 (jnT s.1 ++ stT s ++ wrT r) = (if s.1 = [62] then [[62]] else []) ++ stT s :: parts r
  rw [h1]
  exact split_rest h3 (stT_free h2 (by decide) (by decide) (by decide))
def markB (ms : List (List Nat)) : Bool := ms.all wB && decide ms.Nodup
/-- what a step's text tells -/
def stepF (j p : List Nat) : Option Stp := if p = [42] then some (j, [42], []) else match splitC 46 p with
  | [] => none
  | n :: ms => if n = [] ∧ ms = [] then none else if n ≠ [] ∧ wB n = false then none else if markB ms = false then none else some (j, n, ms)
def dOpt : Option Stp → PyData
  | none => .none
  | some s => dStp s
theorem splitC_sub (d : Nat) : ∀ (l : List Nat), ∀ q ∈ splitC d l, q.length ≤ l.length
  | [], q, h => by
    rw [show splitC d [] = [[]] from rfl, List.mem_singleton] at h
    rw [h]; exact Nat.le_refl _
  | c :: r, q, h => by
    by_cases e : c = d
    · rw [e, splitC_hit] at h
      rcases List.mem_cons.mp h with z | z
      · rw [z]; exact Nat.zero_le _
      · exact Nat.le_succ_of_le (splitC_sub d r q z)
    · obtain ⟨p, ps, e2⟩ := splitC_ex d r
      rw [splitC_miss e e2] at h
      rcases List.mem_cons.mp h with z | z
      · rw [z]; exact Nat.succ_le_succ (splitC_sub d r p (e2 ▸ List.mem_cons_self ..))
      · exact Nat.le_succ_of_le (splitC_sub d r q (e2 ▸ List.mem_cons_of_mem _ z))
theorem splitC_many (d : Nat) (l : List Nat) : (splitC d l).length ≤ l.length + 1 := by
  have := splitC_len d l
  have := List.count_le_length (a := d) (l := l)
  omega
theorem nodup_sT {ms : List (List Nat)} : (ms.map sT).Nodup ↔ ms.Nodup := ⟨fun h => (List.pairwise_map.mp h).imp fun z e => z (congrArg sT e), fun h => List.pairwise_map.mpr (h.imp fun z e => z (sT_inj e))⟩
def R__parse_step : List PyData → PyData → Prop := fun ds d => ∃ j p : List Nat, p.length ≤ 3000 ∧ ds = [dT j, dT p] ∧ d = dOpt (stepF j p)
theorem R__parse_step_i {j p : List Nat} (hl : p.length ≤ 3000) : R__parse_step [dT j, dT p] (dOpt (stepF j p)) := ⟨j, p, hl, rfl, rfl⟩
local macro_rules | `(tactic| walk_at "r2") => `(tactic| exact R__parse_step_i (by assumption))
theorem R__parse_step_len : ∀ ds d, R__parse_step ds d → ds.length = 2 := by
  intro ds d hh
  unfold R__parse_step at hh
  repeat (obtain ⟨_, hh⟩ := hh)
  subst_eqs
  rfl
theorem ok__parse_step {P : Program} {w : World} {K : PySem.W.Frag} {mg : Str → Option Value} {base : Heap} {f : Addr} {fd : FuncData} (F : FnP K "_parse_step" s__parse_step f fd) (g0 : mg "_parse_step" = some (.ref f)) (h_is_word : Cal P w K mg base 1 "is_word" ["value"] (spD K  R_is_word)) (z_all : mg "all" = none) (z_len : mg "len" = none) (z_set : mg "set" = none) (z_tuple : mg "tuple" = none) : Cal P w K mg base 2 "_parse_step" ["joint", "part"] (spD K  R__parse_step) := by
  refine cal_mk F sc__parse_step g0 (spD_len R__parse_step_len) (fun _ _ _ _ _ _ us hl => match us, hl with | [_, _], _ => rfl) (fun cdv A outer s H vs Q E hr h => ⟨_,
    (pss_cons (ps_if (pt_cmpR op_eq (pv 1) pe_str (nomark _))
     (pss_cons (ps_ret (pe_tup (pa_cons (pv 0) (pa_cons pe_str (pa_cons (pe_tup pa_nil) pa_nil)))))
     pss_nil)
     pss_nil)
     (pss_cons (ps_asg (pe_split (pv 1) pe_str) (DL.kStarT (K := K) (pgs_cons (pg_name (i := 2) sc__parse_step.nd rfl (by first | exact Or.inl rfl | exact Or.inr rfl)) (pgs_cons (pg_name (i := 3) sc__parse_step.nd rfl (by first | exact Or.inl rfl | exact Or.inr rfl)) pgs_nil))))
     (pss_cons (ps_if (PW.pt (pw_and (pt_cmpR op_eq (pv 2) pe_str (nomark _)) (pw_and1 (pt_not (DL.kTru (K := K) (pv 3) (by intro _; rfl))))))
     (pss_cons (ps_ret pe_non)
     pss_nil)
     pss_nil)
     (pss_cons (ps_if (PW.pt (pw_and (pt_cmpR op_ne (pv 2) pe_str (nomark _)) (pw_and1 (pt_not (pt_val (DL.pe_cal h_is_word hr (by decide) (by rfl) pass0 (pa_cons (pv 2) pa_nil)))))))
     (pss_cons (ps_ret pe_non)
     pss_nil)
     pss_nil)
     (pss_cons (ps_if (PW.pt (pw_or (pt_not (pt_val (pe_callB (DL.kAll (K := K) rfl) (by rfl) z_all (by decide +kernel) (pa_cons (pe_lc (own := [("mark", 4)]) (by rfl) sc__parse_step.nd (DL.kPiL (K := K) (pv 3)) (blkOk_by (own := [("mark", 4)]) (N := ["joint", "part", "name", "marks", "mark"]) (sc := defScope s__parse_step) (by decide +kernel)) (fun _ _ _ _ _ => (pg_name (i := 4) sc__parse_step.nd rfl (by first | exact Or.inl rfl | exact Or.inr rfl))) (fun _ _ _ _ _ => pts_nil) (fun _ _ _ _ _ => (DL.pe_cal h_is_word hr (by decide) (by rfl) pass0 (pa_cons (pv 4) pa_nil)))) pa_nil)))) (pw_or1 (pt_cmpR op_lt (DL.kLenS (K := K) (by rfl) z_len (by rfl) z_set (pv 3)) (pe_callB (DL.kLen (K := K)) (by rfl) z_len (by decide +kernel) (pa_cons (pv 3) pa_nil)) (nomark _)))))
     (pss_cons (ps_ret pe_non)
     pss_nil)
     pss_nil)
     (pss_cons (ps_ret (pe_tup (pa_cons (pv 0) (pa_cons (pv 2) (pa_cons (pe_callTy (DL.kTupleOf (K := K)) (by rfl) z_tuple (by decide +kernel) (pa_cons (pv 3) pa_nil)) pa_nil)))))
     pss_nil)))))), ?_⟩)
  refine run_spD h fun N ds d hR hq => ?_
  obtain ⟨j, p, hl, rfl, rfl⟩ := hR
  walk_at "env"
  refine gs_if (et_test (ex_eqT (ex_var rfl) (ex_txt (l := [42]) (by decide +kernel)))) (fun h => ?_) (fun h => g_nextU ?_)
  · refine gs_ret (EvX.is (ex_tup (ea_cons (ex_var rfl) (ea_cons (ex_txt (l := [42]) (by decide +kernel)) (ea_cons (ex_tup ea_nil (Nat.zero_le _)) ea_nil))) (Nat.le_of_ble_eq_true rfl)) ?_) hq
    unfold stepF
    rw [if_pos (of_decide_eq_true h)]
    rfl
  have hn : ¬ p = [42] := of_decide_eq_false h
  obtain ⟨n, ms, hs⟩ := splitC_ex 46 p
  have hst : stepF j p = if n = [] ∧ ms = [] then none else if n ≠ [] ∧ wB n = false then none else if markB ms = false then none else some (j, n, ms) := by unfold stepF; rw [if_neg hn, hs]
  have hnl : n.length ≤ 3000 := Nat.le_trans (splitC_sub 46 p n (hs ▸ List.mem_cons_self ..)) hl
  have hml : ∀ m ∈ ms, m.length ≤ 3000 := fun m h => Nat.le_trans (splitC_sub 46 p m (hs ▸ List.mem_cons_of_mem _ h)) hl
  have hmc : ms.length ≤ 3000 := by
    have := splitC_many 46 p
    rw [hs, List.length_cons] at this
    omega
  rw [hst] at hq
  refine gs_asgStar (d := dT n) (ds := ms.map dT) (EvF.it (EvF.is (ef_split (x := 46) rfl (ex_var rfl) (ex_txt (by decide +kernel)) (by decide) (by omega)) (by rw [hs]; rfl))) ?_
  walk_at "nf"
  refine gs_own (i := 3) (k := 0) (ds := ms.map dT) rfl rfl ?_
  walk_at "nf"
  refine gs_if (b := decide (n = [] ∧ ms = [])) (EvT.is (et_and (et_test (ex_eqT (b := []) (ex_var rfl) (ex_txt (by decide +kernel)))) (fun _ => et_not (et_truK (EvX.it (ex_var rfl))))) ?a1) (fun h => ?a2) fun h => g_nextU ?a3
  case a1 => rw [Bool.decide_and]; cases ms <;> simp
  case a2 =>
    rw [if_pos (of_decide_eq_true h)] at hq
    exact gs_ret ex_non hq
  rw [if_neg (of_decide_eq_false h)] at hq
  refine gs_if (b := decide (n ≠ [] ∧ wB n = false)) (EvT.is (et_and (et_test (ex_neT (b := []) (ex_var rfl) (ex_txt (by decide +kernel)))) (fun _ => et_not (et_B (ex_call (ea_cons (ex_var rfl) ea_nil) (R_is_word_i (by omega)))))) ?b1) (fun h => ?b2) fun h => g_nextU ?b3
  case b1 => rw [Bool.decide_and]; cases wB n <;> simp
  case b2 =>
    rw [if_pos (of_decide_eq_true h)] at hq
    exact gs_ret ex_non hq
  rw [if_neg (of_decide_eq_false h)] at hq
  refine gs_if (b := !markB ms) (EvT.is (et_or (a := !(ms.all wB)) (et_not (EvT.is (et_B (ex_all (ns := ms.map wB) (EvF.it (EvF.is (ef_lcD (xs := ms) (e := dT) (fun _ => true) (fun m => .bool (wB m)) (ex_var rfl) (by omega) (fun fr lo up acc x hx => ⟨_, _, fun j hj => hj, tg_name, et_yes, fun _ => ex_call (ea_cons (ex_var rfl) ea_nil) (R_is_word_i (Nat.le_trans (hml x hx) (by omega)))⟩)) ?d3)))) ?d4)) (fun _ => et_test (ex_b2 (ex_lenSetC (xs := ms.map sT) (EvX.it (EvX.is (ex_var rfl) ?d5)) ?d7) (ex_lenK (EvX.it (ex_var rfl)))))) ?d8) (fun h => ?d10) fun h => ?d9
  case d3 => simp only [filt_all, List.map_map]; rfl
  case d4 => rw [List.all_map]; rfl
  case d5 => rw [List.map_map]; rfl
  case d7 => rw [List.length_map]; omega
  case d8 =>
    have e := cntD_lt (xs := ms.map sT)
    rw [decide_eq_decide.mpr nodup_sT] at e
    unfold markB
    rw [Bool.not_and, ← e]
    simp
  case d10 =>
    have h' : markB ms = false := by cases e : markB ms with | true => rw [e] at h; cases h | false => rfl
    rw [if_pos h'] at hq
    exact gs_ret ex_non hq
  case d9 =>
  have h' : ¬ markB ms = false := fun z => by rw [z] at h; cases h
  rw [if_neg h'] at hq
  refine g_nextU ?_
  refine gs_ret (ex_tup (ea_cons (ex_var rfl) (ea_cons (ex_var rfl) (ea_cons (ex_tupleOf rfl (EvX.it (ex_var rfl))) ea_nil))) (Nat.le_of_ble_eq_true rfl)) hq
-- END _parse_step
theorem sc_parse_selector : FnScope ["text", "steps", "joint", "part", "step"] ["text"] (defScope s_parse_selector) := ⟨rfl, rfl, rfl, by decide +kernel, rfl, by decide +kernel, by decide +kernel⟩
/-- the parts of a text, one after the other -/
def runF : List (List Nat) → List Nat → List Stp → Option (List Nat × List Stp)
  | [], j, acc => some (j, acc)
  | p :: ps, j, acc => if p = [62] ∧ j = [32] then runF ps [62] acc else match stepF j p with
    | none => none
    | some s => runF ps [32] (acc ++ [s])
def parseF (t : List Nat) : Option (List Stp) := if 100 < t.length then none else match runF (splitC 32 t) [] [] with
  | none => none
  | some (j, acc) => if j = [62] ∨ 4 < acc.length then none else some acc
def outF (C : Addr) (t : List Nat) : Option (List Stp) → DL.Out
  | none => .err C (dT t)
  | some all => .val (.tuple (all.map dStp))
/-- what holds of the parts read so far -/
inductive PIr (t : List Nat) (i : Nat) : Sy → List SO → Prop
  | at (j : List Nat) (acc : List Stp) (hl : acc.length ≤ i) (h : runF (splitC 32 t) [] [] = runF ((splitC 32 t).drop i) j acc) : PIr t i [some (.i (dT t)), some (.r 0), some (.i (dT j)), none, none] [.lst ((acc.map dStp).map SV.i)]
def R_parse_selector (C_BadSelector : Addr) : List PyData → DL.Out → Prop := fun ds o => ∃ t : List Nat, t.length ≤ 3000 ∧ ds = [dT t] ∧ o = outF C_BadSelector t (parseF t)
theorem R_parse_selector_i {C : Addr} {t : List Nat} (h : t.length ≤ 3000) : R_parse_selector C [dT t] (outF C t (parseF t)) := ⟨t, h, rfl, rfl⟩
local macro_rules | `(tactic| walk_at "r2") => `(tactic| exact R_parse_selector_i (by assumption))
theorem R_parse_selector_len : ∀ (C_BadSelector : Addr) ds d, R_parse_selector C_BadSelector ds d → ds.length = 1 := by
  intro C_BadSelector ds d hh
  unfold R_parse_selector at hh
  repeat (obtain ⟨_, hh⟩ := hh)
  subst_eqs
  rfl
theorem ok_parse_selector {P : Program} {w : World} {K : PySem.W.Frag} {mg : Str → Option Value} {base : Heap} {f : Addr} {fd : FuncData} (F : FnP K "parse_selector" s_parse_selector f fd) (g0 : mg "parse_selector" = some (.ref f)) {f_I : Addr} {C_BadSelector : Addr} (g_BadSelector : mg "BadSelector" = some (.ref C_BadSelector)) (e_BadSelector : DL.ErC K C_BadSelector f_I) {fd_I : FuncData} (h_init : FnOk P w K mg base CX0 1 f_I fd_I ["self", "value"] (DL.spE0 K)) (b_init : Binds K fd_I ["self", "value"] []) (h__parse_step : Cal P w K mg base 2 "_parse_step" ["joint", "part"] (spD K  R__parse_step)) (z_isinstance : mg "isinstance" = none) (z_str : mg "str" = none) (z_len : mg "len" = none) (z_tuple : mg "tuple" = none) (c_MOST_CHARACTERS : ∃ t, mg "MOST_CHARACTERS" = some (.int 100 t)) (c_MOST_STEPS : ∃ t, mg "MOST_STEPS" = some (.int 4 t)) : DL.CalX P w K mg base 3 "parse_selector" ["text"] (DL.spX K (R_parse_selector C_BadSelector)) := by
  refine DL.cal_mkX F sc_parse_selector g0 (DL.spX_len (R_parse_selector_len C_BadSelector)) (fun _ _ _ _ _ _ us hl => match us, hl with | [_], _ => rfl) (fun cdv A outer s H vs Q E hr h => ⟨_,
    (pss_cons (ps_if (PW.pt (pw_or (pt_not (pt_val (pe_callB (DL.kIsi (K := K)) (by rfl) z_isinstance (by decide +kernel) (pa_cons (pv 0) (pa_cons (pe_bltn (v := .ty "str") (u := .type "str") (by rfl) z_str (by decide +kernel) rfl) pa_nil))))) (pw_or1 (pt_cmpR op_gt (pe_callB call_len_str (by rfl) z_len (by decide +kernel) (pa_cons (pv 0) pa_nil)) (C8.pe_gc (v := .int 100) (by rfl) (DL.gci c_MOST_CHARACTERS)) (nomark _)))))
     (pss_cons (ps_raise rfl (takes_of rfl rfl rfl rfl) (pmk_oex e_BadSelector.o e_BadSelector.i e_BadSelector.t h_init (hr.mono (by decide)) b_init .nil pass0 (by rfl) g_BadSelector (pa_cons (pv 0) pa_nil)))
     pss_nil)
     pss_nil)
     (pss_cons (ps_set (i := 1) sc_parse_selector.nd rfl (by first | exact Or.inl rfl | exact Or.inr rfl) (pe_lst pa_nil))
     (pss_cons (ps_set (i := 2) sc_parse_selector.nd rfl (by first | exact Or.inl rfl | exact Or.inr rfl) pe_str)
     (pss_cons (ps_for (passes_of rfl) rfl (DL.kPiL (K := K) (pe_split (pv 0) pe_str)) (pg_name (i := 3) sc_parse_selector.nd rfl (by first | exact Or.inl rfl | exact Or.inr rfl))
     (pss_cons (ps_if (PW.pt (pw_and (pt_cmpR op_eq (pv 3) pe_str (nomark _)) (pw_and1 (pt_cmpR op_eq (pv 2) pe_str (nomark _)))))
     (pss_cons (ps_set (i := 2) sc_parse_selector.nd rfl (by first | exact Or.inl rfl | exact Or.inr rfl) pe_str)
     (pss_cons ps_continue
     pss_nil))
     pss_nil)
     (pss_cons (ps_set (i := 4) sc_parse_selector.nd rfl (by first | exact Or.inl rfl | exact Or.inr rfl) (DL.pe_cal h__parse_step hr (by decide) (by rfl) pass0 (pa_cons (pv 2) (pa_cons (pv 3) pa_nil))))
     (pss_cons (ps_if (pt_cmpR op_isN (pv 4) pe_non (nomark _))
     (pss_cons (ps_raise rfl (takes_of rfl rfl rfl rfl) (pmk_oex e_BadSelector.o e_BadSelector.i e_BadSelector.t h_init (hr.mono (by decide)) b_init .nil pass0 (by rfl) g_BadSelector (pa_cons (pv 0) pa_nil)))
     pss_nil)
     pss_nil)
     (pss_cons (ps_expr (DL.kBm (K := K) (pe_bm PySem.F.plainAttrs_list PySem.F.slot_list_append PySem.F.type_list_append mt_append (pv 1) (pa_cons (pv 4) pa_nil))))
     (pss_cons (ps_set (i := 2) sc_parse_selector.nd rfl (by first | exact Or.inl rfl | exact Or.inr rfl) pe_str)
     pss_nil))))))
     (pss_cons (ps_if (PW.pt (pw_or (pt_cmpR op_eq (pv 2) pe_str (nomark _)) (pw_or1 (pt_cmpR op_gt (pe_callB (DL.kLen (K := K)) (by rfl) z_len (by decide +kernel) (pa_cons (pv 1) pa_nil)) (C8.pe_gc (v := .int 4) (by rfl) (DL.gci c_MOST_STEPS)) (nomark _)))))
     (pss_cons (ps_raise rfl (takes_of rfl rfl rfl rfl) (pmk_oex e_BadSelector.o e_BadSelector.i e_BadSelector.t h_init (hr.mono (by decide)) b_init .nil pass0 (by rfl) g_BadSelector (pa_cons (pv 0) pa_nil)))
     pss_nil)
     pss_nil)
     (pss_cons (ps_ret (pe_callTy (DL.kTupleOf (K := K)) (by rfl) z_tuple (by decide +kernel) (pa_cons (pv 1) pa_nil)))
     pss_nil)))))), ?_⟩)
  refine DL.run_spX h fun N ds o hR hq => ?_
  obtain ⟨t, hl, rfl, rfl⟩ := hR
  walk_at "env"
  refine gs_if (b := decide (100 < t.length)) (EvT.is (et_or (et_not (et_B (ex_isi (ex_var rfl) kit_str_str))) (fun _ => et_test (ex_b2 (ex_lenS rfl (ex_var rfl) (by omega)) ex_int))) ?a1) (fun h => ?a2) fun h => g_nextU ?a3
  case a1 =>
    have e : (decide ((t.length : Int) > 100)) = decide (100 < t.length) := decide_eq_decide.mpr (by omega)
    simp
    omega
  case a2 =>
    have e : parseF t = none := by unfold parseF; rw [if_pos (of_decide_eq_true h)]
    rw [e] at hq
    exact DL.gs_raise e_BadSelector (DL.evD_T t) (ea_cons (ex_var rfl) ea_nil) (hq.2 _ _ _ rfl (DL.evD_T t))
  have h100 : ¬ 100 < t.length := of_decide_eq_false h
  have hpf : parseF t = match runF (splitC 32 t) [] [] with | none => none | some (j, acc) => if j = [62] ∨ 4 < acc.length then none else some acc := by unfold parseF; rw [if_neg h100]
  refine gs_asgF (o := .lst []) (ef_lst eas_nil (Nat.zero_le _)) ?_
  walk_at "nf"
  refine gs_asg (d := dT []) (ex_txt (by decide +kernel)) ?_
  walk_at "nf"
  have hmany := splitC_many 32 t
  refine' gs_forN (fun n => n = (splitC 32 t).length) (PIr t) (ewm (ew_list (ds := (splitC 32 t).map dT) (EvF.ev (ef_split (x := 32) rfl (ex_var rfl) (ex_txt (by decide +kernel)) (by decide) (by omega)))) (by simp)) (PIr.at [] [] (Nat.zero_le _) rfl) (fun _ _ _ _ => True.intro) (fun fr up n i e o hn hi hI => ?b1) (fun n e o hn hI => ?b2)
  case b1 =>
    subst hn
    cases hI with
    | «at» j acc hacc hrun =>
      have hp : (splitC 32 t)[i]? = some ((splitC 32 t)[i]'hi) := List.getElem?_eq_getElem hi
      generalize hpv : (splitC 32 t)[i]'hi = p at hp
      have hdr : (splitC 32 t).drop i = p :: (splitC 32 t).drop (i + 1) := by rw [← hpv]; exact List.drop_eq_getElem_cons hi
      have hpl : p.length ≤ 3000 := Nat.le_trans (splitC_sub 32 t p (List.mem_of_getElem? hp)) hl
      rw [hdr] at hrun
      have hit : itD ((splitC 32 t).map dT) i = .i (dT p) := itD_map _ _ hp
      rw [hit]
      refine ⟨_, _, tg_name, ?_⟩
      walk_at "nf"
      refine gs_if (b := decide (p = [62] ∧ j = [32])) (EvT.is (et_and (et_test (ex_eqT (ex_var rfl) (ex_txt (l := [62]) (by decide +kernel)))) (fun _ => et_test (ex_eqT (ex_var rfl) (ex_txt (l := [32]) (by decide +kernel))))) (by rw [Bool.decide_and])) (fun h => ?_) (fun h => g_nextU ?_)
      · refine gs_asg (d := dT [62]) (ex_txt (by decide +kernel)) ?_
        walk_at "nf"
        have hr2 : runF (splitC 32 t) [] [] = runF ((splitC 32 t).drop (i + 1)) [62] acc := by
          rw [hrun]
          show (if p = [62] ∧ j = [32] then _ else _) = _
          rw [if_pos (of_decide_eq_true h)]
        refine gs_cont fun ad σ H ok => ⟨_, _, PIr.at [62] acc (by omega) hr2, ?_⟩
        exact ⟨ad, ok.weak (by simp [WkE]) (by simp [WkO]) (by simp [EnLt, SvLt]) (by walk_at "osl") (by simp)⟩
      have hr2 : runF (splitC 32 t) [] [] = match stepF j p with | none => none | some s => runF ((splitC 32 t).drop (i + 1)) [32] (acc ++ [s]) := by
        rw [hrun]
        show (if p = [62] ∧ j = [32] then _ else _) = _
        rw [if_neg (of_decide_eq_false h)]
      refine gs_asg (d := dOpt (stepF j p)) (ex_call (ea_cons (ex_var rfl) (ea_cons (ex_var rfl) ea_nil)) (R__parse_step_i hpl)) ?_
      walk_at "nf"
      cases hs : stepF j p with
      | none =>
        rw [hs] at hr2
        have e : parseF t = none := by rw [hpf, hr2]
        rw [e] at hq
        refine gs_if (b := true) (EvT.is (et_test (ex_isN rfl (ex_var rfl))) rfl) (fun _ => ?_) (fun z => nomatch z)
        exact DL.gs_raise e_BadSelector (DL.evD_T t) (ea_cons (ex_var rfl) ea_nil) (hq.2 _ _ _ rfl (DL.evD_T t))
      | some s =>
        rw [hs] at hr2
        refine gs_if (b := false) (EvT.is (et_test (ex_isN rfl (ex_var rfl))) rfl) (fun z => nomatch z) fun _ => g_nextU ?_
        refine gs_app (k := 0) (er_var rfl (by simp)) rfl (s := .i (dStp s)) (show EvX false _ _ _ _ _ from ex_var rfl) (by simp; omega) ?_
        refine gs_asg (d := dT [32]) (ex_txt (by decide +kernel)) ?_
        walk_at "nf"
        refine gs_nxI (show PIr t (i + 1) _ _ from PIr.at [32] (acc ++ [s]) (by simp; omega) hr2) fun ad σ H ok => ⟨ad, ?_⟩
        exact ok.weak (by simp [WkE]) (by simp [WkO]) (by simp [EnLt, SvLt]) ⟨soLt_data, True.intro⟩ (by simp)
  case b2 =>
  subst hn
  cases hI with
  | «at» j acc hacc hrun =>
    rw [List.drop_length] at hrun
    have hr2 : runF (splitC 32 t) [] [] = some (j, acc) := hrun
    rw [hr2] at hpf
    refine gs_if (b := decide (j = [62] ∨ 4 < acc.length)) (EvT.is (et_or (et_test (ex_eqT (ex_var rfl) (ex_txt (l := [62]) (by decide +kernel)))) (fun _ => et_test (ex_b2 (ex_lenK (EvR.it (er_var rfl (by simp)) rfl)) ex_int))) ?c1) (fun h => ?c2) fun h => g_nextU ?c3
    case c1 =>
      rw [Bool.decide_or]
      refine congrArg _ (decide_eq_decide.mpr ?_)
      simp
      omega
    case c2 =>
      have e : parseF t = none := by rw [hpf]; exact if_pos (of_decide_eq_true h)
      rw [e] at hq
      exact DL.gs_raise e_BadSelector (DL.evD_T t) (ea_cons (ex_var rfl) ea_nil) (hq.2 _ _ _ rfl (DL.evD_T t))
    have e : parseF t = some acc := by rw [hpf]; exact if_neg (of_decide_eq_false h)
    rw [e] at hq
    refine gs_ret (ex_tupleOf rfl (EvR.it (er_var rfl (by simp)) rfl)) (hq.1 _ rfl)
-- END parse_selector
theorem sc_write_selector : FnScope ["steps", "text", "joint", "name", "marks", "mark"] ["steps"] (defScope s_write_selector) := ⟨rfl, rfl, rfl, by decide +kernel, rfl, by decide +kernel, by decide +kernel⟩
def jnOk (s : Stp) : Prop := s.1 = [] ∨ s.1 = [32] ∨ s.1 = [62]
theorem wrT_app : ∀ a b : List Stp, wrT (a ++ b) = wrT a ++ wrT b
  | [], b => rfl
  | s :: a, b => by
    show jnT s.1 ++ stT s ++ wrT (a ++ b) = (jnT s.1 ++ stT s ++ wrT a) ++ wrT b
    rw [wrT_app a b]
    simp only [List.append_assoc]
def R_write_selector : List PyData → PyData → Prop := fun ds d => ∃ all : List Stp, (∀ s ∈ all, jnOk s) ∧ (wrT all).length ≤ 100000 ∧ (∀ s ∈ all, s.2.2.length ≤ 100) ∧ ds = [.tuple (all.map dStp)] ∧ d = dT (wrT all)
theorem R_write_selector_i {all : List Stp} (h : ∀ s ∈ all, jnOk s) (hl : (wrT all).length ≤ 100000) (hm : ∀ s ∈ all, s.2.2.length ≤ 100) : R_write_selector [.tuple (all.map dStp)] (dT (wrT all)) := ⟨all, h, hl, hm, rfl, rfl⟩
local macro_rules | `(tactic| walk_at "r2") => `(tactic| exact R_write_selector_i (by assumption) (by assumption) (by assumption))
theorem R_write_selector_len : ∀ ds d, R_write_selector ds d → ds.length = 1 := by
  intro ds d hh
  unfold R_write_selector at hh
  repeat (obtain ⟨_, hh⟩ := hh)
  subst_eqs
  rfl
theorem ok_write_selector {P : Program} {w : World} {K : PySem.W.Frag} {mg : Str → Option Value} {base : Heap} {f : Addr} {fd : FuncData} (F : FnP K "write_selector" s_write_selector f fd) (g0 : mg "write_selector" = some (.ref f)) {a_BEFORE : Addr} (c_BEFORE : mg "BEFORE" = some (.ref a_BEFORE)) (k_BEFORE : DL.KdOk K w a_BEFORE kd_BEFORE) : Cal P w K mg base 1 "write_selector" ["steps"] (spD K  R_write_selector) := by
  refine cal_mk F sc_write_selector g0 (spD_len R_write_selector_len) (fun _ _ _ _ _ _ us hl => match us, hl with | [_], _ => rfl) (fun cdv A outer s H vs Q E hr h => ⟨_,
    (pss_cons (ps_set (i := 1) sc_write_selector.nd rfl (by first | exact Or.inl rfl | exact Or.inr rfl) pe_str)
     (pss_cons (ps_for PassesOwn.never rfl (DL.kPiT (K := K) (pv 0)) (DL.kTup (K := K) (n := 3) rfl (pgs_cons (pg_name (i := 2) sc_write_selector.nd rfl (by first | exact Or.inl rfl | exact Or.inr rfl)) (pgs_cons (pg_name (i := 3) sc_write_selector.nd rfl (by first | exact Or.inl rfl | exact Or.inr rfl)) (pgs_cons (pg_name (i := 4) sc_write_selector.nd rfl (by first | exact Or.inl rfl | exact Or.inr rfl)) pgs_nil))))
     (pss_cons (ps_aug (i := 1) sc_write_selector.nd rfl (by first | exact Or.inl rfl | exact Or.inr rfl) (pe_op op_add_str (pe_op op_add_str (pe_ix (DL.kIxKd (K := K) (W := w)) (pe_glob (v := .ref a_BEFORE) (by rfl) c_BEFORE rfl) (pv 2) (fun _ _ => rfl)) (pv 3)) (DL.kJoin (K := K) pe_str (pe_lc (own := [("mark", 5)]) (by rfl) sc_write_selector.nd (DL.kPiT (K := K) (pv 4)) (blkOk_by (own := [("mark", 5)]) (N := ["steps", "text", "joint", "name", "marks", "mark"]) (sc := defScope s_write_selector) (by decide +kernel)) (fun _ _ _ _ _ => (pg_name (i := 5) sc_write_selector.nd rfl (by first | exact Or.inl rfl | exact Or.inr rfl))) (fun _ _ _ _ _ => pts_nil) (fun _ _ _ _ _ => (DL.pe_fsT (pv 5)))))) iop_add_str)
     pss_nil))
     (pss_cons (ps_ret (pv 1))
     pss_nil))), ?_⟩)
  refine run_spD h fun N ds d hR hq => ?_
  obtain ⟨all, hj, hl, hmm, rfl, rfl⟩ := hR
  walk_at "env"
  refine gs_asg (d := dT []) (ex_txt (by decide +kernel)) ?_
  walk_at "nf"
  refine' gs_forTu (xs := all) (f := dStp) (fun pre => [some (.i (.tuple (all.map dStp))), some (.i (dT (wrT pre))), none, none, none, none]) (fun _ => []) (ex_var rfl) (fun c' _ ad σ H ok => ok) (fun fr up pre x post hx => ⟨_, _, tg_tup (ds := [dT x.1, dT x.2.1, .tuple (x.2.2.map dT)]) (tgs_cons tg_name (tgs_cons tg_name (tgs_cons tg_name tgs_nil))) rfl, ?b1⟩) ?b2
  case b1 =>
    walk_at "nf"
    have hlx : (wrT pre).length + ((jnT x.1).length + (stT x).length) ≤ 100000 := by
      rw [hx, wrT_app] at hl
      have e : wrT (x :: post) = jnT x.1 ++ stT x ++ wrT post := rfl
      rw [e] at hl
      simp only [List.length_append] at hl
      omega
    have hst : stT x = x.2.1 ++ (x.2.2.map (fun m => 46 :: m)).flatten := rfl
    have hls : (stT x).length = x.2.1.length + ((x.2.2.map (fun m => 46 :: m)).flatten).length := by rw [hst, List.length_append]
    have hxa : x ∈ all := hx ▸ List.mem_append_right _ (List.mem_cons_self ..)
    have hfl : ∀ m ∈ x.2.2, m.length + 1 ≤ ((x.2.2.map (fun m => 46 :: m)).flatten).length := fun m hm => by
      obtain ⟨p, q, e⟩ := List.append_of_mem hm
      rw [e, List.map_append, List.map_cons, List.flatten_append, List.flatten_cons]
      simp only [List.length_append, List.length_cons]
      omega
    have hsum : ((x.2.2.map (fun m => 46 :: m)).map List.length).sum = ((x.2.2.map (fun m => 46 :: m)).flatten).length := by rw [List.length_flatten]
    refine' gs_augT (b := jnT x.1 ++ x.2.1 ++ (x.2.2.map (fun m => 46 :: m)).flatten) rfl rfl (ex_catS rfl (ex_catS rfl (ex_kdget k_BEFORE ?c1 (ex_var rfl)) (ex_var rfl) ?c2) (EvX.is (ex_joinS (a := []) (ls := x.2.2.map (fun m => 46 :: m)) rfl (ex_txt (by decide +kernel)) (EvF.it (EvF.is2 (ef_lc (xs := x.2.2) (e := fun m => .i (dT m)) (fun _ => true) (fun m => dT (46 :: m)) (ew_tup (ds := x.2.2.map dT) (ex_var rfl)) (by simp) itD_map (fun _ => True.intro) (by have := hmm x hxa; omega) (fun fr lo up acc m hm => ⟨_, _, fun j hj => hj, tg_name, et_yes, fun _ => ex_fsT (a := [46]) (by decide +kernel) (ex_var rfl) ?c4⟩)) ?c5)) ?c6) ?c7) ?c8) ?c9 ?_
    case c1 =>
      rcases hj x hxa with z | z | z <;> rw [z]
      · exact List.mem_of_getElem? (i := 0) (by kernel_rfl)
      · exact List.mem_of_getElem? (i := 1) (by kernel_rfl)
      · exact List.mem_of_getElem? (i := 2) (by kernel_rfl)
    case c2 => omega
    case c4 => have := hfl m hm; simp; omega
    case c5 => simp only [filt_all, List.map_map]; rfl
    case c6 => rw [hsum, List.length_nil, Nat.mul_zero]; omega
    case c7 => rw [joinL_nil]
    case c8 => rw [List.length_append]; omega
    case c9 => simp only [List.length_append]; omega
    have e : wrT (pre ++ [x]) = wrT pre ++ (jnT x.1 ++ x.2.1 ++ (x.2.2.map (fun m => 46 :: m)).flatten) := by
      rw [wrT_app]
      show wrT pre ++ (jnT x.1 ++ stT x ++ []) = _
      rw [hst]
      simp only [List.append_nil, List.append_assoc]
    rw [← e]
    walk_at "nf"
    walk_at "wk"
  case b2 =>
  refine gs_ret (ex_var rfl) hq
-- END write_selector
theorem sc__law_next : FnScope ["state", "many", "cell", "drawn"] ["state", "many"] (defScope s__law_next) := ⟨rfl, rfl, rfl, by decide +kernel, rfl, by decide +kernel, by decide +kernel⟩
def R__law_next : List PyData → PyData → Prop := fun ds d => ∃ many n : Int, 0 < many ∧ many < 1073741824 ∧ 0 ≤ n ∧ n < many ∧ ds = [.int many] ∧ d = .int n
theorem R__law_next_i {many : Int} (h1 : 0 < many) (h2 : many < 1073741824) : ∃ d, R__law_next [.int many] d := ⟨.int 0, many, 0, h1, h2, Int.le_refl _, h1, rfl, rfl⟩
local macro_rules | `(tactic| walk_at "r2") => `(tactic| exact R__law_next_i (by omega) (by omega))
theorem R__law_next_len : ∀ ds d, R__law_next ds d → ds.length = 1 := by
  intro ds d hh
  unfold R__law_next at hh
  repeat (obtain ⟨_, hh⟩ := hh)
  subst_eqs
  rfl
theorem ok__law_next {P : Program} {w : World} {K : PySem.W.Frag} {mg : Str → Option Value} {base : Heap} {f : Addr} {fd : FuncData} (F : FnP K "_law_next" s__law_next f fd) (g0 : mg "_law_next" = some (.ref f)) (z_len : mg "len" = none) (z_int : mg "int" = none) : Cal P w K mg base 1 "_law_next" ["state", "many"] (DL.spM K  R__law_next) := by
  refine cal_mk F sc__law_next g0 (DL.spM_len R__law_next_len) (fun _ _ _ _ _ _ us hl => match us, hl with | [_, _], _ => rfl) (fun cdv A outer s H vs Q E hr h => ⟨_,
    (pss_cons (ps_if (pt_cmpR op_lt (pe_ix (DL.kIxL (K := K)) (pv 0) pe_int (fun _ _ => rfl)) (pv 1) (nomark _))
     (pss_cons (ps_if (pt_cmpR op_gt (pe_callB (DL.kLen (K := K)) (by rfl) z_len (by decide +kernel) (pa_cons (pe_ix (DL.kIxL (K := K)) (pv 0) pe_int (fun _ _ => rfl)) pa_nil)) pe_int (nomark _))
     (pss_cons (ps_set (i := 2) sc__law_next.nd rfl (by first | exact Or.inl rfl | exact Or.inr rfl) (DL.kBm (K := K) (pe_bm PySem.F.plainAttrs_list PySem.F.slot_list_pop PySem.F.type_list_pop mt_popAt (pe_ix (DL.kIxL (K := K)) (pv 0) pe_int (fun _ _ => rfl)) (pa_cons pe_int pa_nil))))
     (pss_cons (ps_asg (pe_ifExp (pt_cmpR op_ge (pv 2) pe_int (nomark _)) (pe_op op_mul pe_int (pv 2)) (pe_op op_sub (pe_op op_mul (pe_un un_neg pe_int) (pv 2)) pe_int)) (pg_sub (pv 0) pe_int set_list))
     (pss_cons (ps_asg (pe_op op_mod (pe_callTy call_int1 (by rfl) z_int (by decide +kernel) (pa_cons (pe_op op_add (pe_op op_mul (pe_ix (DL.kIxL (K := K)) (pv 0) pe_int (fun _ _ => rfl)) pe_int) (pe_ix (DL.kIxL (K := K)) (pv 0) pe_int (fun _ _ => rfl))) pa_nil)) pe_int) (pg_sub (pv 0) pe_int set_list))
     pss_nil)))
     (pss_cons (ps_asg (pe_op op_mod (pe_callTy call_int1 (by rfl) z_int (by decide +kernel) (pa_cons (pe_op op_add (pe_op op_mul (pe_ix (DL.kIxL (K := K)) (pv 0) pe_int (fun _ _ => rfl)) pe_int) pe_int) pa_nil)) pe_int) (pg_sub (pv 0) pe_int set_list))
     (pss_cons (ps_asg (pe_op op_mod (pe_callTy call_int1 (by rfl) z_int (by decide +kernel) (pa_cons (pe_op op_mul (pe_ix (DL.kIxL (K := K)) (pv 0) pe_int (fun _ _ => rfl)) (pe_ix (DL.kIxL (K := K)) (pv 0) pe_int (fun _ _ => rfl))) pa_nil)) pe_int) (pg_sub (pv 0) pe_int set_list))
     pss_nil)))
     pss_nil)
     pss_nil)
     (pss_cons (ps_set (i := 3) sc__law_next.nd rfl (by first | exact Or.inl rfl | exact Or.inr rfl) (pe_op op_mod (pe_callTy call_int1 (by rfl) z_int (by decide +kernel) (pa_cons (pe_ix (DL.kIxL (K := K)) (pv 0) pe_int (fun _ _ => rfl)) pa_nil)) (pv 1)))
     (pss_cons (ps_asg (pe_op op_fdiv (pe_ix (DL.kIxL (K := K)) (pv 0) pe_int (fun _ _ => rfl)) (pv 1)) (pg_sub (pv 0) pe_int set_list))
     (pss_cons (ps_ret (pv 3))
     pss_nil)))), ?_⟩)
  refine DL.run_spM h (List.cons_ne_nil _ _) fun N s b ds hR hq => ?_
  obtain ⟨d0, many, n0, h1, h2, h3, h4, rfl, rfl⟩ := hR
  simp only [DL.env1]
  walk_at "env"
  refine gs_open01 fun ns a m => ?_
  have tail := fun (u : TS) (hu : Go ⟨K, H, N, fun x => x = s ∨ x = b, [(.ref s, .r 1), (.ref b, .r 0)], 2⟩ [some (.r 1), some (.i (.int many)), none, none] [.nums, .stt 0] u (De Q)) => hu
  refine gs_ifJ [some (.r 1), some (.i (.int many)), none, none] [.nums, .stt 0] (b := decide (a < many)) (et_test (ex_b2 (ex_ixL (EvR.it (er_var rfl (Nat.lt_succ_self 1)) rfl) ex_int rfl) (ex_var rfl))) ?k1 (fun _ hk => ?k2) (fun _ hk => g_nextU (gs_close01 hk))
  case k1 =>
    refine gs_open01 fun ns a m => ?_
    refine gs_asg (d := .int (a % many)) (ex_i2c (ex_int1 rfl (ex_ixL (EvR.it (er_var rfl (Nat.lt_succ_self 1)) rfl) ex_int rfl)) (ex_var rfl) h1) ?_
    walk_at "nf"
    refine gs_setI (s := .i (.int (a / many))) (i := 1) (j := 1) (show EvX false _ _ _ _ _ from ex_i2c (ex_ixL (EvR.it (er_var rfl (Nat.lt_succ_self 1)) rfl) ex_int rfl) (ex_var rfl) ⟨h1, h2⟩) (er_var rfl (Nat.lt_succ_self 1)) rfl ex_int rfl ?_
    walk_at "nf"
    refine gs_close01 ?_
    exact gs_retM (em_x (P := fun d => d = .int (a % many)) (ex_var rfl) rfl) hq rfl rfl (fun d e => ⟨many, a % many, h1, h2, Int.emod_nonneg _ (by omega), Int.emod_lt_of_pos _ h1, rfl, e⟩)
  case k2 =>
    refine gs_if (b := decide (0 < ns.length)) (EvT.is (et_test (ex_b2 (ex_lenK (EvR.it (er_ixO (j := 0) (er_var rfl (Nat.lt_succ_self 1)) rfl ex_int rfl (Nat.succ_pos 1)) rfl)) ex_int)) (by simp)) (fun hb => ?_) (fun _ => ?_)
    · have hb : 0 < ns.length := of_decide_eq_true hb
      cases ns with
      | nil => cases hb
      | cons x ns =>
        refine gs_asgPop0 (d := .int x) (ss := (ns.map PyData.int).map SV.i) (er_ixO (j := 0) (er_var rfl (Nat.lt_succ_self 1)) rfl ex_int rfl (Nat.succ_pos 1)) rfl ex_int ?_
        walk_at "nf"
        refine gs_setI (s := .i (.int (if 0 ≤ x then 2 * x else -2 * x - 1))) (i := 1) (j := 1) (show EvX false _ _ _ _ _ from ex_if (b := decide (x ≥ 0)) (et_test (ex_b2 (ex_var rfl) ex_int)) (fun hx => EvX.is (ex_i2c ex_int (ex_var rfl) (Or.inl ⟨by decide, by decide⟩)) ?e1) (fun hx => EvX.is (ex_i2 (ex_i2c (ex_u ex_int) (ex_var rfl) (Or.inl ⟨by decide, by decide⟩)) ex_int) ?e2)) (er_var rfl (Nat.lt_succ_self 1)) rfl ex_int rfl ?_
        case e1 => rw [if_pos (by simpa using hx)]
        case e2 => rw [if_neg (by simpa using hx)]
        walk_at "nf"
        refine gs_setI (s := .i (.int ((m * 69621 + (if 0 ≤ x then 2 * x else -2 * x - 1)) % 2147483647))) (i := 2) (j := 2) (show EvX false _ _ _ _ _ from ex_i2c (ex_int1 rfl (ex_i2 (ex_i2c (ex_ixL (EvR.it (er_var rfl (Nat.lt_succ_self 1)) rfl) ex_int rfl) ex_int (Or.inr ⟨by decide, by decide⟩)) (ex_ixL (EvR.it (er_var rfl (Nat.lt_succ_self 1)) rfl) ex_int rfl))) ex_int (show (0 : Int) < 2147483647 by decide)) (er_var rfl (Nat.lt_succ_self 1)) rfl ex_int rfl ?_
        walk_at "nf"
        refine g_nextU (g_nextU (gs_weak (env' := [some (.r 1), some (.i (.int many)), none, none]) (os' := [.lst ((ns.map PyData.int).map SV.i), .lst [.r 0, .i (.int (if 0 ≤ x then 2 * x else -2 * x - 1)), .i (.int ((m * 69621 + (if 0 ≤ x then 2 * x else -2 * x - 1)) % 2147483647))]]) (by simp [WkE]) (WkO.refl _) (by simp [EnLt, SvLt]) (by simp [OsLt, SoLt, SvLt]) (Nat.le_refl 2) (gs_close01 hk)))
    · have b1 := Int.emod_nonneg (m * 48271 + 11) (show (2147483647 : Int) ≠ 0 by decide)
      have b2 := Int.emod_lt_of_pos (m * 48271 + 11) (show (0 : Int) < 2147483647 by decide)
      refine gs_setI (s := .i (.int ((m * 48271 + 11) % 2147483647))) (i := 2) (j := 2) (show EvX false _ _ _ _ _ from ex_i2c (ex_int1 rfl (ex_i2 (ex_i2c (ex_ixL (EvR.it (er_var rfl (Nat.lt_succ_self 1)) rfl) ex_int rfl) ex_int (Or.inr ⟨by decide, by decide⟩)) ex_int)) ex_int (show (0 : Int) < 2147483647 by decide)) (er_var rfl (Nat.lt_succ_self 1)) rfl ex_int rfl ?_
      walk_at "nf"
      generalize (m * 48271 + 11) % 2147483647 = z at *
      refine gs_setI (s := .i (.int (z * z % 1000003))) (i := 1) (j := 1) (show EvX false _ _ _ _ _ from ex_i2c (ex_int1 rfl (ex_i2c (ex_ixL (EvR.it (er_var rfl (Nat.lt_succ_self 1)) rfl) ex_int rfl) (ex_ixL (EvR.it (er_var rfl (Nat.lt_succ_self 1)) rfl) ex_int rfl) (Or.inl ⟨by omega, by omega⟩))) ex_int (show (0 : Int) < 1000003 by decide)) (er_var rfl (Nat.lt_succ_self 1)) rfl ex_int rfl ?_
      walk_at "nf"
      exact g_nextU (g_nextU (gs_close01 hk))
-- END _law_next
theorem sc__law_word : FnScope ["state", "size", "k"] ["state"] (defScope s__law_word) := ⟨rfl, rfl, rfl, by decide +kernel, rfl, by decide +kernel, by decide +kernel⟩
theorem draw {c : Cn} {env : Sy} {os : List SO} {tr : TA} {E : XK} {ks ki i : Nat} {many : Int} (hi : env[i]? = some (some (.r ks))) (hs : os[ks]? = some (.stt ki)) (hb : os[ki]? = some .nums) (h : EvA false c env os tr [.int many]) (h1 : 0 < many) (h2 : many < 1073741824) : EvM c env os (tCall (spM c.K R__law_next) [] E (tCons (tVar i) tr)) (fun d => ∃ i : Nat, d = .int (i : Int) ∧ (i : Int) < many) :=
  (em_call hi hs hb h (R__law_next_i h1 h2)).imp fun d ⟨m, n, a, b, c0, c1, e1, e2⟩ => by
    cases e1
    exact ⟨n.toNat, by rw [Int.toNat_of_nonneg c0]; exact e2, by rw [Int.toNat_of_nonneg c0]; exact c1⟩
def abc : List Nat := (List.range 26).map (97 + ·)
theorem abc_in {x : Nat} (h : x ∈ abc) : 97 ≤ x ∧ x ≤ 122 := by
  obtain ⟨a, ha, rfl⟩ := List.mem_map.mp h
  have := List.mem_range.mp ha
  omega
theorem sgn_list : ∀ {ds : List PyData}, (∀ d ∈ ds, ∃ x ∈ abc, d = dT [x]) → ∃ ls : List (List Nat), ds = ls.map dT ∧ ls.flatten.length = ds.length ∧ ls.length = ds.length ∧ (ls.map List.length).sum = ds.length ∧ ∀ x ∈ ls.flatten, 97 ≤ x ∧ x ≤ 122
  | [], _ => ⟨[], rfl, rfl, rfl, rfl, fun x hx => absurd hx List.not_mem_nil⟩
  | d :: ds, h => by
    obtain ⟨ls, h1, h2, h3, h4, h5⟩ := sgn_list fun e he => h e (List.mem_cons_of_mem _ he)
    obtain ⟨x, hx, rfl⟩ := h d (List.mem_cons_self ..)
    refine ⟨[x] :: ls, by rw [h1]; rfl, ?_, by rw [List.length_cons, List.length_cons, h3], by rw [List.map_cons, List.sum_cons, h4, List.length_cons]; simp; omega, ?_⟩
    · rw [List.flatten_cons, List.length_append, h2, List.length_cons]; simp; omega
    · intro y hy
      rw [List.flatten_cons] at hy
      rcases List.mem_append.mp hy with z | z
      · rw [List.mem_singleton.mp z]; exact abc_in hx
      · exact h5 y z
def R__law_word : List PyData → PyData → Prop := fun ds d => ∃ w : List Nat, isW w ∧ ds = [] ∧ d = dT w
theorem R__law_word_i : ∃ d, R__law_word [] d := ⟨dT [97], [97], ⟨by decide, by decide, fun x hx => by rw [List.mem_singleton.mp hx]; decide⟩, rfl, rfl⟩
local macro_rules | `(tactic| walk_at "r2") => `(tactic| exact R__law_word_i)
theorem R__law_word_len : ∀ ds d, R__law_word ds d → ds.length = 0 := by
  intro ds d hh
  unfold R__law_word at hh
  repeat (obtain ⟨_, hh⟩ := hh)
  subst_eqs
  rfl
theorem ok__law_word {P : Program} {w : World} {K : PySem.W.Frag} {mg : Str → Option Value} {base : Heap} {f : Addr} {fd : FuncData} (F : FnP K "_law_word" s__law_word f fd) (g0 : mg "_law_word" = some (.ref f)) (h__law_next : Cal P w K mg base 1 "_law_next" ["state", "many"] (DL.spM K  R__law_next)) (z_range : mg "range" = none) : Cal P w K mg base 2 "_law_word" ["state"] (DL.spM K  R__law_word) := by
  refine cal_mk F sc__law_word g0 (DL.spM_len R__law_word_len) (fun _ _ _ _ _ _ us hl => match us, hl with | [_], _ => rfl) (fun cdv A outer s H vs Q E hr h => ⟨_,
    (pss_cons (ps_set (i := 1) sc__law_word.nd rfl (by first | exact Or.inl rfl | exact Or.inr rfl) (pe_op op_add pe_int (DL.pe_cal h__law_next hr (by decide) (by rfl) pass0 (pa_cons (pv 0) (pa_cons pe_int pa_nil)))))
     (pss_cons (ps_if (pt_cmpR op_eq (DL.pe_cal h__law_next hr (by decide) (by rfl) pass0 (pa_cons (pv 0) (pa_cons pe_int pa_nil))) pe_int (nomark _))
     (pss_cons (ps_set (i := 1) sc__law_word.nd rfl (by first | exact Or.inl rfl | exact Or.inr rfl) (pe_op op_add pe_int (DL.pe_cal h__law_next hr (by decide) (by rfl) pass0 (pa_cons (pv 0) (pa_cons pe_int pa_nil)))))
     pss_nil)
     pss_nil)
     (pss_cons (ps_ret (DL.kJoin (K := K) pe_str (pe_lc (own := [("k", 2)]) (by rfl) sc__law_word.nd (pi_range1 (by rfl) z_range (pa_cons (pv 1) pa_nil)) (blkOk_by (own := [("k", 2)]) (N := ["state", "size", "k"]) (sc := defScope s__law_word) (by decide +kernel)) (fun _ _ _ _ _ => (pg_name (i := 2) sc__law_word.nd rfl (by first | exact Or.inl rfl | exact Or.inr rfl))) (fun _ _ _ _ _ => pts_nil) (fun _ _ _ _ _ => (pe_ix ix_str pe_str (DL.pe_cal h__law_next hr (by decide) (by rfl) pass0 (pa_cons (pv 0) (pa_cons pe_int pa_nil))) (fun _ _ => rfl))))))
     pss_nil))), ?_⟩)
  refine DL.run_spM h (List.cons_ne_nil _ _) fun N s b ds hR hq => ?_
  obtain ⟨d0, w0, hw0, rfl, rfl⟩ := hR
  simp only [DL.env1]
  walk_at "env"
  have size : ∀ {c : Cn} {env : Sy} {E : XK} (m : Nat), env[0]? = some (some (.r 1)) → 0 < m → m ≤ 12 → EvM c env [.nums, .stt 0] (tOp rAdd (tC (.int 1)) (tCall (spM c.K R__law_next) [] E (tCons (tVar 0) (tCons (tC (.int (m : Int))) tNil)))) (fun d => ∃ n : Nat, d = .int (n : Int) ∧ 1 ≤ n ∧ n ≤ 12) := fun m he h0 h1 => by
    refine em_op2 (draw (ks := 1) (ki := 0) (many := (m : Int)) he rfl rfl (ea_cons ex_int ea_nil) (by omega) (by omega)) fun v d hd => ?_
    obtain ⟨i, rfl, hi⟩ := hd
    exact em_x (ex_i2 ex_int (ex_pin (List.mem_cons_self ..))) ⟨1 + i, by push_cast; rfl, by omega, by omega⟩
  refine gs_asgM (size 12 rfl (by decide) (by decide)) fun d hd => ?_
  obtain ⟨n, rfl, hn1, hn2⟩ := hd
  walk_at "nf"
  refine gs_ifMJ (PB := fun _ => True) (fun n : Nat => 1 ≤ n ∧ n ≤ 12) (fun n => [some (.r 1), some (.i (.int (n : Int))), none]) (fun _ => [.nums, .stt 0]) (etm_test (em_op (draw (ks := 1) (ki := 0) rfl rfl rfl (ea_cons ex_int ea_nil) (by decide) (by decide)) fun v d hd => ?a1)) (fun n hn => ?a2) (fun _ hk => ?a3) (fun _ hk => g_nextU (hk n ⟨hn1, hn2⟩))
  case a1 =>
    obtain ⟨i, rfl, hi⟩ := hd
    exact em_x (ex_eqI (ex_pin (List.mem_cons_self ..)) ex_int) ⟨_, rfl, True.intro⟩
  case a3 =>
    refine gs_asgM (size 3 rfl (by decide) (by decide)) fun d hd => ?_
    obtain ⟨m, rfl, hm1, hm2⟩ := hd
    walk_at "nf"
    exact g_nextU (hk m ⟨hm1, hm2⟩)
  case a2 =>
  refine gs_retM (P := fun d => ∃ w, isW w ∧ d = dT w) (EvM.imp (em_join (PT := fun ls => ls.flatten.length = n ∧ (ls.map List.length).sum = n ∧ ∀ x ∈ ls.flatten, 97 ≤ x ∧ x ≤ 122) rfl (ex_txt (by decide +kernel)) (EvM.imp (em_lc (n := n) (PE := fun d => ∃ x ∈ abc, d = dT [x]) (EvW.is (ew_range1 (n := (n : Int)) (ea_cons (ex_var rfl) ea_nil) (by omega)) (by simp)) (fun _ => True.intro) (by omega) rfl (by simp [OsLt, SoLt, SvLt]) (by simp [EnLt, SvLt]) (fun fr lo up acc i hi => ⟨_, _, fun j hj => hj, rfl, tg_name, et_yes, em_ixS (l := abc) (ex_txt (by decide +kernel)) (EvM.imp (draw (ks := 1) (ki := 0) rfl rfl rfl (ea_cons ex_int ea_nil) (by decide) (by decide)) (fun d hd => ?b1)) (by decide)⟩)) (fun d hd => ?b2)) (fun ls hls => ?b3)) (fun d hd => ?b4)) hq rfl rfl (fun d hd => by obtain ⟨w, h1, h2⟩ := hd; exact ⟨w, h1, rfl, h2⟩)
  case b1 =>
    obtain ⟨i, rfl, hi⟩ := hd
    exact ⟨i, rfl, by have : abc.length = 26 := rfl; omega⟩
  case b2 =>
    obtain ⟨ds, rfl, hlen, hds⟩ := hd
    obtain ⟨ls, h1, h2, h3, h4, h5⟩ := sgn_list hds
    exact ⟨ls, by rw [h1], by rw [h2]; exact hlen, by rw [h4]; exact hlen, h5⟩
  case b3 => rw [hls.2.1]; omega
  case b4 =>
    obtain ⟨ls, ⟨h1, h2, h3⟩, rfl⟩ := hd
    exact ⟨ls.flatten, ⟨by rw [h1]; exact hn.1, by rw [h1]; exact hn.2, h3⟩, rfl⟩
-- END _law_word
theorem sc__law_many_marks : FnScope ["state", "found", "k", "word"] ["state"] (defScope s__law_many_marks) := ⟨rfl, rfl, rfl, by decide +kernel, rfl, by decide +kernel, by decide +kernel⟩
inductive SM (i : Nat) : Sy → List SO → Prop
  | mk (ms : List (List Nat)) (h1 : 0 < i → ms ≠ []) (hw : ∀ m ∈ ms, isW m) (hn : ms.Nodup) (hl : ms.length ≤ i) : SM i [some (.r 1), some (.r 2), none, none] [.nums, .stt 0, .lst ((ms.map dT).map SV.i)]
def R__law_many_marks : List PyData → PyData → Prop := fun ds d => ∃ ms : List (List Nat), ms ≠ [] ∧ (∀ m ∈ ms, isW m) ∧ ms.Nodup ∧ ms.length ≤ 5 ∧ ds = [] ∧ d = .tuple (ms.map dT)
theorem R__law_many_marks_i : ∃ d, R__law_many_marks [] d := by
  obtain ⟨_, w, hw, _, rfl⟩ := R__law_word_i
  exact ⟨_, [w], by simp, fun m hm => by rw [List.mem_singleton.mp hm]; exact hw, by simp, by simp, rfl, rfl⟩
local macro_rules | `(tactic| walk_at "r2") => `(tactic| exact R__law_many_marks_i)
theorem R__law_many_marks_len : ∀ ds d, R__law_many_marks ds d → ds.length = 0 := by
  intro ds d hh
  unfold R__law_many_marks at hh
  repeat (obtain ⟨_, hh⟩ := hh)
  subst_eqs
  rfl
theorem ok__law_many_marks {P : Program} {w : World} {K : PySem.W.Frag} {mg : Str → Option Value} {base : Heap} {f : Addr} {fd : FuncData} (F : FnP K "_law_many_marks" s__law_many_marks f fd) (g0 : mg "_law_many_marks" = some (.ref f)) (h__law_word : Cal P w K mg base 2 "_law_word" ["state"] (DL.spM K  R__law_word)) (h__law_next : Cal P w K mg base 1 "_law_next" ["state", "many"] (DL.spM K  R__law_next)) (z_range : mg "range" = none) (z_tuple : mg "tuple" = none) : Cal P w K mg base 3 "_law_many_marks" ["state"] (DL.spM K  R__law_many_marks) := by
  refine cal_mk F sc__law_many_marks g0 (DL.spM_len R__law_many_marks_len) (fun _ _ _ _ _ _ us hl => match us, hl with | [_], _ => rfl) (fun cdv A outer s H vs Q E hr h => ⟨_,
    (pss_cons (ps_set (i := 1) sc__law_many_marks.nd rfl (by first | exact Or.inl rfl | exact Or.inr rfl) (pe_lst pa_nil))
     (pss_cons (ps_for PassesOwn.never rfl (pi_range1 (by rfl) z_range (pa_cons (pe_op op_add pe_int (DL.pe_cal h__law_next hr (by decide) (by rfl) pass0 (pa_cons (pv 0) (pa_cons pe_int pa_nil)))) pa_nil)) (pg_name (i := 2) sc__law_many_marks.nd rfl (by first | exact Or.inl rfl | exact Or.inr rfl))
     (pss_cons (ps_set (i := 3) sc__law_many_marks.nd rfl (by first | exact Or.inl rfl | exact Or.inr rfl) (DL.pe_cal h__law_word hr (by decide) (by rfl) pass0 (pa_cons (pv 0) pa_nil)))
     (pss_cons (ps_if (pt_cmpR (DL.kNotInSeq (K := K)) (pv 3) (pv 1) (by rfl))
     (pss_cons (ps_expr (DL.kBm (K := K) (pe_bm PySem.F.plainAttrs_list PySem.F.slot_list_append PySem.F.type_list_append mt_append (pv 1) (pa_cons (pv 3) pa_nil))))
     pss_nil)
     pss_nil)
     pss_nil)))
     (pss_cons (ps_ret (pe_callTy (DL.kTupleOf (K := K)) (by rfl) z_tuple (by decide +kernel) (pa_cons (pv 1) pa_nil)))
     pss_nil))), ?_⟩)
  refine DL.run_spM h (List.cons_ne_nil _ _) fun N s b ds hR hq => ?_
  obtain ⟨d0, ms0, _, _, _, _, rfl, rfl⟩ := hR
  simp only [DL.env1]
  walk_at "env"
  refine gs_asgF (o := .lst []) (ef_lst eas_nil (Nat.zero_le _)) ?_
  walk_at "nf"
  refine gs_forN (fun n => 1 ≤ n ∧ n ≤ 5) SM (ewm_range1 (em_op2 (draw (ks := 1) (ki := 0) rfl rfl rfl (ea_cons ex_int ea_nil) (by decide) (by decide)) fun v d hd => ?a1)) (SM.mk [] (fun h => absurd h (Nat.lt_irrefl _)) (fun m hm => absurd hm List.not_mem_nil) List.nodup_nil (Nat.le_refl _)) (fun _ _ _ _ => True.intro) (fun fr up n i e o hn hi hI => ?a2) (fun n e o hn hI => ?a3)
  case a1 =>
    obtain ⟨j, rfl, hj⟩ := hd
    exact em_x (ex_i2 ex_int (ex_pin (List.mem_cons_self ..))) ⟨1 + (j : Int), rfl, by omega, by omega, by omega, by omega⟩
  case a3 =>
    cases hI with
    | mk ms g1 gw gn gl =>
      exact gs_retM (P := fun d => d = .tuple (ms.map dT)) (em_x (ex_tupleOf rfl (EvR.it (er_var rfl (by simp)) rfl)) rfl) hq rfl rfl (fun d e => ⟨ms, g1 (by omega), gw, gn, by omega, rfl, e⟩)
  case a2 =>
  cases hI with
  | mk ms g1 gw gn gl =>
    refine ⟨_, _, tg_name, ?_⟩
    walk_at "nf"
    refine gs_asgM (em_call (R := R__law_word) (ks := 1) (ki := 0) rfl rfl rfl ea_nil R__law_word_i) fun d hd => ?_
    obtain ⟨w, hw, _, rfl⟩ := hd
    walk_at "nf"
    refine gs_if (et_test (ex_notinLt (ls := ms) (ex_var rfl) (EvR.it (er_var (k := 2) rfl (by simp)) rfl))) (fun hb => ?_) (fun hb => g_nextU ?_)
    · refine gs_app (k := 2) (er_var rfl (by simp)) rfl (s := .i (dT w)) (show EvX false _ _ _ _ _ from ex_var rfl) (by simp; omega) ?_
      have hb' : w ∉ ms := by simpa using hb
      refine g_nextU ?_
      refine gs_nxI (show SM (i + 1) _ _ from SM.mk (ms ++ [w]) (fun _ => by simp) (fun m hm => ?_) ?_ (by simp; omega)) fun ad σ H ok => ⟨ad, ?_⟩
      · rcases List.mem_append.mp hm with z | z
        · exact gw m z
        · rw [List.mem_singleton.mp z]; exact hw
      · rw [List.nodup_append]
        exact ⟨gn, by simp, fun a ha b hb e => hb' (by rw [List.mem_singleton.mp hb] at e; rw [← e]; exact ha)⟩
      · exact ok.weak (by simp [WkE]) (by simp [WkO]) (by simp [EnLt, SvLt]) ⟨by simp [SoLt], by simp [SoLt, SvLt], soLt_data, True.intro⟩ (by simp)
    · have hb' : w ∈ ms := by simpa using hb
      refine gs_nxI (show SM (i + 1) _ _ from SM.mk ms (fun _ z => by rw [z] at hb'; cases hb') gw gn (by omega)) fun ad σ H ok => ⟨ad, ?_⟩
      exact ok.weak (by simp [WkE]) (by simp [WkO]) (by simp [EnLt, SvLt]) ⟨by simp [SoLt], by simp [SoLt, SvLt], soLt_data, True.intro⟩ (by simp)
-- END _law_many_marks
theorem sc__law_steps : FnScope ["state", "steps", "k", "joint", "kind"] ["state"] (defScope s__law_steps) := ⟨rfl, rfl, rfl, by decide +kernel, rfl, by decide +kernel, by decide +kernel⟩
theorem stepsOk_snoc {all : List Stp} {x : Stp} (h : stepsOk all) (hx : folOk x) : stepsOk (all ++ [x]) := by
  cases all with
  | nil => exact h.elim
  | cons s r =>
    refine ⟨h.1, h.2.1, fun y hy => ?_⟩
    rcases List.mem_append.mp hy with z | z
    · exact h.2.2 y z
    · rw [List.mem_singleton.mp z]; exact hx
theorem marks_len : ∀ {ms : List (List Nat)}, (∀ m ∈ ms, isW m) → ((ms.map (fun m => 46 :: m)).flatten).length ≤ 13 * ms.length
  | [], _ => Nat.zero_le _
  | m :: ms, h => by
    have h1 := marks_len fun x hx => h x (List.mem_cons_of_mem _ hx)
    have h2 := (h m (List.mem_cons_self ..)).2.1
    rw [List.map_cons, List.flatten_cons, List.length_append, List.length_cons, List.length_cons]
    omega
theorem step_len {s : Stp} (h : stOk s) (hm : s.2.2.length ≤ 5) : (stT s).length ≤ 77 := by
  have e : (stT s).length = s.2.1.length + ((s.2.2.map (fun m => 46 :: m)).flatten).length := by unfold stT; rw [List.length_append]
  rcases h with h | ⟨h, h2, _⟩
  · rw [e, h.1, h.2]; decide
  · have := marks_len h2
    rcases h with h | h
    · have := h.2.1; omega
    · rw [e, h.1]; simp at this ⊢; omega
theorem jnT_len {s : Stp} (h : jnOk s) : (jnT s.1).length ≤ 3 := by
  rcases h with h | h | h <;> rw [h] <;> decide
theorem stepsOk_jn {all : List Stp} (h : stepsOk all) : ∀ s ∈ all, jnOk s := by
  cases all with
  | nil => exact h.elim
  | cons s r =>
    intro y hy
    rcases List.mem_cons.mp hy with z | z
    · rw [z]; exact Or.inl h.1
    · exact Or.inr (h.2.2 y z).1
inductive SJ (i : Nat) : Sy → List SO → Prop
  | mk (all : List Stp) (h0 : i = 0 → all = []) (h1 : 0 < i → stepsOk all) (hl : all.length = i) (hm : ∀ s ∈ all, s.2.2.length ≤ 5) (hw : (wrT all).length ≤ 80 * i) : SJ i [some (.r 1), some (.r 2), none, none, none] [.nums, .stt 0, .lst ((all.map dStp).map SV.i)]
theorem sj_snoc {i : Nat} {all : List Stp} {x : Stp} (g0 : i = 0 → all = []) (g1 : 0 < i → stepsOk all) (gl : all.length = i) (gm : ∀ s ∈ all, s.2.2.length ≤ 5) (gw : (wrT all).length ≤ 80 * i) (hx : stOk x) (hj0 : i = 0 → x.1 = []) (hj1 : 0 < i → x.1 = [32] ∨ x.1 = [62]) (h5 : x.2.2.length ≤ 5) :
    SJ (i + 1) [some (.r 1), some (.r 2), none, none, none] [.nums, .stt 0, .lst (((all ++ [x]).map dStp).map SV.i)] := by
  have hjn : jnOk x := by
    by_cases z : i = 0
    · exact Or.inl (hj0 z)
    · exact Or.inr (hj1 (by omega))
  refine SJ.mk (all ++ [x]) (fun z => by omega) (fun _ => ?_) (by simp; omega) (fun s hs => ?_) ?_
  · by_cases z : i = 0
    · rw [g0 z]; exact ⟨hj0 z, hx, fun y hy => absurd hy List.not_mem_nil⟩
    · exact stepsOk_snoc (g1 (by omega)) ⟨hj1 (by omega), hx⟩
  · rcases List.mem_append.mp hs with z | z
    · exact gm s z
    · rw [List.mem_singleton.mp z]; exact h5
  · have e : wrT (all ++ [x]) = wrT all ++ (jnT x.1 ++ stT x) := by
      rw [wrT_app]
      show wrT all ++ (jnT x.1 ++ stT x ++ []) = _
      rw [List.append_nil]
    have := jnT_len hjn
    have := step_len hx h5
    rw [e, List.length_append, List.length_append]
    omega
def R__law_steps : List PyData → PyData → Prop := fun ds d => ∃ all : List Stp, stepsOk all ∧ all.length ≤ 4 ∧ (∀ s ∈ all, s.2.2.length ≤ 5) ∧ (wrT all).length ≤ 320 ∧ ds = [] ∧ d = .tuple (all.map dStp)
theorem R__law_steps_i : ∃ d, R__law_steps [] d := by
  refine ⟨_, [([], [42], [])], ⟨rfl, Or.inl ⟨rfl, rfl⟩, fun x hx => absurd hx List.not_mem_nil⟩, by simp, by simp, ?_, rfl, rfl⟩
  decide
local macro_rules | `(tactic| walk_at "r2") => `(tactic| exact R__law_steps_i)
theorem R__law_steps_len : ∀ ds d, R__law_steps ds d → ds.length = 0 := by
  intro ds d hh
  unfold R__law_steps at hh
  repeat (obtain ⟨_, hh⟩ := hh)
  subst_eqs
  rfl
theorem ok__law_steps {P : Program} {w : World} {K : PySem.W.Frag} {mg : Str → Option Value} {base : Heap} {f : Addr} {fd : FuncData} (F : FnP K "_law_steps" s__law_steps f fd) (g0 : mg "_law_steps" = some (.ref f)) (h__law_next : Cal P w K mg base 1 "_law_next" ["state", "many"] (DL.spM K  R__law_next)) (h__law_word : Cal P w K mg base 2 "_law_word" ["state"] (DL.spM K  R__law_word)) (h__law_many_marks : Cal P w K mg base 3 "_law_many_marks" ["state"] (DL.spM K  R__law_many_marks)) (z_range : mg "range" = none) (z_tuple : mg "tuple" = none) : Cal P w K mg base 4 "_law_steps" ["state"] (DL.spM K  R__law_steps) := by
  refine cal_mk F sc__law_steps g0 (DL.spM_len R__law_steps_len) (fun _ _ _ _ _ _ us hl => match us, hl with | [_], _ => rfl) (fun cdv A outer s H vs Q E hr h => ⟨_,
    (pss_cons (ps_set (i := 1) sc__law_steps.nd rfl (by first | exact Or.inl rfl | exact Or.inr rfl) (pe_lst pa_nil))
     (pss_cons (ps_for PassesOwn.never rfl (pi_range1 (by rfl) z_range (pa_cons (pe_op op_add pe_int (DL.pe_cal h__law_next hr (by decide) (by rfl) pass0 (pa_cons (pv 0) (pa_cons pe_int pa_nil)))) pa_nil)) (pg_name (i := 2) sc__law_steps.nd rfl (by first | exact Or.inl rfl | exact Or.inr rfl))
     (pss_cons (ps_set (i := 3) sc__law_steps.nd rfl (by first | exact Or.inl rfl | exact Or.inr rfl) (pe_ix (DL.kIxL (K := K)) (pe_lst (pa_cons pe_str (pa_cons pe_str pa_nil))) (DL.pe_cal h__law_next hr (by decide) (by rfl) pass0 (pa_cons (pv 0) (pa_cons pe_int pa_nil))) (fun _ _ => rfl)))
     (pss_cons (ps_if (pt_cmpR op_eq (pv 2) pe_int (nomark _))
     (pss_cons (ps_set (i := 3) sc__law_steps.nd rfl (by first | exact Or.inl rfl | exact Or.inr rfl) pe_str)
     pss_nil)
     pss_nil)
     (pss_cons (ps_set (i := 4) sc__law_steps.nd rfl (by first | exact Or.inl rfl | exact Or.inr rfl) (DL.pe_cal h__law_next hr (by decide) (by rfl) pass0 (pa_cons (pv 0) (pa_cons pe_int pa_nil))))
     (pss_cons (ps_if (pt_cmpR op_eq (pv 4) pe_int (nomark _))
     (pss_cons (ps_expr (DL.kBm (K := K) (pe_bm PySem.F.plainAttrs_list PySem.F.slot_list_append PySem.F.type_list_append mt_append (pv 1) (pa_cons (pe_tup (pa_cons (pv 3) (pa_cons pe_str (pa_cons (pe_tup pa_nil) pa_nil)))) pa_nil))))
     pss_nil)
     (pss_cons (ps_if (pt_cmpR op_eq (pv 4) pe_int (nomark _))
     (pss_cons (ps_expr (DL.kBm (K := K) (pe_bm PySem.F.plainAttrs_list PySem.F.slot_list_append PySem.F.type_list_append mt_append (pv 1) (pa_cons (pe_tup (pa_cons (pv 3) (pa_cons (DL.pe_cal h__law_word hr (by decide) (by rfl) pass0 (pa_cons (pv 0) pa_nil)) (pa_cons (pe_tup pa_nil) pa_nil)))) pa_nil))))
     pss_nil)
     (pss_cons (ps_if (pt_cmpR op_eq (pv 4) pe_int (nomark _))
     (pss_cons (ps_expr (DL.kBm (K := K) (pe_bm PySem.F.plainAttrs_list PySem.F.slot_list_append PySem.F.type_list_append mt_append (pv 1) (pa_cons (pe_tup (pa_cons (pv 3) (pa_cons (DL.pe_cal h__law_word hr (by decide) (by rfl) pass0 (pa_cons (pv 0) pa_nil)) (pa_cons (DL.pe_cal h__law_many_marks hr (by decide) (by rfl) pass0 (pa_cons (pv 0) pa_nil)) pa_nil)))) pa_nil))))
     pss_nil)
     (pss_cons (ps_expr (DL.kBm (K := K) (pe_bm PySem.F.plainAttrs_list PySem.F.slot_list_append PySem.F.type_list_append mt_append (pv 1) (pa_cons (pe_tup (pa_cons (pv 3) (pa_cons pe_str (pa_cons (DL.pe_cal h__law_many_marks hr (by decide) (by rfl) pass0 (pa_cons (pv 0) pa_nil)) pa_nil)))) pa_nil))))
     pss_nil))
     pss_nil))
     pss_nil))
     pss_nil)))))
     (pss_cons (ps_ret (pe_callTy (DL.kTupleOf (K := K)) (by rfl) z_tuple (by decide +kernel) (pa_cons (pv 1) pa_nil)))
     pss_nil))), ?_⟩)
  refine DL.run_spM h (List.cons_ne_nil _ _) fun N s b ds hR hq => ?_
  obtain ⟨d0, all0, _, _, _, _, rfl, rfl⟩ := hR
  simp only [DL.env1]
  walk_at "env"
  refine gs_asgF (o := .lst []) (ef_lst eas_nil (Nat.zero_le _)) ?_
  walk_at "nf"
  refine gs_forN (fun n => 1 ≤ n ∧ n ≤ 4) SJ (ewm_range1 (em_op2 (draw (ks := 1) (ki := 0) rfl rfl rfl (ea_cons ex_int ea_nil) (by decide) (by decide)) fun v d hd => ?a1)) (SJ.mk [] (fun _ => rfl) (fun h => absurd h (Nat.lt_irrefl _)) rfl (fun s hs => absurd hs List.not_mem_nil) (Nat.zero_le _)) (fun _ _ _ _ => True.intro) (fun fr up n i e o hn hi hI => ?a2) (fun n e o hn hI => ?a3)
  case a1 =>
    obtain ⟨j, rfl, hj⟩ := hd
    exact em_x (ex_i2 ex_int (ex_pin (List.mem_cons_self ..))) ⟨1 + (j : Int), rfl, by omega, by omega, by omega, by omega⟩
  case a3 =>
    cases hI with
    | mk all g0 g1 gl gm gw =>
      exact gs_retM (P := fun d => d = .tuple (all.map dStp)) (em_x (ex_tupleOf rfl (EvR.it (er_var rfl (by simp)) rfl)) rfl) hq rfl rfl (fun d e => ⟨all, g1 (by omega), by omega, gm, by omega, rfl, e⟩)
  case a2 =>
  cases hI with
  | mk all g0 g1 gl gm gw =>
    refine ⟨_, _, tg_name, ?_⟩
    walk_at "nf"
    refine gs_asgM (P := fun d => ∃ j, d = dT j ∧ (j = [32] ∨ j = [62])) (em_ixD (PP := fun ds => ds = [dT [32], dT [62]]) (em_x (EvF.ev (ds := [dT [32], dT [62]]) (ef_lst (EvA.ss (ds := [dT [32], dT [62]]) (ea_cons (ex_txt (by decide +kernel)) (ea_cons (ex_txt (by decide +kernel)) ea_nil))) (Nat.le_of_ble_eq_true rfl))) ⟨_, rfl, rfl⟩) (fun v ds hp => ?c1) (fun ds hp y hy => ?c2)) fun d hd => ?_
    case c1 =>
      subst hp
      exact (draw (ks := 1) (ki := 0) (many := 2) rfl rfl rfl (ea_cons ex_int ea_nil) (by decide) (by decide)).imp fun d ⟨j, e, hj⟩ => ⟨(j : Int), e, by omega, by simpa using hj⟩
    case c2 =>
      subst hp
      rcases List.mem_cons.mp hy with z | z
      · exact ⟨_, z, Or.inl rfl⟩
      · exact ⟨_, List.mem_singleton.mp z, Or.inr rfl⟩
    obtain ⟨j0, rfl, hj0⟩ := hd
    walk_at "nf"
    refine gs_ifJA (α := List Nat) (fun j => (i = 0 → j = []) ∧ (0 < i → j = [32] ∨ j = [62])) (fun j => [some (.r 1), some (.r 2), some (.i (.int (i : Int))), some (.i (dT j)), none]) (fun _ => [.nums, .stt 0, .lst ((all.map dStp).map SV.i)]) (et_test (ex_eqI (ex_var rfl) ex_int)) (fun j hj => ?b1) (fun hb hk => ?b2) (fun hb hk => g_nextU (hk j0 ⟨fun z => absurd (of_decide_eq_false hb) (by simp [z]), fun _ => hj0⟩))
    case b2 =>
      have hb : (i : Int) = 0 := of_decide_eq_true hb
      refine gs_asg (d := dT []) (ex_txt (by decide +kernel)) ?_
      walk_at "nf"
      exact g_nextU (hk [] ⟨fun _ => rfl, fun z => by omega⟩)
    case b1 =>
      refine gs_asgM (draw (ks := 1) (ki := 0) (many := 4) rfl rfl rfl (ea_cons ex_int ea_nil) (by decide) (by decide)) fun d hd => ?_
      obtain ⟨m, rfl, hm⟩ := hd
      walk_at "nf"
      have fin : ∀ x : Stp, stOk x → x.1 = j → x.2.2.length ≤ 5 → SJ (i + 1) [some (.r 1), some (.r 2), none, none, none] [.nums, .stt 0, .lst (((all ++ [x]).map dStp).map SV.i)] := fun x hx e h5 => sj_snoc g0 g1 gl gm gw hx (fun z => e ▸ hj.1 z) (fun z => e ▸ hj.2 z) h5
      have eL : ∀ x : Stp, (all.map dStp).map SV.i ++ [SV.i (dStp x)] = ((all ++ [x]).map dStp).map SV.i := fun x => by simp
      refine gs_if (et_test (ex_eqI (ex_var rfl) ex_int)) (fun hb => ?_) (fun hb => ?_)
      · refine gs_app (k := 2) (er_var rfl (by simp)) rfl (s := .i (dStp (j, [42], []))) (show EvX false _ _ _ _ _ from ex_tup (ea_cons (ex_var rfl) (ea_cons (ex_txt (l := [42]) (by decide +kernel)) (ea_cons (ex_tup ea_nil (Nat.zero_le _)) ea_nil))) (Nat.le_of_ble_eq_true rfl)) (by simp; omega) ?_
        rw [eL]
        refine g_nextU ?_
        refine gs_nxI (fin (j, [42], []) (Or.inl ⟨rfl, rfl⟩) rfl (by simp)) fun ad σ H ok => ⟨ad, ?_⟩
        exact ok.weak (by simp [WkE]) (by simp [WkO]) (by simp [EnLt, SvLt]) ⟨by simp [SoLt], by simp [SoLt, SvLt], soLt_data, True.intro⟩ (by simp)
      refine gs_if (et_test (ex_eqI (ex_var rfl) ex_int)) (fun hb => ?_) (fun hb => ?_)
      · refine gs_appMr (P := fun d => ∃ w, isW w ∧ d = dStp (j, w, [])) (k := 2) (er_var rfl (by simp)) rfl (EvM.imp (em_tup (PP := fun ds => ∃ w, isW w ∧ ds = [dT j, dT w, .tuple []]) (eam_cons (PA := fun d => d = dT j) (em_x (ex_var rfl) rfl) fun v d hd => eam_cons (em_call (R := R__law_word) (ks := 1) (ki := 0) rfl rfl rfl ea_nil R__law_word_i) fun v2 d2 hd2 => eam_a (ea_cons (ex_tup ea_nil (Nat.zero_le _)) ea_nil) ?e1) ?e2) ?e3) (by simp; omega) fun d hd => ?e4
        case e1 =>
          obtain ⟨w, hw, _, rfl⟩ := hd2
          exact ⟨w, hw, by rw [hd]⟩
        case e2 =>
          rintro ds ⟨w, _, rfl⟩
          exact Nat.le_of_ble_eq_true rfl
        case e3 =>
          rintro d ⟨ds, rfl, w, hw, rfl⟩
          exact ⟨w, hw, rfl⟩
        case e4 =>
          obtain ⟨w, hw, rfl⟩ := hd
          rw [eL]
          refine g_nextU (g_nextU ?_)
          refine gs_nxI (fin (j, w, []) (Or.inr ⟨Or.inl hw, fun m hm => absurd hm List.not_mem_nil, List.nodup_nil⟩) rfl (by simp)) fun ad σ H ok => ⟨ad, ?_⟩
          exact ok.weak (by simp [WkE]) (by simp [WkO]) (by simp [EnLt, SvLt]) ⟨by simp [SoLt], by simp [SoLt, SvLt], soLt_data, True.intro⟩ (by simp)
      refine gs_if (et_test (ex_eqI (ex_var rfl) ex_int)) (fun hb => ?_) (fun hb => ?_)
      · refine gs_appMr (P := fun d => ∃ (w : List Nat) (ms : List (List Nat)), isW w ∧ (∀ m ∈ ms, isW m) ∧ ms.Nodup ∧ ms.length ≤ 5 ∧ d = dStp (j, w, ms)) (k := 2) (er_var rfl (by simp)) rfl (EvM.imp (em_tup (PP := fun ds => ∃ (w : List Nat) (ms : List (List Nat)), isW w ∧ (∀ m ∈ ms, isW m) ∧ ms.Nodup ∧ ms.length ≤ 5 ∧ ds = [dT j, dT w, .tuple (ms.map dT)]) (eam_cons (PA := fun d => d = dT j) (em_x (ex_var rfl) rfl) fun v d hd => eam_cons (em_call (R := R__law_word) (ks := 1) (ki := 0) rfl rfl rfl ea_nil R__law_word_i) fun v2 d2 hd2 => eam_cons (em_call (R := R__law_many_marks) (ks := 1) (ki := 0) rfl rfl rfl ea_nil R__law_many_marks_i) fun v3 d3 hd3 => eam_a ea_nil ?x1) ?x2) ?x3) (by simp; omega) fun d hd => ?x4
        case x1 =>
          obtain ⟨w, hw, _, rfl⟩ := hd2
          obtain ⟨ms, _, h2, h3, h4, _, rfl⟩ := hd3
          exact ⟨w, ms, hw, h2, h3, h4, by rw [hd]⟩
        case x2 =>
          rintro ds ⟨w, ms, _, _, _, _, rfl⟩
          exact Nat.le_of_ble_eq_true rfl
        case x3 =>
          rintro d ⟨ds, rfl, w, ms, hw, h2, h3, h4, rfl⟩
          exact ⟨w, ms, hw, h2, h3, h4, rfl⟩
        case x4 =>
          obtain ⟨w, ms, hw, h2, h3, h4, rfl⟩ := hd
          rw [eL]
          refine g_nextU (g_nextU (g_nextU ?_))
          refine gs_nxI (fin (j, w, ms) (Or.inr ⟨Or.inl hw, h2, h3⟩) rfl h4) fun ad σ H ok => ⟨ad, ?_⟩
          exact ok.weak (by simp [WkE]) (by simp [WkO]) (by simp [EnLt, SvLt]) ⟨by simp [SoLt], by simp [SoLt, SvLt], soLt_data, True.intro⟩ (by simp)
      · refine gs_appMr (P := fun d => ∃ ms : List (List Nat), ms ≠ [] ∧ (∀ m ∈ ms, isW m) ∧ ms.Nodup ∧ ms.length ≤ 5 ∧ d = dStp (j, [], ms)) (k := 2) (er_var rfl (by simp)) rfl (EvM.imp (em_tup (PP := fun ds => ∃ ms : List (List Nat), ms ≠ [] ∧ (∀ m ∈ ms, isW m) ∧ ms.Nodup ∧ ms.length ≤ 5 ∧ ds = [dT j, dT [], .tuple (ms.map dT)]) (eam_cons (PA := fun d => d = dT j) (em_x (ex_var rfl) rfl) fun v d hd => eam_cons (PA := fun d => d = dT []) (em_x (ex_txt (by decide +kernel)) rfl) fun v2 d2 hd2 => eam_cons (em_call (R := R__law_many_marks) (ks := 1) (ki := 0) rfl rfl rfl ea_nil R__law_many_marks_i) fun v3 d3 hd3 => eam_a ea_nil ?y1) ?y2) ?y3) (by simp; omega) fun d hd => ?y4
        case y1 =>
          obtain ⟨ms, h1, h2, h3, h4, _, rfl⟩ := hd3
          exact ⟨ms, h1, h2, h3, h4, by rw [hd, hd2]⟩
        case y2 =>
          rintro ds ⟨ms, _, _, _, _, rfl⟩
          exact Nat.le_of_ble_eq_true rfl
        case y3 =>
          rintro d ⟨ds, rfl, ms, h1, h2, h3, h4, rfl⟩
          exact ⟨ms, h1, h2, h3, h4, rfl⟩
        case y4 =>
          obtain ⟨ms, h1, h2, h3, h4, rfl⟩ := hd
          rw [eL]
          refine g_nextU (g_nextU (g_nextU ?_))
          refine gs_nxI (fin (j, [], ms) (Or.inr ⟨Or.inr ⟨rfl, h1⟩, h2, h3⟩) rfl h4) fun ad σ H ok => ⟨ad, ?_⟩
          exact ok.weak (by simp [WkE]) (by simp [WkO]) (by simp [EnLt, SvLt]) ⟨by simp [SoLt], by simp [SoLt, SvLt], soLt_data, True.intro⟩ (by simp)
-- END _law_steps
theorem sc__law_written : FnScope ["steps", "text", "joint", "name", "marks", "mark"] ["steps"] (defScope s__law_written) := ⟨rfl, rfl, rfl, by decide +kernel, rfl, by decide +kernel, by decide +kernel⟩
def R__law_written : List PyData → PyData → Prop := fun ds d => ∃ all : List Stp, (∀ s ∈ all, jnOk s) ∧ (wrT all).length ≤ 100000 ∧ ds = [.tuple (all.map dStp)] ∧ d = dT (wrT all)
theorem R__law_written_i {all : List Stp} (h : ∀ s ∈ all, jnOk s) (hl : (wrT all).length ≤ 100000) : R__law_written [.tuple (all.map dStp)] (dT (wrT all)) := ⟨all, h, hl, rfl, rfl⟩
local macro_rules | `(tactic| walk_at "r2") => `(tactic| exact R__law_written_i (by assumption) (by assumption))
theorem R__law_written_len : ∀ ds d, R__law_written ds d → ds.length = 1 := by
  intro ds d hh
  unfold R__law_written at hh
  repeat (obtain ⟨_, hh⟩ := hh)
  subst_eqs
  rfl
theorem ok__law_written {P : Program} {w : World} {K : PySem.W.Frag} {mg : Str → Option Value} {base : Heap} {f : Addr} {fd : FuncData} (F : FnP K "_law_written" s__law_written f fd) (g0 : mg "_law_written" = some (.ref f)) : Cal P w K mg base 1 "_law_written" ["steps"] (spD K  R__law_written) := by
  refine cal_mk F sc__law_written g0 (spD_len R__law_written_len) (fun _ _ _ _ _ _ us hl => match us, hl with | [_], _ => rfl) (fun cdv A outer s H vs Q E hr h => ⟨_,
    (pss_cons (ps_set (i := 1) sc__law_written.nd rfl (by first | exact Or.inl rfl | exact Or.inr rfl) pe_str)
     (pss_cons (ps_for PassesOwn.never rfl (DL.kPiT (K := K) (pv 0)) (DL.kTup (K := K) (n := 3) rfl (pgs_cons (pg_name (i := 2) sc__law_written.nd rfl (by first | exact Or.inl rfl | exact Or.inr rfl)) (pgs_cons (pg_name (i := 3) sc__law_written.nd rfl (by first | exact Or.inl rfl | exact Or.inr rfl)) (pgs_cons (pg_name (i := 4) sc__law_written.nd rfl (by first | exact Or.inl rfl | exact Or.inr rfl)) pgs_nil))))
     (pss_cons (ps_if (pt_cmpR op_eq (pv 2) pe_str (nomark _))
     (pss_cons (ps_set (i := 1) sc__law_written.nd rfl (by first | exact Or.inl rfl | exact Or.inr rfl) (pe_op op_add_str (pv 1) pe_str))
     pss_nil)
     (pss_cons (ps_set (i := 1) sc__law_written.nd rfl (by first | exact Or.inl rfl | exact Or.inr rfl) (pe_op op_add_str (pv 1) (pv 2)))
     pss_nil))
     (pss_cons (ps_set (i := 1) sc__law_written.nd rfl (by first | exact Or.inl rfl | exact Or.inr rfl) (pe_op op_add_str (pv 1) (pv 3)))
     (pss_cons (ps_for PassesOwn.never rfl (DL.kPiT (K := K) (pv 4)) (pg_name (i := 5) sc__law_written.nd rfl (by first | exact Or.inl rfl | exact Or.inr rfl))
     (pss_cons (ps_set (i := 1) sc__law_written.nd rfl (by first | exact Or.inl rfl | exact Or.inr rfl) (pe_op op_add_str (pe_op op_add_str (pv 1) pe_str) (pv 5)))
     pss_nil))
     pss_nil))))
     (pss_cons (ps_ret (pv 1))
     pss_nil))), ?_⟩)
  refine run_spD h fun N ds d hR hq => ?_
  obtain ⟨all, hj, hl, rfl, rfl⟩ := hR
  walk_at "env"
  refine gs_asg (d := dT []) (ex_txt (by decide +kernel)) ?_
  walk_at "nf"
  refine' gs_forTu (xs := all) (f := dStp) (fun pre => [some (.i (.tuple (all.map dStp))), some (.i (dT (wrT pre))), none, none, none, none]) (fun _ => []) (ex_var rfl) (fun c' _ ad σ H ok => ok) (fun fr up pre x post hx => ⟨_, _, tg_tup (ds := [dT x.1, dT x.2.1, .tuple (x.2.2.map dT)]) (tgs_cons tg_name (tgs_cons tg_name (tgs_cons tg_name tgs_nil))) rfl, ?b1⟩) ?b2
  case b1 =>
    walk_at "nf"
    have hlx : (wrT pre).length + ((jnT x.1).length + (stT x).length) ≤ 100000 := by
      rw [hx, wrT_app] at hl
      have e : wrT (x :: post) = jnT x.1 ++ stT x ++ wrT post := rfl
      rw [e] at hl
      simp only [List.length_append] at hl
      omega
    have hst : stT x = x.2.1 ++ (x.2.2.map (fun m => 46 :: m)).flatten := rfl
    have hls : (stT x).length = x.2.1.length + ((x.2.2.map (fun m => 46 :: m)).flatten).length := by rw [hst, List.length_append]
    refine gs_ifJ [some (.i (.tuple (all.map dStp))), some (.i (dT (wrT pre ++ jnT x.1))), some (.i (dT x.1)), some (.i (dT x.2.1)), some (.i (.tuple (x.2.2.map dT))), none] [] (et_test (ex_eqT (b := [62]) (ex_var rfl) (ex_txt (by decide +kernel)))) ?_ (fun hb hk => ?z1) (fun hb hk => ?z2)
    rotate_left
    case z1 =>
      have hb : x.1 = [62] := of_decide_eq_true hb
      have e : jnT x.1 = [32, 62, 32] := by unfold jnT; rw [if_pos hb]
      refine gs_asg (d := dT (wrT pre ++ jnT x.1)) (EvX.is (ex_catS rfl (ex_var rfl) (ex_txt (l := [32, 62, 32]) (by decide +kernel)) (by rw [e] at hlx; omega)) (by rw [e])) ?_
      walk_at "nf"
      exact g_nextU hk
    case z2 =>
      have hb : ¬ x.1 = [62] := of_decide_eq_false hb
      have e : jnT x.1 = x.1 := by unfold jnT; rw [if_neg hb]
      refine gs_asg (d := dT (wrT pre ++ jnT x.1)) (EvX.is (ex_catS rfl (ex_var rfl) (ex_var rfl) (by rw [e] at hlx; omega)) (by rw [e])) ?_
      walk_at "nf"
      exact g_nextU hk
    refine gs_asg (d := dT (wrT pre ++ jnT x.1 ++ x.2.1)) (ex_catS rfl (ex_var rfl) (ex_var rfl) (by rw [List.length_append]; omega)) ?_
    walk_at "nf"
    have mapp : ∀ a b : List (List Nat), ((a ++ b).map (fun m => 46 :: m)).flatten = (a.map (fun m => 46 :: m)).flatten ++ (b.map (fun m => 46 :: m)).flatten := fun a b => by rw [List.map_append, List.flatten_append]
    refine' gs_forTu (xs := x.2.2) (f := dT) (fun p => [some (.i (.tuple (all.map dStp))), some (.i (dT (wrT pre ++ jnT x.1 ++ x.2.1 ++ (p.map (fun m => 46 :: m)).flatten))), none, none, some (.i (.tuple (x.2.2.map dT))), none]) (fun _ => []) (ex_var rfl) ?d0 (fun fr up p m q hq => ⟨_, _, tg_name, ?d1⟩) ?d2
    case d0 =>
      intro c' _ ad σ H ok
      exact ok.weak (by simp [WkE]) (by simp [WkO]) (by simp [EnLt, SvLt]) True.intro ok.low
    case d1 =>
      walk_at "nf"
      have hm : ((p.map (fun m => 46 :: m)).flatten).length + (1 + m.length) ≤ ((x.2.2.map (fun m => 46 :: m)).flatten).length := by
        rw [hq, mapp, List.map_cons, List.flatten_cons]
        simp only [List.length_append, List.length_cons]
        omega
      refine' gs_asg (d := dT (wrT pre ++ jnT x.1 ++ x.2.1 ++ ((p ++ [m]).map (fun m => 46 :: m)).flatten)) (EvX.is (ex_catS rfl (ex_catS rfl (ex_var rfl) (ex_txt (l := [46]) (by decide +kernel)) ?e1) (ex_var rfl) ?e2) ?e3) ?_
      case e1 => simp only [List.length_append, List.length_cons, List.length_nil]; omega
      case e2 => simp only [List.length_append, List.length_cons, List.length_nil]; omega
      case e3 => rw [mapp]; simp
      walk_at "nf"
      walk_at "wk"
    case d2 =>
      have e : wrT (pre ++ [x]) = wrT pre ++ jnT x.1 ++ x.2.1 ++ (x.2.2.map (fun m => 46 :: m)).flatten := by
        rw [wrT_app]
        show wrT pre ++ (jnT x.1 ++ stT x ++ []) = _
        rw [hst]
        simp only [List.append_nil, List.append_assoc]
      rw [e]
      walk_at "wk"
  case b2 =>
  refine gs_ret (ex_var rfl) hq
-- END _law_written
theorem sc__law_spoiled : FnScope ["state", "text", "kind", "at", "spaces", "word", "k"] ["state", "text"] (defScope s__law_spoiled) := ⟨rfl, rfl, rfl, by decide +kernel, rfl, by decide +kernel, by decide +kernel⟩
def postL : List (List Nat) := [[32, 62], [32, 62, 32, 62, 32, 97], [32, 62, 97], [32, 97, 32, 98, 32, 99, 32, 100], [32, 62, 32, 97, 32, 97, 32, 62, 32, 97, 32, 97], [32, 42, 32, 42, 32, 42, 32, 42], [46], [46, 46, 97], [46, 42], [10]]
def preL : List (List Nat) := [[62, 32], [62, 32, 62, 32]]
def conL : List (List Nat) := [[], [32], [62], [46]]
def badL : List Nat := [65, 49, 95, 44, 42, 10, 62]
def longL : List Nat := [32, 97, 98, 99, 100, 101, 102, 103, 104, 105, 106, 107, 108]
/-- the spoiled texts -/
inductive Spoil (t : List Nat) : List Nat → Prop
  | ins (k x : Nat) (hk : k ≤ t.length) (hx : x ∈ badL) : Spoil t (t.take k ++ [x] ++ t.drop k)
  | spc (k : Nat) (hk : k ≤ t.length) (h : t[k]? = some 32 ∨ k = 0 ∨ k = t.length) : Spoil t (t.take k ++ [32] ++ t.drop k)
  | post (s : List Nat) (h : s ∈ postL) : Spoil t (t ++ s)
  | pre (s : List Nat) (h : s ∈ preL) : Spoil t (s ++ t)
  | con (s : List Nat) (h : s ∈ conL) : Spoil t s
  | dup (w : List Nat) (h : isW w) : Spoil t (t ++ [46] ++ w ++ [46, 120, 46] ++ w)
  | long (w : List Nat) (h : isW w) : Spoil t (t ++ longL ++ w)
def R__law_spoiled : List PyData → PyData → Prop := fun ds d => ∃ t l : List Nat, t.length ≤ 400 ∧ Spoil t l ∧ ds = [dT t] ∧ d = dT l
theorem R__law_spoiled_i {t : List Nat} (h : t.length ≤ 400) : ∃ d, R__law_spoiled [dT t] d := ⟨_, t, [], h, Spoil.con [] (List.mem_cons_self ..), rfl, rfl⟩
local macro_rules | `(tactic| walk_at "r2") => `(tactic| exact R__law_spoiled_i)
theorem R__law_spoiled_len : ∀ ds d, R__law_spoiled ds d → ds.length = 1 := by
  intro ds d hh
  unfold R__law_spoiled at hh
  repeat (obtain ⟨_, hh⟩ := hh)
  subst_eqs
  rfl
theorem ok__law_spoiled {P : Program} {w : World} {K : PySem.W.Frag} {mg : Str → Option Value} {base : Heap} {f : Addr} {fd : FuncData} (F : FnP K "_law_spoiled" s__law_spoiled f fd) (g0 : mg "_law_spoiled" = some (.ref f)) (h__law_next : Cal P w K mg base 1 "_law_next" ["state", "many"] (DL.spM K  R__law_next)) (h__law_word : Cal P w K mg base 2 "_law_word" ["state"] (DL.spM K  R__law_word)) (z_len : mg "len" = none) (z_range : mg "range" = none) : Cal P w K mg base 3 "_law_spoiled" ["state", "text"] (DL.spM K  R__law_spoiled) := by
  refine cal_mk F sc__law_spoiled g0 (DL.spM_len R__law_spoiled_len) (fun _ _ _ _ _ _ us hl => match us, hl with | [_, _], _ => rfl) (fun cdv A outer s H vs Q E hr h => ⟨_,
    (pss_cons (ps_set (i := 2) sc__law_spoiled.nd rfl (by first | exact Or.inl rfl | exact Or.inr rfl) (DL.pe_cal h__law_next hr (by decide) (by rfl) pass0 (pa_cons (pv 0) (pa_cons pe_int pa_nil))))
     (pss_cons (ps_if (pt_cmpR op_lt (pv 2) pe_int (nomark _))
     (pss_cons (ps_set (i := 3) sc__law_spoiled.nd rfl (by first | exact Or.inl rfl | exact Or.inr rfl) (DL.pe_cal h__law_next hr (by decide) (by rfl) pass0 (pa_cons (pv 0) (pa_cons (pe_op op_add (pe_callB call_len_str (by rfl) z_len (by decide +kernel) (pa_cons (pv 1) pa_nil)) pe_int) pa_nil))))
     (pss_cons (ps_ret (pe_op op_add_str (pe_op op_add_str (pe_slice sl_str (pv 1) po_none (po_some (pv 3))) (pe_ix ix_str pe_str (DL.pe_cal h__law_next hr (by decide) (by rfl) pass0 (pa_cons (pv 0) (pa_cons pe_int pa_nil))) (fun _ _ => rfl))) (pe_slice sl_str (pv 1) (po_some (pv 3)) po_none)))
     pss_nil))
     pss_nil)
     (pss_cons (ps_if (pt_cmpR op_eq (pv 2) pe_int (nomark _))
     (pss_cons (ps_set (i := 4) sc__law_spoiled.nd rfl (by first | exact Or.inl rfl | exact Or.inr rfl) (pe_op op_cat (pe_lc (own := [("k", 6)]) (by rfl) sc__law_spoiled.nd (pi_range1 (by rfl) z_range (pa_cons (pe_callB call_len_str (by rfl) z_len (by decide +kernel) (pa_cons (pv 1) pa_nil)) pa_nil)) (blkOk_by (own := [("k", 6)]) (N := ["state", "text", "kind", "at", "spaces", "word", "k"]) (sc := defScope s__law_spoiled) (by decide +kernel)) (fun _ _ _ _ _ => (pg_name (i := 6) sc__law_spoiled.nd rfl (by first | exact Or.inl rfl | exact Or.inr rfl))) (fun _ _ _ _ _ => (pts_one (pt_cmpR op_eq (pe_ix ix_str (pv 1) (pv 6) (fun _ _ => rfl)) pe_str (nomark _)))) (fun _ _ _ _ _ => (pv 6))) (pe_lst (pa_cons pe_int (pa_cons (pe_callB call_len_str (by rfl) z_len (by decide +kernel) (pa_cons (pv 1) pa_nil)) pa_nil)))))
     (pss_cons (ps_set (i := 3) sc__law_spoiled.nd rfl (by first | exact Or.inl rfl | exact Or.inr rfl) (pe_ix (DL.kIxL (K := K)) (pv 4) (DL.pe_cal h__law_next hr (by decide) (by rfl) pass0 (pa_cons (pv 0) (pa_cons (pe_callB (DL.kLen (K := K)) (by rfl) z_len (by decide +kernel) (pa_cons (pv 4) pa_nil)) pa_nil))) (fun _ _ => rfl)))
     (pss_cons (ps_ret (pe_op op_add_str (pe_op op_add_str (pe_slice sl_str (pv 1) po_none (po_some (pv 3))) pe_str) (pe_slice sl_str (pv 1) (po_some (pv 3)) po_none)))
     pss_nil)))
     pss_nil)
     (pss_cons (ps_if (pt_cmpR op_eq (pv 2) pe_int (nomark _))
     (pss_cons (ps_ret (pe_ix (DL.kIxL (K := K)) (pe_lst (pa_cons (pe_op op_add_str (pv 1) pe_str) (pa_cons (pe_op op_add_str pe_str (pv 1)) (pa_cons (pe_op op_add_str (pv 1) pe_str) (pa_cons (pe_op op_add_str pe_str (pv 1)) (pa_cons (pe_op op_add_str (pv 1) pe_str) pa_nil)))))) (DL.pe_cal h__law_next hr (by decide) (by rfl) pass0 (pa_cons (pv 0) (pa_cons pe_int pa_nil))) (fun _ _ => rfl)))
     pss_nil)
     pss_nil)
     (pss_cons (ps_if (pt_cmpR op_eq (pv 2) pe_int (nomark _))
     (pss_cons (ps_ret (pe_op op_add_str (pv 1) (pe_ix (DL.kIxL (K := K)) (pe_lst (pa_cons pe_str (pa_cons pe_str (pa_cons pe_str pa_nil)))) (DL.pe_cal h__law_next hr (by decide) (by rfl) pass0 (pa_cons (pv 0) (pa_cons pe_int pa_nil))) (fun _ _ => rfl))))
     pss_nil)
     pss_nil)
     (pss_cons (ps_if (pt_cmpR op_eq (pv 2) pe_int (nomark _))
     (pss_cons (ps_set (i := 5) sc__law_spoiled.nd rfl (by first | exact Or.inl rfl | exact Or.inr rfl) (DL.pe_cal h__law_word hr (by decide) (by rfl) pass0 (pa_cons (pv 0) pa_nil)))
     (pss_cons (ps_ret (pe_op op_add_str (pe_op op_add_str (pe_op op_add_str (pe_op op_add_str (pv 1) pe_str) (pv 5)) pe_str) (pv 5)))
     pss_nil))
     pss_nil)
     (pss_cons (ps_if (pt_cmpR op_eq (pv 2) pe_int (nomark _))
     (pss_cons (ps_ret (pe_op op_add_str (pe_op op_add_str (pv 1) pe_str) (DL.pe_cal h__law_word hr (by decide) (by rfl) pass0 (pa_cons (pv 0) pa_nil))))
     pss_nil)
     pss_nil)
     (pss_cons (ps_ret (pe_ix (DL.kIxL (K := K)) (pe_lst (pa_cons (pe_op op_add_str (pv 1) pe_str) (pa_cons (pe_op op_add_str (pv 1) pe_str) (pa_cons pe_str (pa_cons pe_str (pa_cons pe_str (pa_cons pe_str (pa_cons (pe_op op_add_str (pv 1) pe_str) (pa_cons (pe_op op_add_str (pv 1) pe_str) pa_nil))))))))) (DL.pe_cal h__law_next hr (by decide) (by rfl) pass0 (pa_cons (pv 0) (pa_cons pe_int pa_nil))) (fun _ _ => rfl)))
     pss_nil)))))))), ?_⟩)
  refine DL.run_spM h (List.cons_ne_nil _ _) fun N s b ds hR hq => ?_
  obtain ⟨d0, t, l0, hl, _, rfl, rfl⟩ := hR
  simp only [DL.env1]
  walk_at "env"
  have ret : ∀ d : PyData, (∃ l, Spoil t l ∧ d = dT l) → R__law_spoiled [dT t] d := fun d ⟨l, h, e⟩ => ⟨t, l, hl, h, rfl, e⟩
  have pick : ∀ {c : Cn} {env : Sy} {tr : TA} {E : XK} (ls : List (List Nat)) (n : Int), n = ls.length → env[0]? = some (some (.r 1)) → EvA false c env [.nums, .stt 0] tr (ls.map dT) → 0 < ls.length → ls.length ≤ 20 →
      EvM c env [.nums, .stt 0] (tOp (rIxL c.K) (tLst tr) (tCall (spM c.K R__law_next) [] E (tCons (tVar 0) (tCons (tC (.int n)) tNil)))) (fun d => ∃ l ∈ ls, d = dT l) := fun {c env tr E} ls n hn he ht h0 h1 =>
    em_ixD (PP := fun ds => ds = ls.map dT) (em_x (EvF.ev (ds := ls.map dT) (ef_lst (EvA.ss (ds := ls.map dT) ht) (by simp; omega))) ⟨_, rfl, rfl⟩) (fun v ds hp => by
      subst hp
      exact (draw (ks := 1) (ki := 0) (many := n) he rfl rfl (ea_cons ex_int ea_nil) (by omega) (by omega)).imp fun d ⟨i, e, hi⟩ => ⟨(i : Int), e, by omega, by rw [List.length_map]; omega⟩) (fun ds hp y hy => by
      subst hp
      obtain ⟨l, h, rfl⟩ := List.mem_map.mp hy
      exact ⟨l, h, rfl⟩)
  have cat : ∀ {w : Bool} {c : Cn} {env : Sy} {os : List SO} (s : List Nat) {p : Str}, env[1]? = some (some (.i (dT t))) → p = sT s → s.length ≤ 100 → EvX w c env os (tOp (fun x y H Q => ∃ i j, x = .str i ∧ y = .str j ∧ i.length + j.length ≤ sizeLine ∧ Q (.str (i ++ j)) H) (tVar 1) (tC (.str p))) (dT (t ++ s)) := fun {w c env os} s {p} he hp hs =>
    ex_catS rfl (ex_var he) (ex_txt hp) (by omega)
  have cat2 : ∀ {w : Bool} {c : Cn} {env : Sy} {os : List SO} (s : List Nat) {p : Str}, env[1]? = some (some (.i (dT t))) → p = sT s → s.length ≤ 100 → EvX w c env os (tOp (fun x y H Q => ∃ i j, x = .str i ∧ y = .str j ∧ i.length + j.length ≤ sizeLine ∧ Q (.str (i ++ j)) H) (tC (.str p)) (tVar 1)) (dT (s ++ t)) := fun {w c env os} s {p} he hp hs =>
    ex_catS rfl (ex_txt hp) (ex_var he) (by omega)
  refine gs_asgM (draw (ks := 1) (ki := 0) (many := 9) rfl rfl rfl (ea_cons ex_int ea_nil) (by decide) (by decide)) fun d hd => ?_
  obtain ⟨m, rfl, hm⟩ := hd
  walk_at "nf"
  refine gs_if (et_test (ex_b2 (ex_var rfl) ex_int)) (fun hb => ?_) (fun hb => g_nextU ?_)
  · refine gs_asgM (draw (ks := 1) (ki := 0) (many := (t.length : Int) + 1) rfl rfl rfl (ea_cons (ex_i2 (ex_lenS rfl (ex_var rfl) (by omega)) ex_int) ea_nil) (by omega) (by omega)) fun d hd => ?_
    obtain ⟨k, rfl, hk⟩ := hd
    walk_at "nf"
    have hk' : k ≤ t.length := by omega
    refine gs_retM (P := fun d => ∃ l, Spoil t l ∧ d = dT l) (em_op (PA := fun d => ∃ x ∈ badL, d = dT (t.take k ++ [x])) (em_op (PA := fun d => d = dT (t.take k)) (em_x (EvX.is (ex_slS (ex_var rfl) eo_none (eo_some (ex_var rfl)) (by omega)) (by rw [cutG_to])) rfl) fun v d hd => em_op2 (em_ixS (l := badL) (ex_txt (by decide +kernel)) (EvM.imp (draw (ks := 1) (ki := 0) (many := 7) rfl rfl rfl (ea_cons ex_int ea_nil) (by decide) (by decide)) fun d hd => ?a1) (by decide)) fun v2 d2 hd2 => ?a2) fun v d hd => ?a3) hq rfl rfl ret
    case a1 =>
      obtain ⟨i, rfl, hi⟩ := hd
      exact ⟨i, rfl, by have : badL.length = 7 := rfl; omega⟩
    case a2 =>
      obtain ⟨x, hx, rfl⟩ := hd2
      subst hd
      exact em_x (ex_catS rfl (ex_pin (List.mem_cons_of_mem _ (List.mem_cons_self ..))) (ex_pin (List.mem_cons_self ..)) (by simp; omega)) ⟨x, hx, rfl⟩
    case a3 =>
      obtain ⟨x, hx, rfl⟩ := hd
      exact em_x (ex_catS rfl (ex_pin (List.mem_cons_self ..)) (EvX.is (ex_slS (ex_var rfl) (eo_some (ex_var rfl)) eo_none (by omega)) (by rw [cutG_from])) (by simp; omega)) ⟨_, Spoil.ins k x hk' hx, rfl⟩
  refine gs_if (et_test (ex_eqI (ex_var rfl) ex_int)) (fun hb => ?_) (fun hb => g_nextU ?_)
  · refine gs_asgF (o := .lst ((((List.range t.length).filter (fun k => decide (t.getD k 0 = 32))).map (fun k : Nat => PyData.int (k : Int)) ++ [PyData.int 0, PyData.int (t.length : Int)]).map SV.i)) (EvF.is (ef_cat (ef_lcR (n := (t.length : Int)) (fun k => decide (t.getD k 0 = 32)) (fun k : Nat => PyData.int (k : Int)) (ea_cons (ex_lenS rfl (ex_var rfl) (by omega)) ea_nil) ⟨by omega, by omega⟩ (fun fr lo up acc k hk => ⟨_, _, fun j hj => hj, tg_name, ?b1, fun _ => ex_var rfl⟩)) (ef_lst (EvA.ss (ds := [PyData.int 0, PyData.int (t.length : Int)]) (ea_cons ex_int (ea_cons (ex_lenS rfl (ex_var rfl) (by omega)) ea_nil))) (Nat.le_of_ble_eq_true rfl)) ?b2) ?b3) ?_
    case b1 =>
      have hk2 : k < t.length := by omega
      refine et_test (EvX.is (ex_eqT (a := [t.getD k 0]) (b := [32]) (ex_ixS (ex_var rfl) (ex_var rfl) (by omega) (atI_nat ?_)) (ex_txt (by decide +kernel))) ?_)
      · rw [List.getD_eq_getElem?_getD, List.getElem?_eq_getElem hk2]; rfl
      · simp
    case b2 =>
      have := List.length_filter_le (fun k => decide (t.getD k 0 = 32)) (List.range t.length)
      simp at this ⊢
      omega
    case b3 => simp
    walk_at "nf"
    refine gs_own (i := 4) (k := 2) rfl rfl ?_
    walk_at "nf"
    generalize hsp : ((List.range t.length).filter (fun k => decide (t.getD k 0 = 32))).map (fun k : Nat => PyData.int (k : Int)) ++ [PyData.int 0, PyData.int (t.length : Int)] = sp
    have hsl : 0 < sp.length ∧ sp.length ≤ 500 := by
      have := List.length_filter_le (fun k => decide (t.getD k 0 = 32)) (List.range t.length)
      rw [← hsp]
      simp at this ⊢
      omega
    have hin : ∀ y ∈ sp, ∃ k : Nat, y = .int (k : Int) ∧ k ≤ t.length ∧ (t[k]? = some 32 ∨ k = 0 ∨ k = t.length) := fun y hy => by
      rw [← hsp] at hy
      rcases List.mem_append.mp hy with z | z
      · obtain ⟨k, hk, rfl⟩ := List.mem_map.mp z
        obtain ⟨h1, h2⟩ := List.mem_filter.mp hk
        have h1 := List.mem_range.mp h1
        have h2 : t.getD k 0 = 32 := of_decide_eq_true h2
        rw [List.getD_eq_getElem?_getD, List.getElem?_eq_getElem h1] at h2
        exact ⟨k, rfl, by omega, Or.inl (by rw [List.getElem?_eq_getElem h1]; exact congrArg some h2)⟩
      · rcases List.mem_cons.mp z with z | z
        · exact ⟨0, z, Nat.zero_le _, Or.inr (Or.inl rfl)⟩
        · exact ⟨t.length, List.mem_singleton.mp z, Nat.le_refl _, Or.inr (Or.inr rfl)⟩
    refine gs_asgM (em_ixD (PP := fun ds => ds = sp) (em_x (ex_var rfl) ⟨_, rfl, rfl⟩) (fun v ds hp => ?c1) (fun ds hp y hy => hin y (hp ▸ hy))) fun d hd => ?_
    case c1 =>
      subst hp
      exact (draw (ks := 1) (ki := 0) (many := (ds.length : Int)) rfl rfl rfl (ea_cons (EvX.is (ex_lenK (EvX.it (ex_var rfl))) (by simp)) ea_nil) (by omega) (by omega)).imp fun d ⟨i, e, hi⟩ => ⟨(i : Int), e, by omega, hi⟩
    obtain ⟨k, rfl, hk1, hk2⟩ := hd
    walk_at "nf"
    exact gs_retM (P := fun d => ∃ l, Spoil t l ∧ d = dT l) (em_x (ex_catS rfl (ex_catS rfl (EvX.is (ex_slS (ex_var rfl) eo_none (eo_some (ex_var rfl)) (by omega)) (by rw [cutG_to])) (ex_txt (l := [32]) (by decide +kernel)) (by simp; omega)) (EvX.is (ex_slS (ex_var rfl) (eo_some (ex_var rfl)) eo_none (by omega)) (by rw [cutG_from])) (by simp; omega)) ⟨_, Spoil.spc k hk1 hk2, rfl⟩) hq rfl rfl ret
  refine gs_if (et_test (ex_eqI (ex_var rfl) ex_int)) (fun hb => ?_) (fun hb => g_nextU ?_)
  · refine gs_retM (P := fun d => ∃ l, Spoil t l ∧ d = dT l) (EvM.imp (pick [t ++ [32, 62], [62, 32] ++ t, t ++ [32, 62, 32, 62, 32, 97], [62, 32, 62, 32] ++ t, t ++ [32, 62, 97]] 5 rfl rfl (ea_cons (cat _ rfl (by decide +kernel) (by decide)) (ea_cons (cat2 _ rfl (by decide +kernel) (by decide)) (ea_cons (cat _ rfl (by decide +kernel) (by decide)) (ea_cons (cat2 _ rfl (by decide +kernel) (by decide)) (ea_cons (cat _ rfl (by decide +kernel) (by decide)) ea_nil))))) (Nat.le_of_ble_eq_true rfl) (Nat.le_of_ble_eq_true rfl)) fun d hd => ?d1) hq rfl rfl ret
    case d1 =>
      obtain ⟨l, h, rfl⟩ := hd
      refine ⟨l, ?_, rfl⟩
      simp only [List.mem_cons, List.not_mem_nil, or_false] at h
      rcases h with h | h | h | h | h <;> rw [h]
      · exact Spoil.post _ (by decide)
      · exact Spoil.pre _ (by decide)
      · exact Spoil.post _ (by decide)
      · exact Spoil.pre _ (by decide)
      · exact Spoil.post _ (by decide)
  refine gs_if (et_test (ex_eqI (ex_var rfl) ex_int)) (fun hb => ?_) (fun hb => g_nextU ?_)
  · refine gs_retM (P := fun d => ∃ l, Spoil t l ∧ d = dT l) (em_op (PA := fun d => d = dT t) (em_x (ex_var rfl) rfl) fun v d hd => em_op2 (pick [[32, 97, 32, 98, 32, 99, 32, 100], [32, 62, 32, 97, 32, 97, 32, 62, 32, 97, 32, 97], [32, 42, 32, 42, 32, 42, 32, 42]] 3 rfl rfl (ea_cons (ex_txt (by decide +kernel)) (ea_cons (ex_txt (by decide +kernel)) (ea_cons (ex_txt (by decide +kernel)) ea_nil))) (by decide) (by decide)) fun v2 d2 hd2 => ?e1) hq rfl rfl ret
    case e1 =>
      obtain ⟨l, h, rfl⟩ := hd2
      subst hd
      have hl2 : l.length ≤ 20 ∧ l ∈ postL := by
        simp only [List.mem_cons, List.not_mem_nil, or_false] at h
        rcases h with h | h | h <;> rw [h] <;> exact ⟨by decide, by decide⟩
      exact em_x (ex_catS rfl (ex_pin (List.mem_cons_of_mem _ (List.mem_cons_self ..))) (ex_pin (List.mem_cons_self ..)) (by omega)) ⟨_, Spoil.post l hl2.2, rfl⟩
  refine gs_if (et_test (ex_eqI (ex_var rfl) ex_int)) (fun hb => ?_) (fun hb => g_nextU ?_)
  · refine gs_asgM (em_call (R := R__law_word) (ks := 1) (ki := 0) rfl rfl rfl ea_nil R__law_word_i) fun d hd => ?_
    obtain ⟨w, hw, _, rfl⟩ := hd
    have hwl := hw.2.1
    walk_at "nf"
    exact gs_retM (P := fun d => ∃ l, Spoil t l ∧ d = dT l) (em_x (ex_catS rfl (ex_catS rfl (ex_catS rfl (ex_catS rfl (ex_var rfl) (ex_txt (l := [46]) (by decide +kernel)) (by simp; omega)) (ex_var rfl) (by simp; omega)) (ex_txt (l := [46, 120, 46]) (by decide +kernel)) (by simp; omega)) (ex_var rfl) (by simp; omega)) ⟨_, Spoil.dup w hw, rfl⟩) hq rfl rfl ret
  refine gs_if (et_test (ex_eqI (ex_var rfl) ex_int)) (fun hb => ?_) (fun hb => g_nextU ?_)
  · refine gs_retM (P := fun d => ∃ l, Spoil t l ∧ d = dT l) (em_op (PA := fun d => d = dT (t ++ longL)) (em_x (cat longL rfl (by decide +kernel) (by decide)) rfl) fun v d hd => em_op2 (em_call (R := R__law_word) (ks := 1) (ki := 0) rfl rfl rfl ea_nil R__law_word_i) fun v2 d2 hd2 => ?f1) hq rfl rfl ret
    case f1 =>
      obtain ⟨w, hw, _, rfl⟩ := hd2
      have hwl := hw.2.1
      have e13 : longL.length = 13 := rfl
      subst hd
      exact em_x (ex_catS rfl (ex_pin (List.mem_cons_of_mem _ (List.mem_cons_self ..))) (ex_pin (List.mem_cons_self ..)) (by rw [List.length_append]; omega)) ⟨_, Spoil.long w hw, rfl⟩
  refine gs_retM (P := fun d => ∃ l, Spoil t l ∧ d = dT l) (EvM.imp (pick [t ++ [46], t ++ [46, 46, 97], [], [32], [62], [46], t ++ [46, 42], t ++ [10]] 8 rfl rfl (ea_cons (cat _ rfl (by decide +kernel) (by decide)) (ea_cons (cat _ rfl (by decide +kernel) (by decide)) (ea_cons (ex_txt (by decide +kernel)) (ea_cons (ex_txt (by decide +kernel)) (ea_cons (ex_txt (by decide +kernel)) (ea_cons (ex_txt (by decide +kernel)) (ea_cons (cat _ rfl (by decide +kernel) (by decide)) (ea_cons (cat _ rfl (by decide +kernel) (by decide)) ea_nil)))))))) (Nat.le_of_ble_eq_true rfl) (Nat.le_of_ble_eq_true rfl)) fun d hd => ?g1) hq rfl rfl ret
  case g1 =>
    obtain ⟨l, h, rfl⟩ := hd
    refine ⟨l, ?_, rfl⟩
    simp only [List.mem_cons, List.not_mem_nil, or_false] at h
    rcases h with h | h | h | h | h | h | h | h <;> rw [h]
    · exact Spoil.post _ (by decide)
    · exact Spoil.post _ (by decide)
    · exact Spoil.con _ (by decide)
    · exact Spoil.con _ (by decide)
    · exact Spoil.con _ (by decide)
    · exact Spoil.con _ (by decide)
    · exact Spoil.post _ (by decide)
    · exact Spoil.post _ (by decide)
-- END _law_spoiled
theorem sc__law_is_refused : FnScope ["text", "error"] ["text"] (defScope s__law_is_refused) := ⟨rfl, rfl, rfl, by decide +kernel, rfl, by decide +kernel, by decide +kernel⟩
def R__law_is_refused : List PyData → PyData → Prop := fun ds d => ∃ t : List Nat, t.length ≤ 3000 ∧ parseF t = none ∧ ds = [dT t] ∧ d = .bool true
theorem R__law_is_refused_i {t : List Nat} (h : t.length ≤ 3000) (hp : parseF t = none) : R__law_is_refused [dT t] (.bool true) := ⟨t, h, hp, rfl, rfl⟩
local macro_rules | `(tactic| walk_at "r2") => `(tactic| exact R__law_is_refused_i (by assumption) (by assumption))
theorem R__law_is_refused_len : ∀ ds d, R__law_is_refused ds d → ds.length = 1 := by
  intro ds d hh
  unfold R__law_is_refused at hh
  repeat (obtain ⟨_, hh⟩ := hh)
  subst_eqs
  rfl
theorem ok__law_is_refused {P : Program} {w : World} {K : PySem.W.Frag} {mg : Str → Option Value} {base : Heap} {f : Addr} {fd : FuncData} (F : FnP K "_law_is_refused" s__law_is_refused f fd) (g0 : mg "_law_is_refused" = some (.ref f)) {f_I : Addr} {C_BadSelector : Addr} (g_BadSelector : mg "BadSelector" = some (.ref C_BadSelector)) (e_BadSelector : DL.ErC K C_BadSelector f_I) {C_BadValue : Addr} (g_BadValue : mg "BadValue" = some (.ref C_BadValue)) (e_BadValue : DL.ErC K C_BadValue f_I) {C_BadWord : Addr} (g_BadWord : mg "BadWord" = some (.ref C_BadWord)) (e_BadWord : DL.ErC K C_BadWord f_I) {C_PageError : Addr} (g_PageError : mg "PageError" = some (.ref C_PageError)) (e_PageError : DL.ErC K C_PageError f_I) (m_BadSelector_BadSelector : PySem.W.exmOne K (.ref C_BadSelector) (.ref C_BadSelector) = some true) (m_BadSelector_PageError : PySem.W.exmOne K (.ref C_BadSelector) (.ref C_PageError) = some true) (i_BadSelector_BadValue : PySem.W.kitOne K (.ref C_BadSelector) (.ref C_BadValue) = some false) (i_BadSelector_BadWord : PySem.W.kitOne K (.ref C_BadSelector) (.ref C_BadWord) = some false) (i_BadSelector_PageError : PySem.W.kitOne K (.ref C_BadSelector) (.ref C_PageError) = some true) (i_BadSelector_ValueError : PySem.W.kitOne K (.ref C_BadSelector) (.type "ValueError") = some true) (h_parse_selector : DL.CalX P w K mg base 3 "parse_selector" ["text"] (DL.spX K (R_parse_selector C_BadSelector))) (z_isinstance : mg "isinstance" = none) (z_ValueError : mg "ValueError" = none) : Cal P w K mg base 4 "_law_is_refused" ["text"] (spD K  R__law_is_refused) := by
  refine cal_mk F sc__law_is_refused g0 (spD_len R__law_is_refused_len) (fun _ _ _ _ _ _ us hl => match us, hl with | [_], _ => rfl) (fun cdv A outer s H vs Q E hr h => ⟨_,
    (pss_cons (DL.ps_tryCl rfl rfl takes0 (DL.ClOk.as (i := 1) sc__law_is_refused.nd rfl rfl ⟨by rfl, by decide, Or.inl g_BadSelector⟩ (fun a oe cls dx pn hz hf =>
     (pss_cons (ps_if (PW.pt (pw_or (pt_val (pe_callB (DL.call_isG hz hf) (by rfl) z_isinstance (by decide +kernel) (pa_cons (pv 1) (pa_cons (pe_glob (v := .ref C_BadValue) (by rfl) g_BadValue rfl) pa_nil)))) (pw_or (pt_val (pe_callB (DL.call_isG hz hf) (by rfl) z_isinstance (by decide +kernel) (pa_cons (pv 1) (pa_cons (pe_glob (v := .ref C_BadWord) (by rfl) g_BadWord rfl) pa_nil)))) (pw_or1 (pt_not (pt_val (pe_callB (DL.call_isG hz hf) (by rfl) z_isinstance (by decide +kernel) (pa_cons (pv 1) (pa_cons (pe_bltn (v := .ty "ValueError") (u := .type "ValueError") (by rfl) z_ValueError (by decide +kernel) rfl) pa_nil)))))))))
     (pss_cons (ps_ret pe_bl)
     pss_nil)
     pss_nil)
     (pss_cons (ps_ret (pe_and (pe_callB (DL.call_isG hz hf) (by rfl) z_isinstance (by decide +kernel) (pa_cons (pv 1) (pa_cons (pe_glob (v := .ref C_PageError) (by rfl) g_PageError rfl) pa_nil))) (pe_one (pe_cmpR op_eq (DL.pe_val hz hf (pv 1)) (pv 0) (nomark _)))))
     pss_nil))) (DL.ClOk.cons ⟨by rfl, by decide, Or.inl g_PageError⟩ (fun a oe cls dx pn hz hf =>
     (pss_cons (ps_ret pe_bl)
     pss_nil)) DL.ClOk.nil)) (fun W pn xe tk _ => (pss_cons (ps_expr (DL.pe_calX h_parse_selector hr (by decide) (by rfl) tk (pa_cons (pv 0) pa_nil)))
     pss_nil)))
     (pss_cons (ps_ret pe_bl)
     pss_nil)), ?_⟩)
  refine run_spD h fun N ds d hR hq => ?_
  obtain ⟨t, hl, hp, rfl, rfl⟩ := hR
  walk_at "env"
  have hR : R_parse_selector C_BadSelector [dT t] (.err C_BadSelector (dT t)) := by
    have := R_parse_selector_i (C := C_BadSelector) hl
    rw [hp] at this
    exact this
  refine DL.gs_tryE (ea_cons (ex_var rfl) ea_nil) hR m_BadSelector_BadSelector (by simp) fun a dd x hx => ?_
  walk_at "nf"
  refine DL.gp_if (b := false) (DL.XvT.is (DL.ept_or (DL.ept_B (DL.ep_isC e_BadSelector i_BadSelector_BadValue)) fun _ => DL.ept_or (DL.ept_B (DL.ep_isC e_BadSelector i_BadSelector_BadWord)) fun _ => DL.ept_not (DL.ept_B (DL.ep_isT e_BadSelector i_BadSelector_ValueError))) rfl) (fun z => nomatch z) fun _ => DL.gp_nextU ?_
  refine DL.gp_ret (DL.XvE.is (DL.ep_and (DL.ep_isC e_BadSelector i_BadSelector_PageError) fun _ => DL.ep_eqT (DL.ep_val e_BadSelector hx) (DL.ep_of (ex_var rfl))) (by simp)) hq
-- END _law_is_refused
theorem sc__law_is_kept : FnScope ["steps", "text", "told", "written"] ["steps", "text"] (defScope s__law_is_kept) := ⟨rfl, rfl, rfl, by decide +kernel, rfl, by decide +kernel, by decide +kernel⟩
theorem strOk_T {l : List Nat} (h : ∀ x ∈ l, x < 1114112) : PyData.strOk (sT l) = true := by
  unfold PyData.strOk
  rw [← Array.all_toList, sT_cps]
  exact List.all_eq_true.mpr fun x hx => decide_eq_true (h x hx)
theorem isW_lt {l : List Nat} (h : isW l) : ∀ x ∈ l, x < 1114112 := fun x hx => by have := (h.2.2 x hx).2; omega
theorem canT {l : List Nat} (h : ∀ x ∈ l, x < 1114112) : (dT l).canLay0 = true := strOk_T h
theorem shaped_tuple {ds : List PyData} (h : ∀ d ∈ ds, d.canLay0 = true ∧ d.depth ≤ 63) : SeqAt.shaped (.tuple ds) = true := by
  unfold SeqAt.shaped
  have h1 : (PyData.tuple ds).canLay0 = true := canAll fun d hd => (h d hd).1
  have h2 : (PyData.tuple ds).depth ≤ 64 := by
    show PyData.depthAll ds + 1 ≤ 64
    have := depAll (n := 63) fun d hd => (h d hd).2
    omega
  rw [h1, decide_eq_true h2]
  rfl
theorem shaped_steps {all : List Stp} (h : stepsOk all) : SeqAt.shaped (.tuple (all.map dStp)) = true := shaped_tuple fun d hd => by
  obtain ⟨s, hs, rfl⟩ := List.mem_map.mp hd
  have hj : ∀ x ∈ s.1, x < 1114112 := fun x hx => by
    rcases stepsOk_jn h s hs with z | z | z <;> rw [z] at hx
    · cases hx
    · rw [List.mem_singleton.mp hx]; decide
    · rw [List.mem_singleton.mp hx]; decide
  have hso : stOk s := by
    cases all with
    | nil => exact h.elim
    | cons a r =>
      rcases List.mem_cons.mp hs with z | z
      · rw [z]; exact h.2.1
      · exact (h.2.2 s z).2
  have hn : ∀ x ∈ s.2.1, x < 1114112 := fun x hx => by
    rcases hso with z | ⟨z | z, _⟩
    · rw [z.1] at hx; rw [List.mem_singleton.mp hx]; decide
    · exact isW_lt z x hx
    · rw [z.1] at hx; cases hx
  have hm : ∀ m ∈ s.2.2, isW m := fun m hm => by
    rcases hso with z | ⟨_, z, _⟩
    · rw [z.2] at hm; cases hm
    · exact z m hm
  have hm2 : (PyData.tuple (s.2.2.map dT)).canLay0 = true := canAll fun d hd => by
    obtain ⟨m, hmm, rfl⟩ := List.mem_map.mp hd
    exact canT (isW_lt (hm m hmm))
  refine ⟨?_, ?_⟩
  · show ((dT s.1).canLay0 && ((dT s.2.1).canLay0 && ((PyData.tuple (s.2.2.map dT)).canLay0 && true))) = true
    rw [canT hj, canT hn, hm2]
    rfl
  · have e : PyData.depthAll (s.2.2.map dT) ≤ 0 := depAll fun d hd => by
      obtain ⟨m, _, rfl⟩ := List.mem_map.mp hd
      exact Nat.le_refl _
    show max 0 (max 0 (max (PyData.depthAll (s.2.2.map dT) + 1) 0)) + 1 ≤ 63
    omega
def R__law_is_kept : List PyData → PyData → Prop := fun ds d => ∃ all : List Stp, stepsOk all ∧ (wrT all).length ≤ 3000 ∧ (∀ s ∈ all, s.2.2.length ≤ 100) ∧ parseF (wrT all) = some all ∧ ds = [.tuple (all.map dStp), dT (wrT all)] ∧ d = .bool true
theorem R__law_is_kept_i {all : List Stp} (h : stepsOk all) (hl : (wrT all).length ≤ 3000) (hm : ∀ s ∈ all, s.2.2.length ≤ 100) (hp : parseF (wrT all) = some all) : R__law_is_kept [.tuple (all.map dStp), dT (wrT all)] (.bool true) := ⟨all, h, hl, hm, hp, rfl, rfl⟩
local macro_rules | `(tactic| walk_at "r2") => `(tactic| exact R__law_is_kept_i (by assumption) (by assumption) (by assumption) (by assumption))
theorem R__law_is_kept_len : ∀ ds d, R__law_is_kept ds d → ds.length = 2 := by
  intro ds d hh
  unfold R__law_is_kept at hh
  repeat (obtain ⟨_, hh⟩ := hh)
  subst_eqs
  rfl
theorem ok__law_is_kept {P : Program} {w : World} {K : PySem.W.Frag} {mg : Str → Option Value} {base : Heap} {f : Addr} {fd : FuncData} (F : FnP K "_law_is_kept" s__law_is_kept f fd) (g0 : mg "_law_is_kept" = some (.ref f)) {f_I : Addr} {C_BadSelector : Addr} (g_BadSelector : mg "BadSelector" = some (.ref C_BadSelector)) (e_BadSelector : DL.ErC K C_BadSelector f_I) (h_parse_selector : DL.CalX P w K mg base 3 "parse_selector" ["text"] (DL.spX K (R_parse_selector C_BadSelector))) (h_write_selector : Cal P w K mg base 1 "write_selector" ["steps"] (spD K  R_write_selector)) (z_isinstance : mg "isinstance" = none) (z_tuple : mg "tuple" = none) (z_str : mg "str" = none) : Cal P w K mg base 4 "_law_is_kept" ["steps", "text"] (spD K  R__law_is_kept) := by
  refine cal_mk F sc__law_is_kept g0 (spD_len R__law_is_kept_len) (fun _ _ _ _ _ _ us hl => match us, hl with | [_, _], _ => rfl) (fun cdv A outer s H vs Q E hr h => ⟨_,
    (pss_cons (ps_set (i := 2) sc__law_is_kept.nd rfl (by first | exact Or.inl rfl | exact Or.inr rfl) (DL.pe_calX0 h_parse_selector hr (by decide) (by rfl) (pa_cons (pv 1) pa_nil)))
     (pss_cons (ps_if (PW.pt (pw_or (pt_not (pt_val (pe_callB (DL.kIsi (K := K)) (by rfl) z_isinstance (by decide +kernel) (pa_cons (pv 2) (pa_cons (pe_bltn (v := .ty "tuple") (u := .type "tuple") (by rfl) z_tuple (by decide +kernel) rfl) pa_nil))))) (pw_or1 (pt_cmpR (DL.kNeD (K := K) hr.units) (pv 2) (pv 0) (nomark _)))))
     (pss_cons (ps_ret pe_bl)
     pss_nil)
     pss_nil)
     (pss_cons (ps_set (i := 3) sc__law_is_kept.nd rfl (by first | exact Or.inl rfl | exact Or.inr rfl) (DL.pe_cal h_write_selector hr (by decide) (by rfl) pass0 (pa_cons (pv 0) pa_nil)))
     (pss_cons (ps_ret (pe_and (pe_callB (DL.kIsi (K := K)) (by rfl) z_isinstance (by decide +kernel) (pa_cons (pv 3) (pa_cons (pe_bltn (v := .ty "str") (u := .type "str") (by rfl) z_str (by decide +kernel) rfl) pa_nil))) (pe_one (pe_cmpR op_eq (pv 3) (pv 1) (nomark _)))))
     pss_nil)))), ?_⟩)
  refine run_spD h fun N ds d hR hq => ?_
  obtain ⟨all, hs, hl, hm, hp, rfl, rfl⟩ := hR
  walk_at "env"
  have hR : R_parse_selector C_BadSelector [dT (wrT all)] (.val (.tuple (all.map dStp))) := by
    have := R_parse_selector_i (C := C_BadSelector) hl
    rw [hp] at this
    exact this
  refine gs_asg (DL.ex_callX (ea_cons (ex_var rfl) ea_nil) hR) ?_
  walk_at "nf"
  refine gs_if (b := false) (EvT.is (et_or (et_not (et_B (ex_isi (ex_var rfl) (by decide +kernel : kitD "tuple" "tuple" = some true)))) (fun _ => et_test (ex_neD (ex_var rfl) (ex_var rfl) (shaped_steps hs) (shaped_steps hs)))) (by rw [eqv_self (shaped_steps hs)]; rfl)) (fun z => nomatch z) fun _ => g_nextU ?_
  refine gs_asg (ex_call (ea_cons (ex_var rfl) ea_nil) (R_write_selector_i (stepsOk_jn hs) (by omega) hm)) ?_
  walk_at "nf"
  refine gs_ret (EvX.is (ex_and (ex_isi (ex_var rfl) kit_str_str) (fun _ => ex_eqT (ex_var rfl) (ex_var rfl))) (by simp)) hq
-- END _law_is_kept
theorem sc_law : FnScope ["script", "state", "steps", "text", "k", "word", "marks", "long", "whole"] ["script"] (defScope s_law) := ⟨rfl, rfl, rfl, by decide +kernel, rfl, by decide +kernel, by decide +kernel⟩
/-! What a parser takes and refuses. -/
theorem split_cons (d : Nat) (b : List Nat) : ∀ a : List Nat, splitC d (a ++ d :: b) = splitC d a ++ splitC d b
  | [] => by rw [List.nil_append, splitC_hit]; rfl
  | c :: a => by
    have ih := split_cons d b a
    by_cases e : c = d
    · rw [List.cons_append, e, splitC_hit, splitC_hit, ih]; rfl
    · obtain ⟨p, ps, h⟩ := splitC_ex d a
      rw [List.cons_append, splitC_miss e h, splitC_miss e (p := p) (ps := ps ++ splitC d b) (by rw [ih, h]; rfl)]
      rfl
/-- a text cut anywhere -/
theorem split_two (d : Nat) (b : List Nat) : ∀ a : List Nat, ∃ A p q B, splitC d a = A ++ [p] ∧ splitC d b = q :: B ∧ splitC d (a ++ b) = A ++ (p ++ q) :: B
  | [] => by
    obtain ⟨q, B, h⟩ := splitC_ex d b
    exact ⟨[], [], q, B, rfl, h, by rw [List.nil_append, h]; rfl⟩
  | c :: a => by
    obtain ⟨A, p, q, B, h1, h2, h3⟩ := split_two d b a
    by_cases e : c = d
    · exact ⟨[] :: A, p, q, B, by rw [e, splitC_hit, h1]; rfl, h2, by rw [List.cons_append, e, splitC_hit, h3]; rfl⟩
    · cases A with
      | nil => exact ⟨[], c :: p, q, B, by rw [splitC_miss e h1]; rfl, h2, by rw [List.cons_append, splitC_miss e h3]; rfl⟩
      | cons y A => exact ⟨(c :: y) :: A, p, q, B, by rw [splitC_miss e h1]; rfl, h2, by rw [List.cons_append, splitC_miss e h3]; rfl⟩
theorem mem_split {d c : Nat} (hc : c ≠ d) : ∀ {l : List Nat}, c ∈ l → ∃ q ∈ splitC d l, c ∈ q
  | x :: l, h => by
    obtain ⟨p, ps, e⟩ := splitC_ex d l
    by_cases hx : x = d
    · rcases List.mem_cons.mp h with z | z
      · exact absurd (z.trans hx) hc
      · obtain ⟨q, h1, h2⟩ := mem_split hc z
        exact ⟨q, by rw [hx, splitC_hit]; exact List.mem_cons_of_mem _ h1, h2⟩
    · rw [splitC_miss hx e]
      rcases List.mem_cons.mp h with z | z
      · exact ⟨x :: p, List.mem_cons_self .., z ▸ List.mem_cons_self ..⟩
      · obtain ⟨q, h1, h2⟩ := mem_split hc z
        rw [e] at h1
        rcases List.mem_cons.mp h1 with y | y
        · exact ⟨x :: p, List.mem_cons_self .., List.mem_cons_of_mem _ (y ▸ h2)⟩
        · exact ⟨q, List.mem_cons_of_mem _ y, h2⟩
theorem wB_no {l : List Nat} {c : Nat} (h : c ∈ l) (hc : ¬ (97 ≤ c ∧ c ≤ 122)) : wB l = false := by
  have e : l.all (fun x => decide (97 ≤ x) && decide (x ≤ 122)) = false := by
    rw [List.all_eq_false]
    exact ⟨c, h, by simpa using hc⟩
  unfold wB
  rw [e, Bool.and_false]
theorem markB_no {ms : List (List Nat)} {m : List Nat} (h : m ∈ ms) (hw : wB m = false) : markB ms = false := by
  have e : ms.all wB = false := by
    rw [List.all_eq_false]
    exact ⟨m, h, by rw [hw]; exact Bool.false_ne_true⟩
  unfold markB
  rw [e, Bool.false_and]
/-- a sign that no word has -/
theorem bad_char {y : List Nat} {c : Nat} (h : c ∈ y) (h46 : c ≠ 46) (hc : ¬ (97 ≤ c ∧ c ≤ 122)) (hy : y ≠ [42]) (j : List Nat) : stepF j y = none := by
  obtain ⟨q, h1, h2⟩ := mem_split h46 h
  obtain ⟨n, ms, e⟩ := splitC_ex 46 y
  rw [e] at h1
  unfold stepF
  rw [if_neg hy, e]
  show (if n = [] ∧ ms = [] then none else _) = none
  split
  · rfl
  · rcases List.mem_cons.mp h1 with z | z
    · subst z
      exact if_pos (⟨fun w => by rw [w] at h2; exact absurd h2 List.not_mem_nil, wB_no h2 hc⟩ : q ≠ [] ∧ wB q = false)
    · rw [if_pos (markB_no z (wB_no h2 hc))]
      split <;> rfl
theorem step_nil (j : List Nat) : stepF j [] = none := rfl
/-- a part that is no step -/
theorem bad_part {y : List Nat} (hs : ∀ j, stepF j y = none) (hy : y ≠ [62]) : ∀ {ps : List (List Nat)} (j : List Nat) (acc : List Stp), y ∈ ps → runF ps j acc = none
  | p :: ps, j, acc, h => by
    show (if p = [62] ∧ j = [32] then runF ps [62] acc else match stepF j p with | none => none | some s => runF ps [32] (acc ++ [s])) = none
    rcases List.mem_cons.mp h with z | z
    · rw [if_neg (fun w => hy (z.trans w.1)), ← z, hs]
    · split
      · exact bad_part hs hy _ _ z
      · split
        · rfl
        · exact bad_part hs hy _ _ z
theorem parse_run {t : List Nat} (h : runF (splitC 32 t) [] [] = none) : parseF t = none := by
  unfold parseF
  split
  · rfl
  · rw [h]
theorem parse_end {t : List Nat} {j : List Nat} {acc : List Stp} (h : runF (splitC 32 t) [] [] = some (j, acc)) (e : j = [62] ∨ 4 < acc.length) : parseF t = none := by
  unfold parseF
  split
  · rfl
  · rw [h]
    exact if_pos e
theorem parse_long {t : List Nat} (h : 100 < t.length) : parseF t = none := if_pos h
/-! ### the steps as they stand -/
theorem wB_is {l : List Nat} (h : isW l) : wB l = true := by
  unfold wB
  rw [decide_eq_true h.1, decide_eq_true h.2.1]
  refine List.all_eq_true.mpr fun x hx => ?_
  obtain ⟨a, b⟩ := h.2.2 x hx
  rw [decide_eq_true a, decide_eq_true b]; rfl
theorem markB_of {ms : List (List Nat)} (h : ∀ m ∈ ms, isW m) (hn : ms.Nodup) : markB ms = true := by
  unfold markB
  rw [decide_eq_true hn, Bool.and_true]
  exact List.all_eq_true.mpr fun m hm => wB_is (h m hm)
theorem step_wr {s : Stp} (h : stOk s) : stepF s.1 (stT s) = some s := by
  obtain ⟨j, n, ms⟩ := s
  unfold stepF
  by_cases h42 : stT (j, n, ms) = [42]
  · have h1 : n = [42] := (stT_star h).mp h42
    have h2 : ms = [] := by
      rcases h with q | ⟨q | q, _⟩
      · exact q.2
      · exact absurd (h1 ▸ List.mem_singleton.mpr rfl) (isW_not (show isW n from q) (show 42 < 97 by decide))
      · have : n = [] := q.1
        rw [this] at h1; cases h1
    rw [if_pos h42, h1, h2]
  · have hn : ¬ n = [42] := fun z => h42 ((stT_star h).mpr z)
    obtain ⟨hw, hm, hnd⟩ : (isW n ∨ (n = [] ∧ ms ≠ [])) ∧ (∀ m ∈ ms, isW m) ∧ ms.Nodup := h.resolve_left fun z => hn z.1
    rw [if_neg h42, stT_split h]
    show (if n = [] ∧ ms = [] then none else if n ≠ [] ∧ wB n = false then none else if markB ms = false then none else some (j, n, ms)) = some (j, n, ms)
    rw [if_neg (fun z => by
        rcases hw with q | q
        · exact isW_ne q z.1
        · exact q.2 z.2), if_neg (fun z => by
        rcases hw with q | q
        · rw [wB_is q] at z; exact absurd z.2 (by decide)
        · exact z.1 q.1), if_neg (by rw [markB_of hm hnd]; decide)]
theorem stT_n62 {s : Stp} (h : stOk s) : stT s ≠ [62] := fun z => absurd (z ▸ List.mem_singleton.mpr rfl) (stT_free h (show 62 < 97 by decide) (by decide) (by decide))
theorem run_one {p : List Nat} {ps : List (List Nat)} {j : List Nat} {acc : List Stp} (hp : p ≠ [62]) : runF (p :: ps) j acc = match stepF j p with | none => none | some s => runF ps [32] (acc ++ [s]) := by
  exact if_neg fun z => hp z.1
/-- the joint of a step behind others, read -/
theorem run_jn {x : Stp} (h : folOk x) (p : List Nat) (ps : List (List Nat)) (acc : List Stp) : runF ((if x.1 = [62] then [[62]] else []) ++ p :: ps) [32] acc = if p = [62] ∧ x.1 = [32] then runF ps [62] acc else runF (p :: ps) x.1 acc := by
  rcases h.1 with e | e
  · rw [e]
    show runF (p :: ps) [32] acc = _
    by_cases hp : p = [62]
    · rw [if_pos ⟨hp, rfl⟩, hp]; rfl
    · rw [if_neg fun z => hp z.1]
  · rw [e]
    show runF ([62] :: p :: ps) [32] acc = if p = [62] ∧ ([62] : List Nat) = [32] then runF ps [62] acc else runF (p :: ps) [62] acc
    rw [if_neg (show ¬ (p = [62] ∧ ([62] : List Nat) = [32]) from fun z => absurd z.2 (by decide))]
    exact if_pos ⟨rfl, rfl⟩
theorem run_fol {x : Stp} (h : folOk x) (ps : List (List Nat)) (acc : List Stp) : runF ((if x.1 = [62] then [[62]] else []) ++ stT x :: ps) [32] acc = runF ps [32] (acc ++ [x]) := by
  rw [run_jn h, if_neg fun z => stT_n62 h.2 z.1, run_one (stT_n62 h.2), step_wr h.2]
theorem run_rest : ∀ {r : List Stp} (ps : List (List Nat)) (acc : List Stp), (∀ x ∈ r, folOk x) → runF (parts r ++ ps) [32] acc = runF ps [32] (acc ++ r)
  | [], ps, acc, _ => by rw [List.append_nil]; rfl
  | x :: r, ps, acc, h => by
    have e : parts (x :: r) ++ ps = (if x.1 = [62] then [[62]] else []) ++ stT x :: (parts r ++ ps) := by
      show ((if x.1 = [62] then [[62]] else []) ++ stT x :: parts r) ++ ps = _
      rw [List.append_assoc, List.cons_append]
    rw [e, run_fol (h x (List.mem_cons_self ..)), run_rest ps _ fun y hy => h y (List.mem_cons_of_mem _ hy)]
    rw [List.append_assoc, List.singleton_append]
theorem run_all {all : List Stp} (h : stepsOk all) (ps : List (List Nat)) : runF (parts all ++ ps) [] [] = runF ps [32] all := by
  cases all with
  | nil => exact h.elim
  | cons s r =>
    obtain ⟨h1, h2, h3⟩ := h
    have e : parts (s :: r) ++ ps = stT s :: (parts r ++ ps) := by
      show ((if s.1 = [62] then [[62]] else []) ++ stT s :: parts r) ++ ps = _
      rw [h1]; rfl
    have hs := step_wr h2
    rw [h1] at hs
    rw [e, run_one (stT_n62 h2), hs]
    exact run_rest ps [s] h3
theorem parts_of {all : List Stp} (h : stepsOk all) : splitC 32 (wrT all) = parts all := by
  cases all with
  | nil => exact h.elim
  | cons s r => exact split_all h
theorem parse_wr {all : List Stp} (h : stepsOk all) (h4 : all.length ≤ 4) (hl : (wrT all).length ≤ 100) : parseF (wrT all) = some all := by
  have e := run_all h []
  rw [List.append_nil] at e
  unfold parseF
  rw [if_neg (by omega), parts_of h, e]
  exact if_neg fun z => z.elim (fun w => absurd w (by decide)) (fun w => absurd w (by omega))
/-! ### what is refused -/
theorem parts_in : ∀ {all : List Stp} {y : List Nat}, (∀ s ∈ all, stOk s) → y ∈ parts all → y ≠ []
  | s :: r, y, h, hy => by
    rcases List.mem_append.mp (show y ∈ (if s.1 = [62] then [[62]] else []) ++ stT s :: parts r from hy) with z | z
    · split at z
      · rw [List.mem_singleton.mp z]; decide
      · cases z
    · rcases List.mem_cons.mp z with w | w
      · rw [w]; exact stT_ne (h s (List.mem_cons_self ..))
      · exact parts_in (fun x hx => h x (List.mem_cons_of_mem _ hx)) w
theorem stepsOk_st {all : List Stp} (h : stepsOk all) : ∀ s ∈ all, stOk s := by
  cases all with
  | nil => exact h.elim
  | cons a r =>
    intro s hs
    rcases List.mem_cons.mp hs with z | z
    · rw [z]; exact h.2.1
    · exact (h.2.2 s z).2
/-- the last step gets more signs -/
theorem run_last {all : List Stp} (h : stepsOk all) : ∃ A x, stOk x ∧ splitC 32 (wrT all) = A ++ [stT x] ∧ ∀ q : List Nat, q ≠ [62] → stepF x.1 q = none → runF (A ++ [q]) [] [] = none := by
  rw [parts_of h]
  rcases List.eq_nil_or_concat all with e | ⟨init, x, e⟩
  · rw [e] at h; exact h.elim
  rw [List.concat_eq_append] at e
  subst e
  have hx : stOk x := stepsOk_st h x (List.mem_append_right _ (List.mem_singleton.mpr rfl))
  cases init with
  | nil =>
    have h1 : x.1 = [] := h.1
    refine ⟨[], x, hx, ?_, fun q hq hs => ?_⟩
    · show (if x.1 = [62] then [[62]] else []) ++ stT x :: [] = _
      rw [h1]; rfl
    · rw [h1] at hs
      show runF [q] [] [] = none
      rw [run_one hq, hs]
  | cons s r =>
    have hi : stepsOk (s :: r) := ⟨h.1, h.2.1, fun y hy => h.2.2 y (List.mem_append_left _ hy)⟩
    have hf : folOk x := h.2.2 x (List.mem_append_right _ (List.mem_singleton.mpr rfl))
    have happ : ∀ a b : List Stp, parts (a ++ b) = parts a ++ parts b := fun a b => by
      induction a with
      | nil => rfl
      | cons y a ih =>
        show (if y.1 = [62] then [[62]] else []) ++ stT y :: parts (a ++ b) = ((if y.1 = [62] then [[62]] else []) ++ stT y :: parts a) ++ parts b
        rw [ih, List.append_assoc, List.cons_append]
    refine ⟨parts (s :: r) ++ (if x.1 = [62] then [[62]] else []), x, hx, ?_, fun q hq hs => ?_⟩
    · rw [happ, List.append_assoc]; rfl
    · rw [List.append_assoc, run_all hi, run_jn hf, if_neg fun z => hq z.1, run_one hq, hs]
theorem last_bad {all : List Stp} (h : stepsOk all) {s : List Nat} (hs : 32 ∉ s) (hq : ∀ x : Stp, stOk x → stT x ++ s ≠ [62] ∧ stepF x.1 (stT x ++ s) = none) : parseF (wrT all ++ s) = none := by
  obtain ⟨A, x, hx, e, k⟩ := run_last h
  obtain ⟨A', p, q, B, h1, h2, h3⟩ := split_two 32 s (wrT all)
  rw [splitC_none hs] at h2
  injection h2 with e1 e2
  rw [e] at h1
  have e3 := List.append_inj_left' h1 rfl
  have e4 := List.append_inj_right' h1 rfl
  injection e4 with e4 _
  refine parse_run ?_
  rw [h3, ← e3, ← e1, ← e2, ← e4]
  exact k _ (hq x hx).1 (hq x hx).2
theorem more_ne {x : Stp} (hx : stOk x) {s : List Nat} (hs : s ≠ []) (y : Nat) : stT x ++ s ≠ [y] := fun z => by
  have h1 : 0 < (stT x).length := List.length_pos_iff.mpr (stT_ne hx)
  have h2 : 0 < s.length := List.length_pos_iff.mpr hs
  have := congrArg List.length z
  rw [List.length_append] at this
  simp at this
  omega
/-- behind a step's text: a point and marks -/
theorem split_more {x : Stp} (hx : stOk x) (b : List Nat) : splitC 46 (stT x ++ 46 :: b) = x.2.1 :: (x.2.2 ++ splitC 46 b) := by
  rw [split_cons, stT_split hx]; rfl
theorem step_marks {x : Stp} (hx : stOk x) (b : List Nat) (hb : markB (x.2.2 ++ splitC 46 b) = false) (j : List Nat) : stepF j (stT x ++ 46 :: b) = none := by
  unfold stepF
  rw [if_neg (more_ne hx (List.cons_ne_nil _ _) 42), split_more hx]
  show (if x.2.1 = [] ∧ _ then none else if x.2.1 ≠ [] ∧ wB x.2.1 = false then none else if markB (x.2.2 ++ splitC 46 b) = false then none else _) = none
  rw [if_pos hb]
  split
  · rfl
  · split <;> rfl
theorem spoiled_no {all : List Stp} (h : stepsOk all) {l : List Nat} (hs : Spoil (wrT all) l) : parseF l = none := by
  have hst := stepsOk_st h
  cases hs with
  | ins k x hk hx =>
    have hxs : x ≠ 46 ∧ x ≠ 32 ∧ ¬ (97 ≤ x ∧ x ≤ 122) := by
      simp only [badL, List.mem_cons, List.not_mem_nil, or_false] at hx
      rcases hx with z | z | z | z | z | z | z <;> rw [z] <;> decide
    obtain ⟨A, p, q, B, h1, h2, h3⟩ := split_two 32 ((wrT all).drop k) ((wrT all).take k)
    rw [List.take_append_drop, parts_of h] at h3
    have hne := parts_in hst (show p ++ q ∈ parts all from h3 ▸ List.mem_append_right _ (List.mem_cons_self ..))
    obtain ⟨A2, p2, q2, B2, g1, g2, g3⟩ := split_two 32 ([x] ++ (wrT all).drop k) ((wrT all).take k)
    rw [List.singleton_append, splitC_miss hxs.2.1 h2] at g2
    injection g2 with g4 g5
    rw [h1] at g1
    have e4 := List.append_inj_right' g1 rfl
    injection e4 with e4 _
    refine parse_run ?_
    rw [List.append_assoc, g3]
    have hmem : p2 ++ q2 ∈ A2 ++ (p2 ++ q2) :: B2 := List.mem_append_right _ (List.mem_cons_self ..)
    have hlen : 2 ≤ (p2 ++ q2).length := by
      have h0 := List.length_pos_iff.mpr hne
      rw [← g4, ← e4]
      simp only [List.length_append, List.length_cons] at h0 ⊢
      omega
    have hin : x ∈ p2 ++ q2 := by rw [← g4]; exact List.mem_append_right _ (List.mem_cons_self ..)
    exact bad_part (bad_char hin hxs.1 hxs.2.2 fun z => by rw [z] at hlen; simp at hlen) (fun z => by rw [z] at hlen; simp at hlen) _ _ hmem
  | spc k hk hc =>
    have e : (wrT all).take k ++ [32] ++ (wrT all).drop k = (wrT all).take k ++ 32 :: (wrT all).drop k := by simp
    rw [e]
    refine parse_run ?_
    rw [split_cons]
    refine bad_part step_nil (by decide) _ _ (?_ : ([] : List Nat) ∈ _)
    rcases hc with z | z | z
    · refine List.mem_append_right _ ?_
      have hlt : k < (wrT all).length := by
        rcases Nat.lt_or_ge k (wrT all).length with w | w
        · exact w
        · rw [List.getElem?_eq_none w] at z; cases z
      rw [List.getElem?_eq_getElem hlt] at z
      rw [List.drop_eq_getElem_cons hlt, Option.some.inj z, splitC_hit]
      exact List.mem_cons_self ..
    · rw [z, List.take_zero]
      exact List.mem_append_left _ (List.mem_cons_self ..)
    · rw [z, List.drop_length]
      exact List.mem_append_right _ (List.mem_cons_self ..)
  | post s hs =>
    have sp : ∀ b : List Nat, splitC 32 (wrT all ++ 32 :: b) = parts all ++ splitC 32 b := fun b => by rw [split_cons, parts_of h]
    have five : 0 < all.length := by
      cases all with
      | nil => exact h.elim
      | cons _ _ => exact Nat.succ_pos _
    simp only [postL, List.mem_cons, List.not_mem_nil, or_false] at hs
    rcases hs with z | z | z | z | z | z | z | z | z | z <;> rw [z]
    · exact parse_end (j := [62]) (acc := all) (by rw [sp, run_all h]; rfl) (Or.inl rfl)
    · exact parse_run (by rw [sp, run_all h]; rfl)
    · exact parse_run (by rw [sp, run_all h]; rfl)
    · exact parse_end (j := [32]) (acc := (((all ++ [([32], [97], [])]) ++ [([32], [98], [])]) ++ [([32], [99], [])]) ++ [([32], [100], [])]) (by rw [sp, run_all h]; rfl) (Or.inr (by simp; omega))
    · exact parse_end (j := [32]) (acc := (((all ++ [([62], [97], [])]) ++ [([32], [97], [])]) ++ [([62], [97], [])]) ++ [([32], [97], [])]) (by rw [sp, run_all h]; rfl) (Or.inr (by simp; omega))
    · exact parse_end (j := [32]) (acc := (((all ++ [([32], [42], [])]) ++ [([32], [42], [])]) ++ [([32], [42], [])]) ++ [([32], [42], [])]) (by rw [sp, run_all h]; rfl) (Or.inr (by simp; omega))
    · exact last_bad h (by decide) fun x hx => ⟨more_ne hx (by decide) _, step_marks hx [] (markB_no (m := []) (List.mem_append_right _ (List.mem_cons_self ..)) rfl) _⟩
    · exact last_bad h (by decide) fun x hx => ⟨more_ne hx (by decide) _, step_marks hx [46, 97] (markB_no (m := []) (List.mem_append_right _ (List.mem_cons_self ..)) rfl) _⟩
    · exact last_bad h (by decide) fun x hx => ⟨more_ne hx (by decide) _, step_marks hx [42] (markB_no (m := [42]) (List.mem_append_right _ (List.mem_cons_self ..)) rfl) _⟩
    · exact last_bad h (by decide) fun x hx => ⟨more_ne hx (by decide) _, bad_char (c := 10) (List.mem_append_right _ (List.mem_cons_self ..)) (by decide) (by decide) (more_ne hx (by decide) _) _⟩
  | pre s hs =>
    simp only [preL, List.mem_cons, List.not_mem_nil, or_false] at hs
    rcases hs with z | z <;> rw [z]
    · exact parse_run rfl
    · exact parse_run rfl
  | con s hs =>
    simp only [conL, List.mem_cons, List.not_mem_nil, or_false] at hs
    rcases hs with z | z | z | z <;> rw [z] <;> rfl
  | dup w hw =>
    have h46 : 46 ∉ w := isW_not hw (by decide)
    have e : wrT all ++ [46] ++ w ++ [46, 120, 46] ++ w = wrT all ++ (46 :: (w ++ 46 :: ([120] ++ 46 :: w))) := by simp
    rw [e]
    refine last_bad h ?_ fun x hx => ⟨more_ne hx (List.cons_ne_nil _ _) _, step_marks hx _ ?_ _⟩
    · have := isW_not hw (show 32 < 97 by decide)
      simp [this]
    · rw [split_cons, split_cons, splitC_none h46, splitC_none (by decide : 46 ∉ ([120] : List Nat))]
      unfold markB
      rw [decide_eq_false, Bool.and_false]
      intro hn
      have := (List.nodup_append.mp hn).2.1
      simp at this
  | long w hw =>
    have e : wrT all ++ longL ++ w = wrT all ++ 32 :: ([97, 98, 99, 100, 101, 102, 103, 104, 105, 106, 107, 108] ++ w) := by simp [longL]
    rw [e]
    refine parse_run ?_
    generalize hy : ([97, 98, 99, 100, 101, 102, 103, 104, 105, 106, 107, 108] : List Nat) ++ w = y
    have hlen : 13 ≤ y.length := by rw [← hy, List.length_append]; have := hw.1; simp; omega
    have h32 : 32 ∉ y := by rw [← hy]; have := isW_not hw (show 32 < 97 by decide); simp [this]
    have h46 : 46 ∉ y := by rw [← hy]; have := isW_not hw (show 46 < 97 by decide); simp [this]
    have hw12 : wB y = false := by
      unfold wB
      rw [decide_eq_false (show ¬ y.length ≤ 12 by omega), Bool.and_false, Bool.false_and]
    have hno : ∀ j, stepF j y = none := fun j => by
      unfold stepF
      rw [if_neg (fun z => by rw [z] at hlen; simp at hlen), splitC_none h46]
      show (if y = [] ∧ _ then none else if y ≠ [] ∧ wB y = false then none else _) = none
      rw [if_pos (⟨fun z => by rw [z] at hlen; simp at hlen, hw12⟩ : y ≠ [] ∧ wB y = false)]
      split <;> rfl
    rw [split_cons, splitC_none h32]
    exact bad_part hno (fun z => by rw [z] at hlen; simp at hlen) _ _ (List.mem_append_right _ (List.mem_singleton.mpr rfl))
theorem etm_B {c : Cn} {env : Sy} {os : List SO} {te : TE} {PB : Bool → Prop} (h : EvM c env os te (fun d => ∃ b, d = .bool b ∧ PB b)) : EvTM c env os (tB te) PB := fun ad σ H ok Q q => h ad σ H ok _ fun v H2 d p ok2 r => by
  obtain ⟨b, rfl, hb⟩ := p
  exact ⟨b, dn_bool r, q b H2 hb ok2⟩
theorem etm_not {c : Cn} {env : Sy} {os : List SO} {tt : TT} {PB : Bool → Prop} (h : EvTM c env os tt (fun b => PB (!b))) : EvTM c env os (tNot tt) PB := fun ad σ H ok Q q => h ad σ H ok _ fun b H2 p ok2 => q (!b) H2 p ok2
inductive LP (a b c : PyData) (i : Nat) : Sy → List SO → Prop
  | mk : LP a b c i [some (.i a), some (.r 1), some (.i b), some (.i c), none, none, none, none, none] [.nums, .stt 0]
def mkA : List Nat := [97, 98, 99, 100, 101, 102, 103, 104, 105, 106, 107]
def mkN (k : Nat) : List Nat := mkA ++ [97 + k]
def x9 : List Nat := [120, 120, 120, 120, 120, 120, 120, 120, 120]
def x12 : List Nat := [120, 120, 120, 120, 120, 120, 120, 120, 120, 120, 120, 120]
def ms7 : List (List Nat) := (List.range 6).map mkN ++ [x9]
def bigS : Stp := ([], x12, ms7)
inductive LM (a b c w : PyData) (i : Nat) : Sy → List SO → Prop
  | mk : LM a b c w i [some (.i a), some (.r 1), some (.i b), some (.i c), none, some (.i w), some (.r 2), none, none] [.nums, .stt 0, .lst ((((List.range i).map mkN).map dT).map SV.i)]
theorem big_ok : stepsOk [bigS] := ⟨rfl, Or.inr ⟨Or.inl (by unfold isW; decide), by unfold isW; decide, by decide⟩, fun x hx => absurd hx List.not_mem_nil⟩
theorem big_wr : wrT [bigS] = (x12 ++ [46]) ++ TL.joinL [46] ms7 := by decide
theorem big_len : (wrT [bigS]).length = 100 := by decide
theorem one_wr (w : List Nat) : wrT [([], w, [])] = w := by simp [wrT, jnT, stT]
theorem ok_law {P : Program} {w : World} {K : PySem.W.Frag} {mg : Str → Option Value} {base : Heap} {f : Addr} {fd : FuncData} (F : FnP K "law" s_law f fd) (h__law_steps : Cal P w K mg base 4 "_law_steps" ["state"] (DL.spM K  R__law_steps)) (h__law_written : Cal P w K mg base 1 "_law_written" ["steps"] (spD K  R__law_written)) (h__law_is_refused : Cal P w K mg base 4 "_law_is_refused" ["text"] (spD K  R__law_is_refused)) (h__law_is_kept : Cal P w K mg base 4 "_law_is_kept" ["steps", "text"] (spD K  R__law_is_kept)) (h__law_spoiled : Cal P w K mg base 3 "_law_spoiled" ["state", "text"] (DL.spM K  R__law_spoiled)) (h__law_next : Cal P w K mg base 1 "_law_next" ["state", "many"] (DL.spM K  R__law_next)) (h__law_word : Cal P w K mg base 2 "_law_word" ["state"] (DL.spM K  R__law_word)) (z_list : mg "list" = none) (z_len : mg "len" = none) (z_range : mg "range" = none) (z_tuple : mg "tuple" = none) : FnOk P w K mg base CX0 5 f fd ["script"] (spD K RLaw) := by
  refine fnok_mk F sc_law (spD_len RLaw_len) (fun cdv A outer s H vs Q E hr h => ⟨_,
    (pss_cons (ps_set (i := 1) sc_law.nd rfl (by first | exact Or.inl rfl | exact Or.inr rfl) (pe_lst (pa_cons (pe_callTy (DL.kList (K := K)) (by rfl) z_list (by decide +kernel) (pa_cons (pv 0) pa_nil)) (pa_cons pe_int (pa_cons pe_int pa_nil)))))
     (pss_cons (ps_set (i := 2) sc_law.nd rfl (by first | exact Or.inl rfl | exact Or.inr rfl) (DL.pe_cal h__law_steps hr (by decide) (by rfl) pass0 (pa_cons (pv 1) pa_nil)))
     (pss_cons (ps_set (i := 3) sc_law.nd rfl (by first | exact Or.inl rfl | exact Or.inr rfl) (DL.pe_cal h__law_written hr (by decide) (by rfl) pass0 (pa_cons (pv 2) pa_nil)))
     (pss_cons (ps_if (pt_cmpR op_gt (pe_callB call_len_str (by rfl) z_len (by decide +kernel) (pa_cons (pv 3) pa_nil)) pe_int (nomark _))
     (pss_cons (ps_if (pt_not (pt_val (DL.pe_cal h__law_is_refused hr (by decide) (by rfl) pass0 (pa_cons (pv 3) pa_nil))))
     (pss_cons (ps_ret pe_bl)
     pss_nil)
     pss_nil)
     pss_nil)
     (pss_cons (ps_if (pt_not (pt_val (DL.pe_cal h__law_is_kept hr (by decide) (by rfl) pass0 (pa_cons (pv 2) (pa_cons (pv 3) pa_nil)))))
     (pss_cons (ps_ret pe_bl)
     pss_nil)
     pss_nil)
     pss_nil))
     (pss_cons (ps_for PassesOwn.never rfl (pi_range1 (by rfl) z_range (pa_cons pe_int pa_nil)) (pg_name (i := 4) sc_law.nd rfl (by first | exact Or.inl rfl | exact Or.inr rfl))
     (pss_cons (ps_if (pt_not (pt_val (DL.pe_cal h__law_is_refused hr (by decide) (by rfl) pass0 (pa_cons (DL.pe_cal h__law_spoiled hr (by decide) (by rfl) pass0 (pa_cons (pv 1) (pa_cons (pv 3) pa_nil))) pa_nil))))
     (pss_cons (ps_ret pe_bl)
     pss_nil)
     pss_nil)
     pss_nil))
     (pss_cons (ps_if (pt_cmpR op_eq (DL.pe_cal h__law_next hr (by decide) (by rfl) pass0 (pa_cons (pv 1) (pa_cons pe_int pa_nil))) pe_int (nomark _))
     (pss_cons (ps_set (i := 5) sc_law.nd rfl (by first | exact Or.inl rfl | exact Or.inr rfl) (DL.pe_cal h__law_word hr (by decide) (by rfl) pass0 (pa_cons (pv 1) pa_nil)))
     (pss_cons (ps_set (i := 6) sc_law.nd rfl (by first | exact Or.inl rfl | exact Or.inr rfl) (pe_lst pa_nil))
     (pss_cons (ps_for PassesOwn.never rfl (pi_range1 (by rfl) z_range (pa_cons pe_int pa_nil)) (pg_name (i := 4) sc_law.nd rfl (by first | exact Or.inl rfl | exact Or.inr rfl))
     (pss_cons (ps_expr (DL.kBm (K := K) (pe_bm PySem.F.plainAttrs_list PySem.F.slot_list_append PySem.F.type_list_append mt_append (pv 6) (pa_cons (pe_op op_add_str pe_str (pe_ix ix_str pe_str (pv 4) (fun _ _ => rfl))) pa_nil))))
     pss_nil))
     (pss_cons (ps_expr (DL.kBm (K := K) (pe_bm PySem.F.plainAttrs_list PySem.F.slot_list_append PySem.F.type_list_append mt_append (pv 6) (pa_cons pe_str pa_nil))))
     (pss_cons (ps_set (i := 7) sc_law.nd rfl (by first | exact Or.inl rfl | exact Or.inr rfl) (pe_op op_add_str pe_str (DL.kJoin (K := K) pe_str (pv 6))))
     (pss_cons (ps_set (i := 8) sc_law.nd rfl (by first | exact Or.inl rfl | exact Or.inr rfl) (pe_tup (pa_cons (pe_tup (pa_cons pe_str (pa_cons pe_str (pa_cons (pe_callTy (DL.kTupleOf (K := K)) (by rfl) z_tuple (by decide +kernel) (pa_cons (pv 6) pa_nil)) pa_nil)))) pa_nil)))
     (pss_cons (ps_if (PW.pt (pw_or (pt_not (pt_val (DL.pe_cal h__law_is_kept hr (by decide) (by rfl) pass0 (pa_cons (pv 8) (pa_cons (pv 7) pa_nil))))) (pw_or1 (pt_not (pt_val (DL.pe_cal h__law_is_refused hr (by decide) (by rfl) pass0 (pa_cons (pe_op op_add_str (pv 7) pe_str) pa_nil)))))))
     (pss_cons (ps_ret pe_bl)
     pss_nil)
     pss_nil)
     (pss_cons (ps_ret (DL.pe_cal h__law_is_kept hr (by decide) (by rfl) pass0 (pa_cons (pe_tup (pa_cons (pe_tup (pa_cons pe_str (pa_cons (pv 5) (pa_cons (pe_tup pa_nil) pa_nil)))) pa_nil)) (pa_cons (pv 5) pa_nil))))
     pss_nil))))))))
     pss_nil)
     (pss_cons (ps_ret pe_bl)
     pss_nil))))))), ?_⟩)
  refine run_spD h fun N ds d hR hq => ?_
  obtain ⟨ns, hl, rfl, rfl⟩ := hR
  walk_at "env"
  refine gs_asgSt (ns := ns) (ef_listK (EvX.it (ex_var rfl))) ex_int ex_int ?_
  walk_at "nf"
  refine gs_asgM (P := fun d => ∃ all : List Stp, d = .tuple (all.map dStp) ∧ stepsOk all ∧ all.length ≤ 4 ∧ (∀ s ∈ all, s.2.2.length ≤ 5) ∧ (wrT all).length ≤ 320) (EvM.imp (em_call (R := R__law_steps) (ks := 1) (ki := 0) rfl rfl rfl ea_nil R__law_steps_i) (fun d hd => by obtain ⟨all, h1, h2, h3, h4, _, e⟩ := hd; exact ⟨all, e, h1, h2, h3, h4⟩)) fun d hd => ?_
  obtain ⟨all, rfl, p1, p2, p3, p4⟩ := hd
  walk_at "nf"
  refine gs_asg (d := dT (wrT all)) (ex_call (ea_cons (ex_var rfl) ea_nil) (R__law_written_i (stepsOk_jn p1) (by omega))) ?_
  walk_at "nf"
  refine gs_ifJ [some (.i (.list (ns.map PyData.int))), some (.r 1), some (.i (.tuple (all.map dStp))), some (.i (dT (wrT all))), none, none, none, none, none] [.nums, .stt 0] (et_test (ex_b2 (ex_lenS rfl (ex_var rfl) (by omega)) ex_int)) ?_ (fun hb hk => ?a1) (fun hb hk => ?a2)
  case a1 =>
    have hb : ((wrT all).length : Int) > 100 := of_decide_eq_true hb
    refine gs_if (b := false) (EvT.is (et_not (et_B (ex_call (ea_cons (ex_var rfl) ea_nil) (R__law_is_refused_i (t := wrT all) (by omega) (parse_long (by omega)))))) rfl) (fun z => nomatch z) fun _ => g_nextU (g_nextU hk)
  case a2 =>
    have hb : ¬ ((wrT all).length : Int) > 100 := of_decide_eq_false hb
    refine gs_if (b := false) (EvT.is (et_not (et_B (ex_call (ea_cons (ex_var rfl) (ea_cons (ex_var rfl) ea_nil)) (R__law_is_kept_i (all := all) p1 (by omega) (fun s hs => by have := p3 s hs; omega) (parse_wr p1 p2 (by omega)))))) rfl) (fun z => nomatch z) fun _ => g_nextU (g_nextU hk)
  refine gs_forN (fun n => n = 3) (LP (.list (ns.map PyData.int)) (.tuple (all.map dStp)) (dT (wrT all))) (ewm (ew_range1 (n := 3) (ea_cons ex_int ea_nil) (by decide)) rfl) LP.mk (fun _ _ _ _ => True.intro) (fun fr up n i e o hn hi hI => ?b1) (fun n e o hn hI => ?b2)
  case b1 =>
    cases hI
    refine ⟨_, _, tg_name, ?_⟩
    walk_at "nf"
    refine gs_ifM (PB := fun b => b = false) (etm_not (etm_B (em_call1 (PA := R__law_spoiled [dT (wrT all)]) (P := fun e => ∃ b, e = .bool b ∧ (!b) = false) (em_call (R := R__law_spoiled) (ks := 1) (ki := 0) rfl rfl rfl (ea_cons (ex_var rfl) ea_nil) (R__law_spoiled_i (by omega))) fun d hd => ?c1))) (fun z => nomatch z) fun _ => g_nextU ?_
    case c1 =>
      obtain ⟨t, l, _, hs, e1, rfl⟩ := hd
      have e2 : wrT all = t := by
        injection e1 with e1 _
        injection e1 with e1
        exact sT_inj e1
      subst e2
      have hll : l.length ≤ 3000 := by
        cases hs with
        | ins k x hk hx => simp; omega
        | spc k hk h => simp; omega
        | post s h =>
          have : s.length ≤ 20 := by
            simp only [postL, List.mem_cons, List.not_mem_nil, or_false] at h
            rcases h with h | h | h | h | h | h | h | h | h | h <;> rw [h] <;> decide
          rw [List.length_append]; omega
        | pre s h =>
          have : s.length ≤ 20 := by
            simp only [preL, List.mem_cons, List.not_mem_nil, or_false] at h
            rcases h with h | h <;> rw [h] <;> decide
          rw [List.length_append]; omega
        | con s h =>
          have : l.length ≤ 20 := by
            simp only [conL, List.mem_cons, List.not_mem_nil, or_false] at h
            rcases h with h | h | h | h <;> rw [h] <;> decide
          omega
        | dup w h => have := h.2.1; simp; omega
        | long w h => have := h.2.1; simp [longL]; omega
      exact ⟨_, R__law_is_refused_i hll (spoiled_no p1 hs), true, rfl, rfl⟩
    refine gs_nxI (LP.mk (i := i + 1)) fun ad σ H ok => ⟨ad, ?_⟩
    exact ok.weak (by simp [WkE]) (by simp [WkO]) (by simp [EnLt, SvLt]) ⟨by simp [SoLt], by simp [SoLt, SvLt], True.intro⟩ (by simp)
  case b2 =>
  cases hI
  refine gs_ifM (PB := fun _ => True) (etm_test (em_op (draw (ks := 1) (ki := 0) (many := 4) rfl rfl rfl (ea_cons ex_int ea_nil) (by decide) (by decide)) fun v d hd => ?d1)) (fun _ => ?d2) (fun _ => g_nextU (gs_ret ex_bl hq))
  case d1 =>
    obtain ⟨i, rfl, hi⟩ := hd
    exact em_x (ex_eqI (ex_pin (List.mem_cons_self ..)) ex_int) ⟨_, rfl, True.intro⟩
  case d2 =>
  refine gs_asgM (em_call (R := R__law_word) (ks := 1) (ki := 0) rfl rfl rfl ea_nil R__law_word_i) fun d hd => ?_
  obtain ⟨w, hw, _, rfl⟩ := hd
  walk_at "nf"
  refine gs_asgF (o := .lst []) (ef_lst eas_nil (Nat.zero_le _)) ?_
  walk_at "nf"
  refine gs_forN (fun n => n = 6) (LM (.list (ns.map PyData.int)) (.tuple (all.map dStp)) (dT (wrT all)) (dT w)) (ewm (ew_range1 (n := 6) (ea_cons ex_int ea_nil) (by decide)) rfl) (LM.mk (i := 0)) (fun _ _ _ _ => True.intro) (fun fr up n i e o hn hi hI => ?e1) (fun n e o hn hI => ?e2)
  case e1 =>
    cases hI
    have hi6 : i < 6 := by omega
    refine ⟨_, _, tg_name, ?_⟩
    walk_at "nf"
    refine gs_app (k := 2) (er_var rfl (by simp)) rfl (s := .i (dT (mkN i))) (show EvX false _ _ _ _ _ from ex_catS rfl (ex_txt (l := mkA) (by decide +kernel)) (ex_ixS (a := [97, 98, 99, 100, 101, 102]) (x := 97 + i) (ex_txt (by decide +kernel)) (ex_var rfl) (by decide) (atI_nat ((by decide : ∀ i, i < 6 → ([97, 98, 99, 100, 101, 102] : List Nat)[i]? = some (97 + i)) i hi6))) (Nat.le_of_ble_eq_true rfl)) (by simp; omega) ?_
    have e : ((((List.range i).map mkN).map dT).map SV.i) ++ [SV.i (dT (mkN i))] = ((((List.range (i + 1)).map mkN).map dT).map SV.i) := by rw [List.range_succ]; simp
    rw [e]
    refine gs_nxI (LM.mk (i := i + 1)) fun ad σ H ok => ⟨ad, ?_⟩
    exact ok.weak (by simp [WkE]) (by simp [WkO]) (by simp [EnLt, SvLt]) ⟨by simp [SoLt], by simp [SoLt, SvLt], soLt_data, True.intro⟩ (by simp)
  case e2 =>
  subst hn
  cases hI
  refine gs_app (k := 2) (er_var rfl (by simp)) rfl (s := .i (dT x9)) (show EvX false _ _ _ _ _ from ex_txt (by decide +kernel)) (by simp) ?_
  have e7 : ((((List.range 6).map mkN).map dT).map SV.i) ++ [SV.i (dT x9)] = (ms7.map dT).map SV.i := by unfold ms7; simp
  rw [e7]
  refine gs_asg (d := dT (wrT [bigS])) (EvX.is (ex_catS rfl (ex_txt (l := x12 ++ [46]) (by decide +kernel)) (ex_joinS (a := [46]) (ls := ms7) rfl (ex_txt (by decide +kernel)) (EvR.it (er_var (k := 2) rfl (by simp)) rfl) (by decide)) (by decide)) (by rw [big_wr])) ?_
  walk_at "nf"
  refine gs_asg (d := .tuple ([bigS].map dStp)) (show EvX false _ _ _ _ _ from ex_tup (ea_cons (ex_tup (ea_cons (ex_txt (l := []) (by decide +kernel)) (ea_cons (ex_txt (l := x12) (by decide +kernel)) (ea_cons (ex_tupleOf rfl (EvR.it (er_var (k := 2) rfl (by simp)) rfl)) ea_nil))) (Nat.le_of_ble_eq_true rfl)) ea_nil) (Nat.le_of_ble_eq_true rfl)) ?_
  walk_at "nf"
  refine gs_if (b := false) (EvT.is (et_or (et_not (et_B (ex_call (ea_cons (ex_var rfl) (ea_cons (ex_var rfl) ea_nil)) (R__law_is_kept_i (all := [bigS]) big_ok (by rw [big_len]; decide) (by intro s hs; rw [List.mem_singleton.mp hs]; decide) (parse_wr big_ok (by decide) (by rw [big_len]; decide)))))) (fun _ => et_not (et_B (ex_call (ea_cons (ex_catS (a := wrT [bigS]) (b := [120]) rfl (ex_var rfl) (ex_txt (by decide +kernel)) (by rw [big_len]; decide)) ea_nil) (R__law_is_refused_i (t := wrT [bigS] ++ [120]) (by rw [List.length_append, big_len]; decide) (parse_long (by rw [List.length_append, big_len]; decide))))))) rfl) (fun z => nomatch z) fun _ => g_nextU ?_
  have hw12 := hw.2.1
  have hone : stepsOk [(([], w, []) : Stp)] := ⟨rfl, Or.inr ⟨Or.inl hw, fun m hm => absurd hm List.not_mem_nil, List.nodup_nil⟩, fun x hx => absurd hx List.not_mem_nil⟩
  have hkept := R__law_is_kept_i (all := [([], w, [])]) hone (by rw [one_wr]; omega) (by intro s hs; rw [List.mem_singleton.mp hs]; exact Nat.zero_le _) (parse_wr hone (Nat.le_of_ble_eq_true rfl) (by rw [one_wr]; omega))
  rw [one_wr] at hkept
  exact gs_ret (ex_call (ea_cons (ex_tup (ea_cons (ex_tup (ea_cons (ex_txt (l := []) (by decide +kernel)) (ea_cons (ex_var rfl) (ea_cons (ex_tup ea_nil (Nat.zero_le _)) ea_nil))) (Nat.le_of_ble_eq_true rfl)) ea_nil) (Nat.le_of_ble_eq_true rfl)) (ea_cons (ex_var rfl) ea_nil)) hkept) hq
-- END law
theorem facts {P : Program} (w : World) (mg : Str → Option Value) (K : PySem.W.Frag) (h : Heap) (KX : K.In h) (G : h.Ns mainGlobals mg) (c : He.SaysX fa fn ts [] ex w h K) : mg "law" = some (.ref (He.ga K "law")) ∧ ∃ fd, FnP K "law" s_law (He.ga K "law") fd ∧
    ∀ base : Heap, K.In base → base.Ns mainGlobals mg → FnOk P w K mg base CX0 5 (He.ga K "law") fd ["script"] (spD K RLaw) := by
  have cd := c.t.d
  have g_BadSelector : mg "BadSelector" = some (.ref (He.ga K "BadSelector")) := He.glo_ok KX G (cd.fact 28 (f := .glo "BadSelector") rfl)
  have g_BadValue : mg "BadValue" = some (.ref (He.ga K "BadValue")) := He.glo_ok KX G (cd.fact 29 (f := .glo "BadValue") rfl)
  have g_BadWord : mg "BadWord" = some (.ref (He.ga K "BadWord")) := He.glo_ok KX G (cd.fact 30 (f := .glo "BadWord") rfl)
  have g_PageError : mg "PageError" = some (.ref (He.ga K "PageError")) := He.glo_ok KX G (cd.fact 31 (f := .glo "PageError") rfl)
  have hexE := c.more
  unfold ex at hexE
  replace hexE := (Bool.and_eq_true_iff.mp hexE).1
  have e_BadSelector := DL.erB_ok (DL.all_id hexE (i := 0) rfl)
  have e_BadValue := DL.erB_ok (DL.all_id hexE (i := 1) rfl)
  have e_BadWord := DL.erB_ok (DL.all_id hexE (i := 2) rfl)
  have e_PageError := DL.erB_ok (DL.all_id hexE (i := 3) rfl)
  have i_BadSelector_BadValue := of_decide_eq_true (DL.all_id hexE (i := 4) rfl)
  have i_BadSelector_BadWord := of_decide_eq_true (DL.all_id hexE (i := 5) rfl)
  have i_BadSelector_PageError := of_decide_eq_true (DL.all_id hexE (i := 6) rfl)
  have i_BadSelector_ValueError := of_decide_eq_true (DL.all_id hexE (i := 7) rfl)
  have m_BadSelector_BadSelector := of_decide_eq_true (DL.all_id hexE (i := 8) rfl)
  have m_BadSelector_PageError := of_decide_eq_true (DL.all_id hexE (i := 9) rfl)
  have q_is_word : mg "is_word" = some (.ref (He.ga K "is_word")) := He.glo_ok KX G (cd.fact 0 (f := .glo "is_word") rfl)
  obtain ⟨d_is_word, e_is_word⟩ := cd.def_ 0 (d := dD "is_word" s_is_word) rfl
  have F_is_word : FnP K "is_word" s_is_word (He.ga K "is_word") d_is_word := e_is_word
  have q_parse_selector : mg "parse_selector" = some (.ref (He.ga K "parse_selector")) := He.glo_ok KX G (cd.fact 1 (f := .glo "parse_selector") rfl)
  obtain ⟨d_parse_selector, e_parse_selector⟩ := cd.def_ 1 (d := dD "parse_selector" s_parse_selector) rfl
  have F_parse_selector : FnP K "parse_selector" s_parse_selector (He.ga K "parse_selector") d_parse_selector := e_parse_selector
  have q_write_selector : mg "write_selector" = some (.ref (He.ga K "write_selector")) := He.glo_ok KX G (cd.fact 2 (f := .glo "write_selector") rfl)
  obtain ⟨d_write_selector, e_write_selector⟩ := cd.def_ 2 (d := dD "write_selector" s_write_selector) rfl
  have F_write_selector : FnP K "write_selector" s_write_selector (He.ga K "write_selector") d_write_selector := e_write_selector
  have q__parse_step : mg "_parse_step" = some (.ref (He.ga K "_parse_step")) := He.glo_ok KX G (cd.fact 3 (f := .glo "_parse_step") rfl)
  obtain ⟨d__parse_step, e__parse_step⟩ := cd.def_ 3 (d := dD "_parse_step" s__parse_step) rfl
  have F__parse_step : FnP K "_parse_step" s__parse_step (He.ga K "_parse_step") d__parse_step := e__parse_step
  have q__law_next : mg "_law_next" = some (.ref (He.ga K "_law_next")) := He.glo_ok KX G (cd.fact 4 (f := .glo "_law_next") rfl)
  obtain ⟨d__law_next, e__law_next⟩ := cd.def_ 4 (d := dD "_law_next" s__law_next) rfl
  have F__law_next : FnP K "_law_next" s__law_next (He.ga K "_law_next") d__law_next := e__law_next
  have q__law_word : mg "_law_word" = some (.ref (He.ga K "_law_word")) := He.glo_ok KX G (cd.fact 5 (f := .glo "_law_word") rfl)
  obtain ⟨d__law_word, e__law_word⟩ := cd.def_ 5 (d := dD "_law_word" s__law_word) rfl
  have F__law_word : FnP K "_law_word" s__law_word (He.ga K "_law_word") d__law_word := e__law_word
  have q__law_many_marks : mg "_law_many_marks" = some (.ref (He.ga K "_law_many_marks")) := He.glo_ok KX G (cd.fact 6 (f := .glo "_law_many_marks") rfl)
  obtain ⟨d__law_many_marks, e__law_many_marks⟩ := cd.def_ 6 (d := dD "_law_many_marks" s__law_many_marks) rfl
  have F__law_many_marks : FnP K "_law_many_marks" s__law_many_marks (He.ga K "_law_many_marks") d__law_many_marks := e__law_many_marks
  have q__law_steps : mg "_law_steps" = some (.ref (He.ga K "_law_steps")) := He.glo_ok KX G (cd.fact 7 (f := .glo "_law_steps") rfl)
  obtain ⟨d__law_steps, e__law_steps⟩ := cd.def_ 7 (d := dD "_law_steps" s__law_steps) rfl
  have F__law_steps : FnP K "_law_steps" s__law_steps (He.ga K "_law_steps") d__law_steps := e__law_steps
  have q__law_written : mg "_law_written" = some (.ref (He.ga K "_law_written")) := He.glo_ok KX G (cd.fact 8 (f := .glo "_law_written") rfl)
  obtain ⟨d__law_written, e__law_written⟩ := cd.def_ 8 (d := dD "_law_written" s__law_written) rfl
  have F__law_written : FnP K "_law_written" s__law_written (He.ga K "_law_written") d__law_written := e__law_written
  have q__law_spoiled : mg "_law_spoiled" = some (.ref (He.ga K "_law_spoiled")) := He.glo_ok KX G (cd.fact 9 (f := .glo "_law_spoiled") rfl)
  obtain ⟨d__law_spoiled, e__law_spoiled⟩ := cd.def_ 9 (d := dD "_law_spoiled" s__law_spoiled) rfl
  have F__law_spoiled : FnP K "_law_spoiled" s__law_spoiled (He.ga K "_law_spoiled") d__law_spoiled := e__law_spoiled
  have q__law_is_refused : mg "_law_is_refused" = some (.ref (He.ga K "_law_is_refused")) := He.glo_ok KX G (cd.fact 10 (f := .glo "_law_is_refused") rfl)
  obtain ⟨d__law_is_refused, e__law_is_refused⟩ := cd.def_ 10 (d := dD "_law_is_refused" s__law_is_refused) rfl
  have F__law_is_refused : FnP K "_law_is_refused" s__law_is_refused (He.ga K "_law_is_refused") d__law_is_refused := e__law_is_refused
  have q__law_is_kept : mg "_law_is_kept" = some (.ref (He.ga K "_law_is_kept")) := He.glo_ok KX G (cd.fact 11 (f := .glo "_law_is_kept") rfl)
  obtain ⟨d__law_is_kept, e__law_is_kept⟩ := cd.def_ 11 (d := dD "_law_is_kept" s__law_is_kept) rfl
  have F__law_is_kept : FnP K "_law_is_kept" s__law_is_kept (He.ga K "_law_is_kept") d__law_is_kept := e__law_is_kept
  have q_law : mg "law" = some (.ref (He.ga K "law")) := He.glo_ok KX G (cd.fact 12 (f := .glo "law") rfl)
  obtain ⟨d_law, e_law⟩ := cd.def_ 12 (d := dD "law" s_law) rfl
  have F_law : FnP K "law" s_law (He.ga K "law") d_law := e_law
  obtain ⟨d_PageError___init__, e_PageError___init__⟩ := cd.def_ 13 rfl
  have F_PageError___init__ : DL.FnM K "__init__" "PageError.__init__" s_PageError___init__ [] (He.ma K (He.ga K "PageError") "__init__") d_PageError___init__ := e_PageError___init__
  have z_ValueError : mg "ValueError" = none := He.free_ok KX G (cd.fact 14 (f := .free "ValueError") rfl)
  have z_all : mg "all" = none := He.free_ok KX G (cd.fact 15 (f := .free "all") rfl)
  have z_int : mg "int" = none := He.free_ok KX G (cd.fact 16 (f := .free "int") rfl)
  have z_isinstance : mg "isinstance" = none := He.free_ok KX G (cd.fact 17 (f := .free "isinstance") rfl)
  have z_len : mg "len" = none := He.free_ok KX G (cd.fact 18 (f := .free "len") rfl)
  have z_list : mg "list" = none := He.free_ok KX G (cd.fact 19 (f := .free "list") rfl)
  have z_range : mg "range" = none := He.free_ok KX G (cd.fact 20 (f := .free "range") rfl)
  have z_set : mg "set" = none := He.free_ok KX G (cd.fact 21 (f := .free "set") rfl)
  have z_str : mg "str" = none := He.free_ok KX G (cd.fact 22 (f := .free "str") rfl)
  have z_tuple : mg "tuple" = none := He.free_ok KX G (cd.fact 23 (f := .free "tuple") rfl)
  have hex : ex K = true := c.more
  unfold ex at hex
  replace hex := (Bool.and_eq_true_iff.mp hex).2
  try simp only [Bool.and_eq_true] at hex
  have c_LONGEST_WORD : ∃ t, mg "LONGEST_WORD" = some (.int 12 t) := He.int_ok KX G (cd.fact 24 (f := .int "LONGEST_WORD" 12) rfl)
  have c_MOST_CHARACTERS : ∃ t, mg "MOST_CHARACTERS" = some (.int 100 t) := He.int_ok KX G (cd.fact 25 (f := .int "MOST_CHARACTERS" 100) rfl)
  have c_MOST_STEPS : ∃ t, mg "MOST_STEPS" = some (.int 4 t) := He.int_ok KX G (cd.fact 26 (f := .int "MOST_STEPS" 4) rfl)
  have c_BEFORE : mg "BEFORE" = some (.ref (He.ga K "BEFORE")) := He.glo_ok KX G (cd.fact 27 (f := .glo "BEFORE") rfl)
  have k_BEFORE : DL.KdOk K w (He.ga K "BEFORE") kd_BEFORE := DL.kdOk_of hex (DL.tab_keys c.t 0 rfl)
  refine ⟨q_law, d_law, F_law, fun base hb hg => ?_⟩
  have h_init := ok_PageError___init__ (P := P) (w := w) (mg := mg) (base := base) F_PageError___init__ z_ValueError z_str (DL.all_id hexE (i := 10) rfl)
  have b_init : Binds K d_PageError___init__ ["self", "value"] [] := F_PageError___init__.bindsN (fun _ _ _ _ _ _ us hl => match us, hl with | [_, _], _ => rfl)
  have h_is_word := ok_is_word (P := P) (w := w) (mg := mg) (base := base) F_is_word q_is_word z_isinstance z_str z_len z_all c_LONGEST_WORD
  have h__parse_step := ok__parse_step (P := P) (w := w) (mg := mg) (base := base) F__parse_step q__parse_step h_is_word z_all z_len z_set z_tuple
  have h_parse_selector := ok_parse_selector (P := P) (w := w) (mg := mg) (base := base) F_parse_selector q_parse_selector g_BadSelector e_BadSelector h_init b_init h__parse_step z_isinstance z_str z_len z_tuple c_MOST_CHARACTERS c_MOST_STEPS
  have h_write_selector := ok_write_selector (P := P) (w := w) (mg := mg) (base := base) F_write_selector q_write_selector c_BEFORE k_BEFORE
  have h__law_next := ok__law_next (P := P) (w := w) (mg := mg) (base := base) F__law_next q__law_next z_len z_int
  have h__law_word := ok__law_word (P := P) (w := w) (mg := mg) (base := base) F__law_word q__law_word h__law_next z_range
  have h__law_many_marks := ok__law_many_marks (P := P) (w := w) (mg := mg) (base := base) F__law_many_marks q__law_many_marks h__law_word h__law_next z_range z_tuple
  have h__law_steps := ok__law_steps (P := P) (w := w) (mg := mg) (base := base) F__law_steps q__law_steps h__law_next h__law_word h__law_many_marks z_range z_tuple
  have h__law_written := ok__law_written (P := P) (w := w) (mg := mg) (base := base) F__law_written q__law_written
  have h__law_spoiled := ok__law_spoiled (P := P) (w := w) (mg := mg) (base := base) F__law_spoiled q__law_spoiled h__law_next h__law_word z_len z_range
  have h__law_is_refused := ok__law_is_refused (P := P) (w := w) (mg := mg) (base := base) F__law_is_refused q__law_is_refused g_BadSelector e_BadSelector g_BadValue e_BadValue g_BadWord e_BadWord g_PageError e_PageError m_BadSelector_BadSelector m_BadSelector_PageError i_BadSelector_BadValue i_BadSelector_BadWord i_BadSelector_PageError i_BadSelector_ValueError h_parse_selector z_isinstance z_ValueError
  have h__law_is_kept := ok__law_is_kept (P := P) (w := w) (mg := mg) (base := base) F__law_is_kept q__law_is_kept g_BadSelector e_BadSelector h_parse_selector h_write_selector z_isinstance z_tuple z_str
  have h_law := ok_law (P := P) (w := w) (mg := mg) (base := base) F_law h__law_steps h__law_written h__law_is_refused h__law_is_kept h__law_spoiled h__law_next h__law_word z_list z_len z_range z_tuple
  exact h_law
end Q
open PySem PySem.W PySem.Calls PyProof.Rows
set_option maxHeartbeats 0 in
theorem PySem.Challenge.cw_quirekiln_k31_selector_round_trip_holds : PySem.Challenge.rw_quirekiln_k31_selector_round_trip.Holds := by
  w_on; o_law
  refine HandSHeadRun.head_any (r := OpenLaw.row PySem.Challenge.rw_quirekiln_k31_selector_round_trip) (q := view (OpenLaw.row PySem.Challenge.rw_quirekiln_k31_selector_round_trip).prog [24]) (H := QH.hk) (ob := QH.ob) (M := 3120) (loose := ["PageError", "BadWord", "BadValue", "BadSelector", "LONGEST_WORD", "is_word", "MOST_CHARACTERS", "MOST_STEPS", "BEFORE", "parse_selector", "write_selector", "_parse_step", "_law_next", "_law_word", "_law_many_marks", "_law_steps", "_law_written", "_law_spoiled", "_law_is_refused", "_law_is_kept"]) (d := HandSHeadRun.topDef (OpenLaw.row PySem.Challenge.rw_quirekiln_k31_selector_round_trip).prog 24) (kwd := []) QH.ob_eq
    (by kernel_rfl) (fun s => by kernel_rfl) QH.run (by kernel_rfl) (by kernel_rfl) (by kernel_rfl) (by rfl) (by first | assumption | decide +kernel) (by decide +kernel) ⟨rfl, rfl, rfl, rfl, rfl, by decide +kernel⟩ ?hw ?hc
  case hw => w_witness2
  case hc =>
    exact DL.walk_end (l := PySem.Challenge.rw_quirekiln_k31_selector_round_trip) (k := 5) (st := QH.s_law) rfl (by kernel_rfl) ⟨rfl, by decide, by decide⟩ (by kernel_rfl) (fun _ _ _ _ _ _ us hl => match us, hl with | [_], _ => rfl) (fun w mg K h KX G c => Q.facts w mg K h KX G c)
